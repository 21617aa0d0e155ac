import PyProof.Rows.All
import Wide.All
import OpenK.AllK
import Wide.FinOn
import Lean
import PyProof.EqAt
import PyProof.EqKinds
import PyProof.TupleCall
import PySem.Challenge.RW_loopwright_k28_whole_the_same_just_where
set_option Elab.async false
set_option linter.all false
set_option maxRecDepth 100000
namespace L2
open PySem PySem.Spec PyProof.Rows
noncomputable abbrev Key := Sum Int Str
noncomputable def keyIs : Key → Value → Bool
 | .inl k, v => Value.isInt k v
 | .inr x, v => Value.isStrOf x v
noncomputable def keyH (w : World) : Key → Int
 | .inl k => hashInt k
 | .inr x => hashStr w x
theorem keyIs_shape : ∀ {k : Key} {v : Value}, keyIs k v = true → (∃ i t, k = Sum.inl i ∧ v = Value.int i t) ∨ (∃ x t, k = Sum.inr x ∧ v = Value.str x t)
 | .inl i, v, h => by
   obtain ⟨t, e⟩ := Value.isInt_shape (k := i) (v := v) h
   exact .inl ⟨i, t, rfl, e⟩
 | .inr x, v, h => by
   obtain ⟨t, e⟩ := Value.isStrOf_shape (x := x) (v := v) h
   exact .inr ⟨x, t, rfl, e⟩
theorem keyIs_int (i : Int) (t : Tok) : keyIs (.inl i) (.int i t) = true := by simp [keyIs, Value.isInt]
theorem keyIs_str (x : Str) (t : Tok) : keyIs (.inr x) (.str x t) = true := by simp [keyIs, Value.isStrOf]
theorem key_ll (a b : Int) : decide ((Sum.inl a : Key) = Sum.inl b) = (a == b) := by
 by_cases e : a = b
 · subst e; simp
 · have h : ¬ (Sum.inl a : Key) = Sum.inl b := fun q => e (Sum.inl.inj q)
   rw [decide_eq_false h]
   exact (beq_eq_false_iff_ne.mpr e).symm
theorem key_rr (a b : Str) : decide ((Sum.inr a : Key) = Sum.inr b) = decide (a = b) := by
 by_cases e : a = b
 · subst e; simp
 · have h : ¬ (Sum.inr a : Key) = Sum.inr b := fun q => e (Sum.inr.inj q)
   rw [decide_eq_false h, decide_eq_false e]
theorem key_lr (a : Int) (b : Str) : decide ((Sum.inl a : Key) = Sum.inr b) = false := decide_eq_false (fun q => nomatch q)
theorem key_rl (a : Str) (b : Int) : decide ((Sum.inr a : Key) = Sum.inl b) = false := decide_eq_false (fun q => nomatch q)
noncomputable def mixKind (prog : Program) (w : World) : PySem.KeyKind prog w Key where
 is := keyIs
 hash := keyH w
 inj := fun v a b ha hb => by
   rcases keyIs_shape ha with ⟨i, t, rfl, rfl⟩ | ⟨x, t, rfl, rfl⟩
   · rcases keyIs_shape hb with ⟨j, u, rfl, e⟩ | ⟨y, u, rfl, e⟩
     · injection e with e1 _; rw [e1]
     · exact nomatch e
   · rcases keyIs_shape hb with ⟨j, u, rfl, e⟩ | ⟨y, u, rfl, e⟩
     · exact nomatch e
     · injection e with e1 _; rw [e1]
 byValue := fun k v h => by
   rcases keyIs_shape h with ⟨i, t, rfl, rfl⟩ | ⟨x, t, rfl, rfl⟩ <;> rfl
 pyHash := fun hv h => by
   rcases keyIs_shape hv with ⟨i, t, rfl, rfl⟩ | ⟨x, t, rfl, rfl⟩
   · exact wpAny_pyHash_int h
   · exact wpAny_pyHash_str h
 eqBool := fun hu hv h => by
   rcases keyIs_shape hu with ⟨i, t, rfl, rfl⟩ | ⟨x, t, rfl, rfl⟩
   · rcases keyIs_shape hv with ⟨j, u, rfl, rfl⟩ | ⟨y, u, rfl, rfl⟩
     · rw [key_ll] at h; exact wpAny_eqBool_int h
     · rw [key_lr] at h; exact SeqAt.EqAt.int_str i t y u _ _ _ _ h
   · rcases keyIs_shape hv with ⟨j, u, rfl, rfl⟩ | ⟨y, u, rfl, rfl⟩
     · rw [key_rl] at h; exact SeqAt.EqAt.str_int x t j u _ _ _ _ h
     · rw [key_rr] at h; exact wpAny_eqBool_str h
 «strs» := fun k x t v h => by
   rcases keyIs_shape h with ⟨i, u, rfl, e⟩ | ⟨y, u, rfl, e⟩
   · exact nomatch e
   · injection e with e1 _
     subst e1
     cases v <;> rfl
theorem mixKind_int (prog : Program) (w : World) (i : Int) (t : Tok) : (mixKind prog w).is (.inl i) (.int i t) = true := keyIs_int i t
theorem mixKind_str (prog : Program) (w : World) (x : Str) (t : Tok) : (mixKind prog w).is (.inr x) (.str x t) = true := keyIs_str x t
end L2
namespace L2
open PySem PySem.Spec PyProof.Rows
inductive V where
 | non | bl (b : Bool) | int (i : Int) | str (x : Str) | byt (b : Array UInt8) | flt (b : UInt64) | ref (a : Addr) | ty (n : String)
 deriving DecidableEq
noncomputable def RelV : V → Value → Prop
 | .non, u => u = Value.none
 | .bl b, u => u = Value.bool b
 | .int i, u => ∃ t, u = Value.int i t
 | .str x, u => ∃ t, u = Value.str x t
 | .byt b, u => ∃ t, u = Value.bytes b t
 | .flt b, u => ∃ t, u = Value.float b t
 | .ref a, u => u = Value.ref a
 | .ty n, u => u = Value.type n
noncomputable abbrev Vals : List V → List Value → Prop := Paired RelV
theorem Vals.length {xs : List V} {us : List Value} (r : Vals xs us) : xs.length = us.length := Paired.length r
theorem Vals.get : ∀ {xs : List V} {us : List Value} {i : Nat} {x : V}, Vals xs us → xs[i]? = some x → ∃ u, us[i]? = some u ∧ RelV x u
 | _, _, _, _, .nil, e => by simp at e
 | _, _, 0, _, .cons r _, e => by simp at e; subst e; exact ⟨_, rfl, r⟩
 | _, _, i + 1, x, .cons _ t, e => by
   obtain ⟨u, h1, h2⟩ := Vals.get (i := i) (x := x) t (by simpa using e)
   exact ⟨u, by simpa using h1, h2⟩
theorem Vals.set {x : V} {u : Value} (r : RelV x u) : ∀ {xs : List V} {us : List Value} (i : Nat), Vals xs us → Vals (xs.set i x) (us.set i u)
 | _, _, _, .nil => .nil
 | _, _, 0, .cons _ t => .cons r t
 | _, _, i + 1, .cons q t => .cons q (Vals.set r i t)
theorem Vals.append : ∀ {xs ys : List V} {us ws : List Value}, Vals xs us → Vals ys ws → Vals (xs ++ ys) (us ++ ws)
 | _, _, _, _, .nil, s => s
 | _, _, _, _, .cons r t, s => .cons r (Vals.append t s)
theorem Vals.take : ∀ {xs : List V} {us : List Value} (n : Nat), Vals xs us → Vals (xs.take n) (us.take n)
 | _, _, 0, _ => .nil
 | _, _, _ + 1, .nil => .nil
 | _, _, n + 1, .cons r t => .cons r (Vals.take n t)
theorem Vals.drop : ∀ {xs : List V} {us : List Value} (n : Nat), Vals xs us → Vals (xs.drop n) (us.drop n)
 | _, _, 0, r => r
 | _, _, _ + 1, .nil => .nil
 | _, _, n + 1, .cons _ t => Vals.drop n t
noncomputable def RelO : Option V → Option Value → Prop
 | some v, some u => RelV v u
 | none, none => True
 | _, _ => False
noncomputable def KV {κ : Type} : List (κ × V) → List (κ × Value) → Prop := Paired fun (p : κ × V) (q : κ × Value) => p.1 = q.1 ∧ RelV p.2 q.2
noncomputable def kV : Key → V
 | .inl i => .int i
 | .inr x => .str x
inductive HO where
 /-- a list -/
 | lst (xs : List V)
 /-- a tuple (never changes) -/
 | tup (xs : List V)
 /-- a dict whose keys are ints and texts; one whose keys are tuples of ints and texts (the empty one is both) -/
 | dK (kvs : List (Key × V)) | dT (kvs : List (List Key × V))
 /-- a set of ints: its members, its size -/
 | set (S : Int → Bool) (n : Nat)
 /-- an instance of the class at C, its dict at dx, its attributes -/
 | ins (C dx : Addr) (fs : List (Str × V))
 /-- the dict of the instance at x -/
 | own (x : Addr)
 /-- the dict of an exception -/
 | xd (fs : List (Str × V))
 /-- a bound method, f of x -/
 | met (f x : Addr)
 /-- a range object lo, lo + 1, .. below hi -/
 | rng (lo hi : Int)
 /-- a thing that is known to the object (the script; a dict while a loop walks it): read, never written while it is so -/
 | frz (o : Obj) (u : HO)
 /-- a code object's table -/
 | tbl (ps : Array Value)
 /-- any other thing, by what is true of its one object (a def of one's own: SetO a S n := HO.ext fun h => ..) -/
 | ext (φ : Heap → Prop)
noncomputable abbrev Hp := Addr → Option HO
noncomputable def IsTup0 (h : Heap) (a : Addr) (items : Array Value) : Prop := ∃ o, h.get? a = some o ∧ o.cls = .type "tuple" ∧ o.dict = none ∧ ∃ n, o.data = .seq items n
theorem IsTup0.t {h : Heap} {a : Addr} {items : Array Value} (x : IsTup0 h a items) : IsTup h a items := let ⟨o, e, c, _, n, d⟩ := x; ⟨o, e, c, n, d⟩
theorem IsTup0.lt {h : Heap} {a : Addr} {items : Array Value} (x : IsTup0 h a items) : a < h.objs.size := x.t.lt
theorem IsTup0.new (h : Heap) (items : Array Value) : IsTup0 (h.push { cls := .type "tuple", data := .seq items }) h.objs.size items := ⟨_, Heap.get?_push_size _ rfl, rfl, rfl, 0, rfl⟩
noncomputable def upd (H : Hp) (a : Addr) (o : HO) : Hp := fun b => if b = a then some o else H b
theorem upd_same {H : Hp} {a : Addr} {o : HO} : upd H a o a = some o := by unfold upd; rw [if_pos rfl]
theorem upd_ne {H : Hp} {a b : Addr} {o : HO} (h : b ≠ a) : upd H a o b = H b := by unfold upd; rw [if_neg h]
theorem ne_of_none {H : Hp} {a b : Addr} {o : HO} (h : H a = some o) (h' : H b = none) : a ≠ b := by
 intro e; subst e; rw [h] at h'; cases h'
section
variable (P : Program) (w : World)
noncomputable def ObjOk (H : Hp) (h : Heap) (a : Addr) : HO → Prop
 | .lst xs => xs.length ≤ sizeLine ∧ ∃ (its : List Value) (n : Nat), Vals xs its ∧ h.get? a = some { cls := .type "list", data := .seq its.toArray n }
 | .tup xs => xs.length ≤ sizeLine ∧ ∃ its : List Value, Vals xs its ∧ IsTup0 h a its.toArray
 | .dK kvs => kvs.length ≤ sizeLine ∧ (a == sysModules) = false ∧ ∃ vs, KV kvs vs ∧ h.DictOf (mixKind P w) a vs
 | .dT kvs => kvs.length ≤ sizeLine ∧ (a == sysModules) = false ∧ ∃ xs : List (List Key × Addr × Value),
     Paired (fun (p : List Key × V) (q : List Key × Addr × Value) => p.1 = q.1 ∧ H q.2.1 = some (.tup (p.1.map kV)) ∧ RelV p.2 q.2.2) kvs xs ∧
     ∃ o es ep, h.get? a = some o ∧ o.ExactDict ∧ o.data = .dict es ep ∧ es.toList = xs.map (entryOfKey (tupleKind (mixKind P w))) ∧ (xs.map (·.1)).Nodup
 | .set S n => h.SetOf (intKind P w) a S n
 | .ins C dx fs => H dx = some (.own a) ∧ fs.length ≤ 1000 ∧ dx ≠ a ∧ h.get? a = some (PySem.W.instObj C dx) ∧
     ∃ mA, h.Ns1 dx mA ∧ (∀ f, RelO (fs.lookup f) (mA f)) ∧ PySem.Within mA (fs.map (·.1))
 | .own _ => ∃ o, h.get? a = some o
 | .xd fs => ∃ mA, h.Ns1 a mA ∧ ∀ f, RelO (fs.lookup f) (mA f)
 | .rng lo hi => ∃ t u v, h.get? a = some { cls := .type "range", data := .fields #[.int lo t, .int hi u, .int 1 v] }
 | .frz o u => h.get? a = some o ∧ ObjOk H h a u
 | .tbl ps => h.get? a = some { cls := .none, data := .fields ps }
 | .met f x => h.get? a = some (PySem.W.methodObj (.ref f) (.ref x))
 | .ext φ => φ h ∧ (∃ o, h.get? a = some o) ∧ ∀ h1 h2 : Heap, φ h1 → (∀ o, h1.get? a = some o → h2.get? a = some o) → φ h2
noncomputable def HOk (H : Hp) (h : Heap) : Prop := ∀ a o, H a = some o → ObjOk P w H h a o
end
section
variable {P : Program} {w : World} {H H' : Hp} {h h' : Heap} {a : Addr} {o : HO}
theorem ObjOk.lt (x : ObjOk P w H h a o) : a < h.objs.size := by
 cases o with
 | lst xs => obtain ⟨_, _, _, _, e⟩ := x; exact Heap.lt_size e
 | tup xs => obtain ⟨_, _, _, p⟩ := x; exact p.lt
 | dK kvs => obtain ⟨_, _, _, _, o, _, _, e, _⟩ := x; exact Heap.lt_size e
 | dT kvs => obtain ⟨_, _, _, _, o, _, _, e, _⟩ := x; exact Heap.lt_size e
 | set S n => obtain ⟨o, _, _, _, e, _⟩ := x; exact Heap.lt_size e
 | ins C dx fs => obtain ⟨_, _, _, e, _⟩ := x; exact Heap.lt_size e
 | own y => obtain ⟨_, e⟩ := x; exact Heap.lt_size e
 | xd fs => obtain ⟨_, ⟨_, _, _, e, _⟩, _⟩ := x; exact Heap.lt_size e
 | rng lo hi => obtain ⟨_, _, _, e⟩ := x; exact Heap.lt_size e
 | frz ob u => obtain ⟨e, _⟩ := x; exact Heap.lt_size e
 | tbl ps => exact Heap.lt_size (show h.get? a = some _ from x)
 | met f y => exact Heap.lt_size (show h.get? a = some _ from x)
 | ext φ => obtain ⟨_, ⟨_, e⟩, _⟩ := x; exact Heap.lt_size e
theorem Paired.mapP {α β : Type} {F G : α → β → Prop} : ∀ {l₁ : List α} {l₂ : List β}, Paired F l₁ l₂ → (∀ a b, F a b → G a b) → Paired G l₁ l₂
 | _, _, .nil, _ => .nil
 | _, _, .cons r t, f => .cons (f _ _ r) (Paired.mapP t f)
theorem ObjOk.stay (x : ObjOk P w H h a o) (k : ∀ b u, (b = a ∨ H b = some (.own a)) → h.get? b = some u → h'.get? b = some u)
   (ho : ∀ b, H b = some (.own a) → H' b = some (.own a)) (ht : ∀ b xs, H b = some (.tup xs) → H' b = some (.tup xs)) : ObjOk P w H' h' a o := by
 induction o with
 | lst xs => obtain ⟨z, its, n, r, e⟩ := x; exact ⟨z, its, n, r, k _ _ (.inl rfl) e⟩
 | tup xs => obtain ⟨z, its, r, ob, e, c⟩ := x; exact ⟨z, its, r, ob, k _ _ (.inl rfl) e, c⟩
 | dK kvs => obtain ⟨z, y, vs, r, ob, es, ep, e, c⟩ := x; exact ⟨z, y, vs, r, ob, es, ep, k _ _ (.inl rfl) e, c⟩
 | dT kvs =>
   obtain ⟨z, y, xs, r, ob, es, ep, e, c⟩ := x
   exact ⟨z, y, xs, Paired.mapP r fun p q z => ⟨z.1, ht _ _ z.2.1, z.2.2⟩, ob, es, ep, k _ _ (.inl rfl) e, c⟩
 | set S n => obtain ⟨ob, es, ep, t, e, c⟩ := x; exact ⟨ob, es, ep, t, k _ _ (.inl rfl) e, c⟩
 | ins C dx fs =>
   obtain ⟨d, z, ne, e, mA, ⟨od, es, ep, e2, c⟩, r⟩ := x
   exact ⟨ho _ d, z, ne, k _ _ (.inl rfl) e, mA, ⟨od, es, ep, k _ _ (.inr d) e2, c⟩, r⟩
 | own y => obtain ⟨ob, e⟩ := x; exact ⟨ob, k _ _ (.inl rfl) e⟩
 | xd fs => obtain ⟨mA, ⟨od, es, ep, e, c⟩, r⟩ := x; exact ⟨mA, ⟨od, es, ep, k _ _ (.inl rfl) e, c⟩, r⟩
 | rng lo hi => obtain ⟨t, u, v, e⟩ := x; exact ⟨t, u, v, k _ _ (.inl rfl) e⟩
 | frz ob u ih => obtain ⟨e, q⟩ := x; exact ⟨k _ _ (.inl rfl) e, ih q⟩
 | tbl ps =>
   have e : h.get? a = some { cls := .none, data := .fields ps } := x
   show h'.get? a = some { cls := .none, data := .fields ps }
   exact k a _ (.inl rfl) e
 | met f y =>
   have e : h.get? a = some (PySem.W.methodObj (.ref f) (.ref y)) := x
   show h'.get? a = some (PySem.W.methodObj (.ref f) (.ref y))
   exact k a _ (.inl rfl) e
 | ext φ => obtain ⟨p, ⟨o, e⟩, st⟩ := x; exact ⟨st _ _ p fun o q => k _ _ (.inl rfl) q, ⟨o, k _ _ (.inl rfl) e⟩, st⟩
theorem HOk.lt (x : HOk P w H h) (e : H a = some o) : a < h.objs.size := (x a o e).lt
theorem HOk.fresh (x : HOk P w H h) (e : h.objs.size ≤ a) : H a = none := by
 cases q : H a with
 | none => rfl
 | some u => exact absurd (Nat.lt_of_lt_of_le (x.lt q) e) (Nat.lt_irrefl _)
theorem HOk.kept (x : HOk P w H h) (k : ∀ b u, h.get? b = some u → h'.get? b = some u) : HOk P w H h' := fun a o e =>
 (x a o e).stay (fun b u _ q => k b u q) (fun _ q => q) fun _ _ q => q
theorem HOk.laid (x : HOk P w H h) (k : ∀ b u, h.get? b = some u → h'.get? b = some u) (hp : h.objs.size ≤ a) (new : ObjOk P w (upd H a o) h' a o) : HOk P w (upd H a o) h' := fun b u e => by
 have hn := x.fresh hp
 by_cases hb : b = a
 · subst hb; rw [upd_same] at e; cases e; exact new
 · rw [upd_ne hb] at e
   exact (x b u e).stay (fun c v _ q => k c v q) (fun c q => by rw [upd_ne (ne_of_none q hn)]; exact q) fun c xs q => by rw [upd_ne (ne_of_none q hn)]; exact q
end
noncomputable def Rd (H : Hp) (a : Addr) (u : HO) : Prop := H a = some u ∨ ∃ o, H a = some (.frz o u)
theorem Rd.of {H : Hp} {a : Addr} {u : HO} (h : H a = some u) : Rd H a u := .inl h
theorem Rd.ok {P : Program} {w : World} {H : Hp} {h : Heap} {a : Addr} {u : HO} (r : Rd H a u) (x : HOk P w H h) : ObjOk P w H h a u := by
 rcases r with r | ⟨o, r⟩
 · exact x a u r
 · obtain ⟨_, q⟩ := x a _ r
   exact q
noncomputable def Mut : Option HO → Prop
 | some (.lst _) => True
 | some (.dK _) => True
 | some (.dT _) => True
 | some (.set _ _) => True
 | some (.ins _ _ _) => True
 | some (.ext _) => True
 | _ => False
section
variable {P : Program} {w : World} {H : Hp} {h h' : Heap} {x e : Addr} {o' : HO}
theorem HOk.write (ok : HOk P w H h) (mu : Mut (H x)) (he : e = x ∨ H e = some (.own x)) (k : ∀ b u, b ≠ e → h.get? b = some u → h'.get? b = some u) (heo : ∃ u, h'.get? e = some u)
   (new : ObjOk P w (upd H x o') h' x o') : HOk P w (upd H x o') h' := fun b u q => by
 have nown : ∀ c y, H c = some (.own y) → c ≠ x := fun c y r z => by subst z; rw [r] at mu; exact mu
 have ntup : ∀ c xs, H c = some (.tup xs) → c ≠ x := fun c xs r z => by subst z; rw [r] at mu; exact mu
 by_cases hb : b = x
 · subst hb; rw [upd_same] at q; cases q; exact new
 · rw [upd_ne hb] at q
   by_cases hbe : b = e
   · have q' : H b = some (.own x) := by
       rcases he with z | z
       · exact absurd (hbe.trans z) hb
       · rw [hbe]; exact z
     rw [q] at q'; cases q'
     obtain ⟨v, hv⟩ := heo
     exact ⟨v, by rw [hbe]; exact hv⟩
   · refine (ok b u q).stay (fun c v hc r => k c v ?_ r) (fun c r => by rw [upd_ne (nown c b r)]; exact r) fun c xs r => by rw [upd_ne (ntup c xs r)]; exact r
     rcases hc with rfl | hc
     · exact hbe
     · rintro rfl
       rcases he with z | z
       · exact nown c b hc z
       · rw [hc] at z; cases z; exact hb rfl
end
structure Un (fs ex : List Addr) (H H' : Hp) (h h' : Heap) : Prop where
 keep : ∀ b o, h.get? b = some o → H b = none → b ∉ fs → b ∉ ex → h'.get? b = some o
 slot : ∀ b o, h.get? b = some o → H b = none → b ∈ fs → b ∉ ex → ∃ sl, h'.get? b = some { o with slots := sl }
 free : ∀ b o, h.get? b = some o → H b = none → b ∉ ex → H' b = none
 there : ∀ b o, h.get? b = some o → b ∉ ex → ∃ o', h'.get? b = some o'
 tups : ∀ b xs, H b = some (.tup xs) → H' b = some (.tup xs)
 frzs : ∀ b o u, H b = some (.frz o u) → H' b = some (.frz o u)
 tbls : ∀ b ps, H b = some (.tbl ps) → ∃ more, H' b = some (.tbl (ps ++ more))
section
variable {fs fs' ex ex' : List Addr} {H H1 H2 : Hp} {h h1 h2 h' : Heap} {a x e : Addr} {o : HO}
theorem Un.any (u : Un fs ex H H1 h h1) {b : Addr} {ob : Obj} (q : h.get? b = some ob) (n : H b = none) (hx : b ∉ ex) : ∃ sl, h1.get? b = some { ob with slots := sl } := by
 by_cases hb : b ∈ fs
 · exact u.slot b ob q n hb hx
 · exact ⟨ob.slots, u.keep b ob q n hb hx⟩
theorem Un.kept (k : ∀ b u, h.get? b = some u → h'.get? b = some u) : Un fs ex H H h h' :=
 ⟨fun b ob q _ _ _ => k b ob q, fun b ob q _ _ _ => ⟨ob.slots, k b ob q⟩, fun _ _ _ n _ => n, fun b ob q _ => ⟨ob, k b ob q⟩, fun _ _ q => q, fun _ _ _ q => q, fun _ ps q => ⟨#[], by rw [q]; simp⟩⟩
theorem Un.refl : Un fs ex H H h h := Un.kept fun _ _ q => q
theorem Un.laid (k : ∀ b u, h.get? b = some u → h'.get? b = some u) (hp : h.objs.size ≤ a) (hn : H a = none) : Un fs ex H (upd H a o) h h' where
 keep := fun b u q _ _ _ => k b u q
 slot := fun b u q _ _ _ => ⟨u.slots, k b u q⟩
 free := fun b u q n _ => by rw [upd_ne (Nat.ne_of_lt (Nat.lt_of_lt_of_le (Heap.lt_size q) hp))]; exact n
 there := fun b u q _ => ⟨u, k b u q⟩
 tups := fun b xs q => by rw [upd_ne (ne_of_none q hn)]; exact q
 frzs := fun b u xs q => by rw [upd_ne (ne_of_none q hn)]; exact q
 tbls := fun b ps q => ⟨#[], by rw [upd_ne (ne_of_none q hn), q]; simp⟩
theorem Un.write (mu : Mut (H x)) (he : e = x ∨ H e = some (.own x)) (k : ∀ b u, b ≠ e → h.get? b = some u → h'.get? b = some u) (heo : ∃ u, h'.get? e = some u) : Un fs ex H (upd H x o) h h' := by
 have hx : ∀ b, H b = none → b ≠ x := fun b n z => by subst z; rw [n] at mu; exact mu
 have hb : ∀ b, H b = none → b ≠ e := fun b n z => by
   subst z
   rcases he with r | r
   · exact hx b n r
   · rw [n] at r; cases r
 have hm : ∀ b u, H b = some u → ¬ Mut (some u) → b ≠ x := fun b u q nm z => by subst z; rw [q] at mu; exact nm mu
 refine ⟨fun b u q n _ _ => k b u (hb b n) q, fun b u q n _ _ => ⟨u.slots, k b u (hb b n) q⟩, fun b u q n _ => by rw [upd_ne (hx b n)]; exact n, fun b u q _ => ?_,
   fun b xs q => by rw [upd_ne (hm b _ q fun z => z)]; exact q, fun b u xs q => by rw [upd_ne (hm b _ q fun z => z)]; exact q, fun b ps q => ⟨#[], by rw [upd_ne (hm b _ q fun z => z), q]; simp⟩⟩
 by_cases hbe : b = e
 · subst hbe; exact heo
 · exact ⟨u, k b u hbe q⟩
end
noncomputable def trk (h : Heap) (H : Hp) : List Addr := (List.range h.objs.size).filter fun a => (H a).isSome
noncomputable def hidT (h : Heap) (H : Hp) : Heap := PySem.W.hideAll h (trk h H)
theorem hidT_size (h : Heap) (H : Hp) : (hidT h H).objs.size = h.objs.size := PySem.W.hideAll_size _ _
theorem hidT_get {h : Heap} {H : Hp} {b : Addr} {o : Obj} (e : h.get? b = some o) (n : H b = none) : (hidT h H).get? b = some o :=
 PySem.W.hideAll_get _ e fun hm => by
   have q : (H b).isSome = true := (List.mem_filter.mp hm).2
   rw [n] at q; simp at q
theorem of_hidT {h : Heap} {H : Hp} {b : Addr} {o : Obj} (e : (hidT h H).get? b = some o) : h.get? b = some o ∧ H b = none := by
 have e' : h.get? b = some o := PySem.W.of_hideAll (trk h H) e
 refine ⟨e', ?_⟩
 cases q : H b with
 | none => rfl
 | some x =>
   have hm : b ∈ trk h H := List.mem_filter.mpr ⟨List.mem_range.mpr (Heap.lt_size e'), by simp [q]⟩
   have z : (hidT h H).get? b = none := PySem.W.hideAll_none (trk h H) hm
   rw [z] at e; cases e
end L2
namespace L2
open PySem PySem.Spec PyProof.Rows
structure Mod (K : PySem.W.Frag) (mg : Str → Option Value) (base : Heap) : Prop where
 kin : K.In base
 glob : base.Ns mainGlobals mg
 blt : ∃ mb, base.Ns builtinsNs mb ∧ ∀ x : Str, x ≠ "__name__" → mb x = bootBuiltins x
 nolimit : base.NoLimit
structure Cx where
 prog : Program
 w : World
 K : PySem.W.Frag
 mg : Str → Option Value
 base : Heap
 A : Around
 N : List Str
 s₀ : Shared
 H₀ : Hp
 env : Env
 outer : List Env
 stack : List Env
 ex : List Addr
 fn : Str → Bool
 calm : Bool
 pn : List (Addr × Obj)
 xe : Value → Shared → Prop
noncomputable def frs (l : List Env) : List Addr := l.filterMap (·.frame)
noncomputable abbrev Cx.fs (X : Cx) : List Addr := frs X.outer
noncomputable def Vis (sc : Scope) (x : Str) : Prop := sc.names.lookup x = some .local ∨ sc.names.lookup x = some .cell ∨ sc.names.lookup x = some .free
noncomputable def Loc (sc : Scope) (x : Str) : Prop := sc.names.lookup x = some .local ∨ sc.names.lookup x = some .cell
noncomputable def Look (env : Env) (h : Heap) (m : Str → Option Value) (x : Str) (u : Value) : Prop :=
 (env.kindOf x = some .local ∧ m x = some u) ∨ ((env.kindOf x = some .cell ∨ env.kindOf x = some .free) ∧ ∃ c, env.cells.lookup x = some c ∧ h.IsCell c (some u))
structure Cx.Ok (X : Cx) : Prop where
 mod : Mod X.K X.mg X.base
 kind : X.env.scope.kind = .function
 glob : X.env.globals = mainGlobals
 blt : X.env.builtins = builtinsNs
 above : X.s₀.heap.objs.size ≤ X.env.locals
 inj : ∀ x y c, X.env.cells.lookup x = some c → X.env.cells.lookup y = some c → x = y
 has : ∀ x, (X.env.kindOf x = some .cell ∨ X.env.kindOf x = some .free) → ∃ c, X.env.cells.lookup x = some c
 cab : ∀ x c, X.fn x = true → X.env.cells.lookup x = some c → X.s₀.heap.objs.size ≤ c
 hd : X.calm = true → X.A.handled = none
 frames : X.A.frames = some X.stack
 stk : X.stack = X.outer ∨ (X.stack = X.env :: X.outer ∧ X.env.frame = some X.env.locals)
 exf : ∀ b ∈ X.ex, b ≠ X.env.locals ∧ ∀ x c, X.env.cells.lookup x = some c → c ≠ b
 bs : ∀ b o, X.base.get? b = some o → X.s₀.heap.get? b = some o ∧ X.H₀ b = none
 bsz : X.base.objs.size ≤ X.s₀.heap.objs.size
 noex : ∀ b o, X.base.get? b = some o → b ∉ X.ex
 exfs : ∀ b ∈ X.ex, b ∉ X.fs
 funs : X.s₀.heap.FunFrames X.base X.outer
 frf : ∀ b ∈ X.fs, X.H₀ b = none
structure Inv (X : Cx) (pins : List (Addr × Obj)) (σ : List (Option V)) (H : Hp) (s : Shared) : Prop where
 ok : X.Ok
 os : s.os = X.s₀.os
 bare : AllBare s.gens
 base : Un X.fs X.ex X.H₀ H X.s₀.heap s.heap
 loc : ∃ m, s.heap.Ns X.env.locals m ∧ ∀ (i : Nat) (x : Str) (v : V), X.N[i]? = some x → σ[i]? = some (some v) → Vis X.env.scope x → ∃ u, RelV v u ∧ Look X.env s.heap m x u
 cell : ∀ x c, X.env.cells.lookup x = some c → ∃ v, s.heap.IsCell c v
 free : H X.env.locals = none
 freeC : ∀ x c, X.env.cells.lookup x = some c → H c = none
 pin : ∀ p ∈ X.pn ++ pins, s.heap.get? p.1 = some p.2 ∧ H p.1 = none ∧ p.1 ≠ X.env.locals ∧ p.1 ∉ X.fs ∧ ∀ v, p.2.data ≠ .cell v
 hok : HOk X.prog X.w H s.heap
 len : σ.length = X.N.length
section
variable {X : Cx} {pins : List (Addr × Obj)} {σ : List (Option V)} {H H' : Hp} {s : Shared} {h' : Heap}
theorem Cx.Ok.nofr (ok : X.Ok) {b : Addr} {o : Obj} (e : X.base.get? b = some o) : b ∉ X.fs := fun hb => by
 have := (ok.funs.mem hb).1
 rw [e] at this; cases this
theorem Inv.bs (I : Inv X pins σ H s) : ∀ b o, X.base.get? b = some o → s.heap.get? b = some o ∧ H b = none := fun b o e =>
 ⟨I.base.keep b o (I.ok.bs b o e).1 (I.ok.bs b o e).2 (I.ok.nofr e) (I.ok.noex b o e), I.base.free b o (I.ok.bs b o e).1 (I.ok.bs b o e).2 (I.ok.noex b o e)⟩
theorem Inv.bk (I : Inv X pins σ H s) : ∀ b o, X.base.get? b = some o → s.heap.get? b = some o := fun b o e => (I.bs b o e).1
theorem Inv.mod (I : Inv X pins σ H s) : Mod X.K X.mg X.base := I.ok.mod
theorem Inv.kIn (I : Inv X pins σ H s) : X.K.In s.heap := I.ok.mod.kin.keeps I.bk
theorem Inv.lt (I : Inv X pins σ H s) : X.env.locals < s.heap.objs.size := let ⟨_, hn, _⟩ := I.loc; hn.lt
theorem Inv.sz (I : Inv X pins σ H s) : X.s₀.heap.objs.size ≤ s.heap.objs.size := Nat.le_trans I.ok.above (Nat.le_of_lt I.lt)
theorem Inv.nofs (I : Inv X pins σ H s) {a : Addr} (h : s.heap.objs.size ≤ a) : a ∉ X.fs := fun hb => by
 obtain ⟨_, o, ho, _⟩ := I.ok.funs.mem hb
 exact absurd (Nat.lt_of_lt_of_le (Heap.lt_size ho) (Nat.le_trans I.sz h)) (Nat.lt_irrefl _)
theorem Inv.cne (I : Inv X pins σ H s) : ∀ x c, X.env.cells.lookup x = some c → c ≠ X.env.locals := fun x c e z => by
 obtain ⟨v, o, ho, hd⟩ := I.cell x c e
 obtain ⟨m, ⟨o', es, ep, ho', hd', _⟩, _⟩ := I.loc
 rw [z, ho'] at ho; cases ho; rw [hd'] at hd; cases hd
theorem Inv.funs (I : Inv X pins σ H s) : s.heap.FunFrames X.base X.outer := by
 have all : ∀ (l : List Env), (∀ b ∈ frs l, b ∈ X.fs) → X.s₀.heap.FunFrames X.base l → s.heap.FunFrames X.base l := by
   intro l
   induction l with
   | nil => intro _ _; trivial
   | cons env r ih =>
     intro hs hl
     obtain ⟨hk, ⟨L, o, hf, hn, ho, hd⟩, hr⟩ := hl
     have hL : L ∈ X.fs := hs L (by unfold frs; rw [List.filterMap_cons, hf]; exact List.mem_cons_self)
     obtain ⟨sl, e⟩ := I.base.slot L o ho (I.ok.frf L hL) hL fun z => I.ok.exfs L z hL
     exact ⟨hk, ⟨L, _, hf, hn, e, hd⟩, ih (fun b hb => hs b (by unfold frs; rw [List.filterMap_cons, hf]; exact List.mem_cons_of_mem _ hb)) hr⟩
 exact all X.outer (fun _ hb => hb) I.ok.funs
theorem Inv.stack (I : Inv X pins σ H s) : s.heap.FunFrames X.base X.stack := by
 rcases I.ok.stk with e | ⟨e, hf⟩
 · rw [e]; exact I.funs
 · rw [e]
   obtain ⟨m, hn, _⟩ := I.loc
   refine .cons (by rw [I.ok.kind]; decide) hf hn ?_ I.funs
   exact Heap.get?_none_of_le (Nat.le_trans I.ok.bsz I.ok.above)
theorem Inv.stkSub (I : Inv X pins σ H s) : ∀ b ∈ frs X.stack, b ∈ X.env.locals :: X.fs := fun b hb => by
 rcases I.ok.stk with e | ⟨e, hf⟩
 · rw [e] at hb; exact List.mem_cons_of_mem _ hb
 · rw [e] at hb
   unfold frs at hb
   rw [List.filterMap_cons, hf] at hb
   exact hb
theorem Inv.stkFree (I : Inv X pins σ H s) : ∀ b ∈ frs X.stack, H b = none := fun b hb => by
 rcases List.mem_cons.mp (I.stkSub b hb) with e | hb
 · rw [e]; exact I.free
 · obtain ⟨_, o, ho, _⟩ := I.ok.funs.mem hb
   exact I.base.free b o ho (I.ok.frf b hb) fun z => I.ok.exfs b z hb
theorem Inv.step {g' : Array GenState} {t' : Nat} {d' : Drawn} {ch : List Addr} (I : Inv X pins σ H s)
   (hch : ∀ b ∈ ch, (b ∈ X.ex ∨ X.s₀.heap.objs.size ≤ b) ∧ b ≠ X.env.locals ∧ (∀ x c, X.env.cells.lookup x = some c → c ≠ b) ∧ ∀ p ∈ X.pn ++ pins, p.1 ≠ b)
   (keep : ∀ b o, b ≠ X.env.locals → b ∉ X.fs → b ∉ ch → s.heap.get? b = some o → H b = none → h'.get? b = some o)
   (slot : ∀ b o, b ≠ X.env.locals → b ∈ X.fs → b ∉ ch → s.heap.get? b = some o → H b = none → ∃ sl, h'.get? b = some { o with slots := sl }) (free : ∀ b o, b ∉ ch → s.heap.get? b = some o → H b = none → H' b = none)
   (there : ∀ b o, b ∉ ch → s.heap.get? b = some o → ∃ o', h'.get? b = some o')
   (tups : ∀ b xs, H b = some (.tup xs) → H' b = some (.tup xs)) (frzs : ∀ b o u, H b = some (.frz o u) → H' b = some (.frz o u)) (tbls : ∀ b ps, H b = some (.tbl ps) → ∃ more, H' b = some (.tbl (ps ++ more)))
   (ns : ∀ m, s.heap.Ns X.env.locals m → h'.Ns X.env.locals m) (hok : HOk X.prog X.w H' h') (hg : AllBare g') :
   Inv X pins σ H' { s with heap := h', gens := g', drawn := d', toks := t' } := by
 have neL : ∀ b o, X.s₀.heap.get? b = some o → b ≠ X.env.locals := fun b o e => Nat.ne_of_lt (Nat.lt_of_lt_of_le (Heap.lt_size e) I.ok.above)
 have neC : ∀ b o, X.s₀.heap.get? b = some o → b ∉ X.ex → b ∉ ch := fun b o e hx hb => by
   rcases (hch b hb).1 with z | z
   · exact hx z
   · exact absurd (Nat.lt_of_lt_of_le (Heap.lt_size e) z) (Nat.lt_irrefl _)
 have cellK : ∀ x c, X.env.cells.lookup x = some c → ∀ v, s.heap.IsCell c v → h'.IsCell c v := fun x c e v ⟨o, ho, hd⟩ => by
   have nch : c ∉ ch := fun z => (hch c z).2.2.1 x c e rfl
   by_cases hc : c ∈ X.fs
   · obtain ⟨sl, q⟩ := slot c o (I.cne x c e) hc nch ho (I.freeC x c e)
     exact ⟨_, q, hd⟩
   · exact ⟨o, keep c o (I.cne x c e) hc nch ho (I.freeC x c e), hd⟩
 refine ⟨I.ok, I.os, hg, ⟨fun b o e n hb hx => ?_, fun b o e n hb hx => ?_, fun b o e n hx => ?_, fun b o e hx => ?_, fun b xs e => tups b xs (I.base.tups b xs e), fun b o xs e => frzs b o xs (I.base.frzs b o xs e), fun b ps e => ?_⟩, ?_, fun x c e => ?_, ?_, fun x c e => ?_, fun p hp => ?_, hok, I.len⟩
 · exact keep b o (neL b o e) hb (neC b o e hx) (I.base.keep b o e n hb hx) (I.base.free b o e n hx)
 · obtain ⟨sl, e1⟩ := I.base.slot b o e n hb hx
   obtain ⟨sl', e2⟩ := slot b _ (neL b o e) hb (neC b o e hx) e1 (I.base.free b o e n hx)
   exact ⟨sl', e2⟩
 · obtain ⟨o', e1⟩ := I.base.there b o e hx
   exact free b o' (neC b o e hx) e1 (I.base.free b o e n hx)
 · obtain ⟨o', e1⟩ := I.base.there b o e hx
   exact there b o' (neC b o e hx) e1
 · obtain ⟨m1, e1⟩ := I.base.tbls b ps e
   obtain ⟨m2, e2⟩ := tbls b _ e1
   exact ⟨m1 ++ m2, by rw [e2, Array.append_assoc]⟩
 · obtain ⟨m, hn, hl⟩ := I.loc
   refine ⟨m, ns m hn, fun i x v e1 e2 e3 => ?_⟩
   obtain ⟨u, r, l⟩ := hl i x v e1 e2 e3
   refine ⟨u, r, ?_⟩
   rcases l with l | ⟨k, c, e, z⟩
   · exact .inl l
   · exact .inr ⟨k, c, e, cellK x c e _ z⟩
 · obtain ⟨v, z⟩ := I.cell x c e
   exact ⟨v, cellK x c e v z⟩
 · obtain ⟨m, ⟨o, _, _, ho, _⟩, _⟩ := I.loc
   exact free _ o (fun z => (hch _ z).2.1 rfl) ho I.free
 · obtain ⟨v, o, ho, hd⟩ := I.cell x c e
   exact free c o (fun z => (hch c z).2.2.1 x c e rfl) ho (I.freeC x c e)
 · obtain ⟨e, n, ne, nf, d⟩ := I.pin p hp
   have nch : p.1 ∉ ch := fun z => (hch p.1 z).2.2.2 p hp rfl
   exact ⟨keep p.1 p.2 ne nf nch e n, free p.1 p.2 nch e n, ne, nf, d⟩
theorem Inv.un {t' : Nat} (I : Inv X pins σ H s) (u : Un X.fs [] H H' s.heap h') (hok : HOk X.prog X.w H' h') : Inv X pins σ H' { s with heap := h', toks := t' } := by
 obtain ⟨m, ⟨o, es, ep, ho, r⟩, _⟩ := id I.loc
 obtain ⟨sl, hL⟩ := u.any ho I.free (by simp)
 exact I.step (g' := s.gens) (d' := s.drawn) (ch := []) (fun _ z => nomatch z) (fun b o _ hb _ e n => u.keep b o e n hb (by simp)) (fun b o _ hb _ e n => u.slot b o e n hb (by simp)) (fun b o _ e n => u.free b o e n (by simp)) (fun b o _ e => u.there b o e (by simp)) u.tups u.frzs u.tbls (fun m' hm => by
   obtain ⟨o', es', ep', ho', r'⟩ := hm
   rw [ho] at ho'; cases ho'
   exact ⟨_, es', ep', hL, r'⟩) hok I.bare
theorem Inv.call {g' : Array GenState} {t' : Nat} {d' : Drawn} {ch : List Addr} (I : Inv X pins σ H s) (u : Un (frs X.stack) ch H H' s.heap h') (hok : HOk X.prog X.w H' h') (hg : AllBare g')
   (hch : ∀ b ∈ ch, (b ∈ X.ex ∨ X.s₀.heap.objs.size ≤ b) ∧ b ≠ X.env.locals ∧ (∀ x c, X.env.cells.lookup x = some c → c ≠ b) ∧ ∀ p ∈ X.pn ++ pins, p.1 ≠ b) :
   Inv X pins σ H' { s with heap := h', gens := g', drawn := d', toks := t' } := by
 obtain ⟨m, ⟨o, es, ep, ho, r⟩, _⟩ := id I.loc
 obtain ⟨sl, hL⟩ := u.any ho I.free fun z => (hch _ z).2.1 rfl
 exact I.step (ch := ch) hch (fun b o hL hb hc e n => u.keep b o e n (fun z => (List.mem_cons.mp (I.stkSub b z)).elim hL hb) hc) (fun b o _ _ hc e n => u.any e n hc) (fun b o hc e n => u.free b o e n hc) (fun b o hc e => u.there b o e hc) u.tups u.frzs u.tbls (fun m' hm => by
   obtain ⟨o', es', ep', ho', r'⟩ := hm
   rw [ho] at ho'; cases ho'
   exact ⟨_, es', ep', hL, r'⟩) hok hg
theorem Inv.turned {t' : Nat} {it : Addr} (I : Inv X pins σ H s) (k : ∀ b o, b ≠ it → s.heap.get? b = some o → h'.get? b = some o) (hn : H it = none) (hL : it ≠ X.env.locals)
   (h1 : it ∈ X.ex ∨ X.s₀.heap.objs.size ≤ it) (h2 : ∀ x c, X.env.cells.lookup x = some c → c ≠ it) (h3 : ∀ p ∈ X.pn ++ pins, p.1 ≠ it) : Inv X pins σ H { s with heap := h', toks := t' } := by
 have nit : ∀ b u, H b = some u → b ≠ it := fun b u e z => by rw [z, hn] at e; cases e
 refine I.step (g' := s.gens) (d' := s.drawn) (ch := [it]) (fun b hb => ?_) (fun b o _ _ hc e _ => k b o (fun z => hc (by simp [z])) e) (fun b o _ _ hc e _ => ⟨o.slots, k b o (fun z => hc (by simp [z])) e⟩) (fun _ _ _ _ n => n)
   (fun b o hc e => ⟨o, k b o (fun z => hc (by simp [z])) e⟩) (fun _ _ e => e) (fun _ _ _ e => e) (fun b ps e => ⟨#[], by rw [e]; simp⟩) (fun m hm => ?_) (fun b u e => ?_) I.bare
 · have e : b = it := by simpa using hb
   subst e
   exact ⟨h1, hL, h2, h3⟩
 · obtain ⟨o, es, ep, ho, r⟩ := hm
   exact ⟨o, es, ep, k _ o (Ne.symm hL) ho, r⟩
 · refine (I.hok b u e).stay (fun c v hc q => k c v ?_ q) (fun _ q => q) fun _ _ q => q
   rcases hc with z | z
   · rw [z]; exact nit b u e
   · exact nit c _ z
theorem Inv.tok (I : Inv X pins σ H s) (t : Nat) : Inv X pins σ H { s with toks := t } := I.un (h' := s.heap) (t' := t) Un.refl I.hok
theorem Inv.kept {t' : Nat} (I : Inv X pins σ H s) (k : ∀ b u, s.heap.get? b = some u → h'.get? b = some u) : Inv X pins σ H { s with heap := h', toks := t' } := I.un (Un.kept k) (I.hok.kept k)
theorem Inv.laid {a : Addr} {o : HO} {t' : Nat} (I : Inv X pins σ H s) (k : ∀ b u, s.heap.get? b = some u → h'.get? b = some u) (hp : s.heap.objs.size ≤ a) (new : ObjOk X.prog X.w (upd H a o) h' a o) :
   Inv X pins σ (upd H a o) { s with heap := h', toks := t' } := I.un (Un.laid k hp (I.hok.fresh hp)) (I.hok.laid k hp new)
theorem Inv.write {x e : Addr} {o : HO} {t' : Nat} (I : Inv X pins σ H s) (mu : Mut (H x)) (he : e = x ∨ H e = some (.own x)) (k : ∀ b u, b ≠ e → s.heap.get? b = some u → h'.get? b = some u) (heo : ∃ u, h'.get? e = some u)
   (new : ObjOk X.prog X.w (upd H x o) h' x o) : Inv X pins σ (upd H x o) { s with heap := h', toks := t' } := I.un (Un.write mu he k heo) (I.hok.write mu he k heo new)
theorem Inv.weak {σ' : List (Option V)} (I : Inv X pins σ H s) (hl : σ'.length = σ.length) (w : ∀ (i : Nat) v, σ'[i]? = some (some v) → σ[i]? = some (some v)) : Inv X pins σ' H s :=
 ⟨I.ok, I.os, I.bare, I.base, let ⟨m, hn, hl'⟩ := I.loc; ⟨m, hn, fun i x v e1 e2 e3 => hl' i x v e1 (w i v e2) e3⟩, I.cell, I.free, I.freeC, I.pin, I.hok, hl.trans I.len⟩
theorem Inv.pins_of {pins' : List (Addr × Obj)} (I : Inv X pins σ H s) (h : ∀ p ∈ pins', s.heap.get? p.1 = some p.2 ∧ H p.1 = none ∧ p.1 ≠ X.env.locals ∧ p.1 ∉ X.fs ∧ ∀ v, p.2.data ≠ .cell v) : Inv X pins' σ H s :=
 ⟨I.ok, I.os, I.bare, I.base, I.loc, I.cell, I.free, I.freeC, fun p hp => (List.mem_append.mp hp).elim (fun z => I.pin p (List.mem_append_left _ z)) (h p), I.hok, I.len⟩
theorem nodup_ix {N : List Str} (hN : N.Nodup) {i j : Nat} {x : Str} (a : N[i]? = some x) (b : N[j]? = some x) : i = j := by
 obtain ⟨h1, e1⟩ := List.getElem?_eq_some_iff.mp a
 obtain ⟨h2, e2⟩ := List.getElem?_eq_some_iff.mp b
 exact (List.getElem_inj hN).mp (e1.trans e2.symm)
theorem store_ok2 {M : Model} {A : Around} {E : Value → Shared → Prop} {i : Nat} {x : Str} {v : V} {u : Value} {Q : Unit → Shared → Prop} (I : Inv X pins σ H s) (hN : X.N.Nodup) (hi : X.N[i]? = some x) (hx : Loc X.env.scope x) (r : RelV v u)
   (h : ∀ s', Inv X pins (σ.set i (some v)) H s' → (∃ a, Heap.SameBut a s.heap s'.heap ∧ (a = X.env.locals ∨ X.env.cells.lookup x = some a)) → Q () s') (hf : X.fn x = true ∨ X.env.scope.names.lookup x = some .local := by first | exact .inl rfl | exact .inr rfl | assumption) : wpAny M A (storeName X.env x u) Q E s := by
 obtain ⟨m, hn, hl⟩ := id I.loc
 have hcls : (X.env.scope.kind == .class || (X.env.scope.kind == .module && X.env.locals != X.env.globals)) = false := by rw [I.ok.kind]; rfl
 have hiσ : i < σ.length := by rw [I.len]; exact (List.getElem?_eq_some_iff.mp hi).1
 have cne := I.cne
 have tracked : ∀ {a : Addr} {h' : Heap}, (∃ o, s.heap.get? a = some o ∧ H a = none) → Heap.SameBut a s.heap h' → HOk X.prog X.w H h' := fun {a h'} ha hs b ob e => by
   obtain ⟨_, _, hfree⟩ := ha
   refine (I.hok b ob e).stay (fun c w' hc q => (hs.2 c ?_).trans q) (fun _ q => q) fun _ _ q => q
   rintro rfl
   rcases hc with rfl | hc
   · rw [hfree] at e; cases e
   · rw [hfree] at hc; cases hc
 rcases hx with hk | hk
 · refine wpAny_storeName_local hk hn (fun h' hn' hs => ?_) hcls
   obtain ⟨oL, _, _, hoL, _⟩ := id hn
   refine h _ ⟨I.ok, I.os, I.bare, ⟨fun b o e n hb hx => ?_, fun b o e n hb hx => ?_, I.base.free, fun b o e hx => ?_, I.base.tups, I.base.frzs, I.base.tbls⟩, ⟨_, hn', fun j y v' e1 e2 e3 => ?_⟩, fun y c e => ?_, I.free, I.freeC, fun p hp => ?_, tracked ⟨oL, hoL, I.free⟩ hs, by simpa using I.len⟩ ⟨_, hs, .inl rfl⟩
   · exact (hs.2 b (Nat.ne_of_lt (Nat.lt_of_lt_of_le (Heap.lt_size e) I.ok.above))).trans (I.base.keep b o e n hb hx)
   · obtain ⟨sl, e1⟩ := I.base.slot b o e n hb hx
     exact ⟨sl, (hs.2 b (Nat.ne_of_lt (Nat.lt_of_lt_of_le (Heap.lt_size e) I.ok.above))).trans e1⟩
   · obtain ⟨o', e1⟩ := I.base.there b o e hx
     exact ⟨o', (hs.2 b (Nat.ne_of_lt (Nat.lt_of_lt_of_le (Heap.lt_size e) I.ok.above))).trans e1⟩
   · by_cases hj : j = i
     · subst hj
       rw [hi] at e1; cases e1
       rw [List.getElem?_set_self hiσ] at e2
       cases e2
       exact ⟨u, r, .inl ⟨hk, by simp⟩⟩
     · rw [List.getElem?_set_ne (Ne.symm hj)] at e2
       obtain ⟨u', r', q⟩ := hl j y v' e1 e2 e3
       refine ⟨u', r', ?_⟩
       rcases q with ⟨k, e⟩ | ⟨k, c, e, z⟩
       · refine .inl ⟨k, ?_⟩
         have : y ≠ x := fun e => hj (nodup_ix hN e1 (e ▸ hi))
         simp [this, e]
       · exact .inr ⟨k, c, e, z.sameBut hs (cne y c e)⟩
   · obtain ⟨w', z⟩ := I.cell y c e
     exact ⟨w', z.sameBut hs (cne y c e)⟩
   · obtain ⟨e, n, ne, nf, d⟩ := I.pin p hp
     exact ⟨(hs.2 p.1 ne).trans e, n, ne, nf, d⟩
 · have hfn : X.fn x = true := by
     rcases hf with z | z
     · exact z
     · rw [z] at hk; cases hk
   obtain ⟨c, hc⟩ := I.ok.has x (.inl hk)
   obtain ⟨w', z⟩ := I.cell x c hc
   refine wpAny_storeName_cell I.ok.kind hk hc z (fun h' hc' hs => ?_)
   obtain ⟨oc, hoc, hocd⟩ := id z
   refine h { s with heap := h' } ⟨I.ok, I.os, I.bare, ⟨fun b o e n hb hx => ?_, fun b o e n hb hx => ?_, I.base.free, fun b o e hx => ?_, I.base.tups, I.base.frzs, I.base.tbls⟩, ⟨m, hn.sameBut hs (Ne.symm (cne x c hc)), fun j y v' e1 e2 e3 => ?_⟩, fun y c' e => ?_, I.free, I.freeC, fun p hp => ?_, tracked ⟨oc, hoc, I.freeC x c hc⟩ hs, by simpa using I.len⟩ ⟨c, hs, .inr hc⟩
   · exact (hs.2 b (Nat.ne_of_lt (Nat.lt_of_lt_of_le (Heap.lt_size e) (I.ok.cab x c hfn hc)))).trans (I.base.keep b o e n hb hx)
   · obtain ⟨sl, e1⟩ := I.base.slot b o e n hb hx
     exact ⟨sl, (hs.2 b (Nat.ne_of_lt (Nat.lt_of_lt_of_le (Heap.lt_size e) (I.ok.cab x c hfn hc)))).trans e1⟩
   · obtain ⟨o', e1⟩ := I.base.there b o e hx
     exact ⟨o', (hs.2 b (Nat.ne_of_lt (Nat.lt_of_lt_of_le (Heap.lt_size e) (I.ok.cab x c hfn hc)))).trans e1⟩
   · by_cases hj : j = i
     · subst hj
       rw [hi] at e1; cases e1
       rw [List.getElem?_set_self hiσ] at e2
       cases e2
       exact ⟨u, r, .inr ⟨.inl hk, c, hc, hc'⟩⟩
     · rw [List.getElem?_set_ne (Ne.symm hj)] at e2
       obtain ⟨u', r', q⟩ := hl j y v' e1 e2 e3
       refine ⟨u', r', ?_⟩
       rcases q with q | ⟨k, c', e, z'⟩
       · exact .inl q
       · refine .inr ⟨k, c', e, z'.sameBut hs ?_⟩
         rintro rfl
         exact hj (nodup_ix hN e1 (I.ok.inj _ _ _ e hc ▸ hi))
   · by_cases hcc : c' = c
     · subst hcc; exact ⟨_, hc'⟩
     · obtain ⟨w2, z2⟩ := I.cell y c' e
       exact ⟨w2, z2.sameBut hs hcc⟩
   · obtain ⟨e, n, ne, nf, d⟩ := I.pin p hp
     refine ⟨(hs.2 p.1 ?_).trans e, n, ne, nf, d⟩
     intro q
     rw [q, hoc] at e
     have q' : oc = p.2 := Option.some.inj e
     exact d w' (by rw [← q']; exact hocd)
theorem store_ok {M : Model} {A : Around} {E : Value → Shared → Prop} {i : Nat} {x : Str} {v : V} {u : Value} {Q : Unit → Shared → Prop} (I : Inv X pins σ H s) (hN : X.N.Nodup) (hi : X.N[i]? = some x) (hx : Loc X.env.scope x) (r : RelV v u)
   (h : ∀ s', Inv X pins (σ.set i (some v)) H s' → Q () s') (hf : X.fn x = true ∨ X.env.scope.names.lookup x = some .local := by first | exact .inl rfl | exact .inr rfl | assumption) : wpAny M A (storeName X.env x u) Q E s :=
 store_ok2 I hN hi hx r (fun s' I' _ => h s' I') hf
theorem Inv.call' {s' : Shared} {ch : List Addr} (I : Inv X pins σ H s) (ho : s'.os = s.os) (u : Un (frs X.stack) ch H H' s.heap s'.heap) (hok : HOk X.prog X.w H' s'.heap) (hg : AllBare s'.gens)
   (hch : ∀ b ∈ ch, (b ∈ X.ex ∨ X.s₀.heap.objs.size ≤ b) ∧ b ≠ X.env.locals ∧ (∀ x c, X.env.cells.lookup x = some c → c ≠ b) ∧ ∀ p ∈ X.pn ++ pins, p.1 ≠ b) : Inv X pins σ H' s' := by
 obtain ⟨h', g', d', t', o'⟩ := s'
 have e : o' = s.os := ho
 subst e
 exact I.call (g' := g') (t' := t') (d' := d') u hok hg hch
end
noncomputable abbrev XK := Value → Option Addr → Hp → Prop
noncomputable abbrev St := List (Option V)
noncomputable abbrev VK := V → Hp → Prop
noncomputable abbrev TE := St → Hp → VK → Prop
noncomputable abbrev TT := St → Hp → (Bool → Hp → Prop) → Prop
noncomputable abbrev TA := St → Hp → (List V → Hp → Prop) → Prop
structure Ends where
 nx : St → Hp → Prop
 rt : VK
 bk : St → Hp → Prop := fun _ _ => False
 ct : St → Hp → Prop := fun _ _ => False
noncomputable abbrev TS := Ends → St → Hp → Prop
noncomputable def EP (X : Cx) (pins : List (Addr × Obj)) (σ : St) (Q : VK) (u : Value) (s' : Shared) : Prop := ∃ v H', Inv X pins σ H' s' ∧ RelV v u ∧ Q v H'
noncomputable def TP (X : Cx) (pins : List (Addr × Obj)) (σ : St) (Q : Bool → Hp → Prop) (b : Bool) (s' : Shared) : Prop := ∃ H', Inv X pins σ H' s' ∧ Q b H'
noncomputable def AP (X : Cx) (pins : List (Addr × Obj)) (σ : St) (Q : List V → Hp → Prop) (us : List Value) (s' : Shared) : Prop := ∃ vs H', Inv X pins σ H' s' ∧ Vals vs us ∧ Q vs H'
noncomputable def SP (X : Cx) (pins : List (Addr × Obj)) (D : Ends) (f : Flow) (s' : Shared) : Prop :=
 match f with
 | .next => ∃ σ' H', Inv X pins σ' H' s' ∧ D.nx σ' H'
 | .brk => ∃ σ' H', Inv X pins σ' H' s' ∧ D.bk σ' H'
 | .cont => ∃ σ' H', Inv X pins σ' H' s' ∧ D.ct σ' H'
 | .ret u => ∃ v σ' H', Inv X pins σ' H' s' ∧ RelV v u ∧ D.rt v H'
noncomputable def PE (X : Cx) (e : Expr) (t : TE) : Prop :=
 ∀ (pins : List (Addr × Obj)) (s : Shared) (σ : St) (H : Hp) (Q : VK), Inv X pins σ H s → t σ H Q → wpAny (model X.prog X.w) X.A (eval e X.env) (EP X pins σ Q) X.xe s
noncomputable def PT (X : Cx) (e : Expr) (t : TT) : Prop :=
 ∀ (pins : List (Addr × Obj)) (s : Shared) (σ : St) (H : Hp) (Q : Bool → Hp → Prop), Inv X pins σ H s → t σ H Q → wpAny (model X.prog X.w) X.A (isTrue e X.env (eval e X.env)) (TP X pins σ Q) X.xe s
noncomputable def PW (X : Cx) (e : Expr) (t : TT) : Prop :=
 ∀ (whole : Sem Value) (pins : List (Addr × Obj)) (s : Shared) (σ : St) (H : Hp) (Q : Bool → Hp → Prop), Inv X pins σ H s → t σ H Q → wpAny (model X.prog X.w) X.A (isTrue e X.env whole) (TP X pins σ Q) X.xe s
theorem PW.pt {X : Cx} {e : Expr} {t : TT} (h : PW X e t) : PT X e t := h _
noncomputable def PA (X : Cx) (es : List Expr) (t : TA) : Prop :=
 ∀ (pos : Pos) (pins : List (Addr × Obj)) (s : Shared) (σ : St) (H : Hp) (Q : List V → Hp → Prop), Inv X pins σ H s → t σ H Q → wpAny (model X.prog X.w) X.A (spliced (backTo pos (starEach es X.env))) (AP X pins σ Q) X.xe s
noncomputable def PS (X : Cx) (st : Stmt) (t : TS) : Prop :=
 ∀ (pins : List (Addr × Obj)) (s : Shared) (σ : St) (H : Hp) (D : Ends), Inv X pins σ H s → t D σ H → wpAny (model X.prog X.w) X.A (exec st X.env) (SP X pins D) X.xe s
noncomputable def PSs (X : Cx) (st : List Stmt) (t : TS) : Prop :=
 ∀ (pins : List (Addr × Obj)) (s : Shared) (σ : St) (H : Hp) (D : Ends), Inv X pins σ H s → t D σ H → wpAny (model X.prog X.w) X.A (execs st X.env) (SP X pins D) X.xe s
theorem thn {α : Type} {t : Sem α} {Q Q' : α → Shared → Prop} {M : Model} {A : Around} {E : Value → Shared → Prop} {s : Shared} (h : wpAny M A t Q E s) (hQ : ∀ a s, Q a s → Q' a s) : wpAny M A t Q' E s := wpAny_mono h hQ fun _ _ x => x
end L2
namespace L2
open PySem PySem.Spec PyProof.Rows
section
variable {X : Cx}
noncomputable def tVar (i : Nat) : TE := fun σ H Q => ∃ v, σ[i]? = some (some v) ∧ Q v H
noncomputable def tC (v : V) : TE := fun _ H Q => Q v H
theorem pe_var {i : Nat} {x : Str} {pos : Pos} (hN : X.N[i]? = some x) (hv : Vis X.env.scope x) (hd : (x == ("__debug__" : Str)) = false := by decide) (hcd : (x == ("__classdict__" : Str)) = false := by decide) : PE X (.Name x pos) (tVar i) := by
 intro pins s σ H Q I h
 obtain ⟨v, e, h⟩ := h
 obtain ⟨m, hn, hl⟩ := I.loc
 obtain ⟨u, r, l⟩ := hl i x v hN e hv
 have fin : EP X pins σ Q u s := ⟨v, H, I, r, h⟩
 rcases l with ⟨hk, hm⟩ | ⟨hk, c, hc, hcell⟩
 · exact wpAny_Name (wpAny_loadName_local I.ok.kind hk hn hm fin) hd
 · rcases hk with hk | hk
   · exact wpAny_Name (wpAny_loadName_cell I.ok.kind hk hc hcell fin) hd
   · exact wpAny_Name (wpAny_loadName_free I.ok.kind hk hc hcell fin hcd) hd
theorem pe_int {i j pos} : PE X (.Constant (.int i) j pos) (tC (.int i)) := fun _ _ _ H _ I h => wpAny_Constant_int ⟨.int i, H, I.tok _, ⟨_, rfl⟩, h⟩
theorem pe_bl {b j pos} : PE X (.Constant (.bool b) j pos) (tC (.bl b)) := fun _ _ _ H _ I h => Constant_bool ⟨.bl b, H, I, rfl, h⟩
theorem pe_non {j pos} : PE X (.Constant .none j pos) (tC .non) := fun _ _ _ H _ I h => Constant_none ⟨.non, H, I, rfl, h⟩
noncomputable def Gl (X : Cx) (x : Str) : Prop := X.env.kindOf x = some .globalImplicit
theorem ld_glob {E : Value → Shared → Prop} {pins : List (Addr × Obj)} {s : Shared} {σ : St} {H : Hp} {x : Str} {u : Value} {pos : Pos} {Q : Value → Shared → Prop} (I : Inv X pins σ H s) (hg : Gl X x) (hm : X.mg x = some u) (h : Q u s)
   (hd : (x == ("__debug__" : Str)) = false := by decide) : wpAny (model X.prog X.w) X.A (eval (.Name x pos) X.env) Q E s :=
 Calls.Name_function_global I.ok.kind hg (Calls.loadGlobal_global (by rw [I.ok.glob]; exact I.mod.glob.keeps I.bk) hm h) hd
theorem ld_blt {E : Value → Shared → Prop} {pins : List (Addr × Obj)} {s : Shared} {σ : St} {H : Hp} {x : Str} {u : Value} {pos : Pos} {Q : Value → Shared → Prop} (I : Inv X pins σ H s) (hg : Gl X x) (hm : X.mg x = none) (hv : bootBuiltins x = some u) (h : Q u s)
   (hn : x ≠ "__name__" := by decide) (hd : (x == ("__debug__" : Str)) = false := by decide) : wpAny (model X.prog X.w) X.A (eval (.Name x pos) X.env) Q E s := by
 obtain ⟨mb, h1, h2⟩ := I.mod.blt
 exact Calls.Name_function_global I.ok.kind hg (Calls.loadGlobal_builtin (by rw [I.ok.glob]; exact I.mod.glob.keeps I.bk) hm (by rw [I.ok.blt]; exact h1.keeps I.bk) ((h2 x hn).trans hv) h) hd
theorem pe_glob {x : Str} {v : V} {u : Value} {pos : Pos} (hg : Gl X x) (hm : X.mg x = some u) (r : RelV v u) (hd : (x == ("__debug__" : Str)) = false := by decide) : PE X (.Name x pos) (tC v) :=
 fun _ _ _ H _ I h => ld_glob I hg hm ⟨v, H, I, r, h⟩ hd
variable {a b : Expr} {ta tb : TE} {pos : Pos}
variable {tA tB' : TT} {rest : List Expr}
noncomputable def tAnd (t u : TT) : TT := fun σ H Q => t σ H fun c H1 => if c = true then u σ H1 Q else Q false H1
noncomputable def tOr (t u : TT) : TT := fun σ H Q => t σ H fun c H1 => if c = true then Q true H1 else u σ H1 Q
noncomputable def tNot (t : TT) : TT := fun σ H Q => t σ H fun c H1 => Q (!c) H1
theorem pw_and1 (ha : PT X a tA) : PW X (.BoolOp .And [a] pos) tA := by
 intro wh pins s σ H Q I h
 refine isTrue_and (thn (ha pins s σ H Q I h) fun c s1 e => ?_)
 cases c with
 | true => exact isTrue_and_nil e
 | false => exact e
theorem pw_or1 (ha : PT X a tA) : PW X (.BoolOp .Or [a] pos) tA := by
 intro wh pins s σ H Q I h
 refine isTrue_or (thn (ha pins s σ H Q I h) fun c s1 e => ?_)
 cases c with
 | false => exact isTrue_or_nil e
 | true => exact e
theorem pw_and (ha : PT X a tA) (hb : PW X (.BoolOp .And (b :: rest) pos) tB') : PW X (.BoolOp .And (a :: b :: rest) pos) (tAnd tA tB') := by
 intro wh pins s σ H Q I h
 refine isTrue_and (thn (ha pins s σ H _ I h) fun c s1 ⟨H1, I1, q1⟩ => ?_)
 cases c with
 | true => exact hb wh pins s1 σ H1 Q I1 q1
 | false => exact ⟨H1, I1, q1⟩
theorem pw_or (ha : PT X a tA) (hb : PW X (.BoolOp .Or (b :: rest) pos) tB') : PW X (.BoolOp .Or (a :: b :: rest) pos) (tOr tA tB') := by
 intro wh pins s σ H Q I h
 refine isTrue_or (thn (ha pins s σ H _ I h) fun c s1 ⟨H1, I1, q1⟩ => ?_)
 cases c with
 | true => exact ⟨H1, I1, q1⟩
 | false => exact hb wh pins s1 σ H1 Q I1 q1
theorem pt_not (ha : PT X a tA) : PT X (.UnaryOp .Not a pos) (tNot tA) := by
 intro pins s σ H Q I h
 exact isTrue_not (ha pins s σ H (fun c H1 => Q (!c) H1) I h)
noncomputable def tAndV (ta tb : TE) : TE := fun σ H Q => ta σ H fun x H1 => ∃ c, x = .bl c ∧ if c = true then tb σ H1 Q else Q (.bl false) H1
theorem pe_one {op} {t : TE} (h : PE X a t) : PE X (.BoolOp op [a] pos) t := fun pins s σ H Q I hw => BoolOp_one (h pins s σ H Q I hw)
theorem pe_and (ha : PE X a ta) (hb : PE X (.BoolOp .And (b :: rest) pos) tb) : PE X (.BoolOp .And (a :: b :: rest) pos) (tAndV ta tb) := by
 intro pins s σ H Q I h
 refine BoolOp_and (thn (ha pins s σ H _ I h) fun v s1 ⟨x, H1, I1, r1, q1⟩ => ?_)
 obtain ⟨c, rfl, q1⟩ := q1
 cases r1
 refine wpAny_truthy_bool ?_
 cases c with
 | true => exact hb pins s1 σ H1 Q I1 q1
 | false => exact ⟨.bl false, H1, I1, rfl, q1⟩
end
end L2
namespace L2
open PySem PySem.Spec PyProof.Rows
noncomputable def SqL (K : PySem.W.Frag) (H : Hp) (a : Addr) (xs : List V) : Prop :=
 Rd H a (.lst xs) ∨
   ∃ (o : Obj) (its : Array Value) (n : Nat), K.lookup a = some o ∧ o.cls = .type "list" ∧ o.dict = none ∧ o.data = .seq its n ∧ its.size ≤ sizeLine ∧ Vals xs its.toList
noncomputable def SqT (K : PySem.W.Frag) (H : Hp) (a : Addr) (xs : List V) : Prop :=
 Rd H a (.tup xs) ∨
   ∃ (o : Obj) (its : Array Value) (n : Nat), K.lookup a = some o ∧ o.cls = .type "tuple" ∧ o.dict = none ∧ o.data = .seq its n ∧ its.size ≤ sizeLine ∧ Vals xs its.toList
noncomputable def absV : Value → Option V
 | .none => some .non
 | .bool b => some (.bl b)
 | .int i _ => some (.int i)
 | .str x _ => some (.str x)
 | .bytes b _ => some (.byt b)
 | .float b _ => some (.flt b)
 | .ref a => some (.ref a)
 | .type n => some (.ty n)
 | _ => none
theorem RelV.abs {x : V} {u : Value} (r : RelV x u) : absV u = some x := by
 cases x with
 | non => cases r; rfl
 | bl _ => cases r; rfl
 | int _ => obtain ⟨t, rfl⟩ := r; rfl
 | str _ => obtain ⟨t, rfl⟩ := r; rfl
 | byt _ => obtain ⟨t, rfl⟩ := r; rfl
 | flt _ => obtain ⟨t, rfl⟩ := r; rfl
 | ref _ => cases r; rfl
 | ty _ => cases r; rfl
theorem RelV.inj {x y : V} {u : Value} (r : RelV x u) (q : RelV y u) : x = y := Option.some.inj (r.abs.symm.trans q.abs)
theorem Vals.inj : ∀ {xs ys : List V} {us : List Value}, Vals xs us → Vals ys us → xs = ys
 | _, _, _, .nil, .nil => rfl
 | _, _, _, .cons r t, .cons r' t' => by rw [r.inj r', Vals.inj t t']
section
variable {X : Cx} {pins : List (Addr × Obj)} {σ : St} {H : Hp} {s : Shared} {a : Addr} {xs ys : List V}
theorem SqL.of {K : PySem.W.Frag} (h : H a = some (.lst xs)) : SqL K H a xs := .inl (.inl h)
theorem SqT.of {K : PySem.W.Frag} (h : H a = some (.tup xs)) : SqT K H a xs := .inl (.inl h)
theorem Inv.list (I : Inv X pins σ H s) (h : SqL X.K H a xs) : ∃ its : List Value, Vals xs its ∧ PlainL s.heap a its.toArray ∧ xs.length ≤ sizeLine := by
 rcases h with h | ⟨o, its, n, hk, hc, hd, hs, hz, r⟩
 · obtain ⟨z, its, n, r, e⟩ := h.ok I.hok
   exact ⟨its, r, ⟨_, n, e, rfl, rfl, rfl⟩, z⟩
 · refine ⟨its.toList, r, ⟨o, n, I.kIn a o hk, hc, hd, by simpa using hs⟩, ?_⟩
   have e := r.length
   simp only [Array.length_toList] at e
   lia
theorem Inv.tuple (I : Inv X pins σ H s) (h : SqT X.K H a xs) : ∃ its : List Value, Vals xs its ∧ IsTup s.heap a its.toArray ∧ xs.length ≤ sizeLine := by
 rcases h with h | ⟨o, its, n, hk, hc, hd, hs, hz, r⟩
 · obtain ⟨z, its, r, p⟩ := h.ok I.hok
   exact ⟨its, r, p.t, z⟩
 · refine ⟨its.toList, r, ⟨o, I.kIn a o hk, hc, n, by simpa using hs⟩, ?_⟩
   have e := r.length
   simp only [Array.length_toList] at e
   lia
theorem Inv.tuple0 (I : Inv X pins σ H s) (h : SqT X.K H a xs) : ∃ its : List Value, Vals xs its ∧ IsTup0 s.heap a its.toArray ∧ xs.length ≤ sizeLine := by
 rcases h with h | ⟨o, its, n, hk, hc, hd, hs, hz, r⟩
 · obtain ⟨z, its, r, p⟩ := h.ok I.hok
   exact ⟨its, r, p, z⟩
 · refine ⟨its.toList, r, ⟨o, I.kIn a o hk, hc, hd, n, by simpa using hs⟩, ?_⟩
   have e := r.length
   simp only [Array.length_toList] at e
   lia
theorem Inv.list_inj (I : Inv X pins σ H s) (h : SqL X.K H a xs) (h' : SqL X.K H a ys) : xs = ys := by
 obtain ⟨its, r, ⟨o, n, e, _, _, d⟩, _⟩ := I.list h
 obtain ⟨its', r', ⟨o', n', e', _, _, d'⟩, _⟩ := I.list h'
 rw [e] at e'; cases e'
 rw [d] at d'
 injection d' with d1 _
 have : its = its' := by simpa using congrArg Array.toList d1
 subst this
 exact r.inj r'
theorem Inv.tuple_inj (I : Inv X pins σ H s) (h : SqT X.K H a xs) (h' : SqT X.K H a ys) : xs = ys := by
 obtain ⟨its, r, ⟨o, e, _, n, d⟩, _⟩ := I.tuple h
 obtain ⟨its', r', ⟨o', e', _, n', d'⟩, _⟩ := I.tuple h'
 rw [e] at e'; cases e'
 rw [d] at d'
 injection d' with d1 _
 have : its = its' := by simpa using congrArg Array.toList d1
 subst this
 exact r.inj r'
end
noncomputable abbrev Cx.wish (X : Cx) (E : Value → Shared → Prop) : Cx := { X with xe := E }
noncomputable abbrev Cx.nox (X : Cx) : Cx := X.wish fun _ _ => False
theorem Cx.Ok.wish {X : Cx} (ok : X.Ok) (E : Value → Shared → Prop) : (X.wish E).Ok :=
 ⟨ok.mod, ok.kind, ok.glob, ok.blt, ok.above, ok.inj, ok.has, ok.cab, ok.hd, ok.frames, ok.stk, ok.exf, ok.bs, ok.bsz, ok.noex, ok.exfs, ok.funs, ok.frf⟩
theorem Cx.Ok.unwish {X : Cx} {E : Value → Shared → Prop} (ok : (X.wish E).Ok) : X.Ok :=
 ⟨ok.mod, ok.kind, ok.glob, ok.blt, ok.above, ok.inj, ok.has, ok.cab, ok.hd, ok.frames, ok.stk, ok.exf, ok.bs, ok.bsz, ok.noex, ok.exfs, ok.funs, ok.frf⟩
section
variable {X : Cx} {pins : List (Addr × Obj)} {σ : St} {H : Hp} {s : Shared} {E : Value → Shared → Prop}
theorem Inv.wish (I : Inv X pins σ H s) (E : Value → Shared → Prop) : Inv (X.wish E) pins σ H s := ⟨I.ok.wish E, I.os, I.bare, I.base, I.loc, I.cell, I.free, I.freeC, I.pin, I.hok, I.len⟩
theorem Inv.unwish (I : Inv (X.wish E) pins σ H s) : Inv X pins σ H s := ⟨I.ok.unwish, I.os, I.bare, I.base, I.loc, I.cell, I.free, I.freeC, I.pin, I.hok, I.len⟩
theorem SP.unwish {D : Ends} {f : Flow} {s' : Shared} (h : SP (X.wish E) pins D f s') : SP X pins D f s' := by
 cases f with
 | next => obtain ⟨σ', H', I, q⟩ := h; exact ⟨σ', H', I.unwish, q⟩
 | brk => obtain ⟨σ', H', I, q⟩ := h; exact ⟨σ', H', I.unwish, q⟩
 | cont => obtain ⟨σ', H', I, q⟩ := h; exact ⟨σ', H', I.unwish, q⟩
 | ret u => obtain ⟨v, σ', H', I, r, q⟩ := h; exact ⟨v, σ', H', I.unwish, r, q⟩
theorem PSs.nox {st : List Stmt} {t : TS} (h : PSs X.nox st t) : PSs X st t := fun pins s σ H D I hw =>
 wpAny_mono (h pins s σ H D (I.wish _) hw) (fun _ _ q => q.unwish) fun _ _ z => False.elim z
end
section
variable {X : Cx} {st : Stmt} {rest : List Stmt} {t u : TS} {e : Expr} {te : TE} {pos : Pos}
noncomputable def tNext : TS := fun D σ H => D.nx σ H
noncomputable def tSeq (t u : TS) : TS := fun D σ H => t { D with nx := u D } σ H
theorem pss_nil : PSs X [] tNext := fun _ _ σ H _ I h => wpAny_execs_nil ⟨σ, H, I, h⟩
theorem pss_cons (h1 : PS X st t) (h2 : PSs X rest u) : PSs X (st :: rest) (tSeq t u) := by
 intro pins s σ H D I h
 refine wpAny_execs_cons (thn (h1 pins s σ H { D with nx := u D } I h) fun f s1 q => ?_)
 cases f with
 | next =>
   obtain ⟨σ', H', I', q⟩ := q
   exact h2 pins s1 σ' H' D I' q
 | ret v => exact q
 | brk => exact q
 | cont => exact q
theorem pss_one (h1 : PS X st t) : PSs X [st] t := by
 intro pins s σ H D I h
 refine wpAny_execs_cons (thn (h1 pins s σ H D I h) fun f s1 q => ?_)
 cases f with
 | next => exact wpAny_execs_nil q
 | ret v => exact q
 | brk => exact q
 | cont => exact q
noncomputable def tBreak : TS := fun D σ H => D.bk σ H
theorem ps_break : PS X (.Break pos) tBreak := fun _ _ σ H _ I h => wpAny_Break ⟨σ, H, I, h⟩
theorem Inv.quiet {pins : List (Addr × Obj)} {σ : St} {H : Hp} {s : Shared} (I : Inv X pins σ H s) : interactive X.env = false := by simp [interactive, I.ok.kind]
noncomputable def tDrop (te : TE) : TS := fun D σ H => te σ H fun _ H1 => D.nx σ H1
theorem ps_expr (he : PE X e te) (hs : swapsWith e none pos.line X.env = pure false := by rfl) : PS X (.Expr e pos) (tDrop te) := by
 intro pins s σ H D I h
 exact wpAny_Expr_any (thn (he pins s σ H _ I h) fun v s1 ⟨x, H1, I1, r1, q1⟩ => ⟨σ, H1, I1, q1⟩) I.quiet hs
noncomputable def tRet (te : TE) : TS := fun D σ H => te σ H D.rt
theorem ps_ret (he : PE X e te) : PS X (.Return (some e) pos) (tRet te) := by
 intro pins s σ H D I h
 exact wpAny_Return_some (thn (he pins s σ H _ I h) fun v s1 ⟨x, H1, I1, r1, q1⟩ => ⟨x, σ, H1, I1, r1, q1⟩)
noncomputable def tIfS (c : TT) (t u : TS) : TS := fun D σ H => c σ H fun b H1 => if b = true then t D σ H1 else u D σ H1
theorem ps_if {c : Expr} {a b : List Stmt} {tc : TT} (hc : PT X c tc) (ha : PSs X a t) (hb : PSs X b u) : PS X (.If c a b pos) (tIfS tc t u) := by
 intro pins s σ H D I h
 refine wpAny_If (thn (hc pins s σ H _ I h) fun d s1 ⟨H1, I1, q1⟩ => ?_)
 cases d with
 | true => exact ha pins s1 σ H1 D I1 q1
 | false => exact hb pins s1 σ H1 D I1 q1
end
noncomputable abbrev TG := V → St → Hp → (St → Hp → Prop) → Prop
noncomputable abbrev TGs := List V → St → Hp → (St → Hp → Prop) → Prop
noncomputable def PG (X : Cx) (target : Expr) (t : TG) : Prop :=
 ∀ (pins : List (Addr × Obj)) (s : Shared) (σ : St) (H : Hp) (v : V) (u : Value) (Q : St → Hp → Prop), Inv X pins σ H s → RelV v u → t v σ H Q →
   wpAny (model X.prog X.w) X.A (assign target X.env u) (fun _ s' => ∃ σ' H', Inv X pins σ' H' s' ∧ Q σ' H') X.xe s
noncomputable def PGs (X : Cx) (ts : List Expr) (t : TGs) : Prop :=
 ∀ (pins : List (Addr × Obj)) (s : Shared) (σ : St) (H : Hp) (vs : List V) (us : List Value) (Q : St → Hp → Prop), Inv X pins σ H s → Vals vs us → t vs σ H Q →
   wpAny (model X.prog X.w) X.A (assignInOrder ((assignEach ts X.env).map (·.2)) us) (fun _ s' => ∃ σ' H', Inv X pins σ' H' s' ∧ Q σ' H') X.xe s
noncomputable abbrev TSet := V → V → V → Hp → (Hp → Prop) → Prop
noncomputable def PSet (X : Cx) (t : TSet) : Prop :=
 ∀ (pins : List (Addr × Obj)) (s : Shared) (σ : St) (H : Hp) (o i v : V) (ov iv u : Value) (Q : Hp → Prop), Inv X pins σ H s → RelV o ov → RelV i iv → RelV v u → t o i v H Q →
   wpAny (model X.prog X.w) X.A (setItem ov iv u) (fun _ s' => ∃ H', Inv X pins σ H' s' ∧ Q H') X.xe s
noncomputable abbrev TIp := V → V → Hp → VK → Prop
noncomputable def PIp (X : Cx) (op : Operator) (t : TIp) : Prop :=
 ∀ (pins : List (Addr × Obj)) (s : Shared) (σ : St) (H : Hp) (x y : V) (v u : Value) (Q : VK), Inv X pins σ H s → RelV x v → RelV y u → t x y H Q →
   wpAny (model X.prog X.w) X.A (inplaceOp op v u) (EP X pins σ Q) X.xe s
section
variable {X : Cx} {pos : Pos}
noncomputable def gName (i : Nat) : TG := fun v σ H Q => Q (σ.set i (some v)) H
theorem pg_name {i : Nat} {x : Str} (hN : X.N.Nodup) (hi : X.N[i]? = some x) (hx : Loc X.env.scope x) (hf : X.fn x = true ∨ X.env.scope.names.lookup x = some .local := by first | exact .inl rfl | exact .inr rfl | assumption) : PG X (.Name x pos) (gName i) := by
 intro pins s σ H v u Q I r h
 exact wpAny_assign_Name (store_ok I hN hi hx r (fun s' I' => ⟨_, H, I', h⟩) hf)
noncomputable def gNil : TGs := fun vs σ H Q => vs = [] ∧ Q σ H
noncomputable def gCons (t : TG) (u : TGs) : TGs := fun vs σ H Q => ∃ v r, vs = v :: r ∧ t v σ H fun σ' H' => u r σ' H' Q
theorem pgs_nil : PGs X [] gNil := by
 intro pins s σ H vs us Q I r h
 obtain ⟨e, h⟩ := h
 subst e
 cases r
 exact assignInOrder_nil ⟨σ, H, I, h⟩
theorem pgs_cons {e : Expr} {es : List Expr} {t : TG} {u : TGs} (h1 : PG X e t) (h2 : PGs X es u)
   (hs : (assignEach (e :: es) X.env).map (·.2) = assign e X.env :: (assignEach es X.env).map (·.2) := by rfl) : PGs X (e :: es) (gCons t u) := by
 intro pins s σ H vs us Q I r h
 obtain ⟨v, vr, e1, h⟩ := h
 subst e1
 cases r with
 | cons r rr =>
   rw [hs]
   refine assignInOrder_cons (thn (h1 pins s σ H _ _ _ I r h) fun _ s1 ⟨σ1, H1, I1, q1⟩ => ?_)
   exact h2 pins s1 σ1 H1 _ _ Q I1 rr q1
noncomputable def gTup (K : PySem.W.Frag) (n : Nat) (t : TGs) : TG := fun v σ H Q => ∃ a xs, v = .ref a ∧ SqT K H a xs ∧ xs.length = n ∧ t xs σ H Q
theorem pg_tup {es : List Expr} {k : Nat} {t : TGs} {n : Nat} (hc : X.calm = true) (h : PGs X es t)
   (hn : (assignEach es X.env).length = n := by rfl) (hst : (assignEach es X.env).findIdx? (·.1) = none := by rfl) : PG X (.Tuple es k pos) (gTup X.K n t) := by
 intro pins s σ H v u Q I r hw
 obtain ⟨a, xs, e1, hq, hl, hw⟩ := hw
 subst e1
 cases r
 obtain ⟨its, rv, ht, hz⟩ := I.tuple hq
 refine assign_Tuple_tuple (I.ok.hd hc) ht (by simp [hn, ← hl, rv.length]) hst fun h' hx => ?_
 have I1 : Inv X pins σ H { s with heap := h' } := I.kept (t' := s.toks) fun b o e => hx b o (Nat.ne_of_lt (Heap.lt_size e)) e
 exact h pins _ σ H xs _ Q I1 (by simpa using rv) hw
noncomputable def gSub (to ti : TE) (t : TSet) : TG := fun v σ H Q => to σ H fun o H1 => ti σ H1 fun i H2 => t o i v H2 fun H3 => Q σ H3
theorem pg_sub {o i : Expr} {to ti : TE} {t : TSet} (ho : PE X o to) (hi : PE X i ti) (hs : PSet X t)
   (ha : ∀ v, assign (.Subscript o i pos) X.env v = (do
     let ov ← holding [v] (eval o X.env)
     let iv ← holding [v, ov] (eval i X.env)
     standAt pos
     holding [v, ov, iv] (setItem ov iv v)
     release [v, ov, iv] []) := by intro _; rfl) : PG X (.Subscript o i pos) (gSub to ti t) := by
 intro pins s σ H v u Q I r h
 rw [ha]
 refine wpAny_bind (wpAny_holding (thn (ho pins s σ H _ I h) fun ov s1 ⟨x, H1, I1, r1, q1⟩ => ?_))
 refine wpAny_bind (wpAny_holding (thn (hi pins s1 σ H1 _ I1 q1) fun iv s2 ⟨y, H2, I2, r2, q2⟩ => ?_))
 refine wpAny_bind (wpAny_standAt (wpAny_bind (wpAny_holding (thn (hs pins s2 σ H2 x y v ov iv u _ I2 r1 r2 r q2) fun _ s3 ⟨H3, I3, q3⟩ => ?_))))
 exact wpAny_release ⟨σ, H3, I3, q3⟩
noncomputable def tAsg (te : TE) (g : TG) : TS := fun D σ H => te σ H fun x H1 => g x σ H1 D.nx
theorem ps_asg {tg e : Expr} {te : TE} {g : TG} (he : PE X e te) (hg : PG X tg g) (hs : swapsWithSole [tg] e pos.line X.env = pure false := by rfl) (hw : swappedStores [tg] e X.env = pure none := by rfl)
   (h1 : (assignEach [tg] X.env).map (·.2) = [assign tg X.env] := by rfl) : PS X (.Assign [tg] e pos) (tAsg te g) := by
 intro pins s σ H D I h
 refine wpAny_Assign_stores (thn (he pins s σ H _ I h) fun v s1 ⟨x, H1, I1, r1, q1⟩ => ?_) hs hw
 rw [h1]
 exact thn (hg pins s1 σ H1 x v _ I1 r1 q1) fun _ s2 q => q
theorem ps_set {i : Nat} {x : Str} {e : Expr} {te : TE} {pos' : Pos} (hN : X.N.Nodup) (hi : X.N[i]? = some x) (hx : Loc X.env.scope x) (he : PE X e te) (hs : swapsWith e (some (.Name x pos')) pos.line X.env = pure false := by rfl) (hf : X.fn x = true ∨ X.env.scope.names.lookup x = some .local := by first | exact .inl rfl | exact .inr rfl | assumption) :
   PS X (.Assign [.Name x pos'] e pos) (tAsg te (gName i)) := by
 intro pins s σ H D I h
 refine wpAny_Assign_Name (thn (he pins s σ H _ I h) fun v s1 ⟨y, H1, I1, r1, q1⟩ => ?_) hs
 exact store_ok I1 hN hi hx r1 (fun s2 I2 => ⟨_, H1, I2, q1⟩) hf
noncomputable def tAug (i : Nat) (te : TE) (ti : TIp) : TS := fun D σ H => ∃ x, σ[i]? = some (some x) ∧ te σ H fun y H1 => ti x y H1 fun z H2 => D.nx (σ.set i (some z)) H2
theorem ps_aug {i : Nat} {x : Str} {e : Expr} {te : TE} {op : Operator} {ti : TIp} {pos' : Pos} (hN : X.N.Nodup) (hi : X.N[i]? = some x) (hx : Loc X.env.scope x) (he : PE X e te) (ho : PIp X op ti) (hf : X.fn x = true ∨ X.env.scope.names.lookup x = some .local := by first | exact .inl rfl | exact .inr rfl | assumption) :
   PS X (.AugAssign (.Name x pos') op e pos) (tAug i te ti) := by
 intro pins s σ H D I h
 obtain ⟨v, e1, h⟩ := h
 obtain ⟨m, hn, hl⟩ := I.loc
 have vis : Vis X.env.scope x := by rcases hx with k | k; exact .inl k; exact .inr (.inl k)
 obtain ⟨u, r, l⟩ := hl i x v hi e1 vis
 refine wpAny_AugAssign_Name ?_
 have go : wpAny (model X.prog X.w) X.A (eval e X.env) (fun w s₂ => wpAny (model X.prog X.w) X.A (inplaceOp op u w) (fun r s₃ => wpAny (model X.prog X.w) X.A (storeName X.env x r) (fun _ => SP X pins D .next) X.xe s₃) X.xe s₂) X.xe s := by
   refine thn (he pins s σ H _ I h) fun w s1 ⟨y, H1, I1, r1, q1⟩ => ?_
   refine thn (ho pins s1 σ H1 v y u w _ I1 r r1 q1) fun z s2 ⟨zv, H2, I2, r2, q2⟩ => ?_
   exact store_ok I2 hN hi hx r2 (fun s3 I3 => ⟨_, H2, I3, q2⟩) hf
 rcases l with ⟨hk, hm⟩ | ⟨hk, c, hc, hcell⟩
 · exact wpAny_loadName_local I.ok.kind hk hn hm go
 · rcases hk with hk | hk
   · exact wpAny_loadName_cell I.ok.kind hk hc hcell go
   · rcases hx with k | k
     · have : X.env.scope.names.lookup x = some .free := hk
       rw [k] at this; cases this
     · have : X.env.scope.names.lookup x = some .free := hk
       rw [k] at this; cases this
noncomputable def ipI (f : Int → Int → Int) : TIp := fun x y H Q => ∃ i j, x = .int i ∧ y = .int j ∧ Q (.int (f i j)) H
theorem ip_add : PIp X .Add (ipI fun i j => i + j) := by
 intro pins s σ H x y v u Q I r1 r2 h
 obtain ⟨i, j, e1, e2, q⟩ := h
 subst e1; subst e2
 obtain ⟨t, rfl⟩ := r1
 obtain ⟨t', rfl⟩ := r2
 exact iadd_int ⟨.int _, H, I.tok _, ⟨_, rfl⟩, q⟩
theorem ip_sub : PIp X .Sub (ipI fun i j => i - j) := by
 intro pins s σ H x y v u Q I r1 r2 h
 obtain ⟨i, j, e1, e2, q⟩ := h
 subst e1; subst e2
 obtain ⟨t, rfl⟩ := r1
 obtain ⟨t', rfl⟩ := r2
 exact isub_int ⟨.int _, H, I.tok _, ⟨_, rfl⟩, q⟩
end
section
variable {X : Cx} {pos : Pos}
end
structure It where
 go : Nat → Hp → Prop
 yld : Nat → Hp → V → Hp → Prop
 stop : Nat → Hp → Prop
noncomputable def FpOk (X : Cx) (pins : List (Addr × Obj)) (H : Hp) (b : Addr) : Prop :=
 H b = none ∧ b ≠ X.env.locals ∧ b ∉ X.fs ∧ (b ∈ X.ex ∨ X.s₀.heap.objs.size ≤ b) ∧ (∀ x c, X.env.cells.lookup x = some c → c ≠ b) ∧ ∀ p ∈ X.pn ++ pins, p.1 ≠ b
theorem Inv.fpOk {X : Cx} {pins : List (Addr × Obj)} {σ : St} {H H' : Hp} {s : Shared} {b : Addr} (I : Inv X pins σ H s) (hb : s.heap.objs.size ≤ b) (hn : H' b = none) : FpOk X pins H' b := by
 refine ⟨hn, Nat.ne_of_gt (Nat.lt_of_lt_of_le I.lt hb), I.nofs hb, .inr (Nat.le_trans I.sz hb), fun x c e z => ?_, fun p hp z => ?_⟩
 · obtain ⟨v, q⟩ := I.cell x c e
   exact absurd (Nat.lt_of_lt_of_le q.lt (by rw [z]; exact hb)) (Nat.lt_irrefl _)
 · exact absurd (Nat.lt_of_lt_of_le (Heap.lt_size (I.pin p hp).1) (by rw [z]; exact hb)) (Nat.lt_irrefl _)
structure Turn (P : Program) (w : World) (K : PySem.W.Frag) (tg : Expr) (J : It) (fp : List Addr) (it : Addr) (tn : Nat → Heap → Prop) : Prop where
 mem : it ∈ fp
 obj : ∀ i h, tn i h → ∀ b ∈ fp, ∃ o, h.get? b = some o ∧ ∀ v, o.data ≠ .cell v
 keep : ∀ i h h', tn i h → (∀ b ∈ fp, ∀ o, h.get? b = some o → h'.get? b = some o) → tn i h'
 item : ∀ (X : Cx), X.prog = P → X.w = w → X.K = K → X.calm = true → ∀ (i : Nat) (pins : List (Addr × Obj)) (s : Shared) (σ : St) (H : Hp) (E : Value → Shared → Prop), Inv X pins σ H s → (∀ b ∈ fp, FpOk X pins H b) → tn i s.heap → J.go i H →
   wpAny (model P w) X.A (pyNext (.ref it)) (fun r s1 => ∃ u, r = some u ∧
     wpAny (model P w) X.A (letOwnedTupleGo tg (.ref it) u) (fun _ s2 => ∃ x H', Inv X pins σ H' s2 ∧ RelV x u ∧ J.yld i H x H' ∧ tn (i + 1) s2.heap ∧ ∀ b ∈ fp, H' b = none) E s1) E s
 done : ∀ (X : Cx), X.prog = P → X.w = w → X.K = K → X.calm = true → ∀ (i : Nat) (pins : List (Addr × Obj)) (s : Shared) (σ : St) (H : Hp) (E : Value → Shared → Prop), Inv X pins σ H s → (∀ b ∈ fp, FpOk X pins H b) → tn i s.heap → J.stop i H →
   wpAny (model P w) X.A (pyNext (.ref it)) (fun r s1 => r = none ∧ Inv X pins σ H s1) E s
 self : ∀ (A : Around) (i : Nat) (s : Shared) (Q : Value → Shared → Prop) (E : Value → Shared → Prop), tn i s.heap → Q (.ref it) s → wpAny (model P w) A (pyIter (.ref it)) Q E s
noncomputable abbrev TI := St → Hp → (It → Hp → Prop) → Prop
noncomputable def PIE (X : Cx) (pins : List (Addr × Obj)) (σ : St) (tg : Expr) (R : It → Hp → Prop) (itv : Value) (s2 : Shared) : Prop :=
 ∃ (it : Addr) (fp : List Addr) (tn : Nat → Heap → Prop) (J : It) (H' : Hp), itv = .ref it ∧ Inv X pins σ H' s2 ∧ Turn X.prog X.w X.K tg J fp it tn ∧ tn 0 s2.heap ∧ (∀ b ∈ fp, FpOk X pins H' b) ∧ R J H'
noncomputable def PI (X : Cx) (tg iter : Expr) (wi : TI) : Prop :=
 ∀ (pins : List (Addr × Obj)) (s : Shared) (σ : St) (H : Hp) (R : It → Hp → Prop), Inv X pins σ H s → wi σ H R →
   wpAny (model X.prog X.w) X.A (eval iter X.env) (fun v s1 => wpAny (model X.prog X.w) X.A (pyIter v) (PIE X pins σ tg R) X.xe s1) X.xe s
theorem go_of {M : Model} {A : Around} {E : Value → Shared → Prop} {s : Shared} {tg : Expr} {it : Addr} {u : Value} {o : Obj} {n : String} {vs : Array Value} {Q : Unit → Shared → Prop} (ho : s.heap.get? it = some o) (hc : o.cls = .type n) (hd : o.data = .fields vs)
   (hn : ["enumerate", "zip", "dict_itemiterator", "dict_reverseitemiterator", "odict_iterator", "itertools.zip_longest", "itertools.pairwise"].contains n = false) (hQ : Q () s) : wpAny M A (letOwnedTupleGo tg (.ref it) u) Q E s := by
 unfold letOwnedTupleGo
 cases tg <;> first
   | exact wpAny_pure hQ
   | (cases u <;> first
       | exact wpAny_pure hQ
       | (refine wpAny_bind (wpAny_load ho ?_)
          rw [hc, hd]
          show wpAny M A (if (["enumerate", "zip", "dict_itemiterator", "dict_reverseitemiterator", "odict_iterator", "itertools.zip_longest", "itertools.pairwise"].contains n && vs[0]? == some (rawInt _)) = true then _ else _) Q E s
          rw [if_neg (by intro h; rw [hn, Bool.false_and] at h; cases h)]
          exact wpAny_pure hQ))
noncomputable def Itl (K : PySem.W.Frag) (a : Addr) : It :=
 ⟨fun i H => ∃ xs x, SqL K H a xs ∧ xs[i]? = some x, fun i H x H' => H' = H ∧ ∀ xs, SqL K H a xs → xs[i]? = some x, fun i H => ∃ xs, SqL K H a xs ∧ xs.length ≤ i⟩
noncomputable def Itt (K : PySem.W.Frag) (a : Addr) : It :=
 ⟨fun i H => ∃ xs x, SqT K H a xs ∧ xs[i]? = some x, fun i H x H' => H' = H ∧ ∀ xs, SqT K H a xs → xs[i]? = some x, fun i H => ∃ xs, SqT K H a xs ∧ xs.length ≤ i⟩
noncomputable def Itr (lo : Int) (n : Nat) : It := ⟨fun i _ => i < n, fun i H x H' => H' = H ∧ x = .int (lo + i), fun i _ => n ≤ i⟩
theorem turn_list {P : Program} {w : World} {K : PySem.W.Frag} {tg : Expr} (a it : Addr) : Turn P w K tg (Itl K a) [it] it (fun i h => h.IsListIter it a i) where
 mem := by simp
 obj := fun i h st b hb => by
   have e : b = it := by simpa using hb
   subst e
   obtain ⟨o, e, c, d⟩ := st
   exact ⟨o, e, fun v z => by rw [d] at z; cases z⟩
 keep := fun i h h' st k => st.at fun o e => k it (by simp) o e
 item := by
   intro X hP hw hK hc i pins s σ H E I hf st hg
   subst hP hw hK
   obtain ⟨xs, x, hq, hx⟩ := hg
   obtain ⟨its, rv, p, hz⟩ := I.list hq
   obtain ⟨u, hu, ru⟩ := rv.get hx
   obtain ⟨f0, f1, f2, f3, f4, f5⟩ := hf it (by simp)
   refine wpAny_pyNext_list_item st p.isList (x := u) (by simpa using hu) fun h' st' sb => ?_
   have I1 : Inv X pins σ H { s with heap := h' } := I.turned (t' := s.toks) (fun b o hb e => (sb.2 b hb).trans e) f0 f1 f3 f4 f5
   obtain ⟨o, e, c, d⟩ := id st'
   exact ⟨u, rfl, go_of (s := { s with heap := h' }) e c d (by decide) ⟨x, H, I1, ru, ⟨rfl, fun ys hy => by rw [I.list_inj hy hq]; exact hx⟩, st', fun b hb => (hf b hb).1⟩⟩
 done := by
   intro X hP hw hK hc i pins s σ H E I hf st hg
   subst hP hw hK
   obtain ⟨xs, hq, hx⟩ := hg
   obtain ⟨its, rv, p, hz⟩ := I.list hq
   obtain ⟨f0, f1, f2, f3, f4, f5⟩ := hf it (by simp)
   have hl := rv.length
   exact wpAny_pyNext_list_end (I.ok.hd hc) st p.isList (by simp; lia) fun h' eb => ⟨rfl, I.turned (t' := s.toks) (fun b o hb e => eb b o hb e) f0 f1 f3 f4 f5⟩
 self := fun _ _ _ _ _ st h => wpAny_pyIter_listiter st h
theorem turn_tuple {P : Program} {w : World} {K : PySem.W.Frag} {tg : Expr} (a it : Addr) : Turn P w K tg (Itt K a) [it] it (fun i h => h.IsTupleIter it a i) where
 mem := by simp
 obj := fun i h st b hb => by
   have e : b = it := by simpa using hb
   subst e
   obtain ⟨o, e, c, d⟩ := st
   exact ⟨o, e, fun v z => by rw [d] at z; cases z⟩
 keep := fun i h h' st k => st.at fun o e => k it (by simp) o e
 item := by
   intro X hP hw hK hc i pins s σ H E I hf st hg
   subst hP hw hK
   obtain ⟨xs, x, hq, hx⟩ := hg
   obtain ⟨its, rv, p, hz⟩ := I.tuple hq
   obtain ⟨u, hu, ru⟩ := rv.get hx
   obtain ⟨f0, f1, f2, f3, f4, f5⟩ := hf it (by simp)
   refine wpAny_pyNext_tuple_item st (show s.heap.IsTuple a its.toArray from p) (x := u) (by simpa using hu) fun h' st' sb => ?_
   have I1 : Inv X pins σ H { s with heap := h' } := I.turned (t' := s.toks) (fun b o hb e => (sb.2 b hb).trans e) f0 f1 f3 f4 f5
   obtain ⟨o, e, c, d⟩ := id st'
   exact ⟨u, rfl, go_of (s := { s with heap := h' }) e c d (by decide) ⟨x, H, I1, ru, ⟨rfl, fun ys hy => by rw [I.tuple_inj hy hq]; exact hx⟩, st', fun b hb => (hf b hb).1⟩⟩
 done := by
   intro X hP hw hK hc i pins s σ H E I hf st hg
   subst hP hw hK
   obtain ⟨xs, hq, hx⟩ := hg
   obtain ⟨its, rv, p, hz⟩ := I.tuple hq
   obtain ⟨f0, f1, f2, f3, f4, f5⟩ := hf it (by simp)
   have hl := rv.length
   exact wpAny_pyNext_tuple_end (I.ok.hd hc) st (show s.heap.IsTuple a its.toArray from p) (by simp; lia) fun h' eb => ⟨rfl, I.turned (t' := s.toks) (fun b o hb e => eb b o hb e) f0 f1 f3 f4 f5⟩
 self := fun _ _ _ _ _ st h => wpAny_pyIter_tupleiter st h
theorem turn_range {P : Program} {w : World} {K : PySem.W.Frag} {tg : Expr} (it : Addr) (lo : Int) (n : Nat) : Turn P w K tg (Itr lo n) [it] it (fun i h => IsRangeIter h it (lo + (i : Nat) * 1) ((n : Int) - (i : Nat)) 1) where
 mem := by simp
 obj := fun i h st b hb => by
   have e : b = it := by simpa using hb
   subst e
   exact ⟨_, st, fun v z => by
     have z' : Data.fields _ = Data.cell v := z
     cases z'⟩
 keep := fun i h h' st k => k it (by simp) _ st
 item := by
   intro X hP hw hK hc i pins s σ H E I hf st hg
   subst hP hw hK
   obtain ⟨f0, f1, f2, f3, f4, f5⟩ := hf it (by simp)
   have W := Walks.range (prog := X.prog) (w := X.w) (I.ok.hd hc) it lo 1 n
   refine W.item i s _ _ hg st fun v h' tk hv st' kk => ?_
   obtain ⟨t, rfl⟩ := hv
   have I1 : Inv X pins σ H { s with heap := h', toks := tk } := I.turned (fun b o hb e => kk b o (by simpa using hb) e) f0 f1 f3 f4 f5
   refine ⟨_, rfl, go_of (s := { s with heap := h', toks := tk }) (n := "range_iterator") st' rfl rfl (by decide) ⟨.int (lo + i), H, I1, ⟨t, ?_⟩, ⟨rfl, rfl⟩, st', fun b hb => (hf b hb).1⟩⟩
   rw [Int.mul_one]
 done := by
   intro X hP hw hK hc i pins s σ H E I hf st hg
   subst hP hw hK
   obtain ⟨f0, f1, f2, f3, f4, f5⟩ := hf it (by simp)
   exact wpAny_pyNext_range_end (I.ok.hd hc) st (by have : n ≤ i := hg; lia) fun h' eb => ⟨rfl, I.turned (t' := s.toks) (fun b o hb e => eb b o hb e) f0 f1 f3 f4 f5⟩
 self := fun _ _ _ _ _ st h => wpAny_pyIter_rangeiter st h
end L2
namespace L2
open PySem PySem.Spec PyProof.Rows
section
variable {X : Cx} {tg : Expr}
theorem range_it {pins : List (Addr × Obj)} {σ : St} {H : Hp} {s : Shared} {R : It → Hp → Prop} {E : Value → Shared → Prop} {lo hi : Int} {t u v : Tok} {tk : Nat} (I : Inv X pins σ H s) (h1 : -(2 ^ 62) ≤ lo) (h2 : lo < 2 ^ 62) (h3 : -(2 ^ 62) ≤ hi) (h4 : hi < 2 ^ 62)
   (q : R (Itr lo (hi - lo).toNat) H) : wpAny (model X.prog X.w) X.A (pyIter (.ref s.heap.objs.size)) (PIE X pins σ tg R) E { s with heap := s.heap.push { cls := .type "range", data := .fields #[.int lo t, .int hi u, .int 1 v] }, toks := tk } := by
 refine wpAny_pyIter_range (IsRange.new ..) (small_one h1 h2 h3 h4) ?_
 have I1 : Inv X pins σ H { s with heap := s.heap.push { cls := .type "range", data := .fields #[.int lo t, .int hi u, .int 1 v] }, toks := tk } := I.kept fun b o e => Heap.get?_push_of_some _ e
 refine ⟨(s.heap.push { cls := .type "range", data := .fields #[.int lo t, .int hi u, .int 1 v] }).objs.size, [(s.heap.push { cls := .type "range", data := .fields #[.int lo t, .int hi u, .int 1 v] }).objs.size], _, _, H, rfl,
   I1.kept (t' := tk) fun b o e => Heap.get?_push_of_some _ e, turn_range _ lo (hi - lo).toNat, ?_, fun b hb => ?_, q⟩
 · have e1 : lo + ((0 : Nat) : Int) * 1 = lo := by simp
   have e2 : (((hi - lo).toNat : Nat) : Int) - ((0 : Nat) : Int) = Builtin.Range.rangeSize lo hi 1 := by rw [rangeSize_one]; split <;> lia
   show IsRangeIter _ _ (lo + ((0 : Nat) : Int) * 1) ((((hi - lo).toNat : Nat) : Int) - ((0 : Nat) : Int)) 1
   rw [e1, e2]
   exact Heap.get?_push_size _ rfl
 · have e : b = (s.heap.push { cls := .type "range", data := .fields #[.int lo t, .int hi u, .int 1 v] }).objs.size := by simpa using hb
   subst e
   exact I1.fpOk (Nat.le_refl _) (I1.hok.fresh (Nat.le_refl _))
noncomputable def iRng1 (ta : TA) : TI := fun σ H R => ta σ H fun vs H1 => ∃ j : Int, vs = [.int j] ∧ -(2 ^ 62) ≤ j ∧ j < 2 ^ 62 ∧ R (Itr 0 j.toNat) H1
noncomputable def iRng2 (ta : TA) : TI := fun σ H R => ta σ H fun vs H1 => ∃ i j : Int, vs = [.int i, .int j] ∧ (-(2 ^ 62) ≤ i ∧ i < 2 ^ 62 ∧ -(2 ^ 62) ≤ j ∧ j < 2 ^ 62) ∧ R (Itr i (j - i).toNat) H1
theorem pi_range1 {a : Expr} {ta : TA} {p pos : Pos} (hg : Gl X "range") (hm : X.mg "range" = none) (ha : PA X [a] ta) (hs : starEach [a] X.env = [(false, eval a X.env)] := by rfl) : PI X tg (.Call (.Name "range" p) [a] [] pos) (iRng1 ta) := by
 intro pins s σ H R I h
 refine Call_ (ld_blt I hg hm boot_range (PyProof.Rows.callWith_type1 (thn (ha pos pins s σ H _ I h) fun us s1 ⟨vs, H1, I1, r1, q1⟩ => ?_) hs rfl))
 obtain ⟨j, e, q1, q2, q⟩ := q1
 subst e
 cases r1 with
 | cons r rr =>
   cases rr
   obtain ⟨t, rfl⟩ := r
   exact call_range_1 (range_it I1 (by lia) (by lia) q1 q2 (by simpa using q))
theorem pi_range2 {a b : Expr} {ta : TA} {p pos : Pos} (hg : Gl X "range") (hm : X.mg "range" = none) (ha : PA X [a, b] ta) (hs : starEach [a, b] X.env = [(false, eval a X.env), (false, eval b X.env)] := by rfl) (hs2 : starEach [b] X.env = [(false, eval b X.env)] := by rfl) :
   PI X tg (.Call (.Name "range" p) [a, b] [] pos) (iRng2 ta) := by
 intro pins s σ H R I h
 refine Call_ (ld_blt I hg hm boot_range (PyProof.Rows.callWith_type1 (thn (ha pos pins s σ H _ I h) fun us s1 ⟨vs, H1, I1, r1, q1⟩ => ?_) (by rw [hs, hs2]) (by rw [hs2]; rfl)))
 obtain ⟨i, j, e, ⟨q1, q2, q3, q4⟩, q⟩ := q1
 subst e
 cases r1 with
 | cons r rr =>
   cases rr with
   | cons r' rr =>
     cases rr
     obtain ⟨t, rfl⟩ := r
     obtain ⟨t', rfl⟩ := r'
     exact call_range_2 (range_it I1 q1 q2 q3 q4 q)
noncomputable def tFor (wi : TI) (g : TG) (tb : TS) : TS := fun D σ H => wi σ H fun J H1 => ∃ W : Nat → Nat → St → Hp → Prop, (∃ m, W 0 m σ H1) ∧ ∀ i m σ H, W i m σ H →
 (J.stop i H ∧ D.nx σ H) ∨ (J.go i H ∧ ∃ N : St → Hp → Prop, (∀ σ' H', N σ' H' → ∃ m', m' < m ∧ W (i + 1) m' σ' H') ∧ ∀ x H', J.yld i H x H' → g x σ H' fun σ2 H2 => tb { D with nx := N, ct := N, bk := D.nx } σ2 H2)
noncomputable def pinsAt (fp : List Addr) (h : Heap) : List (Addr × Obj) := fp.filterMap fun b => (h.get? b).map fun o => (b, o)
theorem mem_pinsAt {fp : List Addr} {h : Heap} {b : Addr} {o : Obj} (hb : b ∈ fp) (e : h.get? b = some o) : (b, o) ∈ pinsAt fp h := List.mem_filterMap.mpr ⟨b, hb, by rw [e]; rfl⟩
theorem of_pinsAt {fp : List Addr} {h : Heap} {p : Addr × Obj} (hp : p ∈ pinsAt fp h) : p.1 ∈ fp ∧ h.get? p.1 = some p.2 := by
 obtain ⟨b, hb, e⟩ := List.mem_filterMap.mp hp
 cases q : h.get? b with
 | none => rw [q] at e; cases e
 | some o =>
   rw [q] at e
   have e' : (b, o) = p := Option.some.inj e
   subst e'
   exact ⟨hb, q⟩
theorem Inv.pinned {pins : List (Addr × Obj)} {σ : St} {H : Hp} {s : Shared} {fp : List Addr} (I : Inv X pins σ H s) (hf : ∀ b ∈ fp, FpOk X pins H b) (ho : ∀ b ∈ fp, ∃ o, s.heap.get? b = some o ∧ ∀ v, o.data ≠ .cell v) : Inv X (pins ++ pinsAt fp s.heap) σ H s :=
 I.pins_of fun p hp => (List.mem_append.mp hp).elim (fun z => I.pin p (List.mem_append_right _ z)) fun z => by
   obtain ⟨hb, e⟩ := of_pinsAt z
   obtain ⟨f0, f1, f2, _⟩ := hf p.1 hb
   obtain ⟨o, e', d⟩ := ho p.1 hb
   rw [e] at e'; cases e'
   exact ⟨e, f0, f1, f2, d⟩
theorem Inv.unpinned {pins pl : List (Addr × Obj)} {σ : St} {H : Hp} {s : Shared} (I : Inv X (pins ++ pl) σ H s) : Inv X pins σ H s := I.pins_of fun p hp => I.pin p (List.mem_append_right _ (List.mem_append_left _ hp))
theorem ps_for {iter : Expr} {body : List Stmt} {wi : TI} {g : TG} {tb : TS} {pos : Pos} (hp : PassesOwn (model X.prog X.w) X.A X.env X.xe) (hc : X.calm = true) (hi : PI X tg iter wi) (hg : PG X tg g) (hb : PSs X body tb)
   (hs : ∀ x, foldedSetIterable iter X.env x = pure x := by intro _; rfl) : PS X (.For tg iter body [] pos) (tFor wi g tb) := by
 intro pins s σ H D I h
 refine wpAny_For (thn (hi pins s σ H _ I h) fun v s1 h1 => thn h1 fun itv s2 h2 => ?_) hs
 obtain ⟨it, fp, tn, J, H2, e, I2, T, st2, f2, W, ⟨m0, w0⟩, turn⟩ := h2
 subst e
 -- what stays true of the iterator's objects through the loop
 have stat : ∀ {H' : Hp}, (∀ b ∈ fp, H' b = none) → ∀ b ∈ fp, FpOk X pins H' b := fun hn b hb => ⟨hn b hb, (f2 b hb).2⟩
 refine codeAny_forLoop_any (fun n s' => ∃ i σ' H', Inv X pins σ' H' s' ∧ tn i s'.heap ∧ (∀ b ∈ fp, H' b = none) ∧ W i n σ' H') ?_ m0 ⟨0, σ, H2, I2, st2, fun b hb => (f2 b hb).1, w0⟩
 rintro n s3 ⟨i, σ3, H3, I3, st3, fr3, w3⟩
 rcases turn i n σ3 H3 w3 with ⟨stop, qn⟩ | ⟨go, N, hN, step⟩
 · refine wpAny_passesOwn hp (thn (T.done X rfl rfl rfl hc i pins s3 σ3 H3 X.xe I3 (stat fr3) st3 stop) fun r s4 ⟨hr, I4⟩ => ?_)
   subst hr
   exact wpAny_execs_nil ⟨σ3, H3, I4, qn⟩
 · refine wpAny_passesOwn hp (thn (T.item X rfl rfl rfl hc i pins s3 σ3 H3 X.xe I3 (stat fr3) st3 go) fun r s4 ⟨u, hr, h4⟩ => ?_)
   subst hr
   refine wpAny_passesOwn hp (thn h4 fun _ s5 ⟨x, H5, I5, r5, y5, st5, fr5⟩ => ?_)
   have I5' := I5.pinned (stat fr5) (T.obj _ _ st5)
   refine wpAny_passesOwn hp (thn (hg _ s5 σ3 H5 x u _ I5' r5 (step x H5 y5)) fun _ s6 ⟨σ6, H6, I6, q6⟩ => ?_)
   refine wpAny_passesOwn hp (thn (hb _ s6 σ6 H6 _ I6 q6) fun f s7 q7 => ?_)
   have again : ∀ {σ7 : St} {H7 : Hp}, Inv X (pins ++ pinsAt fp s5.heap) σ7 H7 s7 → N σ7 H7 → ∃ m, m < n ∧ ∃ i σ' H', Inv X pins σ' H' s7 ∧ tn i s7.heap ∧ (∀ b ∈ fp, H' b = none) ∧ W i m σ' H' := fun {σ7 H7} I7 n7 => by
     obtain ⟨m', hm, w7⟩ := hN σ7 H7 n7
     refine ⟨m', hm, i + 1, σ7, H7, I7.unpinned, T.keep _ _ _ st5 fun b hb o e => (I7.pin (b, o) (List.mem_append_right _ (List.mem_append_right _ (mem_pinsAt hb e)))).1, fun b hb => ?_, w7⟩
     obtain ⟨o, e, d⟩ := T.obj _ _ st5 b hb
     exact (I7.pin (b, o) (List.mem_append_right _ (List.mem_append_right _ (mem_pinsAt hb e)))).2.1
   cases f with
   | next => obtain ⟨σ7, H7, I7, n7⟩ := q7; exact again I7 n7
   | cont => obtain ⟨σ7, H7, I7, n7⟩ := q7; exact again I7 n7
   | brk => obtain ⟨σ7, H7, I7, q7⟩ := q7; exact ⟨σ7, H7, I7.unpinned, q7⟩
   | ret v => obtain ⟨x7, σ7, H7, I7, r7, q7⟩ := q7; exact ⟨x7, σ7, H7, I7.unpinned, r7, q7⟩
end
end L2
namespace L2
open PySem PySem.Spec PyProof.Rows
noncomputable abbrev R2 := V → V → Hp → VK → Prop
noncomputable def OpR (X : Cx) (f : Value → Value → Sem Value) (r : R2) : Prop :=
 ∀ (pins : List (Addr × Obj)) (s : Shared) (σ : St) (H : Hp) (x y : V) (v u : Value) (Q : VK), Inv X pins σ H s → RelV x v → RelV y u → r x y H Q →
   wpAny (model X.prog X.w) X.A (f v u) (EP X pins σ Q) X.xe s
noncomputable def UnR (X : Cx) (f : Value → Sem Value) (r : V → Hp → VK → Prop) : Prop :=
 ∀ (pins : List (Addr × Obj)) (s : Shared) (σ : St) (H : Hp) (x : V) (v : Value) (Q : VK), Inv X pins σ H s → RelV x v → r x H Q →
   wpAny (model X.prog X.w) X.A (f v) (EP X pins σ Q) X.xe s
noncomputable def CallR (X : Cx) (f : Value) (r : List V → Hp → VK → Prop) : Prop :=
 ∀ (pins : List (Addr × Obj)) (s : Shared) (σ : St) (H : Hp) (xs : List V) (us : List Value) (Q : VK), Inv X pins σ H s → Vals xs us → r xs H Q →
   wpAny (model X.prog X.w) X.A (call f us) (EP X pins σ Q) X.xe s
noncomputable def TruR (X : Cx) (r : V → Hp → (Bool → Hp → Prop) → Prop) : Prop :=
 ∀ (pins : List (Addr × Obj)) (s : Shared) (σ : St) (H : Hp) (x : V) (v : Value) (Q : Bool → Hp → Prop), Inv X pins σ H s → RelV x v → r x H Q →
   wpAny (model X.prog X.w) X.A (truthy v) (TP X pins σ Q) X.xe s
noncomputable def tOp (r : R2) (ta tb : TE) : TE := fun σ H Q => ta σ H fun x H1 => tb σ H1 fun y H2 => r x y H2 Q
noncomputable def tUn (r : V → Hp → VK → Prop) (ta : TE) : TE := fun σ H Q => ta σ H fun x H1 => r x H1 Q
noncomputable def rI (C : Int → Int → Prop) (g : Int → Int → V) : R2 := fun x y H Q => ∃ i j, x = .int i ∧ y = .int j ∧ C i j ∧ Q (g i j) H
noncomputable def rI0 (g : Int → Int → V) : R2 := fun x y H Q => ∃ i j, x = .int i ∧ y = .int j ∧ Q (g i j) H
noncomputable def rU (g : Int → V) : V → Hp → VK → Prop := fun x H Q => ∃ i, x = .int i ∧ Q (g i) H
section
variable {X : Cx} {a b c : Expr} {ta tb tc : TE} {pos : Pos}
theorem binT (ha : PE X a ta) (hb : PE X b tb) {pins : List (Addr × Obj)} {s : Shared} {σ : St} {H : Hp} {R : V → V → Hp → Prop} (I : Inv X pins σ H s)
   (h : ta σ H fun x H1 => tb σ H1 fun y H2 => R x y H2) {Q : Value → Shared → Prop} {f : Value → Value → Sem Value}
   (hf : ∀ v u s2 x y H2, Inv X pins σ H2 s2 → RelV x v → RelV y u → R x y H2 → wpAny (model X.prog X.w) X.A (f v u) Q X.xe s2) :
   wpAny (model X.prog X.w) X.A (eval a X.env) (fun v s₁ => wpAny (model X.prog X.w) X.A (eval b X.env) (fun u s₂ => wpAny (model X.prog X.w) X.A (f v u) Q X.xe s₂) X.xe s₁) X.xe s := by
 refine thn (ha pins s σ H _ I h) fun v s1 ⟨x, H1, I1, r1, q1⟩ => ?_
 refine thn (hb pins s1 σ H1 _ I1 q1) fun u s2 ⟨y, H2, I2, r2, q2⟩ => ?_
 exact hf v u s2 x y H2 I2 r1 r2 q2
theorem pe_op {op : Operator} {r : R2} (ho : OpR X (binaryOp op) r) (ha : PE X a ta) (hb : PE X b tb) : PE X (.BinOp a op b pos) (tOp r ta tb) := by
 intro pins s σ H Q I h
 exact wpAny_BinOp (binT ha hb I h fun v u s2 x y H2 I2 rx ry q => ho pins s2 σ H2 x y v u Q I2 rx ry q)
theorem pe_un {op : UnaryOp} {r : V → Hp → VK → Prop} (ho : UnR X (unaryOp op) r) (ha : PE X a ta) : PE X (.UnaryOp op a pos) (tUn r ta) := by
 intro pins s σ H Q I h
 exact UnaryOp_ (thn (ha pins s σ H _ I h) fun v s1 ⟨x, H1, I1, r1, q1⟩ => ho pins s1 σ H1 x v Q I1 r1 q1)
theorem opI {f : Value → Value → Sem Value} {C : Int → Int → Prop} {g : Int → Int → Int}
   (rule : ∀ (i j : Int) (t u : Tok) (s : Shared) (Q : Value → Shared → Prop) (E : Value → Shared → Prop), C i j → Q (.int (g i j) s.toks) { s with toks := s.toks + 1 } → wpAny (model X.prog X.w) X.A (f (.int i t) (.int j u)) Q E s) :
   OpR X f (rI C fun i j => .int (g i j)) := by
 intro pins s σ H x y v u Q I rx ry h
 obtain ⟨i, j, rfl, rfl, hc, q⟩ := h
 obtain ⟨t, rfl⟩ := rx
 obtain ⟨t', rfl⟩ := ry
 exact rule i j t t' s _ _ hc ⟨.int (g i j), H, I.tok _, ⟨_, rfl⟩, q⟩
theorem opI0 {f : Value → Value → Sem Value} {g : Int → Int → Int}
   (rule : ∀ (i j : Int) (t u : Tok) (s : Shared) (Q : Value → Shared → Prop) (E : Value → Shared → Prop), Q (.int (g i j) s.toks) { s with toks := s.toks + 1 } → wpAny (model X.prog X.w) X.A (f (.int i t) (.int j u)) Q E s) :
   OpR X f (rI0 fun i j => .int (g i j)) := by
 intro pins s σ H x y v u Q I rx ry h
 obtain ⟨i, j, rfl, rfl, q⟩ := h
 obtain ⟨t, rfl⟩ := rx
 obtain ⟨t', rfl⟩ := ry
 exact rule i j t t' s _ _ ⟨.int (g i j), H, I.tok _, ⟨_, rfl⟩, q⟩
theorem opB0 {f : Value → Value → Sem Value} {g : Int → Int → Bool}
   (rule : ∀ (i j : Int) (t u : Tok) (s : Shared) (Q : Value → Shared → Prop) (E : Value → Shared → Prop), Q (.bool (g i j)) s → wpAny (model X.prog X.w) X.A (f (.int i t) (.int j u)) Q E s) :
   OpR X f (rI0 fun i j => .bl (g i j)) := by
 intro pins s σ H x y v u Q I rx ry h
 obtain ⟨i, j, rfl, rfl, q⟩ := h
 obtain ⟨t, rfl⟩ := rx
 obtain ⟨t', rfl⟩ := ry
 exact rule i j t t' s _ _ ⟨.bl (g i j), H, I, rfl, q⟩
noncomputable def CPow (i j : Int) : Prop := 0 ≤ j ∧ j ≤ 1000000 ∧ i.natAbs < 2 ^ 64
noncomputable def CMul (i j : Int) : Prop := (-(2 ^ 64) < i ∧ i < 2 ^ 64) ∨ (-(2 ^ 64) < j ∧ j < 2 ^ 64)
theorem CMul.ok {i j : Int} (h : CMul i j) : IntMulOk i j := by
 rcases h with ⟨h1, h2⟩ | ⟨h1, h2⟩
 · exact .of_left (intBits_le_64 h1 h2)
 · exact .of_right (intBits_le_64 h1 h2)
theorem op_add : OpR X (binaryOp .Add) (rI0 fun i j => .int (i + j)) := opI0 fun _ _ _ _ _ _ _ q => add_int q
theorem op_sub : OpR X (binaryOp .Sub) (rI0 fun i j => .int (i - j)) := opI0 fun _ _ _ _ _ _ _ q => sub_int q
theorem op_mul : OpR X (binaryOp .Mult) (rI CMul fun i j => .int (i * j)) := opI fun _ _ _ _ _ _ _ hc q => mul_int q hc.ok
theorem op_mod : OpR X (binaryOp .Mod) (rI (fun _ j => 0 < j) fun i j => .int (i % j)) := opI fun i j _ _ _ _ _ hc q => by
 have h1 : (0 : Int) < j := hc
 exact mod_int' (by lia) (by rw [Int.fmod_eq_emod_of_nonneg i (by lia)]; exact q)
theorem op_pow : OpR X (binaryOp .Pow) (rI CPow fun i j => .int (i ^ j.toNat)) := opI fun _ _ _ _ _ _ _ hc q => pow_int_small hc.1 hc.2.1 hc.2.2 q
theorem unI {f : Value → Sem Value} {g : Int → Int}
   (rule : ∀ (i : Int) (t : Tok) (s : Shared) (Q : Value → Shared → Prop) (E : Value → Shared → Prop), Q (.int (g i) s.toks) { s with toks := s.toks + 1 } → wpAny (model X.prog X.w) X.A (f (.int i t)) Q E s) :
   UnR X f (rU fun i => .int (g i)) := by
 intro pins s σ H x v Q I rx h
 obtain ⟨i, rfl, q⟩ := h
 obtain ⟨t, rfl⟩ := rx
 exact rule i t s _ _ ⟨.int (g i), H, I.tok _, ⟨_, rfl⟩, q⟩
theorem un_neg : UnR X (unaryOp .USub) (rU fun i => .int (-i)) := unI fun _ _ _ _ _ q => neg_int q
end
section
variable {X : Cx} {a b c : Expr} {ta tb tc : TE} {pos : Pos}
theorem fin_bl {pins : List (Addr × Obj)} {σ : St} {H : Hp} {s : Shared} {Q : VK} {k k' : Bool} (I : Inv X pins σ H s) (q : Q (.bl k) H) (e : k = k') : EP X pins σ Q (.bool k') s := by
 subst e
 exact ⟨.bl k, H, I, rfl, q⟩
theorem op_lt : OpR X (compareOp .Lt) (rI0 fun i j => .bl (decide (i < j))) := opB0 fun _ _ _ _ _ _ _ q => lt_int q
theorem op_le : OpR X (compareOp .LtE) (rI0 fun i j => .bl (decide (i ≤ j))) := opB0 fun _ _ _ _ _ _ _ q => le_int q
theorem op_gt : OpR X (compareOp .Gt) (rI0 fun i j => .bl (decide (j < i))) := opB0 fun _ _ _ _ _ _ _ q => gt_int q
theorem op_ge : OpR X (compareOp .GtE) (rI0 fun i j => .bl (decide (j ≤ i))) := opB0 fun _ _ _ _ _ _ _ q => ge_int q
theorem op_isN : OpR X (compareOp .Is) (fun x y H Q => y = .non ∧ Q (.bl (decide (x = .non))) H) := by
 intro pins s σ H x y v u Q I rx ry h
 obtain ⟨rfl, q⟩ := h
 cases ry
 refine is_none_gen (fin_bl I q ?_)
 cases x <;> first
   | (cases rx; rfl)
   | (obtain ⟨t, rfl⟩ := rx; rfl)
theorem nomark (b : Expr) {op : CmpOp} (h : op ≠ .In := by decide) (h2 : op ≠ .NotIn := by decide) : behindInMarks op b = false := by
 have e1 : (op == CmpOp.In) = false := by cases op <;> first | rfl | exact absurd rfl h
 have e2 : (op == CmpOp.NotIn) = false := by cases op <;> first | rfl | exact absurd rfl h2
 cases b <;> simp [behindInMarks, e1, e2]
theorem pe_cmpR {op : CmpOp} {r : R2} (ho : OpR X (compareOp op) r) (ha : PE X a ta) (hb : PE X b tb) (hm : behindInMarks op b = false) : PE X (.Compare a [op] [b] pos) (tOp r ta tb) := by
 intro pins s σ H Q I h
 exact wpAny_Compare1 (binT ha hb I h fun v u s2 x y H2 I2 rx ry q => ho pins s2 σ H2 x y v u Q I2 rx ry q) hm
noncomputable def tTest (t : TE) : TT := fun σ H Q => t σ H fun x H' => ∃ k, x = .bl k ∧ Q k H'
theorem pt_cmpR {op : CmpOp} {r : R2} (ho : OpR X (compareOp op) r) (ha : PE X a ta) (hb : PE X b tb) (hm : behindInMarks op b = false) : PT X (.Compare a [op] [b] pos) (tTest (tOp r ta tb)) := by
 intro pins s σ H Q I h
 refine wpAny_isTrue_Compare1 (thn (ha pins s σ H _ I h) fun v s1 ⟨x, H1, I1, r1, q1⟩ => thn (hb pins s1 σ H1 _ I1 q1) fun u s2 ⟨y, H2, I2, r2, q2⟩ =>
   thn (ho pins s2 σ H2 x y v u _ I2 r1 r2 q2) fun c s3 ⟨z, H3, I3, r3, k, e, q3⟩ => ?_) hm
 subst e
 cases r3
 exact wpAny_truthy_bool ⟨H3, I3, q3⟩
noncomputable def tChain (r r' : R2) (ta tb tc : TE) : TE := fun σ H Q => ta σ H fun x H1 => tb σ H1 fun y H2 => r x y H2 fun z H3 => ∃ k, z = .bl k ∧
 (if k = true then tc σ H3 fun w' H4 => r' y w' H4 Q else Q (.bl false) H3)
theorem pe_chain {op op' : CmpOp} {r r' : R2} (ho : OpR X (compareOp op) r) (ho' : OpR X (compareOp op') r') (ha : PE X a ta) (hb : PE X b tb) (hc : PE X c tc)
   (hm : lastMarks [op, op'] [b, c] = false := by with_unfolding_all rfl) : PE X (.Compare a [op, op'] [b, c] pos) (tChain r r' ta tb tc) := by
 intro pins s σ H Q I h
 refine Compare_chain (thn (ha pins s σ H _ I h) fun v s1 ⟨x, H1, I1, r1, q1⟩ => chain_link (thn (hb pins s1 σ H1 _ I1 q1) fun u s2 ⟨y, H2, I2, r2, q2⟩ =>
   thn (ho pins s2 σ H2 x y v u _ I2 r1 r2 q2) fun d s3 ⟨z, H3, I3, r3, k, e, q3⟩ => ?_)) hm
 subst e
 cases r3
 refine wpAny_truthy_bool ?_
 cases k with
 | false => exact ite_ff ⟨.bl false, H3, I3, rfl, q3⟩
 | true => exact ite_tt (chain_last (thn (hc pins s3 σ H3 _ I3 q3) fun w' s4 ⟨z', H4, I4, r4, q4⟩ => ho' pins s4 σ H4 y z' u w' Q I4 r2 r4 q4))
theorem pt_chain {op op' : CmpOp} {r r' : R2} (ho : OpR X (compareOp op) r) (ho' : OpR X (compareOp op') r') (ha : PE X a ta) (hb : PE X b tb) (hc : PE X c tc)
   (hm : lastMarks [op, op'] [b, c] = false := by with_unfolding_all rfl) : PT X (.Compare a [op, op'] [b, c] pos) (tTest (tChain r r' ta tb tc)) := by
 intro pins s σ H Q I h
 refine isTrue_chain (thn (ha pins s σ H _ I h) fun v s1 ⟨x, H1, I1, r1, q1⟩ => test_link (thn (hb pins s1 σ H1 _ I1 q1) fun u s2 ⟨y, H2, I2, r2, q2⟩ =>
   thn (ho pins s2 σ H2 x y v u _ I2 r1 r2 q2) fun d s3 ⟨z, H3, I3, r3, k, e, q3⟩ => ?_)) hm
 subst e
 cases r3
 refine wpAny_truthy_bool ?_
 cases k with
 | false =>
   obtain ⟨k', e', q'⟩ := q3
   cases e'
   exact ite_ff ⟨H3, I3, q'⟩
 | true =>
   refine ite_tt (test_last (thn (hc pins s3 σ H3 _ I3 q3) fun w' s4 ⟨z', H4, I4, r4, q4⟩ => thn (ho' pins s4 σ H4 y z' u w' _ I4 r2 r4 q4) fun d' s5 ⟨z2, H5, I5, r5, k2, e2, q5⟩ => ?_))
   subst e2
   cases r5
   exact wpAny_truthy_bool ⟨H5, I5, q5⟩
noncomputable def TruV (K : PySem.W.Frag) (x : V) (H : Hp) (k : Bool) : Prop :=
 match x with
 | .non => k = false
 | .bl b => k = b
 | .int i => k = (i != 0)
 | .str y => y.length ≤ sizeLine ∧ k = ((y.length : Int) != 0)
 | .byt y => y.size ≤ sizeLine ∧ k = ((y.size : Int) != 0)
 | .ref p => (∃ xs, SqL K H p xs ∧ k = !xs.isEmpty) ∨ (∃ xs, SqT K H p xs ∧ k = !xs.isEmpty) ∨ ∃ kvs, H p = some (.dK kvs) ∧ k = !kvs.isEmpty
 | _ => False
theorem isEmpty_kv {κ : Type} {kvs : List (κ × V)} {vs : List (κ × Value)} (r : KV kvs vs) : (!vs.isEmpty) = !kvs.isEmpty := by
 cases r <;> rfl
theorem isEmpty_of {xs : List V} {its : List Value} (r : Vals xs its) : (!its.toArray.isEmpty) = !xs.isEmpty := by
 cases r <;> simp
theorem line63 : (sizeLine : Nat) < 2 ^ 63 := by rw [sizeLine_eq]; decide
theorem tru_ok : TruR X (fun x H Q => ∃ k, TruV X.K x H k ∧ Q k H) := by
 intro pins s σ H x v Q I rx h
 obtain ⟨k, e, q⟩ := h
 have hl := line63
 have hs : sizeLine = 16777216 := sizeLine_eq
 cases x with
 | non =>
   cases rx
   have e' : k = false := e
   subst e'
   exact truthy_none ⟨H, I, q⟩
 | bl b =>
   cases rx
   have e' : k = b := e
   subst e'
   exact wpAny_truthy_bool ⟨H, I, q⟩
 | int i =>
   obtain ⟨t, rfl⟩ := rx
   have e' : k = (i != 0) := e
   subst e'
   exact PySem.P.truthy_int ⟨H, I, q⟩
 | str y =>
   obtain ⟨t, rfl⟩ := rx
   obtain ⟨hy, e'⟩ : y.length ≤ sizeLine ∧ k = ((y.length : Int) != 0) := e
   subst e'
   exact PySem.P.truthy_str (by lia) ⟨H, I.tok _, q⟩
 | byt y =>
   obtain ⟨t, rfl⟩ := rx
   obtain ⟨hy, e'⟩ : y.size ≤ sizeLine ∧ k = ((y.size : Int) != 0) := e
   subst e'
   exact PySem.W.truthy_bytes (by lia) ⟨H, I.tok _, q⟩
 | ref p =>
   cases rx
   have e' : (∃ xs, SqL X.K H p xs ∧ k = !xs.isEmpty) ∨ (∃ xs, SqT X.K H p xs ∧ k = !xs.isEmpty) ∨ ∃ kvs, H p = some (.dK kvs) ∧ k = !kvs.isEmpty := e
   rcases e' with ⟨xs, hx, e'⟩ | ⟨xs, hx, e'⟩ | ⟨kvs, hx, e'⟩
   · subst e'
     obtain ⟨its, r, pl, hz⟩ := I.list hx
     have hlen := r.length
     exact wpAny_truthy_list pl.isList (by simp only [List.size_toArray]; lia) ⟨H, I.tok _, by rw [isEmpty_of r]; exact q⟩
   · subst e'
     obtain ⟨its, r, pl, hz⟩ := I.tuple hx
     have hlen := r.length
     exact truthy_tuple pl (by simp only [List.size_toArray]; lia) ⟨H, I.tok _, by rw [isEmpty_of r]; exact q⟩
   · subst e'
     obtain ⟨hz, hS, vs, r, m⟩ : kvs.length ≤ sizeLine ∧ (p == sysModules) = false ∧ ∃ vs, KV kvs vs ∧ s.heap.DictOf (mixKind X.prog X.w) p vs := I.hok p _ hx
     have hlen : kvs.length = vs.length := Paired.length r
     exact wpAny_truthy_dict hS m (by lia) ⟨H, I.tok _, by rw [isEmpty_kv r]; exact q⟩
 | _ => exact (show False from e).elim
theorem pt_truth (ha : PE X a ta) (he : ∀ whole, isTrue a X.env whole = (do let v ← whole; standAt a.pos; holding [v] (truthy v))) :
   PT X a (fun σ H Q => ta σ H fun x H' => ∃ k, TruV X.K x H' k ∧ Q k H') := by
 intro pins s σ H Q I h
 exact isTrue_plain (thn (ha pins s σ H _ I h) fun v s1 ⟨x, H1, I1, r1, q1⟩ => tru_ok pins s1 σ H1 x v Q I1 r1 q1) (he _)
theorem op_add_str : OpR X (binaryOp .Add) (fun x y H Q => ∃ i j, x = .str i ∧ y = .str j ∧ i.length + j.length ≤ sizeLine ∧ Q (.str (i ++ j)) H) := by
 intro pins s σ H x y v u Q I rx ry h
 obtain ⟨i, j, rfl, rfl, hz, q⟩ := h
 obtain ⟨t, rfl⟩ := rx
 obtain ⟨t', rfl⟩ := ry
 exact add_str (fun t' tk => ⟨.str (i ++ j), H, I.tok _, ⟨_, rfl⟩, q⟩) hz
theorem vals1 {x : V} {us : List Value} (r : Vals [x] us) : ∃ u, us = [u] ∧ RelV x u := by
 cases r with
 | cons r1 r2 => cases r2; exact ⟨_, rfl, r1⟩
theorem vals2 {x y : V} {us : List Value} (r : Vals [x, y] us) : ∃ u w', us = [u, w'] ∧ RelV x u ∧ RelV y w' := by
 cases r with
 | cons r1 r2 =>
   cases r2 with
   | cons r3 r4 => cases r4; exact ⟨_, _, rfl, r1, r3⟩
theorem call_abs : CallR X (.builtin "abs") (fun xs H Q => ∃ i, xs = [.int i] ∧ Q (.int (if i < 0 then -i else i)) H) := by
 intro pins s σ H xs us Q I r h
 obtain ⟨i, rfl, q⟩ := h
 obtain ⟨u, rfl, t, rfl⟩ := vals1 r
 exact call_abs_int fun u tk => ⟨.int (if i < 0 then -i else i), H, I.tok _, ⟨_, rfl⟩, q⟩
theorem call_max2 (hc : X.calm = true) : CallR X (.builtin "max") (fun xs H Q => ∃ i j, xs = [.int i, .int j] ∧ Q (.int (if j > i then j else i)) H) := by
 intro pins s σ H xs us Q I r h
 obtain ⟨i, j, rfl, q⟩ := h
 obtain ⟨u, w', rfl, ⟨t, rfl⟩, ⟨t', rfl⟩⟩ := vals2 r
 refine max_two_ints (I.ok.hd hc) fun h' tk k => ⟨_, H, I.kept k, ?_, q⟩
 by_cases hj : j > i
 · rw [if_pos hj, if_pos hj]; exact ⟨_, rfl⟩
 · rw [if_neg hj, if_neg hj]; exact ⟨_, rfl⟩
end
end L2
namespace L2
open PySem PySem.Spec PyProof.Rows
section
variable {prog : Program} {w : World} {A : Around} {E : Value → Shared → Prop} {s : Shared} {K : PySem.W.Frag} {x dx C f : Addr} {mA : Str → Option Value} {name : Str} {v : Value}
end
section
variable {P : Program} {w : World} {H H' : Hp} {h h' : Heap} {a C dx : Addr} {fs fs' : List (Str × V)}
end
section
variable {X : Cx} {pins : List (Addr × Obj)} {σ : St} {H : Hp} {s : Shared} {a C dx : Addr} {fs : List (Str × V)} {f : Str} {v : V} {A : Around} {E : Value → Shared → Prop}
end
section
variable {X : Cx} {o e value : Expr} {f : Str} {pos pos' tpos : Pos} {ta tv : TE}
end
section
variable {X : Cx} {pins : List (Addr × Obj)} {σ : St} {H : Hp} {s : Shared} {A : Around} {E : Value → Shared → Prop} {Q : Value → Shared → Prop} {c : Value} {b : Bool}
end
end L2
namespace L2
open PySem PySem.Spec PyProof.Rows
structure Room (k : Nat) (A : Around) : Prop where
 hd : A.handled = none
 dp : A.depth + 3 * k + 5 < recursionLimit
 un : A.units + 16 * k + 200 < cLine
theorem Room.mono {j k : Nat} {A : Around} (r : Room k A) (h : j ≤ k) : Room j A := ⟨r.hd, by have := r.dp; lia, by have := r.un; lia⟩
theorem Room.deeper {k : Nat} {A : Around} (r : Room (k + 1) A) (env : Env) : Room k (A.deeper env) :=
 ⟨r.hd, by have := r.dp; show A.depth + 1 + 3 * k + 5 < _; lia, by have := r.un; show A.units + 3 + 16 * k + 200 < _; lia⟩
theorem Room.depth {k : Nat} {A : Around} (r : Room k A) : A.depth < recursionLimit := by have := r.dp; lia
theorem Room.units {k : Nat} {A : Around} (r : Room k A) : A.units + 64 < cLine := by have := r.un; lia
noncomputable def tNil : TA := fun _ H Q => Q [] H
noncomputable def tCons (ta : TE) (tr : TA) : TA := fun σ H Q => ta σ H fun x H1 => tr σ H1 fun xs H2 => Q (x :: xs) H2
section
variable {X : Cx} {e : Expr} {es : List Expr} {te : TE} {t : TA} {pos : Pos}
theorem pa_nil : PA X [] tNil := fun _ _ _ _ H Q I h => Calls.spliced_nil ⟨[], H, I, .nil, h⟩
theorem pa_cons (ha : PE X e te) (hr : PA X es t) (hs : starEach (e :: es) X.env = (false, eval e X.env) :: starEach es X.env := by rfl) : PA X (e :: es) (tCons te t) := by
 intro pos pins s σ H Q I h
 rw [hs]
 show wpAny _ _ (spliced ((false, eval e X.env) :: backTo pos (starEach es X.env))) _ _ s
 refine Calls.spliced_cons (thn (ha pins s σ H _ I h) fun u s1 ⟨x, H1, I1, r1, q1⟩ => ?_)
 exact thn (hr pos pins s1 σ H1 _ I1 q1) fun us s2 ⟨xs, H2, I2, r2, q2⟩ => ⟨x :: xs, H2, I2, .cons r1 r2, q2⟩
noncomputable def tTup (t : TA) : TE := fun σ H Q => t σ H fun xs H1 => xs.length ≤ sizeLine ∧ ∀ p, H1 p = none → Q (.ref p) (upd H1 p (.tup xs))
noncomputable def tLst (t : TA) : TE := fun σ H Q => t σ H fun xs H1 => xs.length ≤ sizeLine ∧ ∀ p, H1 p = none → Q (.ref p) (upd H1 p (.lst xs))
theorem pe_tup {x1} (h : PA X es t) : PE X (.Tuple es x1 pos) (tTup t) := by
 intro pins s σ H Q I hq
 refine wpAny_Tuple_spliced (thn (h pos pins s σ H _ I hq) fun us s1 ⟨xs, H1, I1, r, z, q⟩ => ⟨by rw [← r.length]; exact z, ?_⟩)
 have hf : H1 s1.heap.objs.size = none := I1.hok.fresh (Nat.le_refl _)
 refine ⟨.ref s1.heap.objs.size, upd H1 s1.heap.objs.size (.tup xs), I1.laid (t' := s1.toks) (fun b u e => Heap.get?_push_of_some _ e) (Nat.le_refl _) ?_, rfl, q _ hf⟩
 exact ⟨z, us, r, ⟨_, Heap.get?_push_size _ rfl, rfl, rfl, _, rfl⟩⟩
theorem pe_lst (h : PA X es t) : PE X (.List es pos) (tLst t) := by
 intro pins s σ H Q I hq
 refine wpAny_List_spliced (thn (h pos pins s σ H _ I hq) fun us s1 ⟨xs, H1, I1, r, z, q⟩ => ⟨by rw [← r.length]; exact z, ?_⟩)
 have hf : H1 s1.heap.objs.size = none := I1.hok.fresh (Nat.le_refl _)
 refine ⟨.ref s1.heap.objs.size, upd H1 s1.heap.objs.size (.lst xs), I1.laid (t' := s1.toks) (fun b u e => Heap.get?_push_of_some _ e) (Nat.le_refl _) ?_, rfl, q _ hf⟩
 exact ⟨z, us, 0, r, Heap.get?_push_size _ rfl⟩
end
noncomputable abbrev Sp := List V → Hp → VK → XK → Prop
noncomputable abbrev CXT := List Env → Hp → Shared → XK → Value → Shared → Prop
structure Env0 (P : Program) (w : World) (K : PySem.W.Frag) (mg : Str → Option Value) (base : Heap) (A : Around) (outer : List Env) (s : Shared) (H : Hp) : Prop where
 frames : A.frames = some outer
 mod : Mod K mg base
 bs : ∀ b o, base.get? b = some o → s.heap.get? b = some o ∧ H b = none
 bsz : base.objs.size ≤ s.heap.objs.size
 funs : s.heap.FunFrames base outer
 frf : ∀ b ∈ frs outer, H b = none
 hok : HOk P w H s.heap
 bare : AllBare s.gens
noncomputable def CE (outer : List Env) (P : Program) (w : World) (H : Hp) (s : Shared) (Q : VK) (u : Value) (s' : Shared) : Prop :=
 ∃ v H', s'.os = s.os ∧ AllBare s'.gens ∧ Un (frs outer) [] H H' s.heap s'.heap ∧ HOk P w H' s'.heap ∧ RelV v u ∧ Q v H'
noncomputable def CR (CX : CXT) (outer : List Env) (P : Program) (w : World) (H : Hp) (s : Shared) (Q : VK) (E : XK) (r : Result) (s' : Shared) : Prop :=
 match r with
 | .ok (.ret u) => CE outer P w H s Q u s'
 | .ok _ => False
 | .error e => CX outer H s E e s'
structure FnOk (P : Program) (w : World) (K : PySem.W.Frag) (mg : Str → Option Value) (base : Heap) (CX : CXT) (k : Nat) (f : Addr) (fd : FuncData) (ps : List Str) (sp : Sp) : Prop where
 len : ∀ vs H Q E, sp vs H Q E → vs.length = ps.length
 run : ∀ (A : Around) (outer : List Env) (s : Shared) (H : Hp) (args : Args) (us : List Value) (vs : List V) (Q : VK) (E : XK), Room k A → Env0 P w K mg base A outer s H → BindsTo s fd args (ps.zip us) → Vals vs us → sp vs H Q E →
   codeAny (model P w) A (.call (.ref f) args) (CR CX outer P w H s Q E) s
theorem FnOk.mono {P : Program} {w : World} {K : PySem.W.Frag} {mg : Str → Option Value} {base : Heap} {CX : CXT} {j k : Nat} {f : Addr} {fd : FuncData} {ps : List Str} {sp : Sp} (F : FnOk P w K mg base CX j f fd ps sp) (h : j ≤ k) :
   FnOk P w K mg base CX k f fd ps sp := ⟨F.len, fun A outer s H args us vs Q E hr => F.run A outer s H args us vs Q E (hr.mono h)⟩
section
variable {X : Cx} {pins : List (Addr × Obj)} {σ : St} {H : Hp} {s s' : Shared}
theorem Inv.env0 (I : Inv X pins σ H s) : Env0 X.prog X.w X.K X.mg X.base X.A X.stack s H :=
 ⟨I.ok.frames, I.ok.mod, I.bs, Nat.le_trans I.ok.bsz I.sz, I.stack, I.stkFree, I.hok, I.bare⟩
theorem Inv.after {Q : VK} {u : Value} (I : Inv X pins σ H s) (h : CE X.stack X.prog X.w H s Q u s') : EP X pins σ Q u s' := by
 obtain ⟨v, H', os, bare, un, hok, r, q⟩ := h
 obtain ⟨hh, g, d, t, os'⟩ := s'
 obtain rfl : os' = s.os := os
 exact ⟨v, H', I.call (h' := hh) (g' := g) (d' := d) (t' := t) (ch := []) un hok bare (fun b z => absurd z (by simp)), r, q⟩
end
noncomputable def tCall (sp : Sp) (dvs : List V) (E : XK) (t : TA) : TE := fun σ H Q => t σ H fun vs H1 => sp (vs ++ dvs) H1 Q E
noncomputable def Binds (K : PySem.W.Frag) (fd : FuncData) (ps : List Str) (ds : List Value) : Prop :=
 ∀ (s : Shared) (us : List Value), K.In s.heap → (us ++ ds).length = ps.length → BindsTo s fd ⟨us, []⟩ (ps.zip (us ++ ds))
theorem Binds.all {K : PySem.W.Frag} {fd : FuncData} {ps : List Str} (h : ∀ us : List Value, us.length = ps.length → bindArgs fd ⟨us, []⟩ = pure (ps.zip us)) : Binds K fd ps [] := fun s us _ hl => by
 rw [List.append_nil] at hl ⊢
 exact .of_eq (h us hl)
noncomputable def Passes (CX : CXT) (X : Cx) (E : XK) : Prop := ∀ (pins : List (Addr × Obj)) (σ : St) (H : Hp) (s : Shared) (e : Value) (s' : Shared), Inv X pins σ H s → CX X.stack H s E e s' → X.xe e s'
section
variable {X : Cx} {CX : CXT} {k : Nat} {f C : Addr} {fd : FuncData} {ps : List Str} {sp : Sp} {dvs : List V} {ds : List Value} {E : XK} {x m : Str} {p pos apos : Pos} {e o : Expr} {es : List Expr} {ta : TE} {t : TA}
theorem run_fn {pins : List (Addr × Obj)} {σ : St} {H : Hp} {s : Shared} {Q : VK} {us : List Value} {vs : List V} (F : FnOk X.prog X.w X.K X.mg X.base CX k f fd ps sp) (hr : Room k X.A) (hb : Binds X.K fd ps ds) (hd : Vals dvs ds) (hx : Passes CX X E)
   (I : Inv X pins σ H s) (r : Vals vs us) (h : sp (vs ++ dvs) H Q E) : wpAny (model X.prog X.w) X.A (call (.ref f) us) (EP X pins σ Q) X.xe s := by
 have r2 : Vals (vs ++ dvs) (us ++ ds) := r.append hd
 have hl : (us ++ ds).length = ps.length := by rw [← r2.length]; exact F.len _ _ _ _ h
 refine wpAny_call (codeAny_mono (F.run X.A X.stack s H ⟨us, []⟩ (us ++ ds) (vs ++ dvs) Q E hr I.env0 (hb s us I.kIn hl) r2 h) fun r s' hq => ?_)
 cases r with
 | error e => exact hx pins σ H s e s' I hq
 | ok fl =>
   cases fl with
   | ret u => exact I.after hq
   | next => exact False.elim hq
   | brk => exact False.elim hq
   | cont => exact False.elim hq
theorem pe_call (F : FnOk X.prog X.w X.K X.mg X.base CX k f fd ps sp) (hr : Room k X.A) (hg : Gl X x) (hm : X.mg x = some (.ref f)) (hk : PySem.W.keepIn X.K (.ref f) = true) (hb : Binds X.K fd ps ds) (hd : Vals dvs ds) (hx : Passes CX X E)
   (ha : PA X (e :: es) t) (hdb : (x == ("__debug__" : Str)) = false := by decide) (he : starEach (e :: es) X.env = (false, eval e X.env) :: starEach es X.env := by rfl) (hpl : (backTo pos (starEach es X.env)).any (·.1) = false := by rfl) :
   PE X (.Call (.Name x p) (e :: es) [] pos) (tCall sp dvs E t) := by
 intro pins s σ H Q I h
 refine wpAny_Call_Name_kw (ld_glob I hg hm ?_ hdb)
 refine PySem.W.callWith_K (h₀ := X.base) I.ok.mod.kin hk (thn (ha pos pins s σ H _ I h) fun us s1 ⟨vs, H1, I1, r, q⟩ => ⟨I1.kIn, ?_⟩) he hpl
 exact run_fn F hr hb hd hx I1 r q
end
section
variable {X : Cx} {CX : CXT} {k : Nat} {f C : Addr} {fd : FuncData} {ps ks : List Str} {sp : Sp} {E : XK} {x m : Str} {p pos apos kpos : Pos} {e o : Expr} {es : List Expr} {kws : List Keyword} {te ta : TE} {t tk : TA} {nm : Option Str}
variable {g : List Value → List Value → List Value} {gV : List V → List V → List V}
end
structure FnScope (N P : List Str) (sc : Scope) : Prop where
 kind : sc.kind = .function
 co : sc.isCoroutine = false
 gen : sc.isGenerator = false
 nd : N.Nodup
 pre : N.take P.length = P
 par : ∀ x ∈ P, sc.names.lookup x = some .local ∨ sc.names.lookup x = some .cell
 nofree : ∀ y ∈ sc.names, y.2 ≠ .free
theorem bindL_out {kindOf : Str → Option NameKind} {x : Str} : ∀ {binds : List (Str × Value)} {m : Str → Option Value}, (∀ v, (x, v) ∉ binds) → bindL kindOf binds m x = m x
 | [], _, _ => rfl
 | (n, v) :: r, m, h => by
   unfold bindL
   rw [bindL_out fun w hw => h w (List.mem_cons_of_mem _ hw)]
   split
   · have : x ≠ n := by rintro rfl; exact h v List.mem_cons_self
     simp [this]
   · rfl
theorem bindC_out {kindOf : Str → Option NameKind} {x : Str} : ∀ {binds : List (Str × Value)} {m : Str → Option Value}, (∀ v, (x, v) ∉ binds) → bindC kindOf binds m x = m x
 | [], _, _ => rfl
 | (n, v) :: r, m, h => by
   unfold bindC
   rw [bindC_out fun w hw => h w (List.mem_cons_of_mem _ hw)]
   split
   · rfl
   · have : x ≠ n := by rintro rfl; exact h v List.mem_cons_self
     simp [this]
theorem bindL_get {kindOf : Str → Option NameKind} {x : Str} {v : Value} : ∀ {P : List Str} {vs : List Value} {i : Nat} {m : Str → Option Value}, P.Nodup → P[i]? = some x → vs[i]? = some v → kindOf x = some .local →
   bindL kindOf (P.zip vs) m x = some v
 | [], _, _, _, _, h, _, _ => by simp at h
 | _ :: _, [], _, _, _, _, h, _ => by simp at h
 | p :: P, w :: vs, 0, m, nd, h1, h2, hk => by
   simp at h1 h2; subst h1; subst h2
   show bindL kindOf ((p, w) :: P.zip vs) m p = _
   unfold bindL
   rw [bindL_out fun v hv => (List.nodup_cons.mp nd).1 (List.of_mem_zip hv).1, if_pos hk]
   simp
 | p :: P, w :: vs, i + 1, m, nd, h1, h2, hk => by
   show bindL kindOf ((p, w) :: P.zip vs) m x = _
   unfold bindL
   exact bindL_get (i := i) (List.nodup_cons.mp nd).2 (by simpa using h1) (by simpa using h2) hk
theorem bindC_get {kindOf : Str → Option NameKind} {x : Str} {v : Value} : ∀ {P : List Str} {vs : List Value} {i : Nat} {m : Str → Option Value}, P.Nodup → P[i]? = some x → vs[i]? = some v → kindOf x ≠ some .local →
   bindC kindOf (P.zip vs) m x = some v
 | [], _, _, _, _, h, _, _ => by simp at h
 | _ :: _, [], _, _, _, _, h, _ => by simp at h
 | p :: P, w :: vs, 0, m, nd, h1, h2, hk => by
   simp at h1 h2; subst h1; subst h2
   show bindC kindOf ((p, w) :: P.zip vs) m p = _
   unfold bindC
   rw [bindC_out fun v hv => (List.nodup_cons.mp nd).1 (List.of_mem_zip hv).1, if_neg hk]
   simp
 | p :: P, w :: vs, i + 1, m, nd, h1, h2, hk => by
   show bindC kindOf ((p, w) :: P.zip vs) m x = _
   unfold bindC
   exact bindC_get (i := i) (List.nodup_cons.mp nd).2 (by simpa using h1) (by simpa using h2) hk
noncomputable def start (N : List Str) (vs : List V) : St := vs.map some ++ List.replicate (N.length - vs.length) none
noncomputable def cxOf (CX : CXT) (P : Program) (w : World) (K : PySem.W.Frag) (mg : Str → Option Value) (base : Heap) (N : List Str) (qual : Str) (scope : Scope) (f : Addr) (cd : Value) (A : Around) (outer : List Env) (s : Shared) (H : Hp) (E : XK) : Cx where
 prog := P
 w := w
 K := K
 mg := mg
 base := base
 A := A.deeper (envOfC qual scope s.heap.objs.size f cd)
 N := N
 s₀ := s
 H₀ := H
 env := envOfC qual scope s.heap.objs.size f cd
 outer := outer
 stack := envOfC qual scope s.heap.objs.size f cd :: outer
 ex := []
 calm := true
 fn := fun _ => true
 pn := []
 xe := fun e s' => wpAny (model P w) (A.deeper (envOfC qual scope s.heap.objs.size f cd)) (leaving (envOfC qual scope s.heap.objs.size f cd) e) (fun _ s'' => CX outer H s E e s'') (fun e' s'' => CX outer H s E e' s'') s'
theorem cell_has {sc : Scope} {n : Nat} {x : Str} (h : sc.names.lookup x = some .cell) : ∃ c, (cellsFrom n sc.names []).lookup x = some c := by
 have q := PySem.W.cellsFrom_some sc.names n [] (.inl h)
 exact Option.isSome_iff_exists.mp q
theorem inv_start {CX : CXT} {P : Program} {w : World} {K : PySem.W.Frag} {mg : Str → Option Value} {base : Heap} {N ps : List Str} {qual : Str} {scope : Scope} {f : Addr} {cd : Value} {A : Around} {outer : List Env} {s s1 : Shared} {H : Hp} {E : XK} {us : List Value} {vs : List V}
   (S : FnScope N ps scope) (hd : A.handled = none) (e0 : Env0 P w K mg base A outer s H) (hl : vs.length = ps.length) (r : Vals vs us)
   (x : InCallC s s.heap.objs.size (bindL (envOfC qual scope s.heap.objs.size f cd).kindOf (ps.zip us) fun _ => none) (cellsFrom (s.heap.objs.size + 1) scope.names []) (bindC (envOfC qual scope s.heap.objs.size f cd).kindOf (ps.zip us) fun _ => none) s1) :
   Inv (cxOf CX P w K mg base N qual scope f cd A outer s H E) [] (start N vs) H s1 := by
 have hpl : ps.length ≤ N.length := by have := congrArg List.length S.pre; rw [List.length_take] at this; lia
 obtain ⟨h1, tk, rfl, hk⟩ := x.done
 have noA : ∀ b : Addr, b ∉ (cxOf CX P w K mg base N qual scope f cd A outer s H E).ex := fun b z => absurd (show b ∈ ([] : List Addr) from z) (by simp)
 refine ⟨⟨e0.mod, S.kind, rfl, rfl, Nat.le_refl _, fun y z c h1 h2 => ?_, fun y hy => ?_, fun y c _ h => ?_, fun _ => hd, Around.frames_deeper e0.frames, .inr ⟨rfl, rfl⟩, fun b z => absurd z (noA b), e0.bs, e0.bsz, fun b _ _ => noA b, fun b z => absurd z (noA b), e0.funs, e0.frf⟩,
   rfl, e0.bare, Un.kept hk, ⟨_, x.toInCall.ns, fun i y v h1 h2 h3 => ?_⟩, fun y c h => ⟨_, x.cell y c h⟩, e0.hok.fresh (Nat.le_refl _), fun y c h => ?_, fun p hp => absurd (show p ∈ ([] : List (Addr × Obj)) from hp) (by simp), e0.hok.kept hk, ?_⟩
 · exact name_of_addr x.apart (PySem.mem_of_lookup h1) (PySem.mem_of_lookup h2)
 · have hy : scope.names.lookup y = some .cell ∨ scope.names.lookup y = some .free := hy
   rcases hy with hy | hy
   · exact cell_has hy
   · exact absurd rfl (S.nofree _ (PySem.mem_of_lookup hy))
 · exact Nat.le_of_lt (x.above y c (PySem.mem_of_lookup h))
 · have hi : i < vs.length := by
     unfold start at h2
     by_cases hi : i < vs.length
     · exact hi
     · rw [List.getElem?_append_right (by simpa using hi)] at h2
       rw [List.getElem?_replicate] at h2
       split at h2 <;> cases h2
   have ha : vs[i]? = some v := by
     unfold start at h2
     rw [List.getElem?_append_left (by simpa using hi), List.getElem?_map] at h2
     cases e : vs[i]? with
     | none => rw [e] at h2; cases h2
     | some a => rw [e] at h2; cases h2; rfl
   obtain ⟨u, hu, rv⟩ := r.get ha
   have hp : ps[i]? = some y := by
     rw [← S.pre, List.getElem?_take_of_lt (by lia)]; exact h1
   have ndP : ps.Nodup := by rw [← S.pre]; exact S.nd.sublist (List.take_sublist _ _)
   refine ⟨u, rv, ?_⟩
   rcases S.par y (List.mem_of_getElem? hp) with k | k
   · exact .inl ⟨k, bindL_get ndP hp hu k⟩
   · obtain ⟨c, e⟩ := cell_has (n := s.heap.objs.size + 1) k
     refine .inr ⟨.inl k, c, e, ?_⟩
     have q := x.cell y c e
     rw [bindC_get ndP hp hu (by show scope.names.lookup y ≠ _; rw [k]; decide)] at q
     exact q
 · exact e0.hok.fresh (Nat.le_of_lt (x.above y c (PySem.mem_of_lookup h)))
 · unfold start
   show _ = N.length
   rw [List.length_append, List.length_map, List.length_replicate]
   lia
theorem fn_of {CX : CXT} {P : Program} {w : World} {K : PySem.W.Frag} {mg : Str → Option Value} {base : Heap} {k : Nat} {f : Addr} {name qual : Str} {params : Arguments} {body : List Stmt} {scope : Scope} {dV kV doc pm cdv ct oc : Value} {an od : Option Addr}
   {osl : Array (Option Value)} {N ps : List Str} {sp : Sp} (lk : K.lookup f = some ⟨oc, od, .func (PySem.W.fnOf name qual params body scope dV kV doc pm an cdv ct), osl⟩) (hcd : PySem.W.codeIn K cdv qual = true) (S : FnScope N ps scope)
   (len : ∀ vs H Q E, sp vs H Q E → vs.length = ps.length)
   (hbody : ∀ (A : Around) (outer : List Env) (s : Shared) (H : Hp) (vs : List V) (Q : VK) (E : XK), Room k (A.deeper (envOfC qual scope s.heap.objs.size f cdv)) → sp vs H Q E →
     ∃ t, PSs (cxOf CX P w K mg base N qual scope f cdv A outer s H E) body t ∧ t { nx := fun _ H' => Q .non H', rt := Q } (start N vs) H) :
   FnOk P w K mg base CX (k + 1) f (PySem.W.fnOf name qual params body scope dV kV doc pm an cdv ct) ps sp := by
 refine ⟨len, fun A outer s H args us vs Q E hr e0 hb r hsp => ?_⟩
 have hl := len _ _ _ _ hsp
 have KX : K.In s.heap := e0.mod.kin.keeps fun b o e => (e0.bs b o e).1
 have lim : s.heap.NoLimit := e0.mod.nolimit.keeps fun b o e => (e0.bs b o e).1
 have hkind : ∀ y ∈ ps.zip us, scope.names.lookup y.1 = some .local ∨ (scope.names.lookup y.1 = some .cell ∧ ((cellsFrom (s.heap.objs.size + 1) scope.names []).lookup y.1).isSome = true) := fun ⟨n, v⟩ hy => by
   rcases S.par n (List.of_mem_zip hy).1 with q | q
   · exact .inl q
   · exact .inr ⟨q, PySem.W.cellsFrom_some _ _ _ (.inl q)⟩
 refine codeAny_call_function hr.depth (KX _ _ lk) rfl S.co S.gen rfl (PySem.W.codeRec_of KX hcd) (hb _ _ _ _ ?_)
 refine wpAny_newFunctionEnv_cells S.kind hkind fun env he s1 x => ?_
 subst he
 refine ⟨lim.keeps x.toInCall.keep, codeAny_func ?_⟩
 obtain ⟨t, ht, hq⟩ := hbody A outer s H vs Q E (hr.deeper _) hsp
 have I : Inv (cxOf CX P w K mg base N qual scope f cdv A outer s H E) [] (start N vs) H s1 := inv_start S hr.hd e0 hl r x
 refine wpAny_mono (ht [] s1 (start N vs) H _ I hq) (fun fl s' hs => ?_) fun e s' hs => hs
 have fin : ∀ {σ' : St} {H' : Hp} {v : V} {u : Value}, Inv (cxOf CX P w K mg base N qual scope f cdv A outer s H E) [] σ' H' s' → RelV v u → Q v H' → CE outer P w H s Q u s' :=
   fun {σ' H' v u} J rv q => ⟨v, H', J.os, J.bare, J.base, J.hok, rv, q⟩
 cases fl with
 | ret u =>
   obtain ⟨v, σ', H', J, rv, q⟩ := hs
   exact fin J rv q
 | next =>
   obtain ⟨σ', H', J, q⟩ := hs
   exact fin (v := V.non) (u := Value.none) J rfl q
 | brk =>
   obtain ⟨_, _, _, q⟩ := hs
   exact False.elim q
 | cont =>
   obtain ⟨_, _, _, q⟩ := hs
   exact False.elim q
end L2
namespace L2
open PySem PySem.Spec PyProof.Rows
section
variable {X : Cx} {x : Str} {p pos : Pos} {e : Expr} {es : List Expr} {t : TA} {id T : String} {r : List V → Hp → VK → Prop}
noncomputable def tCB (r : List V → Hp → VK → Prop) (t : TA) : TE := fun σ H Q => t σ H fun vs H1 => r vs H1 Q
theorem pe_callB (hc : CallR X (.builtin id) r) (hg : Gl X x) (hm : X.mg x = none) (hv : bootBuiltins x = some (.builtin id)) (ha : PA X (e :: es) t) (hn : x ≠ "__name__" := by decide) (hdb : (x == ("__debug__" : Str)) = false := by decide)
   (he : starEach (e :: es) X.env = (false, eval e X.env) :: starEach es X.env := by rfl) (hpl : (backTo pos (starEach es X.env)).any (·.1) = false := by rfl) : PE X (.Call (.Name x p) (e :: es) [] pos) (tCB r t) := by
 intro pins s σ H Q I h
 refine wpAny_Call_Name_kw (ld_blt I hg hm hv ?_ hn hdb)
 exact PyProof.Rows.callWith_builtin1 (thn (ha pos pins s σ H _ I h) fun us s1 ⟨vs, H1, I1, r1, q1⟩ => hc pins s1 σ H1 vs us Q I1 r1 q1) he hpl
theorem pe_callTy (hc : CallR X (.type T) r) (hg : Gl X x) (hm : X.mg x = none) (hv : bootBuiltins x = some (.type T)) (ha : PA X (e :: es) t) (hn : x ≠ "__name__" := by decide) (hdb : (x == ("__debug__" : Str)) = false := by decide)
   (he : starEach (e :: es) X.env = (false, eval e X.env) :: starEach es X.env := by rfl) (hpl : (backTo pos (starEach es X.env)).any (·.1) = false := by rfl) : PE X (.Call (.Name x p) (e :: es) [] pos) (tCB r t) := by
 intro pins s σ H Q I h
 refine wpAny_Call_Name_kw (ld_blt I hg hm hv ?_ hn hdb)
 exact PyProof.Rows.callWith_type1 (thn (ha pos pins s σ H _ I h) fun us s1 ⟨vs, H1, I1, r1, q1⟩ => hc pins s1 σ H1 vs us Q I1 r1 q1) he hpl
end
end L2
namespace HT
open PySem PyProof.Rows
section
open PySem.SeqAt
open PySem.AutoSeq1 (wpAny_loadPart')
open PySem.MeetsSeq PySem.MeetsSeq2 PySem.MeetsSeq3
end
section
variable {prog : Program} {w : World} {A : Around} {E : Value → Shared → Prop} {s : Shared}
theorem cat_tup {t b : Addr} {vs ws : List Value} {Q : Value → Shared → Prop} (ht : IsTup s.heap t vs.toArray) (hb : IsTup s.heap b ws.toArray) (hv : vs ≠ [])
   (h1 : ws = [] → Q (.ref t) s) (h2 : ws ≠ [] → Q (.ref s.heap.objs.size) { s with heap := s.heap.push { cls := .type "tuple", data := .seq (vs ++ ws).toArray } })
   (hsz : vs.length + ws.length ≤ sizeLine) : wpAny (model prog w) A (binaryOp .Add (.ref t) (.ref b)) Q E s := by
 obtain ⟨⟨cls, dd, data, sl⟩, ho, hc, n, hd⟩ := id ht
 obtain ⟨⟨cls2, dd2, data2, sl2⟩, ho2, hc2, n2, hd2⟩ := id hb
 simp only at hc hd hc2 hd2
 subst hc hd hc2 hd2
 have e : vs.toArray ++ ws.toArray = (vs ++ ws).toArray := by simp
 by_cases hw : ws = []
 · exact concat_meets ⟨_, ho, rfl⟩ ⟨_, ho2, rfl⟩ noFill_tuple_add seq_tuple_add PySem.F.slot_tuple_add PySem.F.entry_tuple_add (PySem.F.args_tuple_add_2 _ _)
     (tuple_addW1 t b vs.toArray ws.toArray n n2 dd dd2 sl sl2 (by simpa using hv) (by simp [hw])) ⟨ho, ho2, h1 hw⟩
 · refine concat_meets ⟨_, ho, rfl⟩ ⟨_, ho2, rfl⟩ noFill_tuple_add seq_tuple_add PySem.F.slot_tuple_add PySem.F.entry_tuple_add (PySem.F.args_tuple_add_2 _ _)
     (tuple_addW2 t b vs.toArray ws.toArray n n2 dd dd2 sl sl2 (by simpa using hv) (by simpa using hw) (by rw [List.size_toArray, List.size_toArray]; exact hsz)) ⟨ho, ho2, ?_⟩
   rw [e]
   exact h2 hw
noncomputable def sIx (n d : Nat) : Option Int → Nat
 | none => d
 | some v => if v < 0 then (v + (n : Int)).toNat else min v.toNat n
theorem sIx_none (n d : Nat) : sIx n d none = d := rfl
theorem sIx_nat (n d k : Nat) : sIx n d (some (k : Int)) = min k n := by
 show (if (k : Int) < 0 then ((k : Int) + (n : Int)).toNat else min (k : Int).toNat n) = min k n
 rw [if_neg (by lia), Int.toNat_natCast]
theorem sIx_le (n d : Nat) (hd : d ≤ n) (o : Option Int) : sIx n d o ≤ n := by
 cases o with
 | none => exact hd
 | some v =>
   show (if v < 0 then (v + (n : Int)).toNat else min v.toNat n) ≤ n
   by_cases hv : v < 0
   · rw [if_pos hv]; lia
   · rw [if_neg hv]; exact Nat.min_le_right _ _
theorem clip_eq (v : Int) (n d : Nat) : (if v < 0 then max (v + (n : Int)) 0 else min v (n : Int)) = ((sIx n d (some v) : Nat) : Int) := by
 show (if v < 0 then max (v + (n : Int)) 0 else min v (n : Int)) = (((if v < 0 then (v + (n : Int)).toNat else min v.toNat n) : Nat) : Int)
 by_cases hv : v < 0
 · simp only [if_pos hv]; lia
 · simp only [if_neg hv]; lia
theorem adjust_gen (lo hi : Option Int) (n : Nat) : Builtin.Slice.sliceAdjust lo hi 1 (n : Int) = (((sIx n 0 lo : Nat) : Int), ((sIx n n hi : Nat) : Int)) := by
 have h1 : ¬ ((1 : Int) < 0) := by lia
 unfold Builtin.Slice.sliceAdjust
 simp only [h1, if_false]
 refine Prod.ext ?_ ?_
 · cases lo with
   | none => rfl
   | some v => exact clip_eq v n 0
 · cases hi with
   | none => rfl
   | some v => exact clip_eq v n n
theorem places_gen (i j : Nat) : Builtin.Slice.slicePlaces (i : Int) (j : Int) 1 = j - i := by
 unfold Builtin.Slice.slicePlaces
 have h1 : (1 : Int) > 0 := by lia
 simp only [h1, if_true, Int.ediv_one]
 split <;> lia
theorem slicePart_ {v : Value} {o : Option Int} {Q : Option Int → Shared → Prop} (p : IsPart v o) (h : Q o s) : wpAny (model prog w) A (Builtin.Slice.slicePartIndex v) Q E s := by
 cases p with
 | none => exact slicePart_none h
 | int i t => exact slicePart_int h
theorem sliceApplied_gen {sl : Addr} {vl vu : Value} {lo hi : Option Int} {n : Nat} {Q : Int × Int × Nat → Shared → Prop} (hs : s.heap.IsSliceOf sl vl vu .none) (pl : IsPart vl lo) (pu : IsPart vu hi)
   (h : Q (((sIx n 0 lo : Nat) : Int), 1, sIx n n hi - sIx n 0 lo) s) : wpAny (model prog w) A (Builtin.Slice.sliceApplied (.ref sl) (pure (n : Int))) Q E s := by
 obtain ⟨os, hos, hcs, hds⟩ := id hs
 unfold Builtin.Slice.sliceApplied Builtin.Slice.sliceFields
 refine wpAny_bind (wpAny_bind (wpAny_field hos hds (x := vl) rfl (wpAny_bind (wpAny_field hos hds (x := vu) rfl (wpAny_bind (wpAny_field hos hds (x := .none) rfl (wpAny_pure ?_)))))))
 refine wpAny_bind (slicePart_none ?_)
 show wpAny _ _ (if ((1 : Int) == 0) = true then _ else _) _ _ s
 rw [if_neg (by decide)]
 refine wpAny_bind (slicePart_ pl (wpAny_bind (slicePart_ pu (wpAny_bind (wpAny_pure ?_)))))
 show wpAny _ _ (match Builtin.Slice.sliceAdjust lo hi 1 (n : Int) with | (lo, hi) => pure (lo, (1 : Int), Builtin.Slice.slicePlaces lo hi 1)) _ _ s
 rw [adjust_gen lo hi n]
 show wpAny _ _ (pure (((sIx n 0 lo : Nat) : Int), (1 : Int), Builtin.Slice.slicePlaces ((sIx n 0 lo : Nat) : Int) ((sIx n n hi : Nat) : Int) 1)) _ _ s
 rw [places_gen]
 exact wpAny_pure h
theorem pick_gen (xs : Array Value) (i k : Nat) : ((List.range k).filterMap fun (m : Nat) => xs[((i : Int) + (m : Int) * 1).toNat]?).toArray = ((xs.toList.drop i).take k).toArray := by
 have e : (fun (m : Nat) => xs[((i : Int) + (m : Int) * 1).toNat]?) = fun m => xs[i + m]? := by
   funext m
   have : ((i : Int) + (m : Int) * 1).toNat = i + m := by lia
   rw [this]
 rw [e]
 have := pick_run xs i k
 rw [List.filterMap_map] at this
 have e2 : ((fun x => xs[x]?) ∘ fun x => i + x) = fun m => xs[i + m]? := rfl
 rw [e2] at this
 rw [this]
theorem getItem_tuple_cut {t sl : Addr} {items : Array Value} {vl vu : Value} {lo hi : Option Int} {Q : Value → Shared → Prop} (ht : IsTup s.heap t items) (hs : s.heap.IsSliceOf sl vl vu .none) (pl : IsPart vl lo) (pu : IsPart vu hi)
   (hw : ¬ (sIx items.size 0 lo = 0 ∧ sIx items.size items.size hi = items.size))
   (h : Q (.ref s.heap.objs.size) { s with heap := s.heap.push { cls := .type "tuple", data := .seq ((items.toList.drop (sIx items.size 0 lo)).take (sIx items.size items.size hi - sIx items.size 0 lo)).toArray } })
   (hsz : items.size ≤ sizeLine) : wpAny (model prog w) A (getItem (.ref t) (.ref sl)) Q E s := by
 have htake : sizeOk (.seq ((items.toList.drop (sIx items.size 0 lo)).take (sIx items.size items.size hi - sIx items.size 0 lo)).toArray) := by
   show ((items.toList.drop (sIx items.size 0 lo)).take (sIx items.size items.size hi - sIx items.size 0 lo)).toArray.size ≤ sizeLine
   rw [List.size_toArray, List.length_take, List.length_drop, Array.length_toList]
   lia
 have hj : sIx items.size items.size hi ≤ items.size := sIx_le _ _ (Nat.le_refl _) hi
 obtain ⟨os, hos, hcs, hds⟩ := id hs
 have hTs : s.TypeIs (.ref sl) "slice" := ⟨os, hos, hcs⟩
 unfold getItem
 try with_reducible refine wpAny_holding ?_
 first | refine wpAny_bind (wpAny_pure ?_) | skip
 refine wpAny_bind (wpAny_sequenceKey ht.typeIs (by decide) ?_)
 refine wpAny_bind (wpAny_callSpecial?_slot (name := Str.ofString "__getitem__") ht.typeIs PyProof.Rows.slot_tuple_getitem
   (wpAny_call_entry PyProof.Rows.slot_tuple_getitem ht.typeIs entry_tuple_getitem ?_ (args_tuple_getitem _ _)))
 show wpAny _ _ (Builtin.Tuple.tupleItemsOf (.ref t) >>= _) _ _ s
 refine wpAny_bind (tupleItemsOf_ ht ?_)
 refine wpAny_bind (wpAny_typeOf hTs ?_)
 rw [if_pos (by decide)]
 refine wpAny_bind (sliceApplied_gen hs pl pu ?_)
 have hno : ¬ ((((sIx items.size 0 lo : Nat) : Int) == 0 && (1 : Int) == 1 && (sIx items.size items.size hi - sIx items.size 0 lo) == items.size) = true) := by
   intro q
   rw [Bool.and_eq_true, Bool.and_eq_true] at q
   have q1 : ((sIx items.size 0 lo : Nat) : Int) = 0 := eq_of_beq q.1.1
   have q2 : sIx items.size items.size hi - sIx items.size 0 lo = items.size := eq_of_beq q.2
   exact hw ⟨by lia, by lia⟩
 show wpAny _ _ (if (((sIx items.size 0 lo : Nat) : Int) == 0 && (1 : Int) == 1 && (sIx items.size items.size hi - sIx items.size 0 lo) == items.size) = true then _ else _) _ _ s
 rw [if_neg hno, pick_gen]
 first
   | exact wpAny_bind (m := Builtin.Tuple.tupleExact _) (wpAny_newObj_type (wpAny_pure ⟨_, rfl, wpAny_pure h⟩) htake)
   | exact wpAny_bind (m := Builtin.Tuple.tupleExact _) (wpAny_newObj_type (wpAny_bind (wpAny_pure (wpAny_pure ⟨_, rfl, wpAny_pure h⟩))) htake)
   | exact wpAny_bind (wpAny_bind (m := Builtin.Tuple.tupleExact _) (wpAny_newObj_type (wpAny_pure (wpAny_pure ⟨_, rfl, wpAny_pure h⟩)) htake))
   | exact wpAny_bind (wpAny_bind (m := Builtin.Tuple.tupleExact _) (wpAny_newObj_type (wpAny_pure ⟨_, rfl, wpAny_pure h⟩) htake))
end
end HT
namespace L2
open PySem PySem.Spec PyProof.Rows
noncomputable abbrev TO := St → Hp → (Option Int → Hp → Prop) → Prop
noncomputable def PO (X : Cx) (e : Option Expr) (t : TO) : Prop :=
 ∀ (pins : List (Addr × Obj)) (s : Shared) (σ : St) (H : Hp) (Q : Option Int → Hp → Prop), Inv X pins σ H s → t σ H Q →
   wpAny (model X.prog X.w) X.A (evalPart e X.env) (fun u s' => ∃ o H', Inv X pins σ H' s' ∧ IsPart u o ∧ Q o H') X.xe s
noncomputable def tNoPart : TO := fun _ H Q => Q none H
noncomputable def tPart (t : TE) : TO := fun σ H Q => t σ H fun x H1 => ∃ i, x = .int i ∧ Q (some i) H1
section
variable {X : Cx} {e : Expr} {te : TE} {lo hi : Option Expr} {tl th : TO} {pos p2 : Pos}
theorem po_none : PO X none tNoPart := by
 intro pins s σ H Q I h
 rw [evalPart_none]
 exact wpAny_pure ⟨none, H, I, .none, h⟩
theorem po_some (h : PE X e te) : PO X (some e) (tPart te) := by
 intro pins s σ H Q I hw
 rw [evalPart_some]
 refine thn (h pins s σ H _ I hw) fun u s1 ⟨x, H1, I1, r1, q1⟩ => ?_
 obtain ⟨i, rfl, q⟩ := q1
 obtain ⟨t, rfl⟩ := r1
 exact ⟨some i, H1, I1, .int i t, q⟩
noncomputable def SlR (X : Cx) (r : V → Option Int → Option Int → Hp → VK → Prop) : Prop :=
 ∀ (pins : List (Addr × Obj)) (s : Shared) (σ : St) (H : Hp) (x : V) (v vl vu : Value) (lo hi : Option Int) (sl : Addr) (Q : VK), Inv X pins σ H s → RelV x v → s.heap.IsSliceOf sl vl vu .none → IsPart vl lo → IsPart vu hi → r x lo hi H Q →
   ∃ T id, typeLookup (.type T) "__getitem__" = pure (some (.builtin id)) ∧ s.TypeIs v T ∧ wpAny (model X.prog X.w) X.A (getItem v (.ref sl)) (EP X pins σ Q) X.xe s
theorem SlR.or {r r' : V → Option Int → Option Int → Hp → VK → Prop} (h : SlR X r) (h' : SlR X r') : SlR X (fun x lo hi H Q => r x lo hi H Q ∨ r' x lo hi H Q) := by
 intro pins s σ H x v vl vu lo hi sl Q I rx hs pl pu q
 rcases q with q | q
 · exact h pins s σ H x v vl vu lo hi sl Q I rx hs pl pu q
 · exact h' pins s σ H x v vl vu lo hi sl Q I rx hs pl pu q
noncomputable def tSl (r : V → Option Int → Option Int → Hp → VK → Prop) (te : TE) (tl th : TO) : TE := fun σ H Q => te σ H fun x H1 => tl σ H1 fun l H2 => th σ H2 fun u H3 => r x l u H3 Q
theorem pe_slice {r : V → Option Int → Option Int → Hp → VK → Prop} (hr : SlR X r) (he : PE X e te) (hl : PO X lo tl) (hu : PO X hi th) : PE X (.Subscript e (.Slice lo hi none p2) pos) (tSl r te tl th) := by
 intro pins s σ H Q I h
 refine Subscript_ (thn (he pins s σ H _ I h) fun v s1 ⟨x, H1, I1, r1, q1⟩ => ?_)
 refine wpAny_Slice (thn (hl pins s1 σ H1 _ I1 q1) fun vl s2 ⟨l, H2, I2, pl, q2⟩ => thn (hu pins s2 σ H2 _ I2 q2) fun vu s3 ⟨u, H3, I3, pu, q3⟩ => ?_)
 rw [evalPart_none]
 refine wpAny_pure ?_
 have I4 : Inv X pins σ H3 { s3 with heap := s3.heap.push { cls := .type "slice", data := .fields #[vl, vu, .none] } } := I3.kept (t' := s3.toks) fun b ob q => Heap.get?_push_of_some _ q
 obtain ⟨T, id, hT, ht, hg⟩ := hr pins { s3 with heap := s3.heap.push { cls := .type "slice", data := .fields #[vl, vu, .none] } } σ H3 x v vl vu l u s3.heap.objs.size Q I4 r1 (Heap.IsSliceOf.new ..) pl pu q3
 show wpAny (model X.prog X.w) X.A (subscriptTail e (.Slice lo hi none p2) v (.ref s3.heap.objs.size)) (EP X pins σ Q) X.xe { s3 with heap := s3.heap.push { cls := .type "slice", data := .fields #[vl, vu, .none] } }
 exact tail_any (ops := [.ref s3.heap.objs.size, v]) ht hT hg (by with_unfolding_all rfl)
noncomputable def cutV (xs : List V) (lo hi : Option Int) : List V := (xs.drop (HT.sIx xs.length 0 lo)).take (HT.sIx xs.length xs.length hi - HT.sIx xs.length 0 lo)
theorem cutV_length (xs : List V) (lo hi : Option Int) : (cutV xs lo hi).length ≤ xs.length := by
 unfold cutV
 rw [List.length_take, List.length_drop]
 lia
noncomputable def rSlT (K : PySem.W.Frag) : V → Option Int → Option Int → Hp → VK → Prop := fun x lo hi H Q => ∃ a xs, x = .ref a ∧ SqT K H a xs ∧
 ¬ (HT.sIx xs.length 0 lo = 0 ∧ HT.sIx xs.length xs.length hi = xs.length) ∧ ∀ p, H p = none → Q (.ref p) (upd H p (.tup (cutV xs lo hi)))
theorem sl_tup : SlR X (rSlT X.K) := by
 intro pins s σ H x v vl vu lo hi sl Q I rx hs pl pu h
 obtain ⟨a, xs, rfl, hx, hw, q⟩ := h
 cases rx
 obtain ⟨its, r, ht, hz⟩ := I.tuple hx
 have hlen : its.toArray.size = xs.length := by rw [List.size_toArray]; exact r.length.symm
 refine ⟨"tuple", _, PyProof.Rows.slot_tuple_getitem.lookup, ht.typeIs, ?_⟩
 refine HT.getItem_tuple_cut ht hs pl pu (by rw [hlen]; exact hw) ?_ (by rw [hlen]; exact hz)
 rw [hlen]
 refine ⟨.ref s.heap.objs.size, _, I.laid (t' := s.toks) (o := .tup (cutV xs lo hi)) (fun b ob q => Heap.get?_push_of_some _ q) (Nat.le_refl _) ?_, rfl, q _ (I.hok.fresh (Nat.le_refl _))⟩
 exact ⟨Nat.le_trans (cutV_length xs lo hi) hz, _, (r.drop (HT.sIx xs.length 0 lo)).take (HT.sIx xs.length xs.length hi - HT.sIx xs.length 0 lo), IsTup0.new _ _⟩
noncomputable def rCatT (K : PySem.W.Frag) : R2 := fun x y H Q => ∃ a b xs ys, x = .ref a ∧ y = .ref b ∧ SqT K H a xs ∧ SqT K H b ys ∧ xs ≠ [] ∧ xs.length + ys.length ≤ sizeLine ∧
 (ys = [] → Q (.ref a) H) ∧ (ys ≠ [] → ∀ p, H p = none → Q (.ref p) (upd H p (.tup (xs ++ ys))))
theorem Vals.nil_iff {xs : List V} {us : List Value} (r : Vals xs us) : us = [] ↔ xs = [] := by
 cases r with
 | nil => simp
 | cons _ _ => simp
theorem op_catT : OpR X (binaryOp .Add) (rCatT X.K) := by
 intro pins s σ H x y v u Q I rx ry h
 obtain ⟨a, b, xs, ys, rfl, rfl, ha, hb, hx, hz, q1, q2⟩ := h
 cases rx
 cases ry
 obtain ⟨its, r1, p1, _⟩ := I.tuple ha
 obtain ⟨its2, r2, p2, _⟩ := I.tuple hb
 refine HT.cat_tup p1 p2 (fun z => hx (r1.nil_iff.mp z)) (fun z => ⟨.ref a, H, I, rfl, q1 (r2.nil_iff.mp z)⟩) (fun z => ?_) (by rw [← r1.length, ← r2.length]; exact hz)
 refine ⟨.ref s.heap.objs.size, _, I.laid (t' := s.toks) (o := .tup (xs ++ ys)) (fun b ob q => Heap.get?_push_of_some _ q) (Nat.le_refl _) ?_, rfl, q2 (fun w => z (r2.nil_iff.mpr w)) _ (I.hok.fresh (Nat.le_refl _))⟩
 exact ⟨by rw [List.length_append]; exact hz, _, r1.append r2, IsTup0.new _ _⟩
end
end L2
namespace L2
open PySem PySem.Spec PyProof.Rows
noncomputable def ixN (n : Nat) (i : Int) : Option Nat := if 0 ≤ i then (if i < n then some i.toNat else none) else if -(n : Int) ≤ i then some (i + n).toNat else none
noncomputable def atI {α : Type} (xs : List α) (i : Int) : Option α := (ixN xs.length i).bind fun j => xs[j]?
theorem ixN_seq {n : Nat} {i : Int} {j : Nat} (h : ixN n i = some j) : seqIndex? i n = some j ∧ j < n ∧ -(n : Int) ≤ i ∧ i < n := by
 unfold ixN at h
 by_cases h0 : 0 ≤ i
 · rw [if_pos h0] at h
   by_cases h1 : i < n
   · rw [if_pos h1] at h
     have e : i.toNat = j := Option.some.inj h
     exact ⟨by rw [seqIndex_of h0 h1, e], by lia, by lia, h1⟩
   · rw [if_neg h1] at h; cases h
 · rw [if_neg h0] at h
   by_cases h1 : -(n : Int) ≤ i
   · rw [if_pos h1] at h
     have e : (i + n).toNat = j := Option.some.inj h
     exact ⟨by rw [seqIndex_neg (by lia) h1, e], by lia, h1, by lia⟩
   · rw [if_neg h1] at h; cases h
theorem atI_get {α : Type} {xs : List α} {i : Int} {v : α} (h : atI xs i = some v) : ∃ j, seqIndex? i xs.length = some j ∧ xs[j]? = some v ∧ j < xs.length ∧ -(xs.length : Int) ≤ i ∧ i < xs.length := by
 unfold atI at h
 cases e : ixN xs.length i with
 | none => rw [e] at h; cases h
 | some j =>
   rw [e] at h
   obtain ⟨h1, h2, h3, h4⟩ := ixN_seq e
   exact ⟨j, h1, h, h2, h3, h4⟩
theorem atI_nat {α : Type} {xs : List α} {j : Nat} {v : α} (h : xs[j]? = some v) : atI xs (j : Int) = some v := by
 have hj : j < xs.length := (List.getElem?_eq_some_iff.mp h).1
 have e : ixN xs.length (j : Int) = some j := by
   unfold ixN
   rw [if_pos (by lia), if_pos (by lia)]; simp
 unfold atI; rw [e]; exact h
theorem atI_last {α : Type} (xs : List α) (v : α) : atI (xs ++ [v]) (-1) = some v := by
 have hl : (xs ++ [v]).length = xs.length + 1 := by simp
 have e : ixN (xs ++ [v]).length (-1) = some xs.length := by
   unfold ixN
   rw [hl, if_neg (by decide), if_pos (by lia)]
   congr 1
   lia
 unfold atI
 rw [e]
 show (xs ++ [v])[xs.length]? = some v
 simp
noncomputable def PlainIx (b : Expr) : Prop := ∀ o i, subscripted b false o i = operate [o, i] (getItem o i)
noncomputable def IxR (X : Cx) (r : R2) : Prop :=
 ∀ (value slice : Expr) (pins : List (Addr × Obj)) (s : Shared) (σ : St) (H : Hp) (x y : V) (v u : Value) (Q : VK), Inv X pins σ H s → RelV x v → RelV y u → r x y H Q →
   subscripted slice false v u = operate [v, u] (getItem v u) → wpAny (model X.prog X.w) X.A (subscriptTail value slice v u) (EP X pins σ Q) X.xe s
noncomputable def MtR (X : Cx) (id : String) (r : V → List V → Hp → VK → Prop) : Prop :=
 ∀ (pins : List (Addr × Obj)) (s : Shared) (σ : St) (H : Hp) (x : V) (xs : List V) (v : Value) (us : List Value) (Q : VK), Inv X pins σ H s → RelV x v → Vals xs us → r x xs H Q →
   wpAny (model X.prog X.w) X.A (call (.builtin id) (v :: us)) (EP X pins σ Q) X.xe s
section
variable {X : Cx} {a b : Expr} {ta tb : TE} {pos : Pos}
theorem pe_ix {r : R2} (hr : IxR X r) (ha : PE X a ta) (hb : PE X b tb) (hs : PlainIx b) : PE X (.Subscript a b pos) (tOp r ta tb) := by
 intro pins s σ H Q I h
 exact Subscript_ (binT ha hb I h fun v u s2 x y H2 I2 rx ry q => hr a b pins s2 σ H2 x y v u Q I2 rx ry q (hs _ _))
noncomputable def rIxL (K : PySem.W.Frag) : R2 := fun x y H Q => ∃ p xs i v, x = .ref p ∧ y = .int i ∧ SqL K H p xs ∧ atI xs i = some v ∧ Q v H
noncomputable def rIxT (K : PySem.W.Frag) : R2 := fun x y H Q => ∃ p xs i v, x = .ref p ∧ y = .int i ∧ SqT K H p xs ∧ atI xs i = some v ∧ Q v H
noncomputable def rIxS : R2 := fun x y H Q => ∃ z i c, x = .str z ∧ y = .int i ∧ z.length ≤ sizeLine ∧ atI z.cps.toList i = some c ∧ Q (.str ⟨#[c]⟩) H
theorem ix_list : IxR X (rIxL X.K) := by
 intro value slice pins s σ H x y v u Q I rx ry h hs
 obtain ⟨p, xs, i, z, rfl, rfl, hq, he, q⟩ := h
 cases rx
 obtain ⟨t, rfl⟩ := ry
 obtain ⟨its, r, pl, hz⟩ := I.list hq
 obtain ⟨j, h1, h2, h3, h4, h5⟩ := atI_get he
 obtain ⟨w, ew, rw'⟩ := r.get h2
 have hl := r.length
 have hn := line63
 have fin : EP X pins σ Q w s := ⟨z, H, I, rw', q⟩
 by_cases h0 : 0 ≤ i
 · have hj : i.toNat = j := by
     rw [seqIndex_of h0 h5] at h1
     exact Option.some.inj h1
   exact item_listR pl.isList h0 (by lia) (by rw [hj]; simpa using ew) fin hs
 · have hj : (i + (its.toArray.size : Int)).toNat = j := by
     rw [seqIndex_neg (by lia) h4] at h1
     rw [List.size_toArray, ← hl]
     exact Option.some.inj h1
   exact subscriptTail_builtinR (x := w) pl.isList.typeIs slot_list_getitem.lookup
     (wpAny_getItem_list_neg (Q := fun r s' => r = w ∧ EP X pins σ Q r s') pl.isList (by lia) (by rw [List.size_toArray] <;> lia) (by lia) (by rw [hj]; simpa using ew) ⟨rfl, fin⟩) hs
theorem ix_tup : IxR X (rIxT X.K) := by
 intro value slice pins s σ H x y v u Q I rx ry h hs
 obtain ⟨p, xs, i, z, rfl, rfl, hq, he, q⟩ := h
 cases rx
 obtain ⟨t, rfl⟩ := ry
 obtain ⟨its, r, pl, hz⟩ := I.tuple hq
 obtain ⟨j, h1, h2, h3, h4, h5⟩ := atI_get he
 obtain ⟨w, ew, rw'⟩ := r.get h2
 have hl := r.length
 have hn := line63
 have fin : EP X pins σ Q w s := ⟨z, H, I, rw', q⟩
 exact subscriptTail_builtinR (x := w) pl.typeIs slot_tuple_getitem.lookup
   (getItem_tuple (j := j) (Q := fun r s' => r = w ∧ EP X pins σ Q r s') pl (by lia) (by lia) (by rw [List.size_toArray, ← hl]; exact h1) (by simpa using ew) ⟨rfl, fin⟩) hs
theorem ix_str : IxR X rIxS := by
 intro value slice pins s σ H x y v u Q I rx ry h hs
 obtain ⟨z, i, c, rfl, rfl, hz, he, q⟩ := h
 obtain ⟨t, rfl⟩ := rx
 obtain ⟨t', rfl⟩ := ry
 obtain ⟨j, h1, h2, h3, h4, h5⟩ := atI_get he
 have hl : z.cps.toList.length = z.length := by simp [Str.length]
 rw [hl] at h1 h4 h5
 have hn := line63
 exact tail_any (typeIs_str s z t) slot_str_getitem.lookup (getItem_str (c := c) (by
   have e1 : decide (i < -(2 ^ 63 : Int)) = false := decide_eq_false (by lia)
   have e2 : decide (i ≥ 2 ^ 63) = false := decide_eq_false (by lia)
   rw [e1, e2, Bool.or_false]) (by rw [h1]; simpa using h2) ⟨.str ⟨#[c]⟩, H, I.tok _, ⟨_, rfl⟩, q⟩) hs
theorem mapSeq_set (its : List Value) (n j : Nat) (u : Value) : Obj.mapSeq (·.setIfInBounds j u) { cls := .type "list", data := .seq its.toArray n } = { cls := .type "list", data := .seq (its.set j u).toArray n } := by
 simp [Obj.mapSeq]
theorem Inv.lst {pins : List (Addr × Obj)} {σ : St} {H : Hp} {s : Shared} {p : Addr} {xs : List V} (I : Inv X pins σ H s) (h : H p = some (.lst xs)) :
   ∃ (its : List Value) (n : Nat), Vals xs its ∧ s.heap.get? p = some { cls := .type "list", data := .seq its.toArray n } ∧ xs.length ≤ sizeLine := by
 obtain ⟨z, its, n, r, e⟩ := I.hok p _ h
 exact ⟨its, n, r, e, z⟩
theorem Inv.lstUpd {pins : List (Addr × Obj)} {σ : St} {H : Hp} {s : Shared} {p : Addr} {xs ys : List V} {its its' : List Value} {n n' : Nat} {f : Obj → Obj} (I : Inv X pins σ H s) (h : H p = some (.lst xs))
   (ho : s.heap.get? p = some { cls := .type "list", data := .seq its.toArray n }) (hf : f { cls := .type "list", data := .seq its.toArray n } = { cls := .type "list", data := .seq its'.toArray n' }) (r : Vals ys its') (hz : ys.length ≤ sizeLine) (t : Nat) :
   Inv X pins σ (upd H p (.lst ys)) { s with heap := s.heap.update p f, toks := t } := by
 have e : (s.heap.update p f).get? p = some { cls := .type "list", data := .seq its'.toArray n' } := by
   rw [Heap.get?_update_self f ho (by rw [hf] <;> rfl), hf]
 refine I.write (x := p) (e := p) (by rw [h]; trivial) (.inl rfl) (fun b u hb q => (Heap.get?_update_other _ _ (Ne.symm hb)).trans q) ⟨_, e⟩ ?_
 exact ⟨hz, its', n', r, e⟩
noncomputable def rSetL : V → V → V → Hp → (Hp → Prop) → Prop := fun o i v H Q => ∃ p xs k j, o = .ref p ∧ i = .int k ∧ H p = some (.lst xs) ∧ ixN xs.length k = some j ∧ Q (upd H p (.lst (xs.set j v)))
theorem set_list : PSet X rSetL := by
 intro pins s σ H o i v ov iv u Q I ro ri rv h
 obtain ⟨p, xs, k, j, rfl, rfl, hp, hj, q⟩ := h
 cases ro
 obtain ⟨t, rfl⟩ := ri
 obtain ⟨its, n, r, ho, hz⟩ := I.lst hp
 obtain ⟨h1, h2, h3, h4⟩ := ixN_seq hj
 have hl := r.length
 have hn := line63
 have I' : Inv X pins σ (upd H p (.lst (xs.set j v))) { s with heap := s.heap.update p (Obj.mapSeq (·.setIfInBounds j u)) } :=
   I.lstUpd hp ho (mapSeq_set its n j u) (r.set rv j) (by rw [List.length_set]; exact hz) s.toks
 by_cases h0 : 0 ≤ k
 · have hk : k.toNat = j := by
     rw [seqIndex_of h0 h4] at h1
     exact Option.some.inj h1
   exact PySem.W.ki_setAt ho h0 (by lia) (by rw [List.size_toArray, ← hl]; exact h4) (by rw [hk]; exact ⟨_, I', q⟩)
 · have hk : (k + (its.toArray.size : Int)).toNat = j := by
     rw [seqIndex_neg (by lia) h3] at h1
     rw [List.size_toArray, ← hl]
     exact Option.some.inj h1
   exact PySem.W.ki_setBack ho (by lia) (by rw [List.size_toArray, ← hl]; exact h3) (by lia) (by rw [hk]; exact ⟨_, I', q⟩)
theorem slice_bounds (lo hi : Option Int) (n : Nat) : (sliceBounds lo hi none n).1 = ((HT.sIx n 0 lo : Nat) : Int) ∧ (sliceBounds lo hi none n).2.1 = ((HT.sIx n n hi : Nat) : Int) ∧ (sliceBounds lo hi none n).2.2 = 1 := by
 refine ⟨?_, ?_, rfl⟩
 · cases lo with
   | none => simp [sliceBounds, HT.sIx]
   | some i =>
     simp only [sliceBounds, HT.sIx, Option.getD_none, show (1 : Int) > 0 by decide, if_true]
     by_cases h : i < 0
     · simp only [h, if_true] <;> lia
     · simp only [h, if_false] <;> lia
 · cases hi with
   | none => simp [sliceBounds, HT.sIx]
   | some i =>
     simp only [sliceBounds, HT.sIx, Option.getD_none, show (1 : Int) > 0 by decide, if_true]
     by_cases h : i < 0
     · simp only [h, if_true] <;> lia
     · simp only [h, if_false] <;> lia
theorem slicePick_cut (its : List Value) (lo hi : Option Int) : slicePick its.toArray lo hi none = ((its.drop (HT.sIx its.length 0 lo)).take (HT.sIx its.length its.length hi - HT.sIx its.length 0 lo)).toArray := by
 obtain ⟨h1, h2, h3⟩ := slice_bounds lo hi its.toArray.size
 unfold slicePick
 rw [h1, h2, h3]
 simp only [sliceRange_one, pick_run, List.size_toArray] <;> rfl
noncomputable def rSlL (K : PySem.W.Frag) : V → Option Int → Option Int → Hp → VK → Prop := fun x lo hi H Q => ∃ a xs, x = .ref a ∧ SqL K H a xs ∧ ∀ p, H p = none → Q (.ref p) (upd H p (.lst (cutV xs lo hi)))
theorem sl_list : SlR X (rSlL X.K) := by
 intro pins s σ H x v vl vu lo hi sl Q I rx hs pl pu h
 obtain ⟨a, xs, rfl, hx, q⟩ := h
 cases rx
 obtain ⟨its, r, ht, hz⟩ := I.list hx
 have hlen := r.length
 refine ⟨"list", _, slot_list_getitem.lookup, ht.isList.typeIs, ?_⟩
 refine wpAny_getItem_list_slice ht.isList hs pl pu .none (by simp) ?_ (by rw [List.size_toArray] <;> lia)
 rw [slicePick_cut, ← hlen]
 refine ⟨.ref s.heap.objs.size, _, I.laid (t' := s.toks) (o := .lst (cutV xs lo hi)) (fun b ob q => Heap.get?_push_of_some _ q) (Nat.le_refl _) ?_, rfl, q _ (I.hok.fresh (Nat.le_refl _))⟩
 exact ⟨Nat.le_trans (cutV_length xs lo hi) hz, _, 0, (r.drop (HT.sIx xs.length 0 lo)).take (HT.sIx xs.length xs.length hi - HT.sIx xs.length 0 lo), Heap.get?_push_size _ rfl⟩
theorem call_len_seq : CallR X (.builtin "len") (fun xs H Q => ∃ p ys, xs = [.ref p] ∧ (SqL X.K H p ys ∨ SqT X.K H p ys) ∧ Q (.int ys.length) H) := by
 intro pins s σ H xs us Q I r h
 obtain ⟨p, ys, rfl, hq, q⟩ := h
 obtain ⟨u, rfl, rx⟩ := vals1 r
 cases rx
 have hn := line63
 rcases hq with hq | hq
 · obtain ⟨its, r', pl, hz⟩ := I.list hq
   have hlen := r'.length
   exact Calls.call_len_list pl.isList (by simp only [List.size_toArray] <;> lia) ⟨.int ys.length, H, I.tok _, ⟨s.toks + 1, by rw [List.size_toArray, hlen]⟩, q⟩
 · obtain ⟨its, r', pl, hz⟩ := I.tuple hq
   have hlen := r'.length
   exact len_tuple pl (by simp only [List.size_toArray] <;> lia) ⟨.int ys.length, H, I.tok _, ⟨s.toks + 1, by rw [List.size_toArray, hlen]⟩, q⟩
theorem call_len_str : CallR X (.builtin "len") (fun xs H Q => ∃ z, xs = [.str z] ∧ z.length ≤ sizeLine ∧ Q (.int z.length) H) := by
 intro pins s σ H xs us Q I r h
 obtain ⟨z, rfl, hz, q⟩ := h
 obtain ⟨u, rfl, t, rfl⟩ := vals1 r
 have hn := line63
 exact len_str (by lia) ⟨.int z.length, H, I.tok _, ⟨_, rfl⟩, q⟩
theorem call_tuple_of : CallR X (.type "tuple") (fun xs H Q => ∃ p ys, xs = [.ref p] ∧ ((SqL X.K H p ys ∧ ∀ l, H l = none → Q (.ref l) (upd H l (.tup ys))) ∨ (SqT X.K H p ys ∧ Q (.ref p) H))) := by
 intro pins s σ H xs us Q I r h
 obtain ⟨p, ys, rfl, h⟩ := h
 obtain ⟨u, rfl, rx⟩ := vals1 r
 cases rx
 rcases h with ⟨hq, q⟩ | ⟨hq, q⟩
 · obtain ⟨its, r', pl, hz⟩ := I.list hq
   have hlen := r'.length
   refine call_tuple_list pl.isList (fun h' kp => ?_) (by simp only [List.size_toArray] <;> lia)
   have I1 : Inv X pins σ H { s with heap := h' } := I.kept (t' := s.toks) kp
   have I2 : Inv X pins σ (upd H h'.objs.size (.tup ys)) { s with heap := h'.push { cls := .type "tuple", data := .seq its.toArray } } :=
     I1.laid (t' := s.toks) (fun b o e => Heap.get?_push_of_some _ e) (Nat.le_refl _) (show ObjOk X.prog X.w _ _ _ (.tup ys) from ⟨hz, its, r', IsTup0.new _ _⟩)
   exact ⟨.ref h'.objs.size, _, I2, rfl, q _ (I1.hok.fresh (Nat.le_refl _))⟩
 · obtain ⟨its, r', pl, hz⟩ := I.tuple hq
   exact call_tuple_same pl ⟨.ref p, H, I, rfl, q⟩
noncomputable def tyV (K : PySem.W.Frag) (T : String) (x : V) (H : Hp) : Prop := match x with
 | .str _ => T = "str"
 | .int _ => T = "int"
 | .ref p => (T = "list" ∧ ∃ xs, SqL K H p xs) ∨ (T = "tuple" ∧ ∃ o, K.lookup p = some o ∧ o.cls = .type "tuple" ∧ o.dict = none) ∨
     (T = "dict" ∧ ((∃ kvs, H p = some (.dK kvs)) ∨ ∃ kvs, H p = some (.dT kvs))) ∨ (T = "set" ∧ ∃ S n, H p = some (.set S n))
 | _ => False
theorem tyV_is {pins : List (Addr × Obj)} {σ : St} {H : Hp} {s : Shared} {T : String} {x : V} {v : Value} (I : Inv X pins σ H s) (r : RelV x v) (ty : tyV X.K T x H) :
   s.TypeIs v T ∧ ∀ a, v = .ref a → ∃ ob, s.heap.get? a = some ob ∧ ob.dict = none := by
 cases x with
 | str z =>
   obtain ⟨t, rfl⟩ := r
   cases (show T = "str" from ty)
   exact ⟨typeIs_str s z t, fun _ e => nomatch e⟩
 | int i =>
   obtain ⟨t, rfl⟩ := r
   cases (show T = "int" from ty)
   exact ⟨typeIs_int s i t, fun _ e => nomatch e⟩
 | ref p =>
   cases r
   rcases ty with ⟨rfl, xs, hq⟩ | ⟨rfl, o, hk, hc, hd⟩ | ⟨rfl, hk⟩ | ⟨rfl, S, n, hk⟩
   · obtain ⟨its, _, pl, _⟩ := I.list hq
     refine ⟨pl.isList.typeIs, fun a e => ?_⟩
     cases e
     obtain ⟨o, n, e, c, hd, _⟩ := pl
     exact ⟨o, e, hd⟩
   · refine ⟨⟨o, I.kIn p o hk, hc⟩, fun a e => ?_⟩
     cases e
     exact ⟨o, I.kIn _ o hk, hd⟩
   · have z : ∃ o, s.heap.get? p = some o ∧ o.ExactDict := by
       rcases hk with ⟨kvs, hk⟩ | ⟨kvs, hk⟩
       · obtain ⟨_, _, _, _, o, _, _, e, ex, _⟩ := I.hok p _ hk
         exact ⟨o, e, ex⟩
       · obtain ⟨_, _, _, _, o, _, _, e, ex, _⟩ := I.hok p _ hk
         exact ⟨o, e, ex⟩
     obtain ⟨o, e, ex⟩ := z
     refine ⟨⟨o, e, ex.1⟩, fun a e2 => ?_⟩
     cases e2
     exact ⟨o, e, ex.2.1⟩
   · obtain ⟨o, _, _, _, e, ex, _⟩ := I.hok p _ hk
     refine ⟨⟨o, e, ex.1⟩, fun a e2 => ?_⟩
     cases e2
     exact ⟨o, e, ex.2.1⟩
 | _ => exact False.elim ty
noncomputable def tBM0 (K : PySem.W.Frag) (T : String) (r : V → List V → Hp → VK → Prop) (to : TE) : TE := fun σ H Q => to σ H fun x H1 => tyV K T x H1 ∧ r x [] H1 Q
noncomputable def tBM (K : PySem.W.Frag) (T : String) (r : V → List V → Hp → VK → Prop) (to : TE) (t : TA) : TE := fun σ H Q => to σ H fun x H1 => tyV K T x H1 ∧ t σ H1 fun xs H2 => r x xs H2 Q
variable {o e : Expr} {es : List Expr} {to : TE} {t : TA} {name : Str} {apos cpos : Pos} {T id : String} {r : V → List V → Hp → VK → Prop}
theorem pe_bm0 (pa : PlainAttrs T) (slot : Slot T name id) (hty : typeOf (.builtin id) = pure (.type "method_descriptor")) (hm : MtR X id r) (ho : PE X o to)
   (hbase : attributeBase o name X.env (eval o X.env) = eval o X.env := by rfl) (hline : (apos.endLine == cpos.line) = true := by rfl) : PE X (.Call (.Attribute o name apos) [] [] cpos) (tBM0 X.K T r to) := by
 intro pins s σ H Q I h
 refine wpAny_Call_method0_late hbase hline (thn (ho pins s σ H _ I h) fun v s1 ⟨x, H1, I1, r1, ty, q1⟩ => ?_)
 obtain ⟨h1, h2⟩ := tyV_is I1 r1 ty
 exact ⟨T, id, pa, slot, hty, h1, h2, Calls.callWith_builtin rfl (PySem.evalArgs_none (hm pins s1 σ H1 x [] v [] Q I1 r1 .nil q1))⟩
theorem pe_bm (pa : PlainAttrs T) (slot : Slot T name id) (hty : typeOf (.builtin id) = pure (.type "method_descriptor")) (hm : MtR X id r) (ho : PE X o to) (ha : PA X (e :: es) t)
   (hbase : attributeBase o name X.env (eval o X.env) = eval o X.env := by rfl)
   (hfew : ((backTo cpos (starEach (e :: es) X.env)).all (fun x => !x.1) && (backToKw cpos (keywordEach [] X.env)).all (fun x => x.1.isSome)
     && decide ((e :: es).length + ([] : List Keyword).length + (if ([] : List Keyword).isEmpty then 0 else 1) < 30)) = true := by rfl)
   (hline : (apos.endLine == cpos.line) = true := by rfl) (hs : starEach (e :: es) X.env = (false, eval e X.env) :: starEach es X.env := by rfl) (hplain : (backTo cpos (starEach es X.env)).any (·.1) = false := by rfl) :
   PE X (.Call (.Attribute o name apos) (e :: es) [] cpos) (tBM X.K T r to t) := by
 intro pins s σ H Q I h
 refine wpAny_Call_method_late hbase hfew hline rfl (thn (ho pins s σ H _ I h) fun v s1 ⟨x, H1, I1, r1, ty, q1⟩ => ?_)
 obtain ⟨h1, h2⟩ := tyV_is I1 r1 ty
 refine ⟨T, id, pa, slot, hty, h1, h2, ?_⟩
 have hA := ha cpos pins s1 σ H1 _ I1 q1
 rw [hs] at hA ⊢
 refine Calls.callWith_builtin (by show (false || (backTo cpos (starEach es X.env)).any (·.1)) = false; rw [hplain] <;> rfl) (Calls.evalArgs_plain ?_)
 exact thn hA fun us s2 ⟨vs, H2, I2, r2, q2⟩ => hm pins s2 σ H2 x vs v us Q I2 r1 r2 q2
end
end L2
namespace L2
open PySem PySem.Spec PyProof.Rows
noncomputable def MtM (X : Cx) (id : String) (r : V → List V → Hp → VK → Prop) : Prop :=
 ∀ (pins : List (Addr × Obj)) (s : Shared) (σ : St) (H : Hp) (x : V) (xs : List V) (v : Value) (us : List Value) (Q : VK), Inv X pins σ H s → RelV x v → Vals xs us → r x xs H Q →
   wpAny (model X.prog X.w) X.A (call (.builtin id) (v :: us)) (EP X pins σ Q) X.xe s
theorem Vals.one : ∀ {x : V} {us : List Value}, Vals [x] us → ∃ u, us = [u] ∧ RelV x u
 | _, _, .cons r .nil => ⟨_, rfl, r⟩
theorem Vals.zero : ∀ {us : List Value}, Vals [] us → us = []
 | _, .nil => rfl
theorem Vals.dropLast {xs : List V} {us : List Value} (h : Vals xs us) : Vals xs.dropLast us.dropLast := by
 induction h with
 | nil => exact .nil
 | cons r t ih =>
   cases t with
   | nil => exact .nil
   | cons q t' => exact .cons r ih
theorem Vals.rep {xs : List V} {us : List Value} (h : Vals xs us) : ∀ k : Nat, Vals (List.replicate k xs).flatten (List.replicate k us).flatten
 | 0 => .nil
 | k + 1 => by
   rw [List.replicate_succ, List.replicate_succ, List.flatten_cons, List.flatten_cons]
   exact Vals.append h (Vals.rep h k)
theorem erase_last {α : Type} (l : List α) : l.eraseIdx (l.length - 1) = l.dropLast := by
 induction l with
 | nil => rfl
 | cons a r ih =>
   cases r with
   | nil => rfl
   | cons b r =>
     have e : (a :: b :: r).length - 1 = ((b :: r).length - 1) + 1 := by
       have h1 : (a :: b :: r).length = r.length + 2 := rfl
       have h2 : (b :: r).length = r.length + 1 := rfl
       lia
     rw [e, List.eraseIdx_cons_succ, ih]
     all_goals rfl
theorem foldl_rep (its : List Value) : ∀ (k : Nat) (acc : List Value),
   List.foldl (fun x1 x2 => x1 ++ x2) acc.toArray (List.replicate k its.toArray) = (acc ++ (List.replicate k its).flatten).toArray
 | 0, acc => by simp
 | k + 1, acc => by
   have e : acc.toArray ++ its.toArray = (acc ++ its).toArray := by simp
   have e2 : (acc ++ its) ++ (List.replicate k its).flatten = acc ++ (List.replicate (k + 1) its).flatten := by
     rw [List.replicate_succ, List.flatten_cons, List.append_assoc]
   rw [← e2, ← foldl_rep its k (acc ++ its), ← e, List.replicate_succ, List.foldl_cons]
section
variable {X : Cx} {pins : List (Addr × Obj)} {σ : St} {H : Hp} {s : Shared} {l b : Addr} {xs ys zs : List V}
theorem Inv.lset {its its' : List Value} {n : Nat} {f : Array Value → Array Value} {t' : Nat} (I : Inv X pins σ H s) (hH : H l = some (.lst xs))
   (e : s.heap.get? l = some { cls := .type "list", data := .seq its.toArray n }) (hf : f its.toArray = its'.toArray) (hv : Vals ys its') (hz : ys.length ≤ sizeLine) :
   Inv X pins σ (upd H l (.lst ys)) { s with heap := s.heap.update l (Obj.mapSeq f), toks := t' } := by
 have q := PySem.IsL.update e f
 rw [hf] at q
 refine I.write (x := l) (e := l) (by rw [hH]; exact trivial) (.inl rfl) (fun b' u hb hu => (Heap.get?_update_other s.heap (Obj.mapSeq f) (Ne.symm hb)).trans hu) ⟨_, q⟩ ?_
 exact ⟨hz, its', _, hv, q⟩
theorem Inv.lnew {its : List Value} {t' : Nat} (I : Inv X pins σ H s) (hv : Vals ys its) (hz : ys.length ≤ sizeLine) :
   Inv X pins σ (upd H s.heap.objs.size (.lst ys)) { s with heap := s.heap.push { cls := .type "list", data := .seq its.toArray }, toks := t' } :=
 I.laid (fun _ _ q => Heap.get?_push_of_some _ q) (Nat.le_refl _) ⟨hz, its, 0, hv, Heap.get?_push_size _ rfl⟩
theorem Inv.fresh (I : Inv X pins σ H s) : H s.heap.objs.size = none := I.hok.fresh (Nat.le_refl _)
theorem Inv.lstM (I : Inv X pins σ H s) (hH : H l = some (.lst xs)) : xs.length ≤ sizeLine ∧ ∃ (its : List Value) (n : Nat), Vals xs its ∧ xs.length = its.length ∧ s.heap.get? l = some { cls := .type "list", data := .seq its.toArray n } := by
 obtain ⟨z, its, n, r, e⟩ := I.hok l _ hH
 exact ⟨z, its, n, r, r.length, e⟩
theorem notLongL {n : Nat} (h : n ≤ sizeLine) : Builtin.List.listTooLong n = false := by
 unfold Builtin.List.listTooLong
 exact decide_eq_false (by lia)
end
section
variable {X : Cx}
noncomputable def rAppend : V → List V → Hp → VK → Prop := fun x vs H Q => ∃ l xs y, x = .ref l ∧ vs = [y] ∧ H l = some (.lst xs) ∧ xs.length < sizeLine ∧ Q .non (upd H l (.lst (xs ++ [y])))
theorem mt_append : MtM X "list.append" rAppend := by
 intro pins s σ H x vs v us Q I rx rv h
 obtain ⟨l, xs, y, rfl, rfl, hH, hz, q⟩ := h
 cases rx
 obtain ⟨u, rfl, ru⟩ := rv.one
 obtain ⟨z, its, n, r, hl, e⟩ := I.lstM hH
 refine call_meets F.slot_list_append ⟨_, e, rfl⟩ F.entry_list_append (F.args_list_append_2 _ _) (PySem.list_append l its.toArray n u (by rw [List.size_toArray]; lia)) ⟨e, ?_⟩
 refine ⟨.non, _, I.lset (its' := its ++ [u]) hH e (by simp) (r.append (.cons ru .nil)) ?_, rfl, q⟩
 rw [List.length_append, List.length_singleton]
 lia
noncomputable def rExtend : V → List V → Hp → VK → Prop := fun x vs H Q => ∃ l b xs zs, x = .ref l ∧ vs = [.ref b] ∧ H l = some (.lst xs) ∧ H b = some (.lst zs) ∧ xs.length + zs.length ≤ sizeLine ∧ Q .non (upd H l (.lst (xs ++ zs)))
theorem mt_extend : MtM X "list.extend" rExtend := by
 intro pins s σ H x vs v us Q I rx rv h
 obtain ⟨l, b, xs, zs, rfl, rfl, hH, hB, hz, q⟩ := h
 cases rx
 obtain ⟨u, rfl, ru⟩ := rv.one
 cases ru
 obtain ⟨z, its, n, r, hl, e⟩ := I.lstM hH
 obtain ⟨z2, its2, n2, r2, hl2, e2⟩ := I.lstM hB
 have hsz : its.toArray.size + its2.toArray.size ≤ sizeLine := by rw [List.size_toArray, List.size_toArray]; lia
 have hlong : ¬ (!its.toArray.isEmpty && Builtin.List.listTooLong (its.toArray.size + its2.toArray.size)) = true := by
   rw [notLongL hsz, Bool.and_false]
   exact Bool.false_ne_true
 refine call_meets F.slot_list_extend ⟨_, e, rfl⟩ F.entry_list_extend (F.args_list_extend_2 _ _)
   (AutoSeq1.list_extend_list_list_0 l its.toArray n b its2.toArray n2 hlong (by rw [List.size_toArray]; lia) (by lia)) ⟨e, e2, ?_⟩
 refine ⟨.non, _, I.lset (its' := its ++ its2) hH e (by simp) (r.append r2) ?_, rfl, q⟩
 rw [List.length_append]
 lia
noncomputable def rPop : V → List V → Hp → VK → Prop := fun x vs H Q => ∃ l xs y, x = .ref l ∧ vs = [] ∧ H l = some (.lst xs) ∧ xs[xs.length - 1]? = some y ∧ Q y (upd H l (.lst xs.dropLast))
theorem mt_pop : MtM X "list.pop" rPop := by
 intro pins s σ H x vs v us Q I rx rv h
 obtain ⟨l, xs, y, rfl, rfl, hH, hy, q⟩ := h
 cases rx
 have hus := rv.zero
 subst hus
 obtain ⟨z, its, n, r, hl, e⟩ := I.lstM hH
 obtain ⟨u, hu, ru⟩ := r.get hy
 have hy' : its.toArray[its.toArray.size - 1]? = some u := by
   show its.toArray[its.length - 1]? = some u
   rw [← Array.getElem?_toList, ← hl]
   exact hu
 refine call_meets F.slot_list_pop ⟨_, e, rfl⟩ F.entry_list_pop (F.args_list_pop_1 _) (MeetsSeq.list_pop_last l its.toArray n u hy' (by rw [List.size_toArray]; lia)) ⟨e, ?_⟩
 refine ⟨y, _, I.lset (its' := its.dropLast) hH e ?_ r.dropLast ?_, ru, q⟩
 · show its.toArray.eraseIdxIfInBounds (its.toArray.size - 1) = its.dropLast.toArray
   rw [List.size_toArray, List.eraseIdxIfInBounds_toArray, erase_last]
 · rw [List.length_dropLast]
   lia
noncomputable def rCat : R2 := fun x y H Q => ∃ l b xs zs, x = .ref l ∧ y = .ref b ∧ H l = some (.lst xs) ∧ H b = some (.lst zs) ∧ xs.length + zs.length ≤ sizeLine ∧ ∀ p, H p = none → Q (.ref p) (upd H p (.lst (xs ++ zs)))
theorem op_cat : OpR X (binaryOp .Add) rCat := by
 intro pins s σ H x y v u Q I rx ry h
 obtain ⟨l, b, xs, zs, rfl, rfl, hH, hB, hz, q⟩ := h
 cases rx
 cases ry
 obtain ⟨z, its, n, r, hl, e⟩ := I.lstM hH
 obtain ⟨z2, its2, n2, r2, hl2, e2⟩ := I.lstM hB
 refine PySem.P.add_list e e2 ?_ (by rw [List.size_toArray, List.size_toArray]; lia)
 have ea : its.toArray ++ its2.toArray = (its ++ its2).toArray := by simp
 rw [ea]
 exact ⟨.ref _, _, I.lnew (t' := s.toks) (r.append r2) (by rw [List.length_append]; lia), rfl, q _ I.fresh⟩
noncomputable def rRep : R2 := fun x y H Q => ∃ l k xs, x = .ref l ∧ y = .int k ∧ H l = some (.lst xs) ∧ -(2 ^ 63) ≤ k ∧ k < 2 ^ 63 ∧ xs.length * k.toNat ≤ sizeLine ∧
 ∀ p, H p = none → Q (.ref p) (upd H p (.lst (List.replicate k.toNat xs).flatten))
theorem len_rep {α : Type} (xs : List α) (k : Nat) : (List.replicate k xs).flatten.length = k * xs.length := by
 induction k with
 | zero => simp
 | succ k ih => rw [List.replicate_succ, List.flatten_cons, List.length_append, ih, Nat.succ_mul, Nat.add_comm]
theorem op_rep : OpR X (binaryOp .Mult) rRep := by
 intro pins s σ H x y v u Q I rx ry h
 obtain ⟨l, k, xs, rfl, rfl, hH, h1, h2, hz, q⟩ := h
 cases rx
 obtain ⟨t, rfl⟩ := ry
 obtain ⟨z, its, n, r, hl, e⟩ := I.lstM hH
 have hlen : its.toArray.size * k.toNat ≤ sizeLine := by rw [List.size_toArray, ← hl]; exact hz
 have hcap : ¬ its.toArray.size * k.toNat > (2 ^ 63 - 1) / 8 := by
   have : (sizeLine : Nat) ≤ (2 ^ 63 - 1) / 8 := by decide
   lia
 have hfit : ¬ (!Builtin.List.listFitsIndex k) = true := by
   rw [fitsIndex_both h1 h2]
   exact Bool.false_ne_true
 have hlong : ¬ Builtin.List.listTooLong (its.toArray.size * k.toNat) = true := by
   rw [notLongL hlen]
   exact Bool.false_ne_true
 have hnew : List.foldl (fun x1 x2 => x1 ++ x2) #[] (List.replicate (if its.toArray.isEmpty = true then 0 else k.toNat) its.toArray) = (List.replicate k.toNat its).flatten.toArray := by
   have f0 : ∀ m : Nat, List.foldl (fun x1 x2 => x1 ++ x2) #[] (List.replicate m its.toArray) = (List.replicate m its).flatten.toArray := fun m => by
     have := foldl_rep its m []
     rw [List.nil_append] at this
     exact this
   rw [f0]
   cases its with
   | nil => simp
   | cons a r' => rw [if_neg (by simp)]
 refine wpAny_binaryOp_repeat_ref (T := "list") (U := "int") (by decide) ⟨_, e, rfl⟩ (fun s' => typeIs_int s' k t) noFill_list_mul F.fills_int_mul F.slot_int_rmul repeat_list F.slot_int_index.lookup
   (call_meets F.slot_int_rmul (typeIs_int s k t) F.entry_int_rmul (F.args_int_rmul_2 _ _) (int___rmul___int_list k t l its.toArray n)
     ⟨e, rfl, ⟨_, e, rfl⟩, call_meets F.slot_list_mul ⟨_, e, rfl⟩ F.entry_list_mul (F.args_list_mul_2 _ _) (AutoListH.list___mul___list_int_3 l its.toArray n k t hfit hcap hlong) ⟨e, ?_⟩⟩)
 rw [hnew]
 exact ⟨.ref _, _, I.lnew (t' := s.toks) (r.rep k.toNat) (by rw [len_rep, Nat.mul_comm]; exact hz), rfl, q _ I.fresh⟩
end
section
variable {prog : Program} {w : World} {A : Around} {E : Value → Shared → Prop} {s : Shared}
end
section
variable {X : Cx}
end
end L2
namespace Att
open PySem PySem.W PySem.Calls PyProof.Rows
theorem ints_of_wellAll {P : Params} {h : Heap} : ∀ (ns : List Int) (vs : List Value), WellAll P h vs (ns.map WData.int) → IntsAre vs ns := by
 intro ns
 induction ns with
 | nil =>
   intro vs w
   rw [List.map_nil] at w
   cases w
   exact .nil
 | cons n ns ih =>
   intro vs w
   rw [List.map_cons] at w
   cases w with
   | cons a b =>
     cases a
     exact .cons _ _ (ih _ b)
theorem script_of {l : OpenLaw} {n : Nat} (hn : l.most = some n) {P : Params} {h : Heap} {args : List WData} {vals : List Value}
   (hpre : l.row.toRowW.claim.pre args = true) (hwl : WellAll P h vals args) :
   ∃ a vs ns, vals = [Value.ref a] ∧ args = [WData.list (ns.map WData.int)] ∧ h.get? a = some { cls := .type "list", data := .seq vs.toArray } ∧ IntsAre vs ns ∧ ns.length ≤ n := by
 have hsh : WShape.hasAll [] args [.list .int] = true := (pre_splitW hpre).1
 have hc : l.pre.holds [] { args := args } = true := (pre_splitW hpre).2
 obtain ⟨d, r, rfl, h1, h2⟩ := hasAllW_cons hsh
 obtain rfl := hasAllW_nil h2
 obtain ⟨xs, rfl, h3⟩ := hasW_list h1
 obtain ⟨ns, rfl⟩ := items_int h3
 have hlen : ns.length ≤ n := by
   unfold OpenLaw.pre at hc
   have h4 : (WTm.not (.lt (.lit (.int (n : Int))) (.len (.arg 0)))).holds [] { args := [.list (ns.map .int)] } = true := by
     have h4 := (holds_andW hc).1
     rw [hn] at h4
     exact h4
   have h5 := condW_of h4 (w_not (w_lt w_lit (w_len_list (w_arg rfl))))
   rw [List.length_map] at h5
   refine Nat.le_of_not_lt fun q => ?_
   have q' : (n : Int) < ((ns.length : Nat) : Int) := by lia
   first
     | (rw [decide_eq_true q'] at h5; exact absurd h5 (by decide))
     | (simp at h5; lia)
 cases hwl with
 | cons w1 w2 =>
   cases w2
   cases w1 with
   | list ho hall => exact ⟨_, _, ns, rfl, rfl, ho, ints_of_wellAll ns _ hall, hlen⟩
theorem post_true (l : OpenLaw) (args : List WData) : l.row.toRowW.claim.post args (.bool true) args = true :=
 postW_of (r := l.row.toRowW) (X := (true == true))
   (show WShape.has [] (.bool true) .bool = true by first | rfl | decide | simp [WShape.has, WShape.arms, WShape.armsAll])
   (show (WTm.eq .res (.lit (.bool true))).value [] { args := args, res := some (.bool true), after := args } = some (.bool (true == true)) from w_eq_bool (w_res rfl) w_lit) rfl
theorem attach_call {l : OpenLaw} {n : Nat} {q : Program} {loose : List Str} {XP : (Str → Option Value) → Heap → Prop} {YP : World → Heap → Prop} {d : DefRec}
   (hn : l.most = some n) (hdf : d.params.defaults = [])
   (call : ∀ (w : World) (s₀ s₁ : Shared) (mg mb : Str → Option Value) (fa : Addr) (o : Obj) (pm cd doc : Value) (a : Addr) (vs : List Value) (ns : List Int),
     Ground q loose [] XP w s₀ mg mb s₁.heap → YP w s₁.heap →
     s₁.heap.get? fa = some o → o.data = .func (docDef d.name d.params d.body d.scope pm cd doc) → s₁.heap.CodeRec cd d.name → mg d.name = some (.ref fa) →
     s₁.heap.get? a = some { cls := .type "list", data := .seq vs.toArray } → IntsAre vs ns → ns.length ≤ n → s₁.gens = #[] →
     codeAny (model l.prog w) callerA (.call (.ref fa) ⟨[.ref a], []⟩) (fun r s' => r = .ok (.ret (.bool true)) ∧ OldK s₁.heap s'.heap ∧ s'.os = s₁.os ∧ AllBare s'.gens) s₁) :
   WalkO q loose XP YP l.row.toRowW d [] (fun f vs => PySem.call f vs) := by
 intro w s₀ s₁ mg mb G Y fa o pm cd doc dV kV ho hd hcd hD hmg hg args vals as hpre hlay hrd hwl hlo
 obtain rfl : dV = .none := Dflts.none hD hdf
 obtain rfl : kV = .none := Dflts.noKw hD
 obtain ⟨a, vs, ns, rfl, rfl, hobj, hints, hlen⟩ := script_of hn hpre hwl
 refine enter_call (codeAny_mono (call w s₀ s₁ mg mb fa o pm cd doc a vs ns G Y ho (fd_plain hd) hcd hmg hobj hints hlen hg) fun r s' hq => ?_)
 obtain ⟨rfl, h2, h3, h4⟩ := hq
 exact ⟨.inl ⟨.bool true, .bool true, [], rfl, fun _ => rfl, .bool true, post_true l _, fun _ => ⟨List.Pairwise.nil, fun _ hm => (nomatch hm)⟩⟩, h2, h3, h4⟩
section
variable {prog : Program} {w : World} {A : Around} {E : Value → Shared → Prop} {s : Shared} {K : Frag}
end
end Att
namespace L2
open PySem PySem.Spec PyProof.Rows
theorem vals_ints : ∀ {vs : List Value} {ns : List Int}, IntsAre vs ns → Vals (ns.map V.int) vs
 | _, _, .nil => .nil
 | _, _, .cons n t h => .cons ⟨t, rfl⟩ (vals_ints h)
noncomputable def Only (H : Hp) : Prop := ∀ b, H b = none ∨ ∃ o xs, H b = some (.frz o (.lst xs))
theorem law_call {P : Program} {w : World} {K : PySem.W.Frag} {mg mb : Str → Option Value} {CX : CXT} {k : Nat} {fa a : Addr} {fd : FuncData} {x : Str} {sp : Sp} {s₁ : Shared} {vs : List Value} {ns : List Int}
   (KX : K.In s₁.heap) (hns : s₁.heap.Ns mainGlobals mg) (hb : s₁.heap.Ns builtinsNs mb) (hbb : ∀ x : Str, x ≠ "__name__" → mb x = bootBuiltins x) (hlim : s₁.heap.NoLimit) (hg : s₁.gens = #[])
   (ha : s₁.heap.get? a = some { cls := .type "list", data := .seq vs.toArray }) (hi : IntsAre vs ns) (hl : ns.length ≤ sizeLine) (hr : Room k callerA)
   (F : ∀ base : Heap, K.In base → base.Ns mainGlobals mg → FnOk P w K mg base CX k fa fd [x] sp) (hbind : ∀ (s : Shared) (u : Value), BindsTo s fd ⟨[u], []⟩ [(x, u)])
   (hsp : ∀ H : Hp, Only H → SqL K H a (ns.map V.int) → sp [.ref a] H (fun v _ => v = .bl true) fun _ _ _ => False)
   (hCX : ∀ H e s', CX [] H s₁ (fun _ _ _ => False) e s' → False) :
   codeAny (model P w) callerA (.call (.ref fa) ⟨[.ref a], []⟩) (fun r s' => r = .ok (.ret (.bool true)) ∧ OldK s₁.heap s'.heap ∧ s'.os = s₁.os ∧ AllBare s'.gens) s₁ := by
 have rv := vals_ints hi
 have lenV := hi.length
 -- from an abstract heap in which nothing but the script may be tracked
 have core : ∀ H : Hp, Only H → SqL K H a (ns.map V.int) → HOk P w H s₁.heap → (∀ b, H b ≠ none → b = a) → (H a ≠ none → K.lookup a = none) →
     codeAny (model P w) callerA (.call (.ref fa) ⟨[.ref a], []⟩) (fun r s' => r = .ok (.ret (.bool true)) ∧ OldK s₁.heap s'.heap ∧ s'.os = s₁.os ∧ AllBare s'.gens) s₁ := by
   intro H hO hS hok hA hK
   have base_of : ∀ {b : Addr} {o : Obj}, s₁.heap.get? b = some o → H b = none → (hidT s₁.heap H).get? b = some o := fun e n => hidT_get e n
   have noA : ∀ {b : Addr} {o : Obj} {es : Array DictEntry} {ep : Nat}, s₁.heap.get? b = some o → o.data = .dict es ep → H b = none := fun {b o es ep} e d => by
     cases q : H b with
     | none => rfl
     | some u =>
       have e' : b = a := hA b (by rw [q]; simp)
       subst e'
       rw [ha] at e; cases e
       have d' : Data.seq vs.toArray _ = Data.dict es ep := d
       cases d'
   have nsK : ∀ {b : Addr} {m : Str → Option Value}, s₁.heap.Ns b m → (hidT s₁.heap H).Ns b m := fun {b m} ⟨o, es, ep, e, d, r⟩ => ⟨o, es, ep, base_of e (noA e d), d, r⟩
   have hKb : K.In (hidT s₁.heap H) := fun b o e => base_of (KX b o e) (by
     cases q : H b with
     | none => rfl
     | some u =>
       have e' : b = a := hA b (by rw [q]; simp)
       subst e'
       rw [hK (by rw [q]; simp)] at e; cases e)
   have hM : Mod K mg (hidT s₁.heap H) := ⟨hKb, nsK hns, ⟨mb, nsK hb, hbb⟩, let ⟨mc, h1, h2⟩ := hlim; ⟨mc, nsK h1, h2⟩⟩
   have e0 : Env0 P w K mg (hidT s₁.heap H) callerA [] s₁ H := ⟨rfl, hM, fun b o e => of_hidT e, Nat.le_of_eq (hidT_size _ _), trivial, fun b hb => absurd (show b ∈ ([] : List Addr) from hb) (by simp), hok, .of_eq hg⟩
   refine codeAny_mono ((F _ hKb (nsK hns)).run callerA [] s₁ H ⟨[.ref a], []⟩ [.ref a] [.ref a] _ _ hr e0 (hbind s₁ (.ref a)) (.cons rfl .nil) (hsp H hO hS)) fun r s' h => ?_
   cases r with
   | error e => exact (hCX H e s' h).elim
   | ok fl =>
     cases fl with
     | next => exact False.elim h
     | brk => exact False.elim h
     | cont => exact False.elim h
     | ret u =>
       obtain ⟨v, H', os, bare, un, hok', r', q⟩ := h
       have q' : v = .bl true := q
       subst q'
       obtain rfl : u = Value.bool true := r'
       refine ⟨rfl, OldK.of_keep fun b o e => ?_, os, bare⟩
       cases q : H b with
       | none => exact un.keep b o e q (by intro z; exact absurd (show b ∈ ([] : List Addr) from z) (by simp)) (by simp)
       | some u =>
         rcases hO b with z | ⟨ob, xs, z⟩
         · rw [q] at z; cases z
         · have z2 := un.frzs b ob _ z
           obtain ⟨e1, _⟩ := hok b _ z
           obtain ⟨e2, _⟩ := hok' b _ z2
           rw [e] at e1; cases e1
           exact e2
 cases hk : K.lookup a with
 | some o =>
   -- the script is one of the module's own objects
   have e := KX a o hk
   rw [ha] at e
   cases e
   refine core (fun _ => none) (fun _ => .inl rfl) (.inr ⟨_, vs.toArray, _, hk, rfl, rfl, rfl, by rw [List.size_toArray, lenV]; exact hl, by simpa using rv⟩) (fun b u z => by have z' : (none : Option HO) = some u := z; cases z') (fun b z => absurd rfl z) fun z => absurd rfl z
 | none =>
   refine core (fun b => if b = a then some (.frz { cls := .type "list", data := .seq vs.toArray } (.lst (ns.map V.int))) else none) (fun b => ?_) (.inl (.inr ⟨{ cls := .type "list", data := .seq vs.toArray }, if_pos rfl⟩)) (fun b u z => ?_) (fun b z => ?_) fun _ => hk
   · by_cases hb : b = a
     · exact .inr ⟨_, _, if_pos hb⟩
     · exact .inl (if_neg hb)
   · by_cases hb : b = a
     · have z' := (if_pos hb).symm.trans z
       cases z'
       subst hb
       exact ⟨ha, by rw [List.length_map]; exact hl, vs, _, rv, ha⟩
     · have z' := (if_neg hb).symm.trans z
       cases z'
   · by_cases hb : b = a
     · exact hb
     · exact absurd (if_neg hb) z
end L2
namespace L2
open PySem PySem.Spec PyProof.Rows
theorem walk_of {l : PySem.W.OpenLaw} {n k : Nat} {q : Program} {loose : List Str} {XP : (Str → Option Value) → Heap → Prop} {YP : World → Heap → Prop} {d : DefRec} {K : Params → PySem.W.Frag} {CX : World → CXT} {sp : World → Sp} {x : Str}
   (hn : l.most = some n) (hn2 : n ≤ sizeLine) (hdf : d.params.defaults = []) (hr : Room k callerA)
   (hY : ∀ (w : World) (h : Heap), YP w h → (K w.params).In h)
   (F : ∀ (w : World) (mg : Str → Option Value) (fa : Addr) (h : Heap), (K w.params).In h → h.Ns mainGlobals mg → mg d.name = some (.ref fa) →
     ∃ fd : FuncData, (∀ (s : Shared) (u : Value), BindsTo s fd ⟨[u], []⟩ [(x, u)]) ∧
       ∀ base : Heap, (K w.params).In base → base.Ns mainGlobals mg → FnOk l.prog w (K w.params) mg base (CX w) k fa fd [x] (sp w))
   (hsp : ∀ (w : World) (H : Hp) (a : Addr) (ns : List Int), ns.length ≤ n → Only H → SqL (K w.params) H a (ns.map V.int) → sp w [.ref a] H (fun v _ => v = .bl true) fun _ _ _ => False)
   (hCX : ∀ (w : World) (H : Hp) (s : Shared) (e : Value) (s' : Shared), CX w [] H s (fun _ _ _ => False) e s' → False) :
   PySem.W.WalkO q loose XP YP l.row.toRowW d [] (fun f vs => PySem.call f vs) := by
 refine Att.attach_call hn hdf fun w s₀ s₁ mg mb fa o pm cd doc a vs ns G Y ho hd hcd hmg hobj hints hlen hg => ?_
 have KX := hY w _ Y
 obtain ⟨fd, hb, hF⟩ := F w mg fa _ KX G.T.g hmg
 exact law_call KX G.T.g G.T.b G.T.builtins G.T.nolimit hg hobj hints (Nat.le_trans hlen hn2) hr hF hb (fun H hO hS => hsp w H a ns hlen hO hS) fun H e s' => hCX w H s₁ e s'
end L2
namespace L2
open PySem PySem.Spec PyProof.Rows
noncomputable def defArgs (s : Stmt) : Arguments := match s with
 | .FunctionDef _ a _ _ _ _ _ _ _ _ => a
 | _ => { posonlyargs := [], args := [], vararg := none, kwonlyargs := [], kw_defaults := [], kwarg := none, defaults := [] }
noncomputable def defBody (s : Stmt) : List Stmt := match s with
 | .FunctionDef _ _ b _ _ _ _ _ _ _ => b
 | _ => []
noncomputable def defScope (s : Stmt) : Scope := match s with
 | .FunctionDef _ _ _ _ _ _ sc _ _ _ => sc
 | _ => { kind := .function, names := [], isGenerator := false, isCoroutine := false }
noncomputable abbrev CX0 : CXT := fun _ _ _ _ _ _ => False
noncomputable abbrev E0 : XK := fun _ _ _ => False
theorem pass0 {X : Cx} : Passes CX0 X E0 := fun _ _ _ _ _ _ _ h => h.elim
structure Fun (K : PySem.W.Frag) (x qual : Str) (st : Stmt) (f : Addr) (fd : FuncData) : Prop where
 ex : ∃ (oc : Value) (od : Option Addr) (kV doc pm : Value) (an : Option Addr) (cdv ct : Value) (osl : Array (Option Value)),
   fd = PySem.W.fnOf x qual (defArgs st) (defBody st) (defScope st) .none kV doc pm an cdv ct ∧ K.lookup f = some ⟨oc, od, .func fd, osl⟩ ∧ PySem.W.codeIn K cdv qual = true
 kp : PySem.W.keepIn K (.ref f) = true
section
variable {P : Program} {w : World} {K : PySem.W.Frag} {mg : Str → Option Value} {base : Heap}
theorem Fun.ok {x qual : Str} {st : Stmt} {f : Addr} {fd : FuncData} {N ps : List Str} {k : Nat} {sp : Sp} (F : Fun K x qual st f fd) (S : FnScope N ps (defScope st)) (len : ∀ vs H Q E, sp vs H Q E → vs.length = ps.length)
   (hbody : ∀ (cdv : Value) (A : Around) (outer : List Env) (s : Shared) (H : Hp) (vs : List V) (Q : VK) (E : XK), Room k (A.deeper (envOfC qual (defScope st) s.heap.objs.size f cdv)) → sp vs H Q E →
     ∃ t, PSs (cxOf CX0 P w K mg base N qual (defScope st) f cdv A outer s H E).nox (defBody st) t ∧ t { nx := fun _ H' => Q .non H', rt := Q } (start N vs) H) : FnOk P w K mg base CX0 (k + 1) f fd ps sp := by
 obtain ⟨oc, od, kV, doc, pm, an, cdv, ct, osl, rfl, lk, hcd⟩ := F.ex
 refine fn_of lk hcd S len fun A outer s H vs Q E hr hsp => ?_
 obtain ⟨t, h, q⟩ := hbody cdv A outer s H vs Q E hr hsp
 exact ⟨t, h.nox, q⟩
theorem Fun.binds {x qual : Str} {st : Stmt} {f : Addr} {fd : FuncData} {ps : List Str} (F : Fun K x qual st f fd)
   (h : ∀ (kV doc pm : Value) (an : Option Addr) (cdv ct : Value) (us : List Value), us.length = ps.length → bindArgs (PySem.W.fnOf x qual (defArgs st) (defBody st) (defScope st) .none kV doc pm an cdv ct) ⟨us, []⟩ = pure (ps.zip us)) : Binds K fd ps [] := by
 obtain ⟨oc, od, kV, doc, pm, an, cdv, ct, osl, rfl, lk, hcd⟩ := F.ex
 exact .all (h kV doc pm an cdv ct)
theorem fun_mk {x qual : Str} {st : Stmt} {f : Addr} {oc : Value} {od an : Option Addr} {osl : Array (Option Value)} {kV doc pm cdv ct : Value} (l : K.lookup f = some ⟨oc, od, .func (PySem.W.fnOf x qual (defArgs st) (defBody st) (defScope st) .none kV doc pm an cdv ct), osl⟩)
   (c : PySem.W.codeIn K cdv qual = true) (k : PySem.W.keepIn K (.ref f) = true) : Fun K x qual st f (PySem.W.fnOf x qual (defArgs st) (defBody st) (defScope st) .none kV doc pm an cdv ct) := ⟨⟨oc, od, kV, doc, pm, an, cdv, ct, osl, rfl, l, c⟩, k⟩
end
section
variable {X : Cx}
end
theorem ite2 {c A B : Prop} [Decidable c] (h1 : c → A) (h2 : ¬ c → B) : if c then A else B := by
 by_cases h : c
 · rw [if_pos h]
   exact h1 h
 · rw [if_neg h]
   exact h2 h
end L2
set_option maxHeartbeats 4000000
namespace L2
open PySem PySem.Spec PyProof.Rows
section
variable {κ : Type} [DecidableEq κ]
noncomputable def valV (kvs : List (κ × V)) (k : κ) : Option V := (kvs.find? fun kv => decide (kv.1 = k)).map (·.2)
noncomputable def putK (kvs : List (κ × V)) (k : κ) (v : V) : List (κ × V) :=
 if (kvs.any fun kv => decide (kv.1 = k)) = true then kvs.map (fun kv => if kv.1 = k then (kv.1, v) else kv) else kvs ++ [(k, v)]
theorem valV_pos {p : κ × V} {r : List (κ × V)} {k : κ} (e : p.1 = k) : valV (p :: r) k = some p.2 := by simp [valV, List.find?_cons, e]
theorem valV_neg {p : κ × V} {r : List (κ × V)} {k : κ} (e : ¬ p.1 = k) : valV (p :: r) k = valV r k := by simp [valV, List.find?_cons, e]
theorem valV_any (k : κ) : ∀ kvs : List (κ × V), (kvs.any fun kv => decide (kv.1 = k)) = (valV kvs k).isSome
 | [] => rfl
 | p :: r => by
   rw [List.any_cons]
   by_cases e : p.1 = k
   · simp only [valV_pos e, decide_eq_true e, Bool.true_or, Option.isSome_some]
   · rw [valV_neg e, decide_eq_false e, Bool.false_or]; exact valV_any k r
theorem putK_new {kvs : List (κ × V)} {k : κ} (v : V) (h : valV kvs k = none) : putK kvs k v = kvs ++ [(k, v)] := by
 unfold putK
 rw [valV_any, h]
 exact if_neg (by decide)
theorem RelO.getD {o : Option V} {u : Option Value} {d : V} {d' : Value} (r : RelO o u) (rd : RelV d d') : RelV (o.getD d) (u.getD d') := by
 cases o with
 | none => cases u with
   | none => exact rd
   | some _ => exact (show False from r).elim
 | some _ => cases u with
   | none => exact (show False from r).elim
   | some _ => exact r
theorem KV.val {kvs : List (κ × V)} {vs : List (κ × Value)} (r : KV kvs vs) (k : κ) : RelO (valV kvs k) (valueAt vs k) := by
 unfold KV at r
 induction r with
 | nil => exact True.intro
 | @cons p q ps qs h t ih =>
   obtain ⟨h1, h2⟩ := h
   by_cases e : p.1 = k
   · have e' : q.1 = k := h1.symm.trans e
     have b : valueAt (q :: qs) k = some q.2 := by simp [valueAt, List.find?_cons, e']
     rw [valV_pos e, b]; exact h2
   · have e' : ¬ q.1 = k := fun z => e (h1.trans z)
     have b : valueAt (q :: qs) k = valueAt qs k := by simp [valueAt, List.find?_cons, e']
     rw [valV_neg e, b]; exact ih
theorem KV.any {kvs : List (κ × V)} {vs : List (κ × Value)} (r : KV kvs vs) (k : κ) : (kvs.any fun kv => decide (kv.1 = k)) = vs.any fun kv => decide (kv.1 = k) := by
 unfold KV at r
 induction r with
 | nil => rfl
 | cons h t ih => rw [List.any_cons, List.any_cons, ih, h.1]
theorem KV.repl {kvs : List (κ × V)} {vs : List (κ × Value)} (r : KV kvs vs) (k : κ) {y : V} {u : Value} (ry : RelV y u) :
   KV (kvs.map fun kv => if kv.1 = k then (kv.1, y) else kv) (vs.map fun kv => if kv.1 = k then (kv.1, u) else kv) := by
 unfold KV at r ⊢
 induction r with
 | nil => exact .nil
 | @cons p q ps qs h t ih =>
   rw [List.map_cons, List.map_cons]
   refine .cons ?_ ih
   obtain ⟨h1, h2⟩ := h
   by_cases e : p.1 = k
   · rw [if_pos e, if_pos (h1.symm.trans e)]; exact ⟨h1, ry⟩
   · rw [if_neg e, if_neg (fun z => e (h1.trans z))]; exact ⟨h1, h2⟩
theorem KV.put {kvs : List (κ × V)} {vs : List (κ × Value)} (r : KV kvs vs) (k : κ) {y : V} {u : Value} (ry : RelV y u) : KV (putK kvs k y) (stored vs k u) := by
 unfold putK stored
 rw [r.any k]
 by_cases e : (vs.any fun kv => decide (kv.1 = k)) = true
 · rw [if_pos e, if_pos e]; exact r.repl k ry
 · rw [if_neg e, if_neg e]; exact Paired.snoc r ⟨rfl, ry⟩
theorem KV.length {kvs : List (κ × V)} {vs : List (κ × Value)} (r : KV kvs vs) : kvs.length = vs.length := Paired.length r
end
theorem kV_is {P : Program} {w : World} {k : Key} {u : Value} (r : RelV (kV k) u) : (mixKind P w).is k u = true := by
 cases k with
 | inl i => obtain ⟨t, e⟩ := (show ∃ t, u = Value.int i t from r); subst e; exact mixKind_int P w i t
 | inr x => obtain ⟨t, e⟩ := (show ∃ t, u = Value.str x t from r); subst e; exact mixKind_str P w x t
theorem items_are {P : Program} {w : World} : ∀ {ks : List Key} {us : List Value}, Vals (ks.map kV) us → ItemsAre (mixKind P w) ks us
 | [], _, r => by rw [List.map_nil] at r; cases r; exact .nil
 | k :: ks, _, r => by
   rw [List.map_cons] at r
   cases r with
   | cons h t => exact .cons (kV_is h) (items_are t)
noncomputable abbrev KT (H : Hp) : List (List Key × V) → List (List Key × Addr × Value) → Prop := Paired fun p q => p.1 = q.1 ∧ H q.2.1 = some (.tup (p.1.map kV)) ∧ RelV p.2 q.2.2
theorem KT.val {H : Hp} {kvs : List (List Key × V)} {xs : List (List Key × Addr × Value)} (r : KT H kvs xs) (k : List Key) : RelO (valV kvs k) ((atKey xs k).map (·.2)) := by
 induction r with
 | nil => exact True.intro
 | @cons p q ps qs h t ih =>
   obtain ⟨h1, _, h2⟩ := h
   by_cases e : p.1 = k
   · have e' : q.1 = k := h1.symm.trans e
     have b : atKey (q :: qs) k = some q.2 := by simp [atKey, List.find?_cons, e']
     rw [valV_pos e, b]; exact h2
   · have e' : ¬ q.1 = k := fun z => e (h1.trans z)
     have b : atKey (q :: qs) k = atKey qs k := by simp [atKey, List.find?_cons, e']
     rw [valV_neg e, b]; exact ih
section
variable {P : Program} {w : World} {H : Hp} {h : Heap} {a : Addr}
theorem rd_of {u : HO} (ok : HOk P w H h) (e : Rd H a u) : ObjOk P w H h a u := e.ok ok
theorem dk_rd {kvs : List (Key × V)} (ok : HOk P w H h) (e : Rd H a (.dK kvs)) : kvs.length ≤ sizeLine ∧ (a == sysModules) = false ∧ ∃ vs, KV kvs vs ∧ h.DictOf (mixKind P w) a vs :=
 show ObjOk P w H h a (.dK kvs) from rd_of ok e
theorem dk_of {kvs : List (Key × V)} (ok : HOk P w H h) (e : H a = some (.dK kvs)) : kvs.length ≤ sizeLine ∧ (a == sysModules) = false ∧ ∃ vs, KV kvs vs ∧ h.DictOf (mixKind P w) a vs := dk_rd ok (.inl e)
theorem key_of {ks : List Key} (ok : HOk P w H h) (e : H a = some (.tup (ks.map kV))) : (tupleKind (mixKind P w)).is h ks a := by
 obtain ⟨_, its, r, o, h1, h2, _, n, h3⟩ := (show ObjOk P w H h a (.tup (ks.map kV)) from ok a _ e)
 exact ⟨o, its.toArray, n, h1, h2, h3, by simpa using items_are r⟩
theorem dt_rd {kvs : List (List Key × V)} (ok : HOk P w H h) (e : Rd H a (.dT kvs)) : kvs.length ≤ sizeLine ∧ (a == sysModules) = false ∧
   ∃ xs, KT H kvs xs ∧ h.DictOfH (tupleKind (mixKind P w)) a xs := by
 obtain ⟨z, y, xs, r, o, es, ep, h1, h2, h3, h4, h5⟩ := (show ObjOk P w H h a (.dT kvs) from rd_of ok e)
 refine ⟨z, y, xs, r, o, es, ep, h1, h2, h3, h4, fun x hx => ?_, h5⟩
 have all : ∀ {l : List (List Key × V)} {m : List (List Key × Addr × Value)}, KT H l m → ∀ x ∈ m, (tupleKind (mixKind P w)).is h x.1 x.2.1 := by
   intro l m q
   induction q with
   | nil => intro x hx; exact nomatch hx
   | @cons p q ps qs hq t ih =>
     intro x hx
     rcases List.mem_cons.mp hx with e | hx
     · subst e
       exact key_of ok (by rw [← hq.1]; exact hq.2.1)
     · exact ih x hx
 exact all r x hx
end
noncomputable def DGet (H : Hp) (a : Addr) (y : V) (r : Option V) : Prop :=
 (∃ kvs k, Rd H a (.dK kvs) ∧ y = kV k ∧ r = valV kvs k) ∨ ∃ kvs k b, Rd H a (.dT kvs) ∧ y = .ref b ∧ H b = some (.tup (k.map kV)) ∧ r = valV kvs k
theorem DGet.k {H : Hp} {a : Addr} {kvs : List (Key × V)} {k : Key} (e : H a = some (.dK kvs)) : DGet H a (kV k) (valV kvs k) := .inl ⟨kvs, k, .inl e, rfl, rfl⟩
section
variable {X : Cx} {pins : List (Addr × Obj)} {σ : St} {H : Hp} {s : Shared} {a : Addr} {y v : V} {u r : Value} {o : Option V} {A : Around} {E : Value → Shared → Prop}
theorem Inv.big (I : Inv X pins σ H s) : sysModules < s.heap.objs.size := by
 have h : mainGlobals < s.heap.objs.size := (I.mod.glob.keeps I.bk).lt
 exact Nat.lt_trans (by decide) h
theorem d_write {h' : Heap} {t' : Nat} {ob : HO} (I : Inv X pins σ H s) (mu : Mut (H a)) (hs : Heap.SameBut a s.heap h') (he : ∃ q, h'.get? a = some q) (new : ObjOk X.prog X.w (upd H a ob) h' a ob) :
   Inv X pins σ (upd H a ob) { s with heap := h', toks := t' } :=
 I.write (x := a) (e := a) mu (.inl rfl) (fun b q hb z => (hs.2 b hb).trans z) he new
theorem dk_new {P : Program} {w : World} {H' : Hp} {h' : Heap} {kvs : List (Key × V)} {vs : List (Key × Value)} (z : kvs.length ≤ sizeLine) (hd : (a == sysModules) = false) (rel : KV kvs vs) (dd : h'.DictOf (mixKind P w) a vs) :
   ObjOk P w H' h' a (.dK kvs) := ⟨z, hd, vs, rel, dd⟩
end
section
variable {X : Cx} {pins : List (Addr × Obj)} {σ : St} {H : Hp} {s : Shared} {a : Addr} {kvs : List (Key × V)} {k : Key} {u : Value} {A : Around} {E : Value → Shared → Prop}
end
section
variable {X : Cx} {o i e value : Expr} {pos pos' tpos : Pos} {td ty tv : TE}
end
theorem dk_empty {P : Program} {w : World} {H : Hp} (h : Heap) (hb : sysModules < h.objs.size) : ObjOk P w H (h.push { cls := .type "dict", data := .dict #[] }) h.objs.size (.dK []) :=
 ⟨Nat.zero_le _, beq_eq_false_iff_ne.mpr (Ne.symm (Nat.ne_of_lt hb)), [], .nil, Heap.DictOf.new h⟩
section
variable {X : Cx} {pos : Pos}
end
noncomputable abbrev VV : List (V × V) → List (Value × Value) → Prop := Paired fun p q => RelV p.1 q.1 ∧ RelV p.2 q.2
noncomputable def mergeK (kvs more : List (Key × V)) : List (Key × V) := more.foldl (fun acc kv => putK acc kv.1 kv.2) kvs
theorem KV.merge : ∀ {more : List (Key × V)} {rs : List (Key × Value)} {kvs : List (Key × V)} {vs : List (Key × Value)}, KV more rs → KV kvs vs → KV (mergeK kvs more) (merged vs rs) := by
 intro more rs kvs vs r
 unfold KV at r
 induction r generalizing kvs vs with
 | nil => intro q; exact q
 | @cons p q ps qs h t ih =>
   intro r0
   have e : KV (putK kvs p.1 p.2) (stored vs q.1 q.2) := by
     have := r0.put p.1 h.2
     rw [← h.1]; exact this
   exact ih e
theorem carries_of {P : Program} {w : World} : ∀ {kvs : List (Key × V)} {ws : List (Value × Value)}, VV (kvs.map fun kv => (kV kv.1, kv.2)) ws → ∃ rs, Carries (mixKind P w) ws rs ∧ KV kvs rs
 | [], _, r => by rw [List.map_nil] at r; cases r; exact ⟨[], True.intro, .nil⟩
 | p :: kvs, _, r => by
   rw [List.map_cons] at r
   cases r with
   | @cons a b as bs h t =>
     obtain ⟨rs, c, q⟩ := carries_of (P := P) (w := w) t
     obtain ⟨b1, b2⟩ := b
     exact ⟨(p.1, b2) :: rs, ⟨kV_is h.1, rfl, c⟩, .cons ⟨rfl, h.2⟩ q⟩
structure M1 (X : Cx) (o : Expr) (m : Str) (apos : Pos) (e : Expr) (cpos : Pos) : Prop where
 base : attributeBase o m X.env (eval o X.env) = eval o X.env
 few : ((backTo cpos (starEach [e] X.env)).all (fun x => !x.1) && (backToKw cpos (keywordEach [] X.env)).all (fun x => x.1.isSome)
   && decide (([e] : List Expr).length + ([] : List Keyword).length + (if ([] : List Keyword).isEmpty then 0 else 1) < 30)) = true
 line : (apos.endLine == cpos.line) = true
 trees : backTo cpos (starEach [e] X.env) = [(false, eval e X.env)]
structure M2 (X : Cx) (o : Expr) (m : Str) (apos : Pos) (e f : Expr) (cpos : Pos) : Prop where
 base : attributeBase o m X.env (eval o X.env) = eval o X.env
 few : ((backTo cpos (starEach [e, f] X.env)).all (fun x => !x.1) && (backToKw cpos (keywordEach [] X.env)).all (fun x => x.1.isSome)
   && decide (([e, f] : List Expr).length + ([] : List Keyword).length + (if ([] : List Keyword).isEmpty then 0 else 1) < 30)) = true
 line : (apos.endLine == cpos.line) = true
 trees : backTo cpos (starEach [e, f] X.env) = [(false, eval e X.env), (false, eval f X.env)]
noncomputable def IsD (H : Hp) (a : Addr) : Prop := (∃ kvs, Rd H a (.dK kvs)) ∨ ∃ kvs, Rd H a (.dT kvs)
theorem isD_at {X : Cx} {pins : List (Addr × Obj)} {σ : St} {H : Hp} {s : Shared} {a : Addr} (I : Inv X pins σ H s) (d : IsD H a) :
   s.TypeIs (.ref a) "dict" ∧ (∀ b, Value.ref a = .ref b → ∃ ob, s.heap.get? b = some ob ∧ ob.dict = none) ∧ (a == sysModules) = false := by
 rcases d with ⟨kvs, e⟩ | ⟨kvs, e⟩
 · obtain ⟨_, hd, vs, _, dd⟩ := dk_rd I.hok e
   refine ⟨dd.typeIs, fun b q => ?_, hd⟩
   cases q
   obtain ⟨ob, _, _, h1, h2, _⟩ := dd
   exact ⟨ob, h1, h2.2.1⟩
 · obtain ⟨_, hd, xs, _, dd⟩ := dt_rd I.hok e
   refine ⟨dd.typeIs, fun b q => ?_, hd⟩
   cases q
   obtain ⟨ob, _, _, h1, h2, _⟩ := dd
   exact ⟨ob, h1, h2.2.1⟩
section
variable {X : Cx} {pins : List (Addr × Obj)} {σ : St} {H : Hp} {s : Shared} {a : Addr} {y d : V} {u r : Value} {o : Option V} {A : Around} {E : Value → Shared → Prop}
theorem d_get2 {Q : Value → Shared → Prop} (hu : A.units + 1 < cLine) (I : Inv X pins σ H s) (g : DGet H a y o) (ry : RelV y u) (rd : RelV d r) (h : ∀ w' s', Inv X pins σ H s' → RelV (o.getD d) w' → Q w' s') :
   wpAny (model X.prog X.w) A (call (.builtin "dict.get") [.ref a, u, r]) Q E s := by
 rcases g with ⟨kvs, k, e, ey, l⟩ | ⟨kvs, k, b, e, ey, eb, l⟩
 · subst ey
   obtain ⟨z, hd, vs, rel, dd⟩ := dk_rd I.hok e
   refine call_meetsIn PySem.F.slot_dict_get dd.typeIs PySem.F.entry_dict_get (PySem.F.args_dict_get_3 _ _ _) (meets_dict_get_default (mixKind X.prog X.w) a (kV_is ry) hd r) ⟨_, dd.mapOf, h _ _ (I.tok _) ?_⟩
   rw [l]
   exact (rel.val k).getD rd
 · subst ey
   cases (show u = Value.ref b from ry)
   obtain ⟨z, hd, xs, rel, dd⟩ := dt_rd I.hok e
   refine call_meetsIn PySem.F.slot_dict_get dd.typeIs PySem.F.entry_dict_get (PySem.F.args_dict_get_3 _ _ _) (meetsH_dict_get_default (tupleKind (mixKind X.prog X.w)) a b hd r) ⟨tupleKind_room_in1 hu, k, xs, key_of I.hok eb, dd, h _ _ (I.tok _) ?_⟩
   rw [l]
   exact (rel.val k).getD rd
end
noncomputable def tDGet2 (td ty tx : TE) : TE := fun σ H Q => td σ H fun x H1 => ∃ a, x = .ref a ∧ IsD H1 a ∧ ty σ H1 fun y H2 => tx σ H2 fun z H3 => ∃ o, DGet H3 a y o ∧ Q (o.getD z) H3
section
variable {X : Cx} {o e f : Expr} {apos cpos : Pos} {td ty tx : TE}
theorem pe_dget2 (hu : X.A.units + 1 < cLine) (ho : PE X o td) (he : PE X e ty) (hf : PE X f tx) (m : M2 X o "get" apos e f cpos) : PE X (.Call (.Attribute o "get" apos) [e, f] [] cpos) (tDGet2 td ty tx) := by
 intro pins s σ H Q I h
 refine wpAny_Call_method m.base m.few m.line PySem.F.plainAttrs_dict PySem.F.slot_dict_get PySem.F.type_dict_get (thn (ho pins s σ H _ I h) fun u s1 ⟨x, H1, I1, rx, a, ex, d, q1⟩ => ?_)
 subst ex
 obtain rfl : u = Value.ref a := rx
 obtain ⟨t1, t2, _⟩ := isD_at I1 d
 refine ⟨t1, t2, ?_⟩
 rw [m.trees]
 refine Calls.callWith_builtin rfl (Calls.evalArgs_plain (Calls.spliced_cons (thn (he pins s1 σ H1 _ I1 q1) fun iv s2 ⟨y, H2, I2, ry, q2⟩ =>
   Calls.spliced_cons (thn (hf pins s2 σ H2 _ I2 q2) fun fv s3 ⟨z, H3, I3, rz, ov, g, q3⟩ => Calls.spliced_nil ?_))))
 exact d_get2 hu I3 g ry rz fun w' s4 I4 rw' => ⟨_, H3, I4, rw', q3⟩
end
end L2
namespace L2
open PySem PySem.Spec PyProof.Rows
noncomputable def cloOf (env : Env) : List (Str × NameKind) → List (Str × Addr) → List (Str × Addr)
 | [], acc => acc
 | (n, k) :: r, acc => cloOf env r (if k == .free then (n, (env.cells.lookup n).getD 0) :: acc else acc)
theorem cloOf_cons (env : Env) (n : Str) (k : NameKind) (r : List (Str × NameKind)) (acc : List (Str × Addr)) : cloOf env ((n, k) :: r) acc = cloOf env r (if k == .free then (n, (env.cells.lookup n).getD 0) :: acc else acc) := rfl
theorem closure_forIn (env : Env) (f : Str × NameKind → List (Str × Addr) → Sem (ForInStep (List (Str × Addr))))
   (hf : ∀ n k cs, f (n, k) cs = if (k == .free) = true then (do let a ← cellOf env n; pure (.yield ((n, a) :: cs))) else pure (.yield cs)) :
   ∀ (names : List (Str × NameKind)) (acc : List (Str × Addr)), (∀ y ∈ names, y.2 = .free → ∃ c, env.cells.lookup y.1 = some c) → forIn names acc f = (pure (cloOf env names acc) : Sem _)
 | [], acc, _ => by rw [List.forIn_nil]; rfl
 | (n, k) :: r, acc, h => by
   rw [List.forIn_cons, hf]
   have hr : ∀ y ∈ r, y.2 = .free → ∃ c, env.cells.lookup y.1 = some c := fun y hy => h y (List.mem_cons_of_mem _ hy)
   by_cases hk : (k == NameKind.free) = true
   · rw [if_pos hk]
     obtain ⟨c, hc⟩ := h (n, k) List.mem_cons_self (by simpa using hk)
     have hc' : env.cells.lookup n = some c := hc
     have e : cellOf env n = pure c := by unfold cellOf; rw [hc']
     rw [e]
     simp only [pure_bind]
     rw [closure_forIn env f hf r _ hr]
     rw [cloOf_cons, if_pos hk, hc']
     rfl
   · rw [if_neg hk]
     simp only [pure_bind]
     rw [closure_forIn env f hf r _ hr]
     rw [cloOf_cons, if_neg hk]
theorem closureFor_eq (scope : Scope) (env : Env) (h : ∀ y ∈ scope.names, y.2 = .free → ∃ c, env.cells.lookup y.1 = some c) : closureFor scope env = pure (cloOf env scope.names []) := by
 unfold closureFor
 dsimp only
 rw [closure_forIn env _ (fun n k cs => by cases hk : (k == NameKind.free) <;> simp [hk] <;> rfl) scope.names [] h]
 rfl
theorem cloOf_lookup (env : Env) : ∀ (names : List (Str × NameKind)) (acc : List (Str × Addr)) (x : Str) (c : Addr), (cloOf env names acc).lookup x = some c →
   (acc.lookup x = some c ∨ ((x, .free) ∈ names ∧ c = (env.cells.lookup x).getD 0))
 | [], acc, x, c, h => .inl h
 | (n, k) :: r, acc, x, c, h => by
   rw [cloOf_cons] at h
   rcases cloOf_lookup env r _ x c h with q | ⟨q1, q2⟩
   · split at q
     · rename_i hk
       have hk' : k = .free := by simpa using hk
       subst hk'
       rw [List.lookup_cons] at q
       split at q
       · rename_i hx
         have : x = n := by simpa using hx
         subst this
         cases q
         exact .inr ⟨List.mem_cons_self, rfl⟩
       · exact .inl q
     · exact .inl q
   · exact .inr ⟨List.mem_cons_of_mem _ q1, q2⟩
theorem cloOf_acc (env : Env) : ∀ (names : List (Str × NameKind)) (acc : List (Str × Addr)) (x : Str), (∃ c, acc.lookup x = some c) → ∃ c, (cloOf env names acc).lookup x = some c
 | [], acc, x, h => h
 | (n, k) :: r, acc, x, h => by
   rw [cloOf_cons]
   refine cloOf_acc env r _ x ?_
   split
   · rw [List.lookup_cons]
     split
     · exact ⟨_, rfl⟩
     · exact h
   · exact h
theorem cloOf_has (env : Env) : ∀ (names : List (Str × NameKind)) (acc : List (Str × Addr)) (x : Str), (x, NameKind.free) ∈ names → ∃ c, (cloOf env names acc).lookup x = some c
 | [], acc, x, h => by simp at h
 | (n, k) :: r, acc, x, h => by
   rw [cloOf_cons]
   rcases List.mem_cons.mp h with e | h
   · cases e
     refine cloOf_acc env r _ _ ?_
     rw [if_pos (by decide), List.lookup_cons]
     simp
   · exact cloOf_has env r _ x h
noncomputable def ownB (names : List (Str × NameKind)) (x : Str) : Bool := names.any fun y => y.1 == x && y.2 == .cell
theorem ownB_mem {names : List (Str × NameKind)} {x : Str} : ownB names x = true ↔ (x, NameKind.cell) ∈ names := by
 unfold ownB
 rw [List.any_eq_true]
 constructor
 · rintro ⟨⟨n, k⟩, h, e⟩
   simp only [Bool.and_eq_true, beq_iff_eq] at e
   obtain ⟨rfl, rfl⟩ := e
   exact h
 · intro h
   exact ⟨_, h, by simp⟩
theorem cellsFrom_app : ∀ (names : List (Str × NameKind)) (n : Nat) (acc : List (Str × Addr)), cellsFrom n names acc = cellsFrom n names [] ++ acc
 | [], _, _ => rfl
 | (x, k) :: r, n, acc => by
   unfold cellsFrom
   split
   · rw [cellsFrom_app r (n + 1) ((x, n) :: acc), cellsFrom_app r (n + 1) [(x, n)], List.append_assoc]; rfl
   · exact cellsFrom_app r n acc
theorem cellsFrom_in : ∀ (names : List (Str × NameKind)) (n : Nat) {x : Str} {c : Addr}, (x, c) ∈ cellsFrom n names [] → n ≤ c ∧ (x, NameKind.cell) ∈ names
 | [], _, _, _, h => nomatch h
 | (y, k) :: r, n, x, c, h => by
   unfold cellsFrom at h
   split at h
   · rename_i hk
     have hk' : k = .cell := by simpa using hk
     subst hk'
     rw [cellsFrom_app] at h
     rcases List.mem_append.mp h with h | h
     · have := cellsFrom_in r (n + 1) h
       exact ⟨by lia, List.mem_cons_of_mem _ this.2⟩
     · cases List.mem_singleton.mp h
       exact ⟨Nat.le_refl _, List.mem_cons_self⟩
   · have := cellsFrom_in r n h
     exact ⟨this.1, List.mem_cons_of_mem _ this.2⟩
theorem cellsFrom_has : ∀ (names : List (Str × NameKind)) (n : Nat) {x : Str}, (x, NameKind.cell) ∈ names → ((cellsFrom n names []).lookup x).isSome = true
 | [], _, _, h => nomatch h
 | (y, k) :: r, n, x, h => by
   unfold cellsFrom
   rcases List.mem_cons.mp h with e | h
   · cases e
     rw [if_pos (by decide), cellsFrom_app, List.lookup_append]
     cases hh : (cellsFrom (n + 1) r []).lookup y with
     | some c => rfl
     | none => simp
   · have i0 := cellsFrom_has r n h
     have i1 := cellsFrom_has r (n + 1) h
     split
     · rw [cellsFrom_app, List.lookup_append]
       cases hh : (cellsFrom (n + 1) r []).lookup x with
       | some c => rfl
       | none => rw [hh] at i1; cases i1
     · exact i0
theorem cellsFrom_apart : ∀ (names : List (Str × NameKind)) (n : Nat), (cellsFrom n names []).Pairwise fun x y => x.2 ≠ y.2
 | [], _ => List.Pairwise.nil
 | (y, k) :: r, n => by
   unfold cellsFrom
   split
   · rw [cellsFrom_app]
     refine List.pairwise_append.mpr ⟨cellsFrom_apart r (n + 1), List.pairwise_singleton _ _, fun a ha b hb => ?_⟩
     rw [List.mem_singleton.mp hb]
     have := (cellsFrom_in r (n + 1) (x := a.1) (c := a.2) ha).1
     show a.2 ≠ n
     exact Nat.ne_of_gt (Nat.lt_of_succ_le this)
   · exact cellsFrom_apart r n
theorem wpAny_newBlockEnv {M : Model} {A : Around} {E : Value → Shared → Prop} {s : Shared} {scope : Scope} {globals : Addr} {closure : List (Str × Addr)} {qual : Str} {func : Option Addr} {code : Value} {around : Env} {builtins : Addr} {Q : Env → Shared → Prop}
   (hQ : ∀ h', h' = pushCells (s.heap.push { cls := .type "dict", data := .dict #[] }) scope.names → Q (newEnv scope s.heap.objs.size globals (cellsFrom (s.heap.objs.size + 1) scope.names [] ++ closure) qual func code (some around) builtins) { s with heap := h' }) :
   wpAny M A (newFunctionEnv scope globals closure [] qual func code (some around) builtins) Q E s := by
 simp only [newFunctionEnv, Option.isSome_some, if_true]
 refine wpAny_bind (wpAny_alloc ?_)
 refine wpAny_bind (wpAny_layCells _ (fun name kind cells => by cases hkc : kind == NameKind.cell <;> simp [hkc]) _ _ _ _ ?_)
 rw [cellsFrom_app, show ({ s with heap := s.heap.push { cls := .type "dict", data := .dict #[] } } : Shared).heap.objs.size = s.heap.objs.size + 1 from Heap.size_push ..]
 refine wpAny_bind ?_
 rw [List.forIn_nil]
 exact wpAny_pure (wpAny_pure (hQ _ rfl))
section
variable {prog : Program} {w : World} {A : Around} {R : Result → Shared → Prop} {s : Shared}
theorem codeAny_compLoop_gen {elt target iter : Expr} {ifs : List Expr} {scope : Scope} {pos : Pos} {it acc : Value} {env : Env} (I : Nat → Shared → Prop)
   (turn : ∀ n s, I n s → wpAny (model prog w) A (pyNext it) (fun r s₁ => match r with
     | none => R (.ok .next) s₁
     | some v => wpAny (model prog w) A (letOwnedTupleGo target it v) (fun _ s₁' => wpAny (model prog w) A (assign target env v) (fun _ s₂ =>
         wpAny (model prog w) A (forIn ifs true fun c r => if r = true then do let ok ← isTrue c env (eval c env); pure (ForInStep.yield ok) else pure (ForInStep.yield r)) (fun ok s₃ =>
           if ok = true then wpAny (model prog w) A (eval elt env) (fun x s₄ =>
             wpAny (model prog w) A (call (.builtin "list.append") [acc, x]) (fun _ s₅ => ∃ m, m < n ∧ I m s₅) (notedBy (model prog w) A env fun e s' => R (.error e) s') s₄) (notedBy (model prog w) A env fun e s' => R (.error e) s') s₃
           else ∃ m, m < n ∧ I m s₃) (notedBy (model prog w) A env fun e s' => R (.error e) s') s₂) (notedBy (model prog w) A env fun e s' => R (.error e) s') s₁') (notedBy (model prog w) A env fun e s' => R (.error e) s') s₁) (notedBy (model prog w) A env fun e s' => R (.error e) s') s)
   (n : Nat) (h : I n s) :
   codeAny (model prog w) A (.compLoop (.ListComp elt [⟨target, iter, ifs, 0⟩] scope pos) 0 it acc env) R s := by
 refine codeAny_loop rfl I (fun n s hI => ?_) n h
 show wpAny _ A ((compTurn (.ListComp elt [⟨target, iter, ifs, 0⟩] scope pos) 0 it acc env).onRaise (fun x => do noteFrame x env; theTreesLotGoes x)) _ _ s
 refine wpAny_noted ?_
 rw [compTurn_list]
 refine wpAny_bind (wpAny_standAt (wpAny_bind (wpAny_mono (turn n s hI) (fun r s₁ h₁ => ?_) fun _ _ h' => h')))
 cases r with
 | none => exact wpAny_pure h₁
 | some v =>
   refine wpAny_bind (wpAny_mono h₁ (fun _ s₁' h₁' => wpAny_bind (wpAny_mono h₁' (fun _ s₂ h₂ => wpAny_bind (wpAny_mono h₂ (fun ok s₃ h₃ => ?_) fun _ _ h' => h')) fun _ _ h' => h')) fun _ _ h' => h')
   cases ok with
   | false => exact wpAny_pure ⟨rfl, h₃⟩
   | true =>
     exact wpAny_bind (wpAny_bind (wpAny_mono h₃ (fun x s₄ h₄ => wpAny_bind (wpAny_mono h₄ (fun _ s₅ h₅ => wpAny_pure (wpAny_pure ⟨rfl, h₅⟩)) fun _ _ h' => h')) fun _ _ h' => h'))
end
noncomputable def blk (X : Cx) (N' : List Str) (scope : Scope) (C : Addr) (s : Shared) (H : Hp) (fp : List Addr) (pins : List (Addr × Obj)) : Cx where
 prog := X.prog
 w := X.w
 K := X.K
 mg := X.mg
 base := X.base
 A := X.A
 N := N'
 s₀ := s
 H₀ := H
 env := compEnvC scope (cellsFrom (C + 1) scope.names [] ++ cloOf X.env scope.names []) C X.env
 outer := X.stack
 stack := X.stack
 ex := fp
 fn := ownB scope.names
 calm := X.calm
 pn := X.pn ++ pins
 xe := fun _ _ => False
structure BlkScope (X : Cx) (N' : List Str) (ix : List (Option Nat)) (scope : Scope) : Prop where
 kind : scope.kind = .function
 locs : ∀ y ∈ scope.names, y.2 = .local → scope.names.lookup y.1 = some .local
 frees : ∀ y ∈ scope.names, y.2 = .free → (X.env.kindOf y.1 = some .cell ∨ X.env.kindOf y.1 = some .free)
 look : ∀ x k, (relabel scope X.env).names.lookup x = some k → (k = .cell ∨ k = .free) → (x, NameKind.free) ∈ scope.names ∨ (x, NameKind.cell) ∈ scope.names
 lenI : ix.length = N'.length
 at_ : ∀ (i j : Nat) (x : Str), ix[i]? = some (some j) → N'[i]? = some x → X.N[j]? = some x ∧ (x, NameKind.free) ∈ scope.names ∧ ownB scope.names x = false ∧ (relabel scope X.env).names.lookup x = X.env.kindOf x
variable {X : Cx} {pins : List (Addr × Obj)} {σ : St} {H : Hp} {s : Shared} {N' : List Str} {ix : List (Option Nat)} {scope : Scope}
noncomputable def pick (ix : List (Option Nat)) (σ : St) : St := ix.map fun o => match o with | some j => (σ[j]?).join | none => none
theorem pick_get {i : Nat} {v : V} (e : (pick ix σ)[i]? = some (some v)) : ∃ j, ix[i]? = some (some j) ∧ σ[j]? = some (some v) := by
 unfold pick at e
 rw [List.getElem?_map] at e
 cases h : ix[i]? with
 | none => rw [h] at e; cases e
 | some o =>
   rw [h] at e
   cases o with
   | none =>
     have e' : (none : Option V) = some v := Option.some.inj e
     cases e'
   | some j =>
     have e' : (σ[j]?).join = some v := Option.some.inj e
     refine ⟨j, rfl, ?_⟩
     cases hj : σ[j]? with
     | none => rw [hj] at e'; cases e'
     | some u => rw [hj] at e'; exact congrArg some e'
theorem blk_cells (I : Inv X pins σ H s) (S : BlkScope X N' ix scope) (C : Addr) {x : Str} {c : Addr} (e : (cellsFrom (C + 1) scope.names [] ++ cloOf X.env scope.names []).lookup x = some c) :
   (C < c ∧ (cellsFrom (C + 1) scope.names []).lookup x = some c) ∨ (ownB scope.names x = false ∧ X.env.cells.lookup x = some c) := by
 rw [List.lookup_append] at e
 cases h : (cellsFrom (C + 1) scope.names []).lookup x with
 | some c' =>
   rw [h] at e
   cases e
   exact .inl ⟨(cellsFrom_in _ _ (mem_of_lookup h)).1, rfl⟩
 | none =>
   rw [h] at e
   refine .inr ⟨Bool.eq_false_iff.mpr fun z => ?_, ?_⟩
   · have := cellsFrom_has scope.names (C + 1) (ownB_mem.mp z)
     rw [h] at this; cases this
   · have e' : (cloOf X.env scope.names []).lookup x = some c := e
     rcases cloOf_lookup X.env scope.names [] x c e' with q | ⟨q, rfl⟩
     · cases q
     · obtain ⟨c, hc⟩ := I.ok.has x (S.frees _ q rfl)
       rw [hc] <;> rfl
theorem blk_ok {fp : List Addr} {C : Addr} (I : Inv X pins σ H s) (hf : ∀ b ∈ fp, FpOk X pins H b) (S : BlkScope X N' ix scope) (hC : s.heap.objs.size ≤ C) (hfo : ∀ b ∈ fp, ∃ o, s.heap.get? b = some o) :
   (blk X N' scope C s H fp pins).Ok := by
 have lt : ∀ x c, X.env.cells.lookup x = some c → c < C := fun x c e => by
   obtain ⟨v, z⟩ := I.cell x c e
   exact Nat.lt_of_lt_of_le z.lt hC
 refine ⟨I.ok.mod, ?_, I.ok.glob, I.ok.blt, hC, fun x y c h1 h2 => ?_, fun x hx => ?_, fun x c hf' e => ?_, I.ok.hd, I.ok.frames, .inl rfl, fun b hb => ?_, I.bs, Nat.le_trans I.ok.bsz I.sz, fun b o e hb => ?_, fun b hb hs => ?_, I.stack, I.stkFree⟩
 · exact S.kind
 · rcases blk_cells I S C h1 with ⟨a1, a2⟩ | ⟨a1, a2⟩ <;> rcases blk_cells I S C h2 with ⟨b1, b2⟩ | ⟨b1, b2⟩
   · exact name_of_addr (cellsFrom_apart _ _) (mem_of_lookup a2) (mem_of_lookup b2)
   · exact absurd (Nat.lt_trans (lt _ _ b2) a1) (Nat.lt_irrefl _)
   · exact absurd (Nat.lt_trans (lt _ _ a2) b1) (Nat.lt_irrefl _)
   · exact I.ok.inj x y c a2 b2
 · have hx' : (relabel scope X.env).names.lookup x = some .cell ∨ (relabel scope X.env).names.lookup x = some .free := hx
   have key : (x, NameKind.free) ∈ scope.names ∨ (x, NameKind.cell) ∈ scope.names := by
     rcases hx' with hx' | hx'
     · exact S.look x _ hx' (.inl rfl)
     · exact S.look x _ hx' (.inr rfl)
   show ∃ c, (cellsFrom (C + 1) scope.names [] ++ cloOf X.env scope.names []).lookup x = some c
   rw [List.lookup_append]
   cases h : (cellsFrom (C + 1) scope.names []).lookup x with
   | some c => exact ⟨c, rfl⟩
   | none =>
     rcases key with k | k
     · obtain ⟨c, hc⟩ := cloOf_has X.env scope.names [] x k
       exact ⟨c, by rw [hc]; rfl⟩
     · have := cellsFrom_has scope.names (C + 1) k
       rw [h] at this; cases this
 · rcases blk_cells I S C e with ⟨a1, a2⟩ | ⟨a1, a2⟩
   · exact Nat.le_of_lt (Nat.lt_of_le_of_lt hC a1)
   · have hf2 : ownB scope.names x = true := hf'
     rw [a1] at hf2; cases hf2
 · obtain ⟨f0, f1, f2, f3, f4, f5⟩ := hf b hb
   obtain ⟨o, ho⟩ := hfo b hb
   refine ⟨Nat.ne_of_lt (Nat.lt_of_lt_of_le (Heap.lt_size ho) hC), fun x c e => ?_⟩
   rcases blk_cells I S C e with ⟨a1, a2⟩ | ⟨a1, a2⟩
   · exact Nat.ne_of_gt (Nat.lt_trans (Nat.lt_of_lt_of_le (Heap.lt_size ho) hC) a1)
   · exact f4 x c a2
 · obtain ⟨f0, f1, f2, f3, f4, f5⟩ := hf b hb
   have := (I.ok.bs b o e).1
   rcases f3 with z | z
   · exact I.ok.noex b o e z
   · exact absurd (Nat.lt_of_lt_of_le (Heap.lt_size this) z) (Nat.lt_irrefl _)
 · obtain ⟨f0, f1, f2, f3, f4, f5⟩ := hf b hb
   rcases List.mem_cons.mp (I.stkSub b hs) with e | e
   · exact f1 e
   · exact f2 e
theorem blk_start {fp : List Addr} {C : Addr} {h₁ : Heap} {tk : Nat} (I : Inv X pins σ H s) (hf : ∀ b ∈ fp, FpOk X pins H b) (S : BlkScope X N' ix scope) (hC : s.heap.objs.size ≤ C) (hfo : ∀ b ∈ fp, ∃ o, s.heap.get? b = some o)
   (hns : h₁.Ns C (fun _ => none)) (hk : ∀ b o, s.heap.get? b = some o → h₁.get? b = some o) (hown : ∀ x c, (x, c) ∈ cellsFrom (C + 1) scope.names [] → h₁.IsCell c none) :
   Inv (blk X N' scope C s H fp pins) [] (pick ix σ) H { s with heap := h₁, toks := tk } := by
 have nC : ∀ b o, s.heap.get? b = some o → b ≠ C := fun b o e => Nat.ne_of_lt (Nat.lt_of_lt_of_le (Heap.lt_size e) hC)
 refine ⟨blk_ok I hf S hC hfo, rfl, I.bare, Un.kept hk, ⟨_, hns, fun i x v h1 h2 h3 => ?_⟩, fun x c e => ?_, I.hok.fresh hC, fun x c e => ?_, fun p hp => ?_, I.hok.kept hk, ?_⟩
 · obtain ⟨j, e1, e2⟩ := pick_get h2
   obtain ⟨a1, a2, a4, a3⟩ := S.at_ i j x e1 h1
   have kd := S.frees _ a2 rfl
   have vis : Vis X.env.scope x := by
     rcases kd with k | k
     · exact .inr (.inl k)
     · exact .inr (.inr k)
   obtain ⟨m, hn, hl⟩ := I.loc
   obtain ⟨u, r, l⟩ := hl j x v a1 e2 vis
   refine ⟨u, r, .inr ?_⟩
   have kd' : X.env.kindOf x = some .cell ∨ X.env.kindOf x = some .free := kd
   rcases l with ⟨k, _⟩ | ⟨k, c, ec, z⟩
   · rcases kd' with q | q <;> (rw [q] at k; cases k)
   · refine ⟨?_, c, ?_, z.keeps hk⟩
     · show (relabel scope X.env).names.lookup x = some .cell ∨ (relabel scope X.env).names.lookup x = some .free
       rw [a3]; exact kd'
     · obtain ⟨c', hc'⟩ := cloOf_has X.env scope.names [] x a2
       show (cellsFrom (C + 1) scope.names [] ++ cloOf X.env scope.names []).lookup x = some c
       have hn : (cellsFrom (C + 1) scope.names []).lookup x = none := by
         cases h : (cellsFrom (C + 1) scope.names []).lookup x with
         | none => rfl
         | some c2 =>
           have := ownB_mem.mpr (cellsFrom_in _ _ (mem_of_lookup h)).2
           rw [a4] at this; cases this
       rw [List.lookup_append, hn]
       show (cloOf X.env scope.names []).lookup x = some c
       rcases cloOf_lookup X.env scope.names [] x c' hc' with q | ⟨q, q2⟩
       · cases q
       · rw [hc', q2, ec]; rfl
 · rcases blk_cells I S C e with ⟨a1, a2⟩ | ⟨a1, a2⟩
   · exact ⟨none, hown x c (mem_of_lookup a2)⟩
   · obtain ⟨v, z⟩ := I.cell x c a2
     exact ⟨v, z.keeps hk⟩
 · rcases blk_cells I S C e with ⟨a1, a2⟩ | ⟨a1, a2⟩
   · exact I.hok.fresh (Nat.le_of_lt (Nat.lt_of_le_of_lt hC a1))
   · exact I.freeC x c a2
 · have hp' : p ∈ X.pn ++ pins := by
     have : p ∈ (X.pn ++ pins) ++ [] := hp
     simpa using this
   obtain ⟨e, n, ne, nf, d⟩ := I.pin p hp'
   refine ⟨hk _ _ e, n, nC _ _ e, fun hb => ?_, d⟩
   rcases List.mem_cons.mp (I.stkSub _ hb) with z | z
   · exact ne z
   · exact nf z
 · show (pick ix σ).length = N'.length
   unfold pick
   rw [List.length_map, S.lenI]
theorem blk_end {fp : List Addr} {C D : Addr} {h' : Heap} {H' : Hp} {σ' : St} {s' : Shared} {ys : List V} {its : List Value} {cap : Nat} (I : Inv X pins σ H s) (hf : ∀ b ∈ fp, FpOk X pins H b) (hC : s.heap.objs.size ≤ C) (hD : s.heap.objs.size ≤ D) (hDC : D ≠ C)
   (J : Inv (blk X N' scope C s H fp pins) [] σ' H' s') (hDn : H' D = none) (ho : s'.heap.get? D = some { cls := .type "list", data := .seq its.toArray cap }) (r : Vals ys its) (hz : ys.length ≤ sizeLine) (sb : Heap.SameBut C s'.heap h') :
   Inv X pins σ (upd H' D (.lst ys)) { s' with heap := h' } := by
 have sb' : ∀ b o, b ≠ C → s'.heap.get? b = some o → h'.get? b = some o := sb.extBut
 have nC : ∀ b o, s.heap.get? b = some o → b ≠ C := fun b o e => Nat.ne_of_lt (Nat.lt_of_lt_of_le (Heap.lt_size e) hC)
 have nD : ∀ b o, s.heap.get? b = some o → b ≠ D := fun b o e => Nat.ne_of_lt (Nat.lt_of_lt_of_le (Heap.lt_size e) hD)
 have hCn : H' C = none := J.free
 have u := J.base
 refine I.call' (ch := fp) (s' := { s' with heap := h' }) J.os ⟨fun b o e n hb hx => ?_, fun b o e n hb hx => ?_, fun b o e n hx => ?_, fun b o e hx => ?_, fun b xs e => ?_, fun b o v e => ?_, fun b ps e => ?_⟩ (fun b o e => ?_) J.bare (fun b hb => ?_)
 · exact sb' _ _ (nC b o e) (u.keep b o e n hb hx)
 · obtain ⟨sl, q⟩ := u.slot b o e n hb hx
   exact ⟨sl, sb' _ _ (nC b o e) q⟩
 · rw [upd_ne (nD b o e)]; exact u.free b o e n hx
 · obtain ⟨o', q⟩ := u.there b o e hx
   exact ⟨o', sb' _ _ (nC b o e) q⟩
 · have q := u.tups b xs e
   rw [upd_ne (ne_of_none q hDn)]; exact q
 · have q := u.frzs b o v e
   rw [upd_ne (ne_of_none q hDn)]; exact q
 · obtain ⟨m, q⟩ := u.tbls b ps e
   exact ⟨m, by rw [upd_ne (ne_of_none q hDn)]; exact q⟩
 · by_cases hb : b = D
   · subst hb
     rw [upd_same] at e; cases e
     exact ⟨hz, its, cap, r, sb' _ _ hDC ho⟩
   · rw [upd_ne hb] at e
     refine (J.hok b o e).stay (fun c v hc q => sb' c v ?_ q) (fun c q => by rw [upd_ne (ne_of_none q hDn)]; exact q) fun c xs q => by rw [upd_ne (ne_of_none q hDn)]; exact q
     rcases hc with rfl | hc
     · exact ne_of_none e hCn
     · exact ne_of_none hc hCn
 · obtain ⟨f0, f1, f2, f3, f4, f5⟩ := hf b hb
   exact ⟨f3, f1, f4, f5⟩
noncomputable def tComp (wi : TI) (ix : List (Option Nat)) (g : TG) (tt : TT) (te : TE) : TE := fun σ H Q => wi σ H fun J H1 => ∃ W : Nat → Nat → List V → Hp → Prop, (∃ m, W 0 m [] H1) ∧ ∀ i m ys H, W i m ys H →
 (J.stop i H ∧ ys.length ≤ sizeLine ∧ ∀ p, H p = none → Q (.ref p) (upd H p (.lst ys))) ∨
 (J.go i H ∧ ys.length < sizeLine ∧ ∀ x H', J.yld i H x H' → g x (pick ix σ) H' fun σ2 H2 => tt σ2 H2 fun ok H3 =>
   if ok = true then te σ2 H3 fun y H4 => ∃ m', m' < m ∧ W (i + 1) m' (ys ++ [y]) H4 else ∃ m', m' < m ∧ W (i + 1) m' ys H3)
noncomputable def PTs (X : Cx) (ifs : List Expr) (t : TT) : Prop :=
 ∀ (pins : List (Addr × Obj)) (s : Shared) (σ : St) (H : Hp) (Q : Bool → Hp → Prop), Inv X pins σ H s → t σ H Q →
   wpAny (model X.prog X.w) X.A (forIn ifs true fun c r => if r = true then do let ok ← isTrue c X.env (eval c X.env); pure (ForInStep.yield ok) else pure (ForInStep.yield r)) (TP X pins σ Q) X.xe s
noncomputable def tYes : TT := fun _ H Q => Q true H
theorem pts_nil : PTs X [] tYes := fun _ _ _ H _ I h => wpAny_tests_nil ⟨H, I, h⟩
theorem pts_one {c : Expr} {t : TT} (h : PT X c t) : PTs X [c] t := fun pins s σ H Q I hw => wpAny_tests_one (h pins s σ H Q I hw)
noncomputable def Agr (ix : List (Option Nat)) (σ σ2 : St) : Prop := σ2.length = σ.length ∧ ∀ (k j : Nat), ix[k]? = some (some j) → σ2[k]? = σ[k]?
noncomputable def Own (ix : List (Option Nat)) (g : TG) : Prop := ∀ (x : V) (σ0 σ : St) (H : Hp) (Q : St → Hp → Prop), Agr ix σ0 σ → g x σ H Q → g x σ H fun σ2 H2 => Q σ2 H2 ∧ Agr ix σ0 σ2
theorem own_name {ix : List (Option Nat)} {i : Nat} (h : ix[i]? = some none) : Own ix (gName i) := by
 intro x σ0 σ H Q a q
 refine ⟨q, by rw [List.length_set]; exact a.1, fun k j hk => ?_⟩
 rw [List.getElem?_set_ne]
 · exact a.2 k j hk
 · rintro rfl
   rw [h] at hk; cases hk
theorem comp_core {elt iter tg : Expr} {ifs : List Expr} {pos posc : Pos} {wi : TI} {g : TG} {tt : TT} {te : TE} (use : Option (Value → Sem Unit)) (QQ : Value → Shared → Prop) (hc : X.calm = true) (hi : PI X tg iter wi) (S : BlkScope X N' ix scope) (ow : Own ix g)
   (hg : ∀ C s H fp pins, PG (blk X N' scope C s H fp pins) tg g) (ht : ∀ C s H fp pins, PTs (blk X N' scope C s H fp pins) ifs tt) (he : ∀ C s H fp pins, PE (blk X N' scope C s H fp pins) elt te)
   (hs : ∀ x, foldedSetIterable iter X.env x = pure x) (pins : List (Addr × Obj)) (s : Shared) (σ : St) (H : Hp) (Q : VK) (I : Inv X pins σ H s) (h : tComp wi ix g tt te σ H Q)
   (hpost : ∀ (C D : Addr) (H5 : Hp) (s4 : Shared) (m : Str → Option Value), s4.heap.Ns C m → FpOk X pins H5 C → (∀ h', Heap.SameBut C s4.heap h' → Inv X pins σ H5 { s4 with heap := h' }) → Q (.ref D) H5 →
     compPost (model X.prog X.w) X.A X.xe use QQ (.ref D) C (.ok .next) s4) :
   wpAny (model X.prog X.w) X.A (comprehension (.ListComp elt [⟨tg, iter, ifs, 0⟩] scope pos) scope X.env posc (newList []) false (eval iter X.env) use) QQ X.xe s := by
 refine wpAny_comprehension_free (use := use) rfl hs (closureFor_eq scope X.env fun y hy hk => I.ok.has y.1 (S.frees y hy hk)) S.kind S.locs (thn (hi pins s σ H _ I h) fun v s1 h1 => thn h1 fun itv s2 h2 => ?_)
 obtain ⟨it, fp, tn, J, H2, e, I2, T, st2, f2, W, ⟨m0, w0⟩, turn⟩ := h2
 subst e
 have hfo : ∀ b ∈ fp, ∃ o, s2.heap.get? b = some o := fun b hb => let ⟨o, e, _⟩ := T.obj _ _ st2 b hb; ⟨o, e⟩
 refine wpAny_newObj_type (wpAny_newBlockEnv (fun h₁ eh₁ => ?_))
 dsimp only at eh₁ ⊢
 generalize hH2 : s2.heap.push { cls := .type "list", dict := none, data := .seq ([] : List Value).toArray } = Hp2 at eh₁ ⊢
 have hC : Hp2.objs.size = s2.heap.objs.size + 1 := by rw [← hH2, Heap.size_push]
 have old1 : ∀ b o, Hp2.get? b = some o → h₁.get? b = some o := fun b o e => by rw [eh₁]; exact pushCells_keeps _ _ _ _ (Heap.get?_push_of_some _ e)
 have hns : h₁.Ns Hp2.objs.size (fun _ => none) := by rw [eh₁]; exact (Heap.Ns.new Hp2 (.type "dict")).keeps (pushCells_keeps _ _)
 have hown : ∀ x c, (x, c) ∈ cellsFrom (Hp2.objs.size + 1) scope.names [] → h₁.IsCell c none := fun x c hm => by
   have ok := cellsFrom_ok scope.names (Hp2.push { cls := .type "dict", data := .dict #[] }) (Hp2.objs.size + 1) [] ⟨fun _ _ hm => (nomatch hm), List.Pairwise.nil⟩ (by rw [Heap.size_push]; exact Nat.le_refl _)
   rw [Heap.size_push] at ok
   rw [eh₁]
   exact (ok.empty x c hm).1
 generalize hCC : Hp2.objs.size = C at hns hown hC ⊢
 generalize hDD : s2.heap.objs.size = D at hC
 have hCge : s2.heap.objs.size ≤ C := by rw [hDD, hC]; exact Nat.le_succ _
 have hDge : s2.heap.objs.size ≤ D := Nat.le_of_eq hDD
 have hDC : D ≠ C := by rw [hC]; exact Nat.ne_of_lt (Nat.lt_succ_self _)
 have hDlt : D < C := by rw [hC]; exact Nat.lt_succ_self _
 have old : ∀ b o, s2.heap.get? b = some o → h₁.get? b = some o := fun b o e => old1 b o (hH2 ▸ Heap.get?_push_of_some _ e)
 have hacc : h₁.get? D = some { cls := .type "list", data := .seq ([] : List Value).toArray 0 } := old1 _ _ (hH2 ▸ hDD ▸ Heap.get?_push_size _ rfl)
 have stat : ∀ {H' : Hp}, (∀ b ∈ fp, H' b = none) → ∀ b ∈ fp, FpOk (blk X N' scope C s2 H2 fp pins) [] H' b := fun hn b hb => by
   obtain ⟨f0, f1, f2, f3, f4, f5⟩ := f2 b hb
   obtain ⟨o, ho⟩ := hfo b hb
   refine ⟨hn b hb, Nat.ne_of_lt (Nat.lt_of_lt_of_le (Heap.lt_size ho) hCge), fun z => ?_, .inl hb, fun x c e => ?_, fun p hp => ?_⟩
   · rcases List.mem_cons.mp (I2.stkSub _ z) with e | e
     · exact f1 e
     · exact f2 e
   · rcases blk_cells I2 S C e with ⟨a1, a2⟩ | ⟨a1, a2⟩
     · exact Nat.ne_of_gt (Nat.lt_trans (Nat.lt_of_lt_of_le (Heap.lt_size ho) hCge) a1)
     · exact f4 x c a2
   · have : p ∈ (X.pn ++ pins) ++ [] := hp
     exact f5 p (by simpa using this)
 have hDs : D ∉ (blk X N' scope C s2 H2 fp pins).fs := fun hb => by
   rcases List.mem_cons.mp (I2.stkSub _ hb) with e | e
   · rw [e] at hDge
     exact absurd (Nat.lt_of_lt_of_le I2.lt hDge) (Nat.lt_irrefl _)
   · exact I2.nofs hDge e
 have loop : ∀ s₃ : Shared, s₃ = { s2 with heap := h₁ } →
     codeAny (model X.prog X.w) X.A (.compLoop (.ListComp elt [⟨tg, iter, ifs, 0⟩] scope pos) 0 (.ref it) (.ref D) (compEnvC scope (cellsFrom (C + 1) scope.names [] ++ cloOf X.env scope.names []) C X.env))
       (compPost (model X.prog X.w) X.A X.xe use QQ (.ref D) C) s₃ := by
   rintro s₃ rfl
   refine codeAny_compLoop_gen (fun n s' => ∃ i ys its cap H', Inv (blk X N' scope C s2 H2 fp pins) [] (pick ix σ) H' s' ∧ tn i s'.heap ∧ (∀ b ∈ fp, H' b = none) ∧ H' D = none ∧
       s'.heap.get? D = some { cls := .type "list", data := .seq (its : List Value).toArray cap } ∧ Vals ys its ∧ W i n ys H') ?_ m0
     ⟨0, [], [], 0, H2, blk_start I2 f2 S hCge hfo hns old hown, T.keep _ _ _ st2 fun b _ o e => old b o e, fun b hb => (f2 b hb).1, I2.hok.fresh hDge, hacc, .nil, w0⟩
   rintro n s3 ⟨i, ys, its, cap, H3, I3, st3, fr3, hD3, ho3, r3, w3⟩
   have I3d : Inv (blk X N' scope C s2 H2 fp pins) [(D, { cls := .type "list", data := .seq its.toArray cap })] (pick ix σ) H3 s3 := I3.pins_of fun p hp => by
     have e : p = (D, { cls := .type "list", data := .seq its.toArray cap }) := by simpa using hp
     subst e
     exact ⟨ho3, hD3, hDC, hDs, fun v z => nomatch z⟩
   have statD : ∀ {H' : Hp}, (∀ b ∈ fp, H' b = none) → ∀ b ∈ fp, FpOk (blk X N' scope C s2 H2 fp pins) [(D, ({ cls := .type "list", data := .seq its.toArray cap } : Obj))] H' b := fun hn b hb => by
     obtain ⟨f0, f1, f2, f3, f4, f5⟩ := stat hn b hb
     obtain ⟨o, ho⟩ := hfo b hb
     refine ⟨f0, f1, f2, f3, f4, fun p hp => ?_⟩
     rcases List.mem_append.mp hp with z | z
     · exact f5 p (List.mem_append_left _ z)
     · have e : p = (D, ({ cls := .type "list", data := .seq its.toArray cap } : Obj)) := by simpa using z
       subst e
       exact Nat.ne_of_gt (Nat.lt_of_lt_of_le (Heap.lt_size ho) hDge)
   rcases turn i n ys H3 w3 with ⟨stop, hz, qn⟩ | ⟨go, hz, step⟩
   · refine wpAny_noRaise (thn (T.done (blk X N' scope C s2 H2 fp pins) rfl rfl rfl hc i _ s3 (pick ix σ) H3 (fun _ _ => False) I3d (statD fr3) st3 stop) fun r s4 ⟨hr, I4⟩ => ?_)
     subst hr
     obtain ⟨e4, n4, _⟩ := I4.pin (D, _) (List.mem_append_right _ (List.mem_singleton.mpr rfl))
     obtain ⟨m, hn, _⟩ := id I4.loc
     have hC4 : H3 C = none := I4.free
     exact hpost C D _ _ m hn (I2.fpOk hCge (by rw [upd_ne (Ne.symm hDC)]; exact hC4)) (fun h' sb => blk_end I2 f2 hCge hDge hDC (Inv.unpinned (pl := [(D, _)]) (pins := []) I4) n4 e4 r3 hz sb) (qn D n4)
   · refine wpAny_noRaise (thn (T.item (blk X N' scope C s2 H2 fp pins) rfl rfl rfl hc i _ s3 (pick ix σ) H3 (fun _ _ => False) I3d (statD fr3) st3 go) fun r s4 ⟨u, hr, h4⟩ => ?_)
     subst hr
     refine wpAny_noRaise (thn h4 fun _ s5 ⟨x, H5, I5, r5, y5, st5, fr5⟩ => ?_)
     have I5' := I5.pinned (statD fr5) (T.obj _ _ st5)
     have again : ∀ {σ7 : St} {H7 : Hp} {s7 : Shared}, Inv (blk X N' scope C s2 H2 fp pins) ([(D, ({ cls := .type "list", data := .seq its.toArray cap } : Obj))] ++ pinsAt fp s5.heap) σ7 H7 s7 →
         H7 D = none ∧ s7.heap.get? D = some { cls := .type "list", data := .seq its.toArray cap } ∧ tn (i + 1) s7.heap ∧ ∀ b ∈ fp, H7 b = none := fun {σ7 H7 s7} I7 => by
       obtain ⟨e7, n7, _⟩ := I7.pin (D, _) (List.mem_append_right _ (List.mem_append_left _ (List.mem_singleton.mpr rfl)))
       refine ⟨n7, e7, T.keep _ _ _ st5 fun b hb o e => (I7.pin (b, o) (List.mem_append_right _ (List.mem_append_right _ (mem_pinsAt hb e)))).1, fun b hb => ?_⟩
       obtain ⟨o, e, d⟩ := T.obj _ _ st5 b hb
       exact (I7.pin (b, o) (List.mem_append_right _ (List.mem_append_right _ (mem_pinsAt hb e)))).2.1
     have forget : ∀ {σ7 : St} {H7 : Hp} {s7 : Shared}, Inv (blk X N' scope C s2 H2 fp pins) ([(D, ({ cls := .type "list", data := .seq its.toArray cap } : Obj))] ++ pinsAt fp s5.heap) σ7 H7 s7 →
         (∀ (k : Nat) v, (pick ix σ)[k]? = some (some v) → σ7[k]? = some (some v)) → σ7.length = (pick ix σ).length → Inv (blk X N' scope C s2 H2 fp pins) [] (pick ix σ) H7 s7 := fun {σ7 H7 s7} I7 hk hl =>
       (I7.pins_of (pins' := []) fun _ z => nomatch z).weak hl.symm hk
     refine wpAny_noRaise (thn (hg C s2 H2 fp pins _ s5 (pick ix σ) H5 x u _ I5' r5 (ow _ _ _ _ _ ⟨rfl, fun _ _ _ => rfl⟩ (step x H5 y5))) fun _ s6 ⟨σ6, H6, I6, q6, l6, k6⟩ => ?_)
     have back : ∀ (k : Nat) v, (pick ix σ)[k]? = some (some v) → σ6[k]? = some (some v) := fun k v e => by
       obtain ⟨j, e1, _⟩ := pick_get e
       rw [k6 k j e1]; exact e
     refine wpAny_noRaise (thn (ht C s2 H2 fp pins _ s6 σ6 H6 _ I6 q6) fun ok s7 ⟨H7, I7, q7⟩ => ?_)
     cases ok with
     | false =>
       rw [if_neg Bool.false_ne_true]
       rw [if_neg Bool.false_ne_true] at q7
       obtain ⟨m', hm, w7⟩ := q7
       obtain ⟨a1, a2, a3, a4⟩ := again I7
       exact ⟨m', hm, i + 1, ys, its, cap, H7, forget I7 back l6, a3, a4, a1, a2, r3, w7⟩
     | true =>
       rw [if_pos rfl]
       rw [if_pos rfl] at q7
       refine wpAny_noRaise (thn (he C s2 H2 fp pins _ s7 σ6 H7 _ I7 q7) fun z s8 ⟨y, H8, I8, r8, m', hm, w8⟩ => ?_)
       obtain ⟨a1, a2, a3, a4⟩ := again I8
       have hl := r3.length
       refine wpAny_noRaise (wpAny_list_append_plain ⟨_, a2⟩ (fun h9 ⟨cap9, p9⟩ sb9 => ?_) (by rw [List.size_toArray, ← hl]; exact Nat.le_of_lt hz))
       have I9 : Inv (blk X N' scope C s2 H2 fp pins) [] (pick ix σ) H8 { s8 with heap := h9 } :=
         (forget I8 back l6).turned (t' := s8.toks) (it := D) (fun b o hb e => sb9.extBut b o hb e) a1 hDC (.inr hDge) (fun x c e => by
           rcases blk_cells I2 S C e with ⟨a1, a2⟩ | ⟨a1, a2⟩
           · exact Nat.ne_of_gt (Nat.lt_trans hDlt a1)
           · obtain ⟨v, z⟩ := I2.cell x c a2
             exact Nat.ne_of_lt (Nat.lt_of_lt_of_le z.lt hDge)) (fun p hp => by
           have hp' : p ∈ (X.pn ++ pins) ++ [] := hp
           exact Nat.ne_of_lt (Nat.lt_of_lt_of_le (Heap.lt_size (I2.pin p (by simpa using hp')).1) hDge))
       refine ⟨m', hm, i + 1, ys ++ [y], its ++ [z], cap9, H8, I9, ?_, a4, a1, ?_, r3.append (.cons r8 .nil), w8⟩
       · refine T.keep _ _ _ a3 fun b hb o e => sb9.extBut b o ?_ e
         obtain ⟨o', ho'⟩ := hfo b hb
         exact Nat.ne_of_lt (Nat.lt_of_lt_of_le (Heap.lt_size ho') hDge)
       · rw [p9]; simp
 exact codeAny_compStart_list (loop _ rfl) (T.self _ _ _ _ _ (T.keep _ _ _ st2 fun b _ o e => old b o e) (loop _ rfl))
theorem pe_comp {elt iter tg : Expr} {ifs : List Expr} {pos : Pos} {wi : TI} {g : TG} {tt : TT} {te : TE} (hc : X.calm = true) (hi : PI X tg iter wi) (S : BlkScope X N' ix scope) (ow : Own ix g)
   (hg : ∀ C s H fp pins, PG (blk X N' scope C s H fp pins) tg g) (ht : ∀ C s H fp pins, PTs (blk X N' scope C s H fp pins) ifs tt) (he : ∀ C s H fp pins, PE (blk X N' scope C s H fp pins) elt te)
   (hs : ∀ x, foldedSetIterable iter X.env x = pure x := by intro _; rfl) :
   PE X (.ListComp elt [⟨tg, iter, ifs, 0⟩] scope pos) (tComp wi ix g tt te) := by
 intro pins s σ H Q I h
 rw [eval_ListComp]
 exact comp_core none (EP X pins σ Q) hc hi S ow hg ht he hs pins s σ H Q I h fun C D H5 s4 m hn _ inv q => ⟨m, hn, fun h' sb => ⟨.ref D, H5, inv h' sb, rfl, q⟩⟩
end L2
namespace L2
open PySem PySem.Spec PyProof.Rows
noncomputable def relabelS (scope outer : Scope) : Scope :=
 { scope with names := scope.names.map fun (n, k) => if (k == .free && outer.kind == .function && outer.names.lookup n == some .cell) then (n, .cell) else (n, k) }
theorem relabel_look {scope : Scope} {env : Env} {x : Str} {k : NameKind} (h : (relabel scope env).names.lookup x = some k) (hk : k = .cell ∨ k = .free) : (x, NameKind.free) ∈ scope.names ∨ (x, NameKind.cell) ∈ scope.names := by
 have hm : (x, k) ∈ (relabel scope env).names := PySem.mem_of_lookup h
 unfold relabel at hm
 obtain ⟨⟨n, k0⟩, h1, h2⟩ := List.mem_map.mp hm
 dsimp only at h2
 split at h2
 · rename_i hc
   have e1 : n = x := (Prod.mk.inj h2).1
   subst e1
   have : k0 = NameKind.free := by
     simp only [Bool.and_eq_true, beq_iff_eq] at hc
     exact hc.1.1
   rw [this] at h1; exact .inl h1
 · have e1 := Prod.mk.inj h2
   obtain ⟨rfl, rfl⟩ := e1
   rcases hk with rfl | rfl
   · exact .inr h1
   · exact .inl h1
noncomputable def blkB (outer : Scope) (N N' : List Str) (ix : List (Option Nat)) (scope : Scope) : Bool :=
 decide (scope.kind = .function) && decide (outer.kind = .function) && scope.names.all (fun y => decide (y.2 = .local → scope.names.lookup y.1 = some .local)) &&
 scope.names.all (fun y => decide (y.2 = .free → (outer.names.lookup y.1 = some .cell ∨ outer.names.lookup y.1 = some .free))) && decide (ix.length = N'.length) &&
 (List.range ix.length).all fun i => match ix[i]?, N'[i]? with
   | some (some j), some x => decide (N[j]? = some x) && decide ((x, NameKind.free) ∈ scope.names) && !ownB scope.names x &&
     decide ((relabelS scope outer).names.lookup x = outer.names.lookup x)
   | _, _ => true
theorem blk_scope {X : Cx} {outer scope : Scope} {N N' : List Str} {ix : List (Option Nat)} (h : blkB outer N N' ix scope = true) (ho : X.env.scope = outer) (hN : X.N = N) : BlkScope X N' ix scope := by
 unfold blkB at h
 simp only [Bool.and_eq_true, decide_eq_true_eq, List.all_eq_true] at h
 obtain ⟨⟨⟨⟨⟨h1, h2⟩, h4⟩, h5⟩, h6⟩, h7⟩ := h
 subst ho hN
 refine ⟨h1, h4, h5, fun x k hl hk => relabel_look hl hk, h6, fun i j x e1 e2 => ?_⟩
 have hi : i < ix.length := (List.getElem?_eq_some_iff.mp e1).1
 have q := h7 i (List.mem_range.mpr hi)
 rw [e1, e2] at q
 simp only [Bool.and_eq_true, decide_eq_true_eq, Bool.not_eq_true'] at q
 exact ⟨q.1.1.1, q.1.1.2, q.1.2, q.2⟩
theorem PE.imp {X : Cx} {e : Expr} {t t' : TE} (h : PE X e t) (f : ∀ σ H Q, t' σ H Q → t σ H Q) : PE X e t' := fun pins s σ H Q I q => h pins s σ H Q I (f σ H Q q)
theorem PT.imp {X : Cx} {e : Expr} {t t' : TT} (h : PT X e t) (f : ∀ σ H Q, t' σ H Q → t σ H Q) : PT X e t' := fun pins s σ H Q I q => h pins s σ H Q I (f σ H Q q)
theorem PA.imp {X : Cx} {e : List Expr} {t t' : TA} (h : PA X e t) (f : ∀ σ H Q, t' σ H Q → t σ H Q) : PA X e t' := fun pos pins s σ H Q I q => h pos pins s σ H Q I (f σ H Q q)
theorem PS.imp {X : Cx} {e : Stmt} {t t' : TS} (h : PS X e t) (f : ∀ D σ H, t' D σ H → t D σ H) : PS X e t' := fun pins s σ H D I q => h pins s σ H D I (f D σ H q)
theorem PSs.imp {X : Cx} {e : List Stmt} {t t' : TS} (h : PSs X e t) (f : ∀ D σ H, t' D σ H → t D σ H) : PSs X e t' := fun pins s σ H D I q => h pins s σ H D I (f D σ H q)
end L2
namespace L2
open PySem PySem.Spec PyProof.Rows
inductive T where
 | non | bl (b : Bool) | int (i : Int) | str (x : Str) | tup (ts : List T) | adr (a : Addr)
 /-- a list that never changes (the script; a module's own) -/
 | rd (ts : List T)
 /-- a dict with int keys that never changes behind its display -/
 | dic (ks : List Int) (ts : List T)
noncomputable def FzL (K : PySem.W.Frag) (H : Hp) (a : Addr) (xs : List V) : Prop :=
 (∃ o, H a = some (.frz o (.lst xs))) ∨
   ∃ (o : Obj) (its : Array Value) (n : Nat), K.lookup a = some o ∧ o.cls = .type "list" ∧ o.dict = none ∧ o.data = .seq its n ∧ its.size ≤ sizeLine ∧ Vals xs its.toList
theorem FzL.sq {K : PySem.W.Frag} {H : Hp} {a : Addr} {xs : List V} (h : FzL K H a xs) : SqL K H a xs := by
 rcases h with ⟨o, h⟩ | h
 · exact .inl (.inr ⟨o, h⟩)
 · exact .inr h
mutual
noncomputable def Rep (K : PySem.W.Frag) (H : Hp) : V → T → Prop
 | v, .non => v = .non
 | v, .bl b => v = .bl b
 | v, .int i => v = .int i
 | v, .str x => v = .str x
 | v, .adr a => v = .ref a
 | v, .tup ts => ∃ a xs, v = .ref a ∧ SqT K H a xs ∧ Reps K H xs ts
 | v, .rd ts => ∃ a xs, v = .ref a ∧ FzL K H a xs ∧ Reps K H xs ts
 | v, .dic _ _ => False
noncomputable def Reps (K : PySem.W.Frag) (H : Hp) : List V → List T → Prop
 | vs, [] => vs = []
 | vs, t :: ts => ∃ v r, vs = v :: r ∧ Rep K H v t ∧ Reps K H r ts
end
structure Kp (K : PySem.W.Frag) (H H' : Hp) : Prop where
 tup : ∀ a xs, SqT K H a xs → SqT K H' a xs
 frz : ∀ a o u, H a = some (.frz o u) → H' a = some (.frz o u)
theorem Kp.refl {K : PySem.W.Frag} {H : Hp} : Kp K H H := ⟨fun _ _ h => h, fun _ _ _ h => h⟩
theorem Kp.trans {K : PySem.W.Frag} {H H1 H2 : Hp} (a : Kp K H H1) (b : Kp K H1 H2) : Kp K H H2 := ⟨fun _ _ h => b.tup _ _ (a.tup _ _ h), fun _ _ _ h => b.frz _ _ _ (a.frz _ _ _ h)⟩
structure KpW (K : PySem.W.Frag) (H H' : Hp) : Prop where
 tup : ∀ a xs, SqT K H a xs → SqT K H' a xs
 frz : ∀ a o u, H a = some (.frz o u) → H' a = some (.frz o u)
theorem Kp.w {K : PySem.W.Frag} {H H' : Hp} (k : Kp K H H') : KpW K H H' := ⟨k.tup, k.frz⟩
theorem KpW.fz {K : PySem.W.Frag} {H H' : Hp} {a : Addr} {xs : List V} (k : KpW K H H') (h : FzL K H a xs) : FzL K H' a xs := by
 rcases h with ⟨o, h⟩ | h
 · exact .inl ⟨o, k.frz _ _ _ h⟩
 · exact .inr h
mutual
theorem Rep.kw {K : PySem.W.Frag} {H H' : Hp} (k : KpW K H H') : ∀ (v : V) (t : T), Rep K H v t → Rep K H' v t
 | v, .non, h => h
 | v, .bl b, h => h
 | v, .int i, h => h
 | v, .str x, h => h
 | v, .adr a, h => h
 | v, .tup ts, h => by
   unfold Rep at h ⊢
   obtain ⟨a, xs, e, h1, h2⟩ := h
   exact ⟨a, xs, e, k.tup _ _ h1, Reps.kw k xs ts h2⟩
 | v, .rd ts, h => by
   unfold Rep at h ⊢
   obtain ⟨a, xs, e, h1, h2⟩ := h
   exact ⟨a, xs, e, k.fz h1, Reps.kw k xs ts h2⟩
 | v, .dic ks ts, h => by
   unfold Rep at h; exact h.elim
theorem Reps.kw {K : PySem.W.Frag} {H H' : Hp} (k : KpW K H H') : ∀ (vs : List V) (ts : List T), Reps K H vs ts → Reps K H' vs ts
 | vs, [], h => h
 | vs, t :: ts, h => by
   unfold Reps at h ⊢
   obtain ⟨v, r, e, h1, h2⟩ := h
   exact ⟨v, r, e, Rep.kw k v t h1, Reps.kw k r ts h2⟩
end
theorem Rep.kp {K : PySem.W.Frag} {H H' : Hp} (k : Kp K H H') (v : V) (t : T) (h : Rep K H v t) : Rep K H' v t := Rep.kw k.w v t h
theorem Reps.kp {K : PySem.W.Frag} {H H' : Hp} (k : Kp K H H') (vs : List V) (ts : List T) (h : Reps K H vs ts) : Reps K H' vs ts := Reps.kw k.w vs ts h
section
variable {K : PySem.W.Frag} {H : Hp}
theorem Reps.cons {v : V} {t : T} {vs : List V} {ts : List T} (h : Rep K H v t) (r : Reps K H vs ts) : Reps K H (v :: vs) (t :: ts) := by
 unfold Reps; exact ⟨v, vs, rfl, h, r⟩
theorem Reps.nil : Reps K H [] [] := by unfold Reps; rfl
theorem Reps.length : ∀ {vs : List V} {ts : List T}, Reps K H vs ts → vs.length = ts.length
 | vs, [], h => by unfold Reps at h; subst h; rfl
 | vs, t :: ts, h => by
   unfold Reps at h
   obtain ⟨v, r, rfl, _, h2⟩ := h
   rw [List.length_cons, List.length_cons, Reps.length h2]
theorem Reps.get : ∀ {vs : List V} {ts : List T} {i : Nat} {t : T}, Reps K H vs ts → ts[i]? = some t → ∃ v, vs[i]? = some v ∧ Rep K H v t
 | _, [], _, _, _, e => by simp at e
 | vs, t :: ts, 0, u, h, e => by
   unfold Reps at h
   obtain ⟨v, r, rfl, h1, _⟩ := h
   simp at e; subst e
   exact ⟨v, rfl, h1⟩
 | vs, t :: ts, i + 1, u, h, e => by
   unfold Reps at h
   obtain ⟨v, r, rfl, _, h2⟩ := h
   obtain ⟨w, q1, q2⟩ := Reps.get (i := i) h2 (by simpa using e)
   exact ⟨w, by simpa using q1, q2⟩
theorem Reps.append : ∀ {vs : List V} {ts : List T} {ws : List V} {us : List T}, Reps K H vs ts → Reps K H ws us → Reps K H (vs ++ ws) (ts ++ us)
 | vs, [], _, _, h, g => by unfold Reps at h; subst h; exact g
 | vs, t :: ts, _, _, h, g => by
   unfold Reps at h
   obtain ⟨v, r, rfl, h1, h2⟩ := h
   exact .cons h1 (Reps.append h2 g)
theorem Reps.take : ∀ {vs : List V} {ts : List T} (n : Nat), Reps K H vs ts → Reps K H (vs.take n) (ts.take n)
 | _, _, 0, _ => .nil
 | vs, [], n + 1, h => by unfold Reps at h; subst h; exact .nil
 | vs, t :: ts, n + 1, h => by
   unfold Reps at h
   obtain ⟨v, r, rfl, h1, h2⟩ := h
   exact .cons h1 (Reps.take n h2)
theorem Reps.drop : ∀ {vs : List V} {ts : List T} (n : Nat), Reps K H vs ts → Reps K H (vs.drop n) (ts.drop n)
 | _, _, 0, h => h
 | vs, [], n + 1, h => by unfold Reps at h; subst h; exact .nil
 | vs, t :: ts, n + 1, h => by
   unfold Reps at h
   obtain ⟨v, r, rfl, h1, h2⟩ := h
   exact Reps.drop n h2
theorem Reps.set {v : V} {t : T} (g : Rep K H v t) : ∀ {vs : List V} {ts : List T} (n : Nat), Reps K H vs ts → Reps K H (vs.set n v) (ts.set n t)
 | vs, [], n, h => by unfold Reps at h; subst h; exact .nil
 | vs, u :: ts, 0, h => by
   unfold Reps at h
   obtain ⟨v, r, rfl, h1, h2⟩ := h
   exact .cons g h2
 | vs, u :: ts, n + 1, h => by
   unfold Reps at h
   obtain ⟨v, r, rfl, h1, h2⟩ := h
   exact .cons h1 (Reps.set g n h2)
theorem Reps.dropLast : ∀ {vs : List V} {ts : List T}, Reps K H vs ts → Reps K H vs.dropLast ts.dropLast
 | vs, [], h => by unfold Reps at h; subst h; exact .nil
 | vs, [u], h => by
   unfold Reps at h
   obtain ⟨v, r, rfl, h1, h2⟩ := h
   unfold Reps at h2; subst h2; exact .nil
 | vs, u :: t :: ts, h => by
   unfold Reps at h
   obtain ⟨v, r, rfl, h1, h2⟩ := h
   have h2' := h2
   unfold Reps at h2'
   obtain ⟨v', r', rfl, _, _⟩ := h2'
   exact .cons h1 (Reps.dropLast h2)
theorem Reps.ints : ∀ {vs : List V} {ns : List Int}, Reps K H vs (ns.map T.int) → vs = ns.map V.int
 | vs, [], h => by unfold Reps at h; exact h
 | vs, n :: ns, h => by
   have h' : Reps K H vs (T.int n :: ns.map T.int) := h
   unfold Reps at h'
   obtain ⟨v, r, rfl, h1, h2⟩ := h'
   unfold Rep at h1
   subst h1
   rw [List.map_cons, Reps.ints h2]
theorem Reps.of_ints : ∀ (ns : List Int), Reps K H (ns.map V.int) (ns.map T.int)
 | [] => .nil
 | n :: ns => .cons (by unfold Rep; rfl) (Reps.of_ints ns)
end
inductive MO where
 /-- a list that may be written -/
 | lst (ts : List T)
 /-- a dict that may be written: keys whole numbers or texts -/
 | dk (kvs : List (Key × T))
 /-- the same, keys tuples of such -/
 | dt (kvs : List (List Key × T))
noncomputable abbrev MH := Addr → Option MO
noncomputable def updM (M : MH) (a : Addr) (o : MO) : MH := fun b => if b = a then some o else M b
theorem updM_same {M : MH} {a : Addr} {o : MO} : updM M a o a = some o := if_pos rfl
theorem updM_ne {M : MH} {a b : Addr} {o : MO} (h : b ≠ a) : updM M a o b = M b := if_neg h
noncomputable def Sub (M M' : MH) : Prop := ∀ a o, M a = some o → M' a = some o
theorem Sub.refl {M : MH} : Sub M M := fun _ _ h => h
theorem Sub.trans {M M1 M2 : MH} (a : Sub M M1) (b : Sub M1 M2) : Sub M M2 := fun _ _ h => b _ _ (a _ _ h)
theorem Sub.new {M : MH} {p : Addr} {o : MO} (h : M p = none) : Sub M (updM M p o) := fun b u q => by
 rw [updM_ne]
 · exact q
 · rintro rfl
   rw [h] at q; cases q
noncomputable def KRep {κ : Type} (K : PySem.W.Frag) (H : Hp) : List (κ × V) → List (κ × T) → Prop
 | [], [] => True
 | p :: r, q :: u => p.1 = q.1 ∧ Rep K H p.2 q.2 ∧ KRep K H r u
 | _, _ => False
theorem KRep.kp {κ : Type} {K : PySem.W.Frag} {H H' : Hp} (k : Kp K H H') : ∀ {xs : List (κ × V)} {kvs : List (κ × T)}, KRep K H xs kvs → KRep K H' xs kvs
 | [], [], _ => trivial
 | p :: r, q :: u, h => ⟨h.1, Rep.kp k _ _ h.2.1, KRep.kp k h.2.2⟩
 | [], q :: u, h => h.elim
 | p :: r, [], h => h.elim
theorem KRep.length {κ : Type} {K : PySem.W.Frag} {H : Hp} : ∀ {xs : List (κ × V)} {kvs : List (κ × T)}, KRep K H xs kvs → xs.length = kvs.length
 | [], [], _ => rfl
 | p :: r, q :: u, h => by rw [List.length_cons, List.length_cons, KRep.length h.2.2]
 | [], q :: u, h => h.elim
 | p :: r, [], h => h.elim
noncomputable def MOk (K : PySem.W.Frag) (H : Hp) (a : Addr) : MO → Prop
 | .lst ts => ∃ xs, H a = some (.lst xs) ∧ Reps K H xs ts
 | .dk kvs => ∃ xs, H a = some (.dK xs) ∧ KRep K H xs kvs
 | .dt kvs => ∃ xs, H a = some (.dT xs) ∧ KRep K H xs kvs
noncomputable def HR (K : PySem.W.Frag) (H : Hp) (M : MH) : Prop := ∀ a o, M a = some o → MOk K H a o
theorem HR.sub {K : PySem.W.Frag} {H : Hp} {M M' : MH} (h : HR K H M') (s : Sub M M') : HR K H M := fun a o e => h a o (s a o e)
noncomputable abbrev En := List (Option T)
noncomputable def RhoR (K : PySem.W.Frag) (σ : St) (H : Hp) (ρ : En) : Prop := σ.length = ρ.length ∧ ∀ (i : Nat) (t : T), ρ[i]? = some (some t) → ∃ v, σ[i]? = some (some v) ∧ Rep K H v t
theorem RhoR.kp {K : PySem.W.Frag} {σ : St} {H H' : Hp} {ρ : En} (h : RhoR K σ H ρ) (k : Kp K H H') : RhoR K σ H' ρ := ⟨h.1, fun i t e => let ⟨v, a, b⟩ := h.2 i t e; ⟨v, a, Rep.kp k _ _ b⟩⟩
theorem RhoR.set {K : PySem.W.Frag} {σ : St} {H : Hp} {ρ : En} {v : V} {t : T} (h : RhoR K σ H ρ) (i : Nat) (r : Rep K H v t) : RhoR K (σ.set i (some v)) H (ρ.set i (some t)) := by
 refine ⟨by rw [List.length_set, List.length_set, h.1], fun j u e => ?_⟩
 by_cases hj : i = j
 · subst hj
   have hi : i < ρ.length := by
     have := (List.getElem?_eq_some_iff.mp e).1
     rwa [List.length_set] at this
   rw [List.getElem?_set_self hi] at e
   cases e
   exact ⟨v, List.getElem?_set_self (show i < List.length σ by rw [h.1]; exact hi), r⟩
 · rw [List.getElem?_set_ne hj] at e
   rw [List.getElem?_set_ne hj]
   exact h.2 j u e
noncomputable abbrev VK3 := T → MH → Prop
noncomputable abbrev TE3 := En → MH → VK3 → Prop
noncomputable abbrev TT3 := En → MH → (Bool → MH → Prop) → Prop
noncomputable abbrev TA3 := En → MH → (List T → MH → Prop) → Prop
structure Ends3 where
 nx : En → MH → Prop
 rt : VK3
 bk : En → MH → Prop := fun _ _ => False
 ct : En → MH → Prop := fun _ _ => False
noncomputable abbrev TS3 := Ends3 → En → MH → Prop
noncomputable def EndE (K : PySem.W.Frag) (H : Hp) (Q : VK3) (Q2 : VK) : Prop := ∀ t v M' H', Kp K H H' → HR K H' M' → Rep K H' v t → Q t M' → Q2 v H'
theorem EndE.kp {K : PySem.W.Frag} {H H' : Hp} {Q : VK3} {Q2 : VK} (h : EndE K H Q Q2) (k : Kp K H H') : EndE K H' Q Q2 := fun t v M' H1 k1 => h t v M' H1 (k.trans k1)
noncomputable def bE (K : PySem.W.Frag) (ρ : En) (M : MH) (Q : VK3) : TE := fun σ H Q2 => RhoR K σ H ρ ∧ HR K H M ∧ EndE K H Q Q2
noncomputable def HE (X : Cx) (e : Expr) (t : TE3) : Prop := ∀ ρ M Q, t ρ M Q → PE X e (bE X.K ρ M Q)
noncomputable def EndT (K : PySem.W.Frag) (H : Hp) (Q : Bool → MH → Prop) (Q2 : Bool → Hp → Prop) : Prop := ∀ b M' H', Kp K H H' → HR K H' M' → Q b M' → Q2 b H'
noncomputable def bT (K : PySem.W.Frag) (ρ : En) (M : MH) (Q : Bool → MH → Prop) : TT := fun σ H Q2 => RhoR K σ H ρ ∧ HR K H M ∧ EndT K H Q Q2
noncomputable def HT (X : Cx) (e : Expr) (t : TT3) : Prop := ∀ ρ M Q, t ρ M Q → PT X e (bT X.K ρ M Q)
noncomputable def EndA (K : PySem.W.Frag) (H : Hp) (Q : List T → MH → Prop) (Q2 : List V → Hp → Prop) : Prop := ∀ ts vs M' H', Kp K H H' → HR K H' M' → Reps K H' vs ts → Q ts M' → Q2 vs H'
noncomputable def bA (K : PySem.W.Frag) (ρ : En) (M : MH) (Q : List T → MH → Prop) : TA := fun σ H Q2 => RhoR K σ H ρ ∧ HR K H M ∧ EndA K H Q Q2
noncomputable def HA (X : Cx) (es : List Expr) (t : TA3) : Prop := ∀ ρ M Q, t ρ M Q → PA X es (bA X.K ρ M Q)
structure EndS (K : PySem.W.Frag) (H : Hp) (D : Ends3) (D2 : Ends) : Prop where
 nx : ∀ ρ' M' σ' H', Kp K H H' → RhoR K σ' H' ρ' → HR K H' M' → D.nx ρ' M' → D2.nx σ' H'
 rt : EndE K H D.rt D2.rt
 bk : ∀ ρ' M' σ' H', Kp K H H' → RhoR K σ' H' ρ' → HR K H' M' → D.bk ρ' M' → D2.bk σ' H'
 ct : ∀ ρ' M' σ' H', Kp K H H' → RhoR K σ' H' ρ' → HR K H' M' → D.ct ρ' M' → D2.ct σ' H'
theorem EndS.kp {K : PySem.W.Frag} {H H' : Hp} {D : Ends3} {D2 : Ends} (h : EndS K H D D2) (k : Kp K H H') : EndS K H' D D2 :=
 ⟨fun a b c d k1 => h.nx a b c d (k.trans k1), h.rt.kp k, fun a b c d k1 => h.bk a b c d (k.trans k1), fun a b c d k1 => h.ct a b c d (k.trans k1)⟩
noncomputable def bS (K : PySem.W.Frag) (D : Ends3) (ρ : En) (M : MH) : TS := fun D2 σ H => RhoR K σ H ρ ∧ HR K H M ∧ EndS K H D D2
noncomputable def HS (X : Cx) (st : Stmt) (t : TS3) : Prop := ∀ D ρ M, t D ρ M → PS X st (bS X.K D ρ M)
noncomputable def HSs (X : Cx) (st : List Stmt) (t : TS3) : Prop := ∀ D ρ M, t D ρ M → PSs X st (bS X.K D ρ M)
noncomputable def dE (K : PySem.W.Frag) (ρ : En) (t : TE3) : TE := fun σ H Q2 => ∃ M Q, t ρ M Q ∧ bE K ρ M Q σ H Q2
noncomputable def dT (K : PySem.W.Frag) (ρ : En) (t : TT3) : TT := fun σ H Q2 => ∃ M Q, t ρ M Q ∧ bT K ρ M Q σ H Q2
noncomputable def dA (K : PySem.W.Frag) (ρ : En) (t : TA3) : TA := fun σ H Q2 => ∃ M Q, t ρ M Q ∧ bA K ρ M Q σ H Q2
noncomputable def dS (K : PySem.W.Frag) (t : TS3) : TS := fun D2 σ H => ∃ D ρ M, t D ρ M ∧ bS K D ρ M D2 σ H
section
variable {X : Cx} {e : Expr} {es : List Expr} {st : Stmt} {sts : List Stmt} {ρ : En}
theorem HE.d {t : TE3} (h : HE X e t) : PE X e (dE X.K ρ t) := fun pins s σ H Q I ⟨M, Q3, q, b⟩ => h ρ M Q3 q pins s σ H Q I b
theorem HT.d {t : TT3} (h : HT X e t) : PT X e (dT X.K ρ t) := fun pins s σ H Q I ⟨M, Q3, q, b⟩ => h ρ M Q3 q pins s σ H Q I b
theorem HA.d {t : TA3} (h : HA X es t) : PA X es (dA X.K ρ t) := fun pos pins s σ H Q I ⟨M, Q3, q, b⟩ => h ρ M Q3 q pos pins s σ H Q I b
theorem HS.d {t : TS3} (h : HS X st t) : PS X st (dS X.K t) := fun pins s σ H D I ⟨D3, ρ, M, q, b⟩ => h D3 ρ M q pins s σ H D I b
theorem HSs.d {t : TS3} (h : HSs X sts t) : PSs X sts (dS X.K t) := fun pins s σ H D I ⟨D3, ρ, M, q, b⟩ => h D3 ρ M q pins s σ H D I b
end
end L2
namespace L2
open PySem PySem.Spec PyProof.Rows
mutual
noncomputable def eqT : T → T → Bool
 | .non, .non => true
 | .bl a, .bl b => a == b
 | .bl a, .int b => (if a then 1 else 0) == b
 | .int a, .bl b => a == (if b then 1 else 0)
 | .int a, .int b => a == b
 | .str a, .str b => a == b
 | .tup a, .tup b => eqTs a b
 | _, _ => false
noncomputable def eqTs : List T → List T → Bool
 | [], [] => true
 | x :: xs, y :: ys => eqT x y && eqTs xs ys
 | _, _ => false
end
mutual
noncomputable def pureT : T → Bool
 | .adr _ => false
 | .rd _ => false
 | .dic _ _ => false
 | .tup ts => pureTs ts
 | _ => true
noncomputable def pureTs : List T → Bool
 | [] => true
 | t :: ts => pureT t && pureTs ts
end
mutual
noncomputable def depT : T → Nat
 | .tup ts => depTs ts + 1
 | _ => 0
noncomputable def depTs : List T → Nat
 | [] => 0
 | t :: ts => max (depT t) (depTs ts)
end
theorem pureTs_get : ∀ {ts : List T} {j : Nat} {t : T}, pureTs ts = true → ts[j]? = some t → pureT t = true
 | [], _, _, _, e => by simp at e
 | x :: ts, 0, t, h, e => by simp at e; subst e; unfold pureTs at h; exact (Bool.and_eq_true _ _ ▸ h).1
 | x :: ts, j + 1, t, h, e => by
   unfold pureTs at h
   exact pureTs_get (j := j) (Bool.and_eq_true _ _ ▸ h).2 (by simpa using e)
theorem depTs_get : ∀ {ts : List T} {j : Nat} {t : T}, ts[j]? = some t → depT t ≤ depTs ts
 | [], _, _, e => by simp at e
 | x :: ts, 0, t, e => by simp at e; subst e; unfold depTs; exact Nat.le_max_left _ _
 | x :: ts, j + 1, t, e => by
   have := depTs_get (ts := ts) (j := j) (t := t) (by simpa using e)
   unfold depTs; exact Nat.le_trans this (Nat.le_max_right _ _)
noncomputable def eqJ (xs ys : List T) (j : Nat) : Bool := match xs[j]?, ys[j]? with
 | some x, some y => eqT x y
 | _, _ => true
theorem eqTs_range : ∀ (xs ys : List T), (((List.range (min xs.length ys.length)).all (eqJ xs ys)) && (xs.length == ys.length)) = eqTs xs ys
 | [], [] => by unfold eqTs; rfl
 | [], y :: ys => by unfold eqTs; simp
 | x :: xs, [] => by unfold eqTs; simp
 | x :: xs, y :: ys => by
   unfold eqTs
   rw [← eqTs_range xs ys]
   rw [List.length_cons, List.length_cons, Nat.succ_min_succ, List.range_succ_eq_map, List.all_cons, List.all_map]
   have e1 : eqJ (x :: xs) (y :: ys) 0 = eqT x y := rfl
   have e2 : (eqJ (x :: xs) (y :: ys)) ∘ Nat.succ = eqJ xs ys := by
     funext j; simp [eqJ]
   rw [e1, e2, Bool.and_assoc]
   congr 2
   simp
theorem eqTs_len : ∀ {xs ys : List T}, eqTs xs ys = true → xs.length = ys.length
 | [], [], _ => rfl
 | [], y :: ys, h => by unfold eqTs at h; cases h
 | x :: xs, [], h => by unfold eqTs at h; cases h
 | x :: xs, y :: ys, h => by
   unfold eqTs at h
   rw [Bool.and_eq_true] at h
   rw [List.length_cons, List.length_cons, eqTs_len h.2]
mutual
theorem eqT_refl : ∀ (x : T), pureT x = true → eqT x x = true
 | .non, _ => rfl
 | .bl b, _ => by simp [eqT]
 | .int i, _ => by simp [eqT]
 | .str x, _ => by simp [eqT]
 | .adr a, h => by unfold pureT at h; cases h
 | .rd a, h => by unfold pureT at h; cases h
 | .dic ks a, h => by unfold pureT at h; cases h
 | .tup ts, h => by unfold pureT at h; unfold eqT; exact eqTs_refl ts h
theorem eqTs_refl : ∀ (xs : List T), pureTs xs = true → eqTs xs xs = true
 | [], _ => by unfold eqTs; rfl
 | x :: xs, h => by
   unfold pureTs at h
   rw [Bool.and_eq_true] at h
   unfold eqTs
   rw [eqT_refl x h.1, eqTs_refl xs h.2]
   rfl
end
section
variable {X : Cx} {pins : List (Addr × Obj)} {σ : St} {H : Hp} {s : Shared}
theorem rep_det (I : Inv X pins σ H s) : ∀ (x y : T) (v : V), pureT x = true → pureT y = true → Rep X.K H v x → Rep X.K H v y → eqT x y = true := by
 have key : ∀ n (x y : T) (v : V), depT x ≤ n → pureT x = true → pureT y = true → Rep X.K H v x → Rep X.K H v y → eqT x y = true := by
   intro n
   induction n with
   | zero =>
     intro x y v hd px py rx ry
     cases x with
     | tup ts => unfold depT at hd; lia
     | adr a => unfold pureT at px; cases px
     | rd a => unfold pureT at px; cases px
     | dic ks a => unfold pureT at px; cases px
     | _ => unfold Rep at rx; subst rx; cases y <;> unfold Rep at ry <;> first | (obtain ⟨_, _, e, _⟩ := ry; cases e; done) | (unfold pureT at py; cases py; done) | (cases ry <;> simp [eqT])
   | succ n ih =>
     intro x y v hd px py rx ry
     cases x with
     | adr a => unfold pureT at px; cases px
     | rd a => unfold pureT at px; cases px
     | dic ks a => unfold pureT at px; cases px
     | tup ts =>
       unfold Rep at rx
       obtain ⟨a, xs, rfl, h1, h2⟩ := rx
       cases y with
       | adr a => unfold pureT at py; cases py
       | rd a => unfold pureT at py; cases py
       | dic ks a => unfold pureT at py; cases py
       | tup us =>
         unfold Rep at ry
         obtain ⟨a', ys, e, g1, g2⟩ := ry
         cases e
         obtain rfl := I.tuple_inj h1 g1
         unfold pureT at px py
         unfold depT at hd
         unfold eqT
         have hl := h2.length
         have hl2 := g2.length
         rw [← eqTs_range]
         rw [← hl, ← hl2]
         simp only [Nat.min_self, beq_self_eq_true, Bool.and_true, List.all_eq_true, List.mem_range]
         intro j hj
         have e1 : ts[j]? = some ts[j] := List.getElem?_eq_getElem (by lia)
         have e2 : us[j]? = some us[j] := List.getElem?_eq_getElem (by lia)
         obtain ⟨v1, q1, r1⟩ := h2.get e1
         obtain ⟨v2, q2, r2⟩ := g2.get e2
         rw [q1] at q2; cases q2
         unfold eqJ
         rw [e1, e2]
         have := depTs_get e1
         exact ih _ _ _ (by lia) (pureTs_get px e1) (pureTs_get py e2) r1 r2
       | _ => unfold Rep at ry; cases ry
     | _ => unfold Rep at rx; subst rx; cases y <;> unfold Rep at ry <;> first | (obtain ⟨_, _, e, _⟩ := ry; cases e; done) | (unfold pureT at py; cases py; done) | (cases ry <;> simp [eqT])
 exact fun x y v => key (depT x) x y v (Nat.le_refl _)
open SeqAt in
theorem eqAt_scal {A : Around} (x y : T) (v u : V) (a b : Value) (px : pureT x = true) (py : pureT y = true) (rx : Rep X.K H v x) (ry : Rep X.K H u y) (ra : RelV v a) (rb : RelV u b) (nx : ∀ ts, x ≠ .tup ts) (ny : ∀ ts, y ≠ .tup ts) :
   SeqAt.EqAt A s a b (eqT x y) ∧ SeqAt.RcAt A s a b (eqT x y) ∧ SeqAt.RcNeAt A s a b (!(eqT x y)) := by
 cases x with
 | tup ts => exact absurd rfl (nx ts)
 | adr p => unfold pureT at px; cases px
 | rd p => unfold pureT at px; cases px
 | dic ks p => unfold pureT at px; cases px
 | non =>
   unfold Rep at rx; subst rx
   cases ra
   cases y with
   | tup ts => exact absurd rfl (ny ts)
   | adr p => unfold pureT at py; cases py
   | rd p => unfold pureT at py; cases py
   | dic ks p => unfold pureT at py; cases py
   | non =>
     unfold Rep at ry; subst ry
     cases rb
     have e : eqT .non .non = true := rfl
     rw [e]
     exact ⟨EqAt.same _, RcAt.none_none, RcNeAt.none_none⟩
   | bl c0 =>
     unfold Rep at ry; subst ry
     cases rb
     have e : eqT .non (.bl c0) = false := rfl
     rw [e]
     exact ⟨EqAt.none_bool _, RcAt.none_bool _, RcNeAt.none_bool _⟩
   | int c0 =>
     unfold Rep at ry; subst ry
     obtain ⟨t_rb, rfl⟩ := rb
     have e : eqT .non (.int c0) = false := rfl
     rw [e]
     exact ⟨EqAt.none_int _ _, RcAt.none_int _ _, RcNeAt.none_int _ _⟩
   | str c0 =>
     unfold Rep at ry; subst ry
     obtain ⟨t_rb, rfl⟩ := rb
     have e : eqT .non (.str c0) = false := rfl
     rw [e]
     exact ⟨EqAt.none_str _ _, RcAt.none_str _ _, RcNeAt.none_str _ _⟩
 | bl b0 =>
   unfold Rep at rx; subst rx
   cases ra
   cases y with
   | tup ts => exact absurd rfl (ny ts)
   | adr p => unfold pureT at py; cases py
   | rd p => unfold pureT at py; cases py
   | dic ks p => unfold pureT at py; cases py
   | non =>
     unfold Rep at ry; subst ry
     cases rb
     have e : eqT (.bl b0) .non = false := rfl
     rw [e]
     exact ⟨EqAt.bool_none _, RcAt.bool_none _, RcNeAt.bool_none _⟩
   | bl c0 =>
     unfold Rep at ry; subst ry
     cases rb
     have e : eqT (.bl b0) (.bl c0) = (b0 == c0) := rfl
     rw [e]
     exact ⟨EqAt.bool_bool _ _, RcAt.bool_bool _ _, RcNeAt.bool_bool _ _⟩
   | int c0 =>
     unfold Rep at ry; subst ry
     obtain ⟨t_rb, rfl⟩ := rb
     have e : eqT (.bl b0) (.int c0) = ((if b0 then 1 else 0) == c0) := rfl
     rw [e]
     exact ⟨EqAt.bool_int _ _ _, RcAt.bool_int _ _ _, RcNeAt.bool_int _ _ _⟩
   | str c0 =>
     unfold Rep at ry; subst ry
     obtain ⟨t_rb, rfl⟩ := rb
     have e : eqT (.bl b0) (.str c0) = false := rfl
     rw [e]
     exact ⟨EqAt.bool_str _ _ _, RcAt.bool_str _ _ _, RcNeAt.bool_str _ _ _⟩
 | int b0 =>
   unfold Rep at rx; subst rx
   obtain ⟨t_ra, rfl⟩ := ra
   cases y with
   | tup ts => exact absurd rfl (ny ts)
   | adr p => unfold pureT at py; cases py
   | rd p => unfold pureT at py; cases py
   | dic ks p => unfold pureT at py; cases py
   | non =>
     unfold Rep at ry; subst ry
     cases rb
     have e : eqT (.int b0) .non = false := rfl
     rw [e]
     exact ⟨EqAt.int_none _ _, RcAt.int_none _ _, RcNeAt.int_none _ _⟩
   | bl c0 =>
     unfold Rep at ry; subst ry
     cases rb
     have e : eqT (.int b0) (.bl c0) = (b0 == (if c0 then 1 else 0)) := rfl
     rw [e]
     exact ⟨EqAt.int_bool _ _ _, RcAt.int_bool _ _ _, RcNeAt.int_bool _ _ _⟩
   | int c0 =>
     unfold Rep at ry; subst ry
     obtain ⟨t_rb, rfl⟩ := rb
     have e : eqT (.int b0) (.int c0) = (b0 == c0) := rfl
     rw [e]
     exact ⟨EqAt.int_int _ _ _ _, RcAt.int_int _ _ _ _, RcNeAt.int_int _ _ _ _⟩
   | str c0 =>
     unfold Rep at ry; subst ry
     obtain ⟨t_rb, rfl⟩ := rb
     have e : eqT (.int b0) (.str c0) = false := rfl
     rw [e]
     exact ⟨EqAt.int_str _ _ _ _, RcAt.int_str _ _ _ _, RcNeAt.int_str _ _ _ _⟩
 | str b0 =>
   unfold Rep at rx; subst rx
   obtain ⟨t_ra, rfl⟩ := ra
   cases y with
   | tup ts => exact absurd rfl (ny ts)
   | adr p => unfold pureT at py; cases py
   | rd p => unfold pureT at py; cases py
   | dic ks p => unfold pureT at py; cases py
   | non =>
     unfold Rep at ry; subst ry
     cases rb
     have e : eqT (.str b0) .non = false := rfl
     rw [e]
     exact ⟨EqAt.str_none _ _, RcAt.str_none _ _, RcNeAt.str_none _ _⟩
   | bl c0 =>
     unfold Rep at ry; subst ry
     cases rb
     have e : eqT (.str b0) (.bl c0) = false := rfl
     rw [e]
     exact ⟨EqAt.str_bool _ _ _, RcAt.str_bool _ _ _, RcNeAt.str_bool _ _ _⟩
   | int c0 =>
     unfold Rep at ry; subst ry
     obtain ⟨t_rb, rfl⟩ := rb
     have e : eqT (.str b0) (.int c0) = false := rfl
     rw [e]
     exact ⟨EqAt.str_int _ _ _ _, RcAt.str_int _ _ _ _, RcNeAt.str_int _ _ _ _⟩
   | str c0 =>
     unfold Rep at ry; subst ry
     obtain ⟨t_rb, rfl⟩ := rb
     have e : eqT (.str b0) (.str c0) = (b0 == c0) := rfl
     rw [e]
     exact ⟨EqAt.str_str _ _ _ _, RcAt.str_str _ _ _ _, RcNeAt.str_str _ _ _ _⟩
theorem depT0 {x : T} (h : ∀ ts, x ≠ .tup ts) : depT x = 0 := by
 cases x with
 | tup ts => exact absurd rfl (h ts)
 | _ => rfl
open SeqAt in
/-- a tuple against what is none -/
theorem eqAt_tup_r {A : Around} {p : Addr} {its : Array Value} (ht : s.heap.IsTuple p its) (hu : A.units < cLine) (x : T) (us : List T) (v : V) (a : Value) (px : pureT x = true) (rx : Rep X.K H v x) (ra : RelV v a) (nx : ∀ ts, x ≠ .tup ts) :
   SeqAt.EqAt A s a (.ref p) (eqT x (.tup us)) ∧ SeqAt.RcAt A s a (.ref p) (eqT x (.tup us)) ∧ SeqAt.RcNeAt A s a (.ref p) (!(eqT x (.tup us))) := by
 cases x with
 | tup ts => exact absurd rfl (nx ts)
 | adr q => unfold pureT at px; cases px
 | rd q => unfold pureT at px; cases px
 | dic ks q => unfold pureT at px; cases px
 | non =>
   unfold Rep at rx; subst rx; cases ra
   have e : eqT .non (.tup us) = false := rfl
   rw [e]; exact ⟨.none_tuple ht hu, .none_tuple ht hu, .none_tuple ht hu⟩
 | bl b0 =>
   unfold Rep at rx; subst rx; cases ra
   have e : eqT (.bl b0) (.tup us) = false := rfl
   rw [e]; exact ⟨.bool_tuple _ ht hu, .bool_tuple _ ht hu, .bool_tuple _ ht hu⟩
 | int b0 =>
   unfold Rep at rx; subst rx; obtain ⟨t, rfl⟩ := ra
   have e : eqT (.int b0) (.tup us) = false := rfl
   rw [e]; exact ⟨.int_tuple _ _ ht hu, .int_tuple _ _ ht hu, .int_tuple _ _ ht hu⟩
 | str b0 =>
   unfold Rep at rx; subst rx; obtain ⟨t, rfl⟩ := ra
   have e : eqT (.str b0) (.tup us) = false := rfl
   rw [e]; exact ⟨.str_tuple _ _ ht hu, .str_tuple _ _ ht hu, .str_tuple _ _ ht hu⟩
open SeqAt in
theorem eqAt_tup_l {A : Around} {p : Addr} {its : Array Value} (ht : s.heap.IsTuple p its) (hu : A.units < cLine) (x : T) (us : List T) (v : V) (a : Value) (px : pureT x = true) (rx : Rep X.K H v x) (ra : RelV v a) (nx : ∀ ts, x ≠ .tup ts) :
   SeqAt.EqAt A s (.ref p) a (eqT (.tup us) x) ∧ SeqAt.RcAt A s (.ref p) a (eqT (.tup us) x) ∧ SeqAt.RcNeAt A s (.ref p) a (!(eqT (.tup us) x)) := by
 cases x with
 | tup ts => exact absurd rfl (nx ts)
 | adr q => unfold pureT at px; cases px
 | rd q => unfold pureT at px; cases px
 | dic ks q => unfold pureT at px; cases px
 | non =>
   unfold Rep at rx; subst rx; cases ra
   have e : eqT (.tup us) .non = false := rfl
   rw [e]; exact ⟨.tuple_none ht hu, .tuple_none ht hu, .tuple_none ht hu⟩
 | bl b0 =>
   unfold Rep at rx; subst rx; cases ra
   have e : eqT (.tup us) (.bl b0) = false := rfl
   rw [e]; exact ⟨.tuple_bool _ ht hu, .tuple_bool _ ht hu, .tuple_bool _ ht hu⟩
 | int b0 =>
   unfold Rep at rx; subst rx; obtain ⟨t, rfl⟩ := ra
   have e : eqT (.tup us) (.int b0) = false := rfl
   rw [e]; exact ⟨.tuple_int _ _ ht hu, .tuple_int _ _ ht hu, .tuple_int _ _ ht hu⟩
 | str b0 =>
   unfold Rep at rx; subst rx; obtain ⟨t, rfl⟩ := ra
   have e : eqT (.tup us) (.str b0) = false := rfl
   rw [e]; exact ⟨.tuple_str _ _ ht hu, .tuple_str _ _ ht hu, .tuple_str _ _ ht hu⟩
theorem tup_or (x : T) : (∃ ts, x = .tup ts) ∨ ∀ ts, x ≠ .tup ts := by
 cases x with
 | tup ts => exact .inl ⟨ts, rfl⟩
 | _ => exact .inr fun ts e => by cases e
theorem items_eq {A : Around} {n : Nat} {ts us : List T} {xs ys : List V} {its its2 : List Value} (px : pureTs ts = true) (py : pureTs us = true) (hd : depTs ts ≤ n) (h2 : Reps X.K H xs ts) (g2 : Reps X.K H ys us) (r1 : Vals xs its) (r2 : Vals ys its2)
   (ih : ∀ (x y : T) (v u : V) (a b : Value), depT x ≤ n → pureT x = true → pureT y = true → Rep X.K H v x → Rep X.K H u y → RelV v a → RelV u b → SeqAt.EqAt A s a b (eqT x y)) (j : Nat) (hj1 : j < its.toArray.size) (hj2 : j < its2.toArray.size) :
   SeqAt.EqAt A s its.toArray[j] its2.toArray[j] (eqJ ts us j) := by
 have l1 := h2.length
 have l2 := g2.length
 have m1 := r1.length
 have m2 := r2.length
 have hj1' : j < its.length := by simpa using hj1
 have hj2' : j < its2.length := by simpa using hj2
 have e1 : ts[j]? = some (ts[j]'(by lia)) := List.getElem?_eq_getElem (by lia)
 have e2 : us[j]? = some (us[j]'(by lia)) := List.getElem?_eq_getElem (by lia)
 obtain ⟨v1, a1, b1⟩ := h2.get e1
 obtain ⟨v2, a2, b2⟩ := g2.get e2
 obtain ⟨w1, c1, d1⟩ := r1.get a1
 obtain ⟨w2, c2, d2⟩ := r2.get a2
 have f1 : its.toArray[j] = w1 := by
   have : its[j]? = some (its[j]'hj1') := List.getElem?_eq_getElem hj1'
   rw [c1] at this
   simpa using (Option.some.inj this).symm
 have f2 : its2.toArray[j] = w2 := by
   have : its2[j]? = some (its2[j]'hj2') := List.getElem?_eq_getElem hj2'
   rw [c2] at this
   simpa using (Option.some.inj this).symm
 have e3 : eqJ ts us j = eqT (ts[j]'(by lia)) (us[j]'(by lia)) := by unfold eqJ; rw [e1, e2]
 rw [f1, f2, e3]
 have := depTs_get e1
 exact ih _ _ v1 v2 w1 w2 (by lia) (pureTs_get px e1) (pureTs_get py e2) b1 b2 d1 d2
open SeqAt in
/-- == (by identity first), ==, != of two values, by their trees -/
theorem eqAt_T (I : Inv X pins σ H s) : ∀ n (A : Around) (x y : T) (v u : V) (a b : Value), depT x ≤ n → A.units + n + 1 < cLine → pureT x = true → pureT y = true → Rep X.K H v x → Rep X.K H u y → RelV v a → RelV u b →
   SeqAt.EqAt A s a b (eqT x y) ∧ SeqAt.RcAt A s a b (eqT x y) ∧ SeqAt.RcNeAt A s a b (!(eqT x y)) := by
 intro n
 induction n with
 | zero =>
   intro A x y v u a b hd hu px py rx ry ra rb
   rcases tup_or x with ⟨ts, rfl⟩ | nx
   · unfold depT at hd; lia
   · rcases tup_or y with ⟨us, rfl⟩ | ny
     · unfold Rep at ry
       obtain ⟨p, ys, rfl, g1, g2⟩ := ry
       obtain ⟨its, r', ht, _⟩ := I.tuple g1
       have ht' : s.heap.IsTuple p its.toArray := ht
       cases rb
       exact eqAt_tup_r ht' (by lia) x us v a px rx ra nx
     · exact eqAt_scal x y v u a b px py rx ry ra rb nx ny
 | succ n ih =>
   intro A x y v u a b hd hu px py rx ry ra rb
   have hu' : A.units < cLine := by lia
   rcases tup_or x with ⟨ts, rfl⟩ | nx
   · have rx' := rx
     unfold Rep at rx
     obtain ⟨p, xs, rfl, h1, h2⟩ := rx
     cases ra
     obtain ⟨its, r1, ht, _⟩ := I.tuple h1
     have ht' : s.heap.IsTuple p its.toArray := ht
     rcases tup_or y with ⟨us, rfl⟩ | ny
     · have ry' := ry
       unfold Rep at ry
       obtain ⟨q, ys, rfl, g1, g2⟩ := ry
       cases rb
       obtain ⟨its2, r2, ht2, _⟩ := I.tuple g1
       have ht2' : s.heap.IsTuple q its2.toArray := ht2
       have px' := px
       have py' := py
       unfold pureT at px py
       unfold depT at hd
       have he := items_eq (A := A.in1) (s := s) (n := n) px py (by lia) h2 g2 r1 r2 fun x y v u a b hx px py rx ry ra rb => (ih A.in1 x y v u a b hx (by show A.units + 1 + n + 1 < cLine; lia) px py rx ry ra rb).1
       have ee : ((List.range (min its.toArray.size its2.toArray.size)).all (eqJ ts us) && its.toArray.size == its2.toArray.size) = eqT (.tup ts) (.tup us) := by
         have l1 := h2.length
         have l2 := g2.length
         have m1 := r1.length
         have m2 := r2.length
         unfold eqT
         rw [← eqTs_range, List.size_toArray, List.size_toArray, ← m1, ← m2, l1, l2]
       have rc := RcAt.tuples (A := A) (e := eqJ ts us) ht' ht2' hu' he
       have rn := RcNeAt.tuples (A := A) (e := eqJ ts us) ht' ht2' hu' he
       rw [ee] at rc rn
       refine ⟨?_, rc, rn⟩
       by_cases hpq : p = q
       · subst hpq
         have e : eqT (.tup ts) (.tup us) = true := rep_det I (.tup ts) (.tup us) (.ref p) px' py' rx' ry'
         rw [e]; exact .same _
       · exact .of_refs hpq rc
     · exact eqAt_tup_l ht' hu' y ts u b py ry rb ny
   · exact ih A x y v u a b (by rw [depT0 nx]; exact Nat.zero_le _) (by lia) px py rx ry ra rb
end
end L2
namespace L2
open PySem PySem.Spec PyProof.Rows
noncomputable abbrev R3 := T → T → MH → VK3 → Prop
noncomputable def dR (K : PySem.W.Frag) (r : R3) : R2 := fun v u H Q2 => ∃ x y M Q, Rep K H v x ∧ Rep K H u y ∧ HR K H M ∧ r x y M Q ∧ EndE K H Q Q2
noncomputable def dU (K : PySem.W.Frag) (r : T → MH → VK3 → Prop) : V → Hp → VK → Prop := fun v H Q2 => ∃ x M Q, Rep K H v x ∧ HR K H M ∧ r x M Q ∧ EndE K H Q Q2
noncomputable def dL (K : PySem.W.Frag) (r : List T → MH → VK3 → Prop) : List V → Hp → VK → Prop := fun vs H Q2 => ∃ xs M Q, Reps K H vs xs ∧ HR K H M ∧ r xs M Q ∧ EndE K H Q Q2
theorem Kp.new {K : PySem.W.Frag} {H : Hp} {p : Addr} {o : HO} (h : H p = none) : Kp K H (upd H p o) := by
 refine ⟨fun a xs q => ?_, fun a ob u q => by rw [upd_ne (ne_of_none q h)]; exact q⟩
 rcases q with (q | ⟨ob, q⟩) | q
 · exact .inl (.inl (by rw [upd_ne (ne_of_none q h)]; exact q))
 · exact .inl (.inr ⟨ob, by rw [upd_ne (ne_of_none q h)]; exact q⟩)
 · exact .inr q
theorem Kp.lst {K : PySem.W.Frag} {H : Hp} {p : Addr} {xs ys : List V} (h : H p = some (.lst xs)) : Kp K H (upd H p (.lst ys)) := by
 have ne : ∀ {a : Addr} {o : HO}, H a = some o → o ≠ .lst xs → a ≠ p := fun {a o} q hn e => by
   subst e
   rw [h] at q; cases q; exact hn rfl
 refine ⟨fun a zs q => ?_, fun a ob u q => by rw [upd_ne (ne q (by intro z; cases z))]; exact q⟩
 rcases q with (q | ⟨ob, q⟩) | q
 · exact .inl (.inl (by rw [upd_ne (ne q (by intro z; cases z))]; exact q))
 · exact .inl (.inr ⟨ob, by rw [upd_ne (ne q (by intro z; cases z))]; exact q⟩)
 · exact .inr q
theorem Kp.dict {K : PySem.W.Frag} {H : Hp} {p : Addr} {o u : HO} (h : H p = some o) (ho : (∃ kvs, o = .dK kvs) ∨ ∃ kvs, o = .dT kvs) : Kp K H (upd H p u) := by
 have ne : ∀ {a : Addr} {u : HO}, H a = some u → ((∃ xs, u = .tup xs) ∨ ∃ b x, u = .frz b x) → a ≠ p := fun {a u} q hn e => by
   subst e
   rw [h] at q; cases q
   rcases ho with ⟨_, rfl⟩ | ⟨_, rfl⟩ <;> rcases hn with ⟨_, z⟩ | ⟨_, _, z⟩ <;> cases z
 refine ⟨fun a zs q => ?_, fun a ob u q => by rw [upd_ne (ne q (.inr ⟨_, _, rfl⟩))]; exact q⟩
 rcases q with (q | ⟨ob, q⟩) | q
 · exact .inl (.inl (by rw [upd_ne (ne q (.inl ⟨_, rfl⟩))]; exact q))
 · exact .inl (.inr ⟨ob, by rw [upd_ne (ne q (.inr ⟨_, _, rfl⟩))]; exact q⟩)
 · exact .inr q
section
variable {K : PySem.W.Frag} {H : Hp} {M : MH}
noncomputable def Wr : HO → Prop
 | .lst _ => True
 | .dK _ => True
 | .dT _ => True
 | _ => False
theorem MOk.kp {H' : Hp} {a : Addr} {o : MO} (h : MOk K H a o) (k : Kp K H H') (ha : ∀ u, Wr u → H a = some u → H' a = some u) : MOk K H' a o := by
 cases o with
 | lst ts => obtain ⟨xs, e, r⟩ := h; exact ⟨xs, ha _ trivial e, Reps.kp k _ _ r⟩
 | dk kvs => obtain ⟨xs, e, r⟩ := h; exact ⟨xs, ha _ trivial e, r.kp k⟩
 | dt kvs => obtain ⟨xs, e, r⟩ := h; exact ⟨xs, ha _ trivial e, r.kp k⟩
theorem MOk.some {a : Addr} {o : MO} (h : MOk K H a o) : ∃ u, H a = Option.some u ∧ Wr u := by
 cases o with
 | lst ts => obtain ⟨xs, e, r⟩ := h; exact ⟨_, e, trivial⟩
 | dk kvs => obtain ⟨xs, e, r⟩ := h; exact ⟨_, e, trivial⟩
 | dt kvs => obtain ⟨xs, e, r⟩ := h; exact ⟨_, e, trivial⟩
theorem HR.free {p : Addr} (h : HR K H M) (hp : H p = none) : M p = none := by
 cases q : M p with
 | none => rfl
 | some o =>
   obtain ⟨u, e, _⟩ := (h p o q).some
   rw [hp] at e; cases e
theorem HR.keep {p : Addr} {o : HO} (h : HR K H M) (hp : H p = none) : HR K (upd H p o) M := fun a u e =>
 (h a u e).kp (Kp.new hp) fun u _ q => by rw [upd_ne (ne_of_none q hp)]; exact q
theorem HR.newL {p : Addr} {xs : List V} {ts : List T} (h : HR K H M) (hp : H p = none) (r : Reps K H xs ts) : HR K (upd H p (.lst xs)) (updM M p (.lst ts)) := fun a u e => by
 by_cases ha : a = p
 · subst ha
   rw [updM_same] at e; cases e
   exact ⟨xs, upd_same, Reps.kp (Kp.new hp) _ _ r⟩
 · rw [updM_ne ha] at e
   exact (h.keep hp) a u e
theorem HR.setL {p : Addr} {xs ys : List V} {us : List T} (h : HR K H M) (hp : H p = some (.lst xs)) (r : Reps K H ys us) : HR K (upd H p (.lst ys)) (updM M p (.lst us)) := fun a u e => by
 by_cases ha : a = p
 · subst ha
   rw [updM_same] at e; cases e
   exact ⟨ys, upd_same, Reps.kp (Kp.lst hp) _ _ r⟩
 · rw [updM_ne ha] at e
   exact (h a u e).kp (Kp.lst hp) fun u _ q => by rw [upd_ne ha]; exact q
theorem HR.newK {p : Addr} {xs : List (Key × V)} {kvs : List (Key × T)} (h : HR K H M) (hp : H p = none) (r : KRep K H xs kvs) : HR K (upd H p (.dK xs)) (updM M p (.dk kvs)) := fun a u e => by
 by_cases ha : a = p
 · subst ha
   rw [updM_same] at e; cases e
   exact ⟨xs, upd_same, r.kp (Kp.new hp)⟩
 · rw [updM_ne ha] at e
   exact (h.keep hp) a u e
theorem HR.setK {p : Addr} {o : HO} {xs : List (Key × V)} {kvs : List (Key × T)} (h : HR K H M) (hp : H p = some o) (ho : (∃ kvs, o = .dK kvs) ∨ ∃ kvs, o = .dT kvs) (r : KRep K H xs kvs) : HR K (upd H p (.dK xs)) (updM M p (.dk kvs)) := fun a u e => by
 by_cases ha : a = p
 · subst ha
   rw [updM_same] at e; cases e
   exact ⟨xs, upd_same, r.kp (Kp.dict hp ho)⟩
 · rw [updM_ne ha] at e
   exact (h a u e).kp (Kp.dict hp ho) fun u _ q => by rw [upd_ne ha]; exact q
end
noncomputable def OpR3 (X : Cx) (f : Value → Value → Sem Value) (r : R3) : Prop := OpR X f (dR X.K r)
noncomputable def UnR3 (X : Cx) (f : Value → Sem Value) (r : T → MH → VK3 → Prop) : Prop := UnR X f (dU X.K r)
noncomputable def CallR3 (X : Cx) (f : Value) (r : List T → MH → VK3 → Prop) : Prop := CallR X f (dL X.K r)
noncomputable def IxR3 (X : Cx) (r : R3) : Prop := IxR X (dR X.K r)
noncomputable def tOp3 (r : R3) (ta tb : TE3) : TE3 := fun ρ M Q => ta ρ M fun x M1 => tb ρ M1 fun y M2 => r x y M2 Q
noncomputable def tUn3 (r : T → MH → VK3 → Prop) (ta : TE3) : TE3 := fun ρ M Q => ta ρ M fun x M1 => r x M1 Q
noncomputable def tVar3 (i : Nat) : TE3 := fun ρ M Q => match ρ[i]? with
 | some (some t) => Q t M
 | _ => False
noncomputable def tK (t : T) : TE3 := fun _ M Q => Q t M
section
variable {X : Cx} {a b c e : Expr} {es : List Expr} {ta tb tc te : TE3} {pos : Pos}
theorem dOp {ρ : En} {M : MH} {Q : VK3} {r : R3} (h : tOp3 r ta tb ρ M Q) {σ : St} {H : Hp} {Q2 : VK} (b : bE X.K ρ M Q σ H Q2) : tOp (dR X.K r) (dE X.K ρ ta) (dE X.K ρ tb) σ H Q2 := by
 obtain ⟨hr, hh, en⟩ := b
 refine ⟨M, _, h, hr, hh, fun t v M1 H1 k1 h1 r1 q1 => ⟨M1, _, q1, hr.kp k1, h1, fun t2 v2 M2 H2 k2 h2 r2 q2 => ⟨t, t2, M2, Q, Rep.kp k2 _ _ r1, r2, h2, q2, en.kp (k1.trans k2)⟩⟩⟩
theorem h_bin {op : Operator} {r : R3} (ho : OpR3 X (binaryOp op) r) (ha : HE X a ta) (hb : HE X b tb) : HE X (.BinOp a op b pos) (tOp3 r ta tb) := fun ρ M Q h =>
 (pe_op ho (ha.d (ρ := ρ)) (hb.d (ρ := ρ))).imp fun σ H Q2 b => dOp h b
theorem h_un {op : UnaryOp} {r : T → MH → VK3 → Prop} (ho : UnR3 X (unaryOp op) r) (ha : HE X a ta) : HE X (.UnaryOp op a pos) (tUn3 r ta) := fun ρ M Q h =>
 (pe_un ho (ha.d (ρ := ρ))).imp fun σ H Q2 ⟨hr, hh, en⟩ => ⟨M, _, h, hr, hh, fun t v M1 H1 k1 h1 r1 q1 => ⟨t, M1, Q, r1, h1, q1, en.kp k1⟩⟩
theorem h_var {i : Nat} {x : Str} (hN : X.N[i]? = some x) (hv : Vis X.env.scope x) (hd : (x == ("__debug__" : Str)) = false := by decide) (hcd : (x == ("__classdict__" : Str)) = false := by decide) : HE X (.Name x pos) (tVar3 i) := fun ρ M Q h =>
 (pe_var hN hv hd hcd).imp fun σ H Q2 ⟨hr, hh, en⟩ => by
   unfold tVar3 at h
   split at h
   · rename_i t e
     obtain ⟨v, e1, r⟩ := hr.2 i t e
     exact ⟨v, e1, en t v M H Kp.refl hh r h⟩
   · exact h.elim
theorem hv (i : Nat) {x : Str} {pos : Pos} (hN : X.N[i]? = some x := by rfl) (hv : Vis X.env.scope x := by first | exact Or.inl rfl | exact Or.inr (Or.inl rfl) | exact Or.inr (Or.inr rfl)) (hd : (x == ("__debug__" : Str)) = false := by decide)
   (hcd : (x == ("__classdict__" : Str)) = false := by decide) : HE X (.Name x pos) (tVar3 i) := h_var hN hv hd hcd
theorem rep_int {K : PySem.W.Frag} {H : Hp} {i : Int} : Rep K H (.int i) (.int i) := by unfold Rep; rfl
theorem rep_bl {K : PySem.W.Frag} {H : Hp} {i : Bool} : Rep K H (.bl i) (.bl i) := by unfold Rep; rfl
theorem rep_str {K : PySem.W.Frag} {H : Hp} {i : Str} : Rep K H (.str i) (.str i) := by unfold Rep; rfl
theorem rep_non {K : PySem.W.Frag} {H : Hp} : Rep K H .non .non := by unfold Rep; rfl
theorem rep_adr {K : PySem.W.Frag} {H : Hp} {a : Addr} : Rep K H (.ref a) (.adr a) := by unfold Rep; rfl
theorem rep_tup {K : PySem.W.Frag} {H : Hp} {a : Addr} {xs : List V} {ts : List T} (h : SqT K H a xs) (r : Reps K H xs ts) : Rep K H (.ref a) (.tup ts) := by unfold Rep; exact ⟨a, xs, rfl, h, r⟩
theorem h_const {v : V} {t : T} (h : PE X e (tC v)) (r : ∀ K H, Rep K H v t) : HE X e (tK t) := fun ρ M Q q => h.imp fun σ H Q2 ⟨hr, hh, en⟩ => en t v M H Kp.refl hh (r _ _) q
theorem h_int {i j pos} : HE X (.Constant (.int i) j pos) (tK (.int i)) := h_const pe_int fun _ _ => rep_int
theorem h_bl {b j pos} : HE X (.Constant (.bool b) j pos) (tK (.bl b)) := h_const pe_bl fun _ _ => rep_bl
theorem h_non {j pos} : HE X (.Constant .none j pos) (tK .non) := h_const pe_non fun _ _ => rep_non
theorem h_globI {x : Str} {i : Int} {tk : Tok} {pos : Pos} (hm : X.mg x = some (.int i tk)) (hg : Gl X x := by rfl) (hd : (x == ("__debug__" : Str)) = false := by decide) : HE X (.Name x pos) (tK (.int i)) := h_const (v := .int i) (pe_glob hg hm ⟨tk, rfl⟩ hd) fun _ _ => rep_int
theorem inv_int {K : PySem.W.Frag} {H : Hp} {v : V} {i : Int} (r : Rep K H v (.int i)) : v = .int i := by unfold Rep at r; exact r
theorem inv_str {K : PySem.W.Frag} {H : Hp} {v : V} {i : Str} (r : Rep K H v (.str i)) : v = .str i := by unfold Rep at r; exact r
theorem inv_bl {K : PySem.W.Frag} {H : Hp} {v : V} {i : Bool} (r : Rep K H v (.bl i)) : v = .bl i := by unfold Rep at r; exact r
theorem inv_non {K : PySem.W.Frag} {H : Hp} {v : V} (r : Rep K H v .non) : v = .non := by unfold Rep at r; exact r
theorem inv_adr {K : PySem.W.Frag} {H : Hp} {v : V} {a : Addr} (r : Rep K H v (.adr a)) : v = .ref a := by unfold Rep at r; exact r
theorem inv_tup {K : PySem.W.Frag} {H : Hp} {v : V} {ts : List T} (r : Rep K H v (.tup ts)) : ∃ a xs, v = .ref a ∧ SqT K H a xs ∧ Reps K H xs ts := by unfold Rep at r; exact r
noncomputable def rInt (C : Int → Int → Prop) (g : Int → Int → Int) : R3 := fun x y M Q => match x, y with
 | .int i, .int j => C i j ∧ Q (.int (g i j)) M
 | _, _ => False
theorem op3_int {f : Value → Value → Sem Value} {C : Int → Int → Prop} {g : Int → Int → Int} (h : OpR X f (rI C fun i j => .int (g i j))) : OpR3 X f (rInt C g) := by
 intro pins s σ H x y v u Q2 I rx ry q
 obtain ⟨a, b, M, Q, r1, r2, hh, q, en⟩ := q
 unfold rInt at q
 split at q
 · obtain rfl := inv_int r1
   obtain rfl := inv_int r2
   exact h pins s σ H _ _ v u Q2 I rx ry ⟨_, _, rfl, rfl, q.1, en _ _ M H Kp.refl hh rep_int q.2⟩
 · exact q.elim
noncomputable def rSub3 : R3 := fun x y M Q => match x, y with
 | .int i, .int j => Q (.int (i - j)) M
 | _, _ => False
theorem op3_sub : OpR3 X (binaryOp .Sub) rSub3 := by
 intro pins s σ H x y v u Q2 I rx ry q
 obtain ⟨a, b, M, Q, r1, r2, hh, q, en⟩ := q
 unfold rSub3 at q
 split at q
 · obtain rfl := inv_int r1
   obtain rfl := inv_int r2
   exact op_sub pins s σ H _ _ v u Q2 I rx ry ⟨_, _, rfl, rfl, en _ _ M H Kp.refl hh rep_int q⟩
 · exact q.elim
noncomputable def CDivB (i j : Int) : Prop := 0 < j ∧ j.natAbs.log2 < 9000
theorem op_fdivB : OpR X (binaryOp .FloorDiv) (rI CDivB fun i j => .int (i / j)) := opI fun i j _ _ _ _ _ hc q => by
 have e : i.fdiv j = i / j := Int.fdiv_eq_ediv_of_nonneg i (Int.le_of_lt hc.1)
 exact floordiv_int (Int.ne_of_gt hc.1) (by rw [e]; exact q) (.inl (PyProof.noPylong_of_log2 hc.2))
noncomputable def rDiv3 : R3 := rInt CDivB fun i j => i / j
noncomputable def rMod3 : R3 := rInt (fun _ j => 0 < j) fun i j => i % j
noncomputable def rPow3 : R3 := rInt CPow fun i j => i ^ j.toNat
theorem op3_div : OpR3 X (binaryOp .FloorDiv) rDiv3 := op3_int op_fdivB
theorem op3_mod : OpR3 X (binaryOp .Mod) rMod3 := op3_int op_mod
theorem op3_pow : OpR3 X (binaryOp .Pow) rPow3 := op3_int op_pow
noncomputable def rNeg3 : T → MH → VK3 → Prop := fun x M Q => match x with
 | .int i => Q (.int (-i)) M
 | _ => False
theorem un3_neg : UnR3 X (unaryOp .USub) rNeg3 := by
 intro pins s σ H x v Q2 I rx q
 obtain ⟨a, M, Q, r1, hh, q, en⟩ := q
 unfold rNeg3 at q
 split at q
 · obtain rfl := inv_int r1
   exact un_neg pins s σ H _ v Q2 I rx ⟨_, rfl, en _ _ M H Kp.refl hh rep_int q⟩
 · exact q.elim
theorem op_catT0 : OpR X (binaryOp .Add) (fun x y H Q => ∃ a b ys, x = .ref a ∧ y = .ref b ∧ SqT X.K H a [] ∧ SqT X.K H b ys ∧ Q (.ref b) H) := by
 intro pins s σ H x y v u Q I rx ry h
 obtain ⟨a, b, ys, rfl, rfl, hx, hy, q⟩ := h
 cases rx
 cases ry
 obtain ⟨its, r, ht, hz⟩ := I.tuple hx
 obtain ⟨its2, r2, ht2, hz2⟩ := I.tuple hy
 have e : its = [] := r.nil_iff.mpr rfl
 subst e
 obtain ⟨⟨cls, dd, data, sl⟩, ho, hc, n, hd⟩ := id ht
 obtain ⟨⟨cls2, dd2, data2, sl2⟩, ho2, hc2, n2, hd2⟩ := id ht2
 simp only at hc hd hc2 hd2
 subst hc hd hc2 hd2
 exact concat_meets ⟨_, ho, rfl⟩ ⟨_, ho2, rfl⟩ noFill_tuple_add seq_tuple_add PySem.F.slot_tuple_add PySem.F.entry_tuple_add (PySem.F.args_tuple_add_2 _ _)
     (tuple_addW0 a b _ its2.toArray n n2 dd dd2 sl sl2 (by simp)) ⟨ho, ho2, ⟨.ref b, H, I, rfl, q⟩⟩
noncomputable def rAdd3 : R3 := fun x y M Q => match x, y with
 | .int i, .int j => Q (.int (i + j)) M
 | .str a, .str b => a.length + b.length ≤ sizeLine ∧ Q (.str (a ++ b)) M
 | .tup a, .tup b => a.length + b.length ≤ sizeLine ∧ Q (.tup (a ++ b)) M
 | .adr p, .adr q => match M p, M q with
   | some (.lst a), some (.lst b) => a.length + b.length ≤ sizeLine ∧ ∀ r, M r = none → Q (.adr r) (updM M r (.lst (a ++ b)))
   | _, _ => False
 | _, _ => False
theorem op3_add : OpR3 X (binaryOp .Add) rAdd3 := by
 intro pins s σ H x y v u Q2 I rx ry q
 obtain ⟨a, b, M, Q, r1, r2, hh, q, en⟩ := q
 unfold rAdd3 at q
 split at q
 · obtain rfl := inv_int r1
   obtain rfl := inv_int r2
   exact op_add pins s σ H _ _ v u Q2 I rx ry ⟨_, _, rfl, rfl, en _ _ M H Kp.refl hh rep_int q⟩
 · obtain rfl := inv_str r1
   obtain rfl := inv_str r2
   exact op_add_str pins s σ H _ _ v u Q2 I rx ry ⟨_, _, rfl, rfl, q.1, en _ _ M H Kp.refl hh rep_str q.2⟩
 · rename_i ts us
   obtain ⟨p, xs, rfl, h1, h2⟩ := inv_tup r1
   obtain ⟨p', ys, rfl, g1, g2⟩ := inv_tup r2
   have l1 := h2.length
   have l2 := g2.length
   by_cases hx : xs = []
   · subst hx
     have ht : ts = [] := List.eq_nil_of_length_eq_zero (by rw [← l1]; rfl)
     subst ht
     exact op_catT0 pins s σ H _ _ v u Q2 I rx ry ⟨_, _, ys, rfl, rfl, h1, g1, en _ _ M H Kp.refl hh (rep_tup g1 g2) q.2⟩
   · refine op_catT pins s σ H _ _ v u Q2 I rx ry ⟨_, _, xs, ys, rfl, rfl, h1, g1, hx, by rw [l1, l2]; exact q.1, fun hy => ?_, fun hy r hr => ?_⟩
     · subst hy
       have ht : us = [] := List.eq_nil_of_length_eq_zero (by rw [← l2]; rfl)
       subst ht
       have q2 := q.2
       rw [List.append_nil] at q2
       exact en _ _ M H Kp.refl hh (rep_tup h1 h2) q2
     · refine en _ _ M _ (Kp.new hr) (hh.keep hr) (rep_tup (SqT.of upd_same) ?_) q.2
       exact Reps.kp (Kp.new hr) _ _ (h2.append g2)
 · rename_i p p'
   obtain rfl := inv_adr r1
   obtain rfl := inv_adr r2
   split at q
   · rename_i ts us e1 e2
     obtain ⟨xs, h1, h2⟩ := hh _ _ e1
     obtain ⟨ys, g1, g2⟩ := hh _ _ e2
     refine op_cat pins s σ H _ _ v u Q2 I rx ry ⟨_, _, xs, ys, rfl, rfl, h1, g1, by rw [h2.length, g2.length]; exact q.1, fun r hr => ?_⟩
     exact en _ _ _ _ (Kp.new hr) (hh.newL hr (h2.append g2)) rep_adr (q.2 r (hh.free hr))
   · exact q.elim
 · exact q.elim
end
end L2
namespace L2
open PySem PySem.Spec PyProof.Rows
theorem noFill_tuple_mul : fillsNumberSlot (.type "tuple") "mul" = pure false :=
 PySem.fillsNumberSlot_seq (id := "tuple.__mul__") (r := some (.builtin "tuple.__rmul__")) F.slot_tuple_mul.lookup (by decide +kernel) F.slot_tuple_rmul.lookup (by decide +kernel)
theorem repeat_tuple : seqRepeat? (.type "tuple") = pure (some (.builtin "tuple.__mul__")) := by
 unfold seqRepeat?
 rw [PySem.seqSlot_of (T := "tuple") (name := "__mul__") (id := "tuple.__mul__") F.slot_tuple_mul.lookup (by decide +kernel), PySem.seqSlot_of (T := "tuple") (name := "__rmul__") (id := "tuple.__rmul__") F.slot_tuple_rmul.lookup (by decide +kernel)]
 rfl
section
variable (l : Addr) (items : Array Value) (n : Nat) (x : Int) (u : Tok) (dd : Option Addr) (sl : Array (Option Value))
theorem int_rmul_tuple : Meets (Builtin.«int.__rmul__» ⟨[.int x u, .ref l], []⟩) (fun _ R s => s.heap.get? l = some { cls := .type "tuple", dict := dd, data := .seq items n, slots := sl } ∧ R (.ok (.ret Value.notImplemented)) s) :=
 .of_wp fun prog w A R s h => by obtain ⟨hp, g, d, tk, os⟩ := s; obtain ⟨hl, h⟩ := h; wp_walk; exact ⟨_, rfl, h⟩
theorem tuple_mul_0 (h0 : -(2 ^ 63) ≤ x) (h1 : x < 2 ^ 63) (hc : (items.isEmpty || x == 1) = true) :
   Meets (Builtin.«tuple.__mul__» ⟨[.ref l, .int x u], []⟩) (fun _ R s => s.heap.get? l = some { cls := .type "tuple", dict := dd, data := .seq items n, slots := sl } ∧ R (.ok (.ret (Value.ref l))) s) :=
 .of_wp fun prog w A R s h => by
   obtain ⟨hp, g, d, tk, os⟩ := s; obtain ⟨hl, h⟩ := h
   have hb : ¬ (decide (x < -2 ^ 63) || decide (x ≥ 2 ^ 63)) = true := by simp; lia
   wp_walk
   rw [if_neg hb]
   wp_walk
   first | exact ⟨_, rfl, h⟩ | (rw [if_pos hc]; wp_walk; exact ⟨_, rfl, h⟩)
theorem tuple_mul_1 (h0 : -(2 ^ 63) ≤ x) (h1 : x < 2 ^ 63) (hc : ¬ (items.isEmpty || x == 1) = true) (hn : (decide (x ≤ 0) || items.isEmpty) = true) :
   Meets (Builtin.«tuple.__mul__» ⟨[.ref l, .int x u], []⟩) (fun _ R s => s.heap.get? l = some { cls := .type "tuple", dict := dd, data := .seq items n, slots := sl } ∧ R (.ok (.ret (Value.ref s.heap.objs.size))) { s with heap := s.heap.push { cls := .type "tuple", data := .seq #[] }, toks := s.toks }) :=
 .of_wp fun prog w A R s h => by
   obtain ⟨hp, g, d, tk, os⟩ := s; obtain ⟨hl, h⟩ := h
   have hb : ¬ (decide (x < -2 ^ 63) || decide (x ≥ 2 ^ 63)) = true := by simp; lia
   wp_walk
   rw [if_neg hb]
   wp_walk
   first | exact ⟨_, rfl, h⟩ | (rw [if_neg hc, if_pos hn]; wp_walk; exact ⟨_, rfl, h⟩)
theorem tuple_mul_2 (h0 : -(2 ^ 63) ≤ x) (h1 : x < 2 ^ 63) (hc : ¬ (items.isEmpty || x == 1) = true) (hn : ¬ (decide (x ≤ 0) || items.isEmpty) = true) (hm : ¬ items.size * x > (2 ^ 63 - 1) / 8) (hz : ¬ Builtin.Tuple.tupleTooMany (items.size * x) = true) (hf : sizeOk (.seq (List.foldl (fun x1 x2 => x1 ++ x2) #[] (List.replicate x.toNat items)))) :
   Meets (Builtin.«tuple.__mul__» ⟨[.ref l, .int x u], []⟩) (fun _ R s => s.heap.get? l = some { cls := .type "tuple", dict := dd, data := .seq items n, slots := sl } ∧ R (.ok (.ret (Value.ref s.heap.objs.size))) { s with heap := s.heap.push { cls := .type "tuple", data := .seq (List.foldl (fun x1 x2 => x1 ++ x2) #[] (List.replicate x.toNat items)) }, toks := s.toks }) :=
 .of_wp fun prog w A R s h => by
   obtain ⟨hp, g, d, tk, os⟩ := s; obtain ⟨hl, h⟩ := h
   have hb : ¬ (decide (x < -2 ^ 63) || decide (x ≥ 2 ^ 63)) = true := by simp; lia
   wp_walk
   rw [if_neg hb]
   wp_walk
   rw [if_neg hm]
   wp_walk
   first | exact ⟨_, rfl, h⟩ | (rw [if_neg (Nat.not_lt.mpr hf)]; wp_walk; exact ⟨_, rfl, h⟩)
end
section
variable {X : Cx}
noncomputable def rRepT (K : PySem.W.Frag) : R2 := fun x y H Q => ∃ a k xs, x = .ref a ∧ y = .int k ∧ SqT K H a xs ∧ -(2 ^ 63) ≤ k ∧ k < 2 ^ 63 ∧ xs.length * k.toNat ≤ sizeLine ∧
 ∀ p H', SqT K H' p (List.replicate k.toNat xs).flatten → (H' = H ∨ H p = none ∧ H' = upd H p (.tup (List.replicate k.toNat xs).flatten)) → Q (.ref p) H'
theorem foldl_repA (its : List Value) (m : Nat) : List.foldl (fun x1 x2 => x1 ++ x2) #[] (List.replicate m its.toArray) = (List.replicate m its).flatten.toArray := by
 have := foldl_rep its m []
 rw [List.nil_append] at this
 exact this
theorem op_repT : OpR X (binaryOp .Mult) (rRepT X.K) := by
 intro pins s σ H x y v u Q I rx ry h
 obtain ⟨a, k, xs, rfl, rfl, hx, h1, h2, hz, q⟩ := h
 cases rx
 obtain ⟨t, rfl⟩ := ry
 obtain ⟨its, r, p, hl⟩ := I.tuple hx
 have hlen := r.length
 obtain ⟨⟨cls, dd, data, sl⟩, ho, hc, n, hd⟩ := id p
 simp only at hc hd
 subst hc hd
 refine wpAny_binaryOp_repeat_ref (T := "tuple") (U := "int") (by decide) ⟨_, ho, rfl⟩ (fun s' => typeIs_int s' k t) noFill_tuple_mul F.fills_int_mul F.slot_int_rmul repeat_tuple F.slot_int_index.lookup
   (call_meets F.slot_int_rmul (typeIs_int s k t) F.entry_int_rmul (F.args_int_rmul_2 _ _) (int_rmul_tuple a its.toArray n k t dd sl) ⟨ho, rfl, ⟨_, ho, rfl⟩, ?_⟩)
 by_cases hc : (its.toArray.isEmpty || k == 1) = true
 · refine call_meets F.slot_tuple_mul ⟨_, ho, rfl⟩ F.entry_tuple_mul (F.args_tuple_mul_2 _ _) (tuple_mul_0 a its.toArray n k t dd sl h1 h2 hc) ⟨ho, ?_⟩
   have e : (List.replicate k.toNat xs).flatten = xs := by
     simp only [Bool.or_eq_true, beq_iff_eq] at hc
     rcases hc with hc | hc
     · have : its = [] := by simpa using hc
       subst this
       cases r
       simp
     · subst hc
       simp
   exact ⟨.ref a, H, I, rfl, q a H (by rw [e]; exact hx) (.inl rfl)⟩
 · by_cases hn : (decide (k ≤ 0) || its.toArray.isEmpty) = true
   · refine call_meets F.slot_tuple_mul ⟨_, ho, rfl⟩ F.entry_tuple_mul (F.args_tuple_mul_2 _ _) (tuple_mul_1 a its.toArray n k t dd sl h1 h2 hc hn) ⟨ho, ?_⟩
     have hk : k.toNat = 0 := by
       simp only [Bool.or_eq_true, decide_eq_true_eq] at hn hc
       rcases hn with hn | hn
       · lia
       · exact absurd (.inl hn) hc
     have e : (List.replicate k.toNat xs).flatten = [] := by rw [hk]; rfl
     refine ⟨.ref s.heap.objs.size, _, I.laid (t' := s.toks) (o := .tup []) (fun b ob q => Heap.get?_push_of_some _ q) (Nat.le_refl _) ?_, rfl, q _ _ ?_ (.inr ⟨I.hok.fresh (Nat.le_refl _), by rw [e]⟩)⟩
     · exact ⟨Nat.zero_le _, [], .nil, IsTup0.new _ _⟩
     · rw [e]; exact SqT.of upd_same
   · have hm : (its.toArray.size : Int) * k ≤ sizeLine := by
       have : its.toArray.size = xs.length := by rw [hlen]; simp
       rw [this]
       have hk : (0 : Int) ≤ k := by
         simp only [Bool.or_eq_true, decide_eq_true_eq] at hn
         lia
       have e2 : k = ((k.toNat : Nat) : Int) := by lia
       rw [e2, ← Int.natCast_mul]
       exact_mod_cast hz
     have hz2 : ((List.replicate k.toNat its).flatten).length ≤ sizeLine := by rw [len_rep, Nat.mul_comm, ← hlen]; exact hz
     refine call_meets F.slot_tuple_mul ⟨_, ho, rfl⟩ F.entry_tuple_mul (F.args_tuple_mul_2 _ _) (tuple_mul_2 a its.toArray n k t dd sl h1 h2 hc hn ?_ ?_ ?_) ⟨ho, ?_⟩
     · have : (sizeLine : Int) ≤ (2 ^ 63 - 1) / 8 := by decide
       lia
     · unfold Builtin.Tuple.tupleTooMany
       simp only [decide_eq_true_eq]
       lia
     · rw [foldl_repA]
       show (List.replicate k.toNat its).flatten.toArray.size ≤ sizeLine
       rw [List.size_toArray]
       exact hz2
     · rw [foldl_repA]
       refine ⟨.ref s.heap.objs.size, _, I.laid (t' := s.toks) (o := .tup (List.replicate k.toNat xs).flatten) (fun b ob q => Heap.get?_push_of_some _ q) (Nat.le_refl _) ?_, rfl, q _ _ (SqT.of upd_same) (.inr ⟨I.hok.fresh (Nat.le_refl _), rfl⟩)⟩
       exact ⟨by rw [len_rep, Nat.mul_comm]; exact hz, _, r.rep k.toNat, IsTup0.new _ _⟩
end
end L2
namespace L2
open PySem PySem.Spec PyProof.Rows
theorem Reps.atI {K : PySem.W.Frag} {H : Hp} {vs : List V} {ts : List T} {i : Int} {t : T} (h : Reps K H vs ts) (e : atI ts i = some t) : ∃ v, L2.atI vs i = some v ∧ Rep K H v t := by
 unfold L2.atI at e ⊢
 rw [h.length]
 cases q : ixN ts.length i with
 | none => rw [q] at e; cases e
 | some j => rw [q] at e; exact h.get e
section
variable {X : Cx} {a b c e : Expr} {es : List Expr} {ta tb tc te : TE3} {pos : Pos}
noncomputable def rIx3 : R3 := fun x y M Q => match x, y with
 | .tup ts, .int i => (match atI ts i with | some t => Q t M | none => False)
 | .rd ts, .int i => (match atI ts i with | some t => Q t M | none => False)
 | .adr p, .int i => (match M p with | some (.lst ts) => (match atI ts i with | some t => Q t M | none => False) | _ => False)
 | .str z, .int i => z.length ≤ sizeLine ∧ (match atI z.cps.toList i with | some c => Q (.str ⟨#[c]⟩) M | none => False)
 | _, _ => False
theorem inv_rd {K : PySem.W.Frag} {H : Hp} {v : V} {ts : List T} (r : Rep K H v (.rd ts)) : ∃ a xs, v = .ref a ∧ FzL K H a xs ∧ Reps K H xs ts := by unfold Rep at r; exact r
theorem ix3 : IxR3 X rIx3 := by
 intro value slice pins s σ H x y v u Q2 I rx ry q hs
 obtain ⟨a, b, M, Q, r1, r2, hh, q, en⟩ := q
 unfold rIx3 at q
 split at q
 · obtain rfl := inv_int r2
   obtain ⟨p, xs, rfl, h1, h2⟩ := inv_tup r1
   split at q
   · rename_i t e
     obtain ⟨w, ew, rw'⟩ := h2.atI e
     exact ix_tup value slice pins s σ H _ _ v u Q2 I rx ry ⟨_, _, _, w, rfl, rfl, h1, ew, en _ _ M H Kp.refl hh rw' q⟩ hs
   · exact q.elim
 · obtain rfl := inv_int r2
   obtain ⟨p, xs, rfl, h1, h2⟩ := inv_rd r1
   split at q
   · rename_i t e
     obtain ⟨w, ew, rw'⟩ := h2.atI e
     exact ix_list value slice pins s σ H _ _ v u Q2 I rx ry ⟨_, _, _, w, rfl, rfl, h1.sq, ew, en _ _ M H Kp.refl hh rw' q⟩ hs
   · exact q.elim
 · obtain rfl := inv_int r2
   obtain rfl := inv_adr r1
   split at q
   · rename_i ts e0
     obtain ⟨xs, h1, h2⟩ := hh _ _ e0
     split at q
     · rename_i t e
       obtain ⟨w, ew, rw'⟩ := h2.atI e
       exact ix_list value slice pins s σ H _ _ v u Q2 I rx ry ⟨_, _, _, w, rfl, rfl, SqL.of h1, ew, en _ _ M H Kp.refl hh rw' q⟩ hs
     · exact q.elim
   · exact q.elim
 · obtain rfl := inv_int r2
   obtain rfl := inv_str r1
   obtain ⟨hz, q⟩ := q
   split at q
   · rename_i c e
     exact ix_str value slice pins s σ H _ _ v u Q2 I rx ry ⟨_, _, c, rfl, rfl, hz, e, en _ _ M H Kp.refl hh rep_str q⟩ hs
   · exact q.elim
 · exact q.elim
theorem h_ix (ha : HE X a ta) (hb : HE X b tb) (hs : PlainIx b := by intro _ _; rfl) : HE X (.Subscript a b pos) (tOp3 rIx3 ta tb) := fun ρ M Q h =>
 (pe_ix ix3 (ha.d (ρ := ρ)) (hb.d (ρ := ρ)) hs).imp fun σ H Q2 b => dOp h b
noncomputable def rMul3 : R3 := fun x y M Q => match x, y with
 | .int i, .int j => CMul i j ∧ Q (.int (i * j)) M
 | .adr p, .int k => (match M p with
   | some (.lst ts) => -(2 ^ 63) ≤ k ∧ k < 2 ^ 63 ∧ ts.length * k.toNat ≤ sizeLine ∧ ∀ r, M r = none → Q (.adr r) (updM M r (.lst (List.replicate k.toNat ts).flatten))
   | _ => False)
 | .tup ts, .int k => -(2 ^ 63) ≤ k ∧ k < 2 ^ 63 ∧ ts.length * k.toNat ≤ sizeLine ∧ Q (.tup (List.replicate k.toNat ts).flatten) M
 | _, _ => False
theorem Reps.rep {K : PySem.W.Frag} {H : Hp} {vs : List V} {ts : List T} (h : Reps K H vs ts) : ∀ k : Nat, Reps K H (List.replicate k vs).flatten (List.replicate k ts).flatten
 | 0 => .nil
 | k + 1 => by
   rw [List.replicate_succ, List.replicate_succ, List.flatten_cons, List.flatten_cons]
   exact Reps.append h (Reps.rep h k)
theorem op3_mul : OpR3 X (binaryOp .Mult) rMul3 := by
 intro pins s σ H x y v u Q2 I rx ry q
 obtain ⟨a, b, M, Q, r1, r2, hh, q, en⟩ := q
 unfold rMul3 at q
 split at q
 · obtain rfl := inv_int r1
   obtain rfl := inv_int r2
   exact op_mul pins s σ H _ _ v u Q2 I rx ry ⟨_, _, rfl, rfl, q.1, en _ _ M H Kp.refl hh rep_int q.2⟩
 · obtain rfl := inv_adr r1
   obtain rfl := inv_int r2
   split at q
   · rename_i ts e0
     obtain ⟨xs, h1, h2⟩ := hh _ _ e0
     obtain ⟨q1, q2, q3, q4⟩ := q
     refine op_rep pins s σ H _ _ v u Q2 I rx ry ⟨_, _, xs, rfl, rfl, h1, q1, q2, by rw [h2.length]; exact q3, fun r hr => ?_⟩
     exact en _ _ _ _ (Kp.new hr) (hh.newL hr (h2.rep _)) rep_adr (q4 r (hh.free hr))
   · exact q.elim
 · obtain ⟨l, xs, rfl, g1, g2⟩ := inv_tup r1
   obtain rfl := inv_int r2
   obtain ⟨q1, q2, q3, q4⟩ := q
   refine op_repT pins s σ H _ _ v u Q2 I rx ry ⟨_, _, xs, rfl, rfl, g1, q1, q2, by rw [g2.length]; exact q3, fun r H' h' c => ?_⟩
   rcases c with rfl | ⟨c1, rfl⟩
   · exact en _ _ _ _ Kp.refl hh (rep_tup h' (g2.rep _)) q4
   · exact en _ _ _ _ (Kp.new c1) (hh.keep c1) (rep_tup h' (Reps.kp (Kp.new c1) _ _ (g2.rep _))) q4
 · exact q.elim
noncomputable def rCmp3 (g : Int → Int → Bool) : R3 := fun x y M Q => match x, y with
 | .int i, .int j => Q (.bl (g i j)) M
 | _, _ => False
theorem op3_cmp {f : Value → Value → Sem Value} {g : Int → Int → Bool} (h : OpR X f (rI0 fun i j => .bl (g i j))) : OpR3 X f (rCmp3 g) := by
 intro pins s σ H x y v u Q2 I rx ry q
 obtain ⟨a, b, M, Q, r1, r2, hh, q, en⟩ := q
 unfold rCmp3 at q
 split at q
 · obtain rfl := inv_int r1
   obtain rfl := inv_int r2
   exact h pins s σ H _ _ v u Q2 I rx ry ⟨_, _, rfl, rfl, en _ _ M H Kp.refl hh rep_bl q⟩
 · exact q.elim
noncomputable def rLt3 : R3 := rCmp3 fun i j => decide (i < j)
noncomputable def rLe3 : R3 := rCmp3 fun i j => decide (i ≤ j)
noncomputable def rGt3 : R3 := rCmp3 fun i j => decide (j < i)
noncomputable def rGe3 : R3 := rCmp3 fun i j => decide (j ≤ i)
theorem op3_lt : OpR3 X (compareOp .Lt) rLt3 := op3_cmp op_lt
theorem op3_le : OpR3 X (compareOp .LtE) rLe3 := op3_cmp op_le
theorem op3_gt : OpR3 X (compareOp .Gt) rGt3 := op3_cmp op_gt
theorem op3_ge : OpR3 X (compareOp .GtE) rGe3 := op3_cmp op_ge
noncomputable def rEqv (g : Bool → Bool) : R3 := fun x y M Q => match x, y with
 | .adr p, .adr q => (match M p, M q with
   | some (.lst a), some (.lst b) => pureTs a = true ∧ pureTs b = true ∧ depTs a ≤ 30 ∧ Q (.bl (g (eqTs a b))) M
   | _, _ => False)
 | x, y => pureT x = true ∧ pureT y = true ∧ depT x ≤ 30 ∧ Q (.bl (g (eqT x y))) M
noncomputable def rEq3 : R3 := rEqv id
noncomputable def rNe3 : R3 := rEqv not
theorem lists_eqv {pins : List (Addr × Obj)} {σ : St} {H : Hp} {s : Shared} (I : Inv X pins σ H s) (hu : X.A.units + 64 < cLine) {p p' : Addr} {xs ys : List V} {ts us : List T} (h1 : H p = some (.lst xs)) (h2 : Reps X.K H xs ts) (g1 : H p' = some (.lst ys)) (g2 : Reps X.K H ys us)
   (px : pureTs ts = true) (py : pureTs us = true) (hd : depTs ts ≤ 30) :
   SeqAt.RcAt X.A s (.ref p) (.ref p') (eqTs ts us) ∧ SeqAt.RcNeAt X.A s (.ref p) (.ref p') (!(eqTs ts us)) := by
 obtain ⟨its, r1, pl, _⟩ := I.list (SqL.of h1)
 obtain ⟨its2, r2, pl2, _⟩ := I.list (SqL.of g1)
 have l1 := h2.length
 have l2 := g2.length
 have m1 := r1.length
 have m2 := r2.length
 have hu' : X.A.units < cLine := by lia
 by_cases hl : its.length = its2.length
 · have he := items_eq (X := X) (A := X.A.in1) (s := s) (n := 30) px py hd h2 g2 r1 r2 fun x y v u a b hx px py rx ry ra rb => (eqAt_T I 30 X.A.in1 x y v u a b hx (by show X.A.units + 1 + 30 + 1 < cLine; lia) px py rx ry ra rb).1
   have hsz : its.toArray.size = its2.toArray.size := by simpa using hl
   have rc := SeqAt.RcAt.lists (A := X.A) pl.isList pl2.isList hsz hu' he
   have rn := SeqAt.RcNeAt.lists (A := X.A) pl.isList pl2.isList hsz hu' he
   have ee : (List.range its.toArray.size).all (eqJ ts us) = eqTs ts us := by
     rw [← eqTs_range, List.size_toArray, ← l1, ← l2, m1, m2, ← hl]
     simp
   rw [ee] at rc rn
   exact ⟨rc, rn⟩
 · have hne : eqTs ts us = false := by
     cases q : eqTs ts us with
     | false => rfl
     | true => have := eqTs_len q; lia
   have hsz : (its.toArray.size != its2.toArray.size) = true := by simpa using hl
   rw [hne]
   exact ⟨SeqAt.RcAt.lists_lengths pl.isList pl2.isList hsz hu', SeqAt.RcNeAt.lists_lengths pl.isList pl2.isList hsz hu'⟩
theorem op3_eq (hu : X.A.units + 64 < cLine) : OpR3 X (compareOp .Eq) rEq3 := by
 intro pins s σ H x y v u Q2 I rx ry q
 obtain ⟨a, b, M, Q, r1, r2, hh, q, en⟩ := q
 unfold rEq3 rEqv at q
 split at q
 · rename_i p p'
   split at q
   · rename_i ts us e1 e2
     obtain ⟨xs, h1, h2⟩ := hh _ _ e1
     obtain ⟨ys, g1, g2⟩ := hh _ _ e2
     obtain rfl := inv_adr r1
     obtain rfl := inv_adr r2
     cases rx
     cases ry
     exact (lists_eqv I hu h1 h2 g1 g2 q.1 q.2.1 q.2.2.1).1 _ _ _ _ ⟨.bl _, H, I, rfl, en _ _ M H Kp.refl hh rep_bl q.2.2.2⟩
   · exact q.elim
 · obtain ⟨q1, q2, q3, q⟩ := q
   exact (eqAt_T I 30 X.A a b x y v u q3 (by lia) q1 q2 r1 r2 rx ry).2.1 _ _ _ _ ⟨.bl _, H, I, rfl, en _ _ M H Kp.refl hh rep_bl q⟩
theorem op3_ne (hu : X.A.units + 64 < cLine) : OpR3 X (compareOp .NotEq) rNe3 := by
 intro pins s σ H x y v u Q2 I rx ry q
 obtain ⟨a, b, M, Q, r1, r2, hh, q, en⟩ := q
 unfold rNe3 rEqv at q
 split at q
 · rename_i p p'
   split at q
   · rename_i ts us e1 e2
     obtain ⟨xs, h1, h2⟩ := hh _ _ e1
     obtain ⟨ys, g1, g2⟩ := hh _ _ e2
     obtain rfl := inv_adr r1
     obtain rfl := inv_adr r2
     cases rx
     cases ry
     exact (lists_eqv I hu h1 h2 g1 g2 q.1 q.2.1 q.2.2.1).2 _ _ _ _ ⟨.bl _, H, I, rfl, en _ _ M H Kp.refl hh rep_bl q.2.2.2⟩
   · exact q.elim
 · obtain ⟨q1, q2, q3, q⟩ := q
   exact (eqAt_T I 30 X.A a b x y v u q3 (by lia) q1 q2 r1 r2 rx ry).2.2 _ _ _ _ ⟨.bl _, H, I, rfl, en _ _ M H Kp.refl hh rep_bl q⟩
theorem h_cmp {op : CmpOp} {r : R3} (ho : OpR3 X (compareOp op) r) (ha : HE X a ta) (hb : HE X b tb) (hm : behindInMarks op b = false) : HE X (.Compare a [op] [b] pos) (tOp3 r ta tb) := fun ρ M Q h =>
 (pe_cmpR ho (ha.d (ρ := ρ)) (hb.d (ρ := ρ)) hm).imp fun σ H Q2 b => dOp h b
noncomputable def tTest3 (t : TE3) : TT3 := fun ρ M Q => t ρ M fun x M1 => match x with
 | .bl k => Q k M1
 | _ => False
theorem end_test {K : PySem.W.Frag} {H : Hp} {Q : Bool → MH → Prop} {Q2 : Bool → Hp → Prop} (en : EndT K H Q Q2) : EndE K H (fun x M1 => match x with | .bl k => Q k M1 | _ => False) (fun x H' => ∃ k, x = .bl k ∧ Q2 k H') := by
 intro t v M' H' k h r q
 split at q
 · obtain rfl := inv_bl r
   exact ⟨_, rfl, en _ M' H' k h q⟩
 · exact q.elim
theorem h_tcmp {op : CmpOp} {r : R3} (ho : OpR3 X (compareOp op) r) (ha : HE X a ta) (hb : HE X b tb) (hm : behindInMarks op b = false) : HT X (.Compare a [op] [b] pos) (tTest3 (tOp3 r ta tb)) := fun ρ M Q h =>
 (pt_cmpR ho (ha.d (ρ := ρ)) (hb.d (ρ := ρ)) hm).imp fun σ H Q2 ⟨hr, hh, en⟩ => dOp (ta := ta) (tb := tb) (r := r) h ⟨hr, hh, end_test en⟩
noncomputable def tChain3 (r r' : R3) (ta tb tc : TE3) : TE3 := fun ρ M Q => ta ρ M fun x M1 => tb ρ M1 fun y M2 => r x y M2 fun z M3 => match z with
 | .bl k => (if k = true then tc ρ M3 fun w M4 => r' y w M4 Q else Q (.bl false) M3)
 | _ => False
theorem dChain {ρ : En} {M : MH} {Q : VK3} {r r' : R3} (h : tChain3 r r' ta tb tc ρ M Q) {σ : St} {H : Hp} {Q2 : VK} (b : bE X.K ρ M Q σ H Q2) : tChain (dR X.K r) (dR X.K r') (dE X.K ρ ta) (dE X.K ρ tb) (dE X.K ρ tc) σ H Q2 := by
 obtain ⟨hr, hh, en⟩ := b
 refine ⟨M, _, h, hr, hh, fun t v M1 H1 k1 h1 r1 q1 => ⟨M1, _, q1, hr.kp k1, h1, fun t2 v2 M2 H2 k2 h2 r2 q2 => ⟨t, t2, M2, _, Rep.kp k2 _ _ r1, r2, h2, q2, fun z v3 M3 H3 k3 h3 r3 q3 => ?_⟩⟩⟩
 split at q3
 · rename_i k
   obtain rfl := inv_bl r3
   refine ⟨k, rfl, ?_⟩
   have kk := k1.trans (k2.trans k3)
   split
   · rename_i hk
     rw [if_pos hk] at q3
     exact ⟨M3, _, q3, hr.kp kk, h3, fun t4 v4 M4 H4 k4 h4 r4 q4 => ⟨t2, t4, M4, Q, Rep.kp (k3.trans k4) _ _ r2, r4, h4, q4, en.kp (kk.trans k4)⟩⟩
   · rename_i hk
     rw [if_neg hk] at q3
     exact en _ _ M3 H3 kk h3 rep_bl q3
 · exact q3.elim
theorem h_chain {op op' : CmpOp} {r r' : R3} (ho : OpR3 X (compareOp op) r) (ho' : OpR3 X (compareOp op') r') (ha : HE X a ta) (hb : HE X b tb) (hc : HE X c tc)
   (hm : lastMarks [op, op'] [b, c] = false := by with_unfolding_all rfl) : HE X (.Compare a [op, op'] [b, c] pos) (tChain3 r r' ta tb tc) := fun ρ M Q h =>
 (pe_chain ho ho' (ha.d (ρ := ρ)) (hb.d (ρ := ρ)) (hc.d (ρ := ρ)) hm).imp fun σ H Q2 b => dChain h b
theorem h_tchain {op op' : CmpOp} {r r' : R3} (ho : OpR3 X (compareOp op) r) (ho' : OpR3 X (compareOp op') r') (ha : HE X a ta) (hb : HE X b tb) (hc : HE X c tc)
   (hm : lastMarks [op, op'] [b, c] = false := by with_unfolding_all rfl) : HT X (.Compare a [op, op'] [b, c] pos) (tTest3 (tChain3 r r' ta tb tc)) := fun ρ M Q h =>
 (pt_chain ho ho' (ha.d (ρ := ρ)) (hb.d (ρ := ρ)) (hc.d (ρ := ρ)) hm).imp fun σ H Q2 ⟨hr, hh, en⟩ => dChain (ta := ta) (tb := tb) (tc := tc) (r := r) (r' := r') h ⟨hr, hh, end_test en⟩
noncomputable def truT (M : MH) : T → Option Bool
 | .non => some false
 | .bl b => some b
 | .int i => some (i != 0)
 | .str y => if y.length ≤ sizeLine then some (decide (y.length ≠ 0)) else none
 | .tup ts => some (!ts.isEmpty)
 | .rd ts => some (!ts.isEmpty)
 | .dic _ _ => none
 | .adr p => match M p with
   | some (.lst ts) => some (!ts.isEmpty)
   | _ => none
noncomputable def tTru3 (te : TE3) : TT3 := fun ρ M Q => te ρ M fun x M1 => match truT M1 x with
 | some k => Q k M1
 | none => False
theorem empty_of {K : PySem.W.Frag} {H : Hp} {xs : List V} {ts : List T} (h : Reps K H xs ts) : (!xs.isEmpty) = !ts.isEmpty := by
 have := h.length
 cases xs <;> cases ts <;> first | rfl | (simp at this)
theorem h_truth (ha : HE X a ta) (he : ∀ whole, isTrue a X.env whole = (do let v ← whole; standAt a.pos; holding [v] (truthy v)) := by intro _; rfl) : HT X a (tTru3 ta) := fun ρ M Q h =>
 (pt_truth (ha.d (ρ := ρ)) he).imp fun σ H Q2 ⟨hr, hh, en⟩ => ⟨M, _, h, hr, hh, fun t v M1 H1 k1 h1 r1 q1 => by
   have fin : ∀ k, truT M1 t = some k → Q2 k H1 := fun k e => by
     have q : (match truT M1 t with | some k => Q k M1 | none => False) := q1
     rw [e] at q
     exact en k M1 H1 k1 h1 q
   cases t with
   | non => obtain rfl := inv_non r1; exact ⟨false, rfl, fin _ rfl⟩
   | bl b => obtain rfl := inv_bl r1; exact ⟨b, rfl, fin _ rfl⟩
   | int i => obtain rfl := inv_int r1; exact ⟨_, rfl, fin _ rfl⟩
   | str y =>
     obtain rfl := inv_str r1
     by_cases hy : y.length ≤ sizeLine
     · refine ⟨_, ⟨hy, rfl⟩, fin _ ?_⟩
       show (if y.length ≤ sizeLine then some (decide (y.length ≠ 0)) else none) = _
       rw [if_pos hy]
       congr 1
       by_cases h0 : y.length = 0
       · rw [h0]; rfl
       · have : ((y.length : Int) != 0) = true := by simpa using h0
         rw [this]; simpa using h0
     · have q : (match truT M1 (.str y) with | some k => Q k M1 | none => False) := q1
       have e : truT M1 (.str y) = none := if_neg hy
       rw [e] at q
       exact q.elim
   | tup ts =>
     obtain ⟨p, xs, rfl, g1, g2⟩ := inv_tup r1
     exact ⟨!xs.isEmpty, .inr (.inl ⟨xs, g1, rfl⟩), fin _ (by rw [empty_of g2]; rfl)⟩
   | rd ts =>
     obtain ⟨p, xs, rfl, g1, g2⟩ := inv_rd r1
     exact ⟨!xs.isEmpty, .inl ⟨xs, g1.sq, rfl⟩, fin _ (by rw [empty_of g2]; rfl)⟩
   | dic ks ts =>
     have q : (match truT M1 (.dic ks ts) with | some k => Q k M1 | none => False) := q1
     exact q.elim
   | adr p =>
     obtain rfl := inv_adr r1
     cases e0 : M1 p with
     | none =>
       have q : (match truT M1 (.adr p) with | some k => Q k M1 | none => False) := q1
       have e : truT M1 (.adr p) = none := by show (match M1 p with | some (.lst ts) => some (!ts.isEmpty) | _ => none) = none; rw [e0]
       rw [e] at q
       exact q.elim
     | some o =>
       cases o with
       | lst ts =>
         obtain ⟨xs, g1, g2⟩ := h1 _ _ e0
         exact ⟨!xs.isEmpty, .inl ⟨xs, SqL.of g1, rfl⟩, fin _ (by show (match M1 p with | some (.lst ts) => some (!ts.isEmpty) | _ => none) = _; rw [e0, empty_of g2])⟩
       | dk kvs =>
         have q : (match truT M1 (.adr p) with | some k => Q k M1 | none => False) := q1
         have e : truT M1 (.adr p) = none := by show (match M1 p with | some (.lst ts) => some (!ts.isEmpty) | _ => none) = none; rw [e0]
         rw [e] at q
         exact q.elim
       | dt kvs =>
         have q : (match truT M1 (.adr p) with | some k => Q k M1 | none => False) := q1
         have e : truT M1 (.adr p) = none := by show (match M1 p with | some (.lst ts) => some (!ts.isEmpty) | _ => none) = none; rw [e0]
         rw [e] at q
         exact q.elim⟩
end
end L2
namespace L2
open PySem PySem.Spec PyProof.Rows
section
variable {X : Cx} {a b c e : Expr} {es rest : List Expr} {ta tb tc te : TE3} {tA tB : TT3} {t : TA3} {pos : Pos}
noncomputable def HW (X : Cx) (e : Expr) (t : TT3) : Prop := ∀ ρ M Q, t ρ M Q → PW X e (bT X.K ρ M Q)
theorem HW.d {t : TT3} {ρ : En} (h : HW X e t) : PW X e (dT X.K ρ t) := fun wh pins s σ H Q I ⟨M, Q3, q, b⟩ => h ρ M Q3 q wh pins s σ H Q I b
theorem PW.imp {t t' : TT} (h : PW X e t) (f : ∀ σ H Q, t' σ H Q → t σ H Q) : PW X e t' := fun wh pins s σ H Q I q => h wh pins s σ H Q I (f σ H Q q)
theorem HW.ht {t : TT3} (h : HW X e t) : HT X e t := fun ρ M Q q => (h ρ M Q q).pt
noncomputable def tAnd3 (t u : TT3) : TT3 := fun ρ M Q => t ρ M fun c M1 => if c = true then u ρ M1 Q else Q false M1
noncomputable def tOr3 (t u : TT3) : TT3 := fun ρ M Q => t ρ M fun c M1 => if c = true then Q true M1 else u ρ M1 Q
noncomputable def tNot3 (t : TT3) : TT3 := fun ρ M Q => t ρ M fun c M1 => Q (!c) M1
theorem h_not (ha : HT X a tA) : HT X (.UnaryOp .Not a pos) (tNot3 tA) := fun ρ M Q h =>
 (pt_not (ha.d (ρ := ρ))).imp fun σ H Q2 ⟨hr, hh, en⟩ => ⟨M, _, h, hr, hh, fun b M1 H1 k1 h1 q1 => en _ M1 H1 k1 h1 q1⟩
theorem w_and1 (ha : HT X a tA) : HW X (.BoolOp .And [a] pos) tA := fun ρ M Q h => (pw_and1 (ha.d (ρ := ρ))).imp fun σ H Q2 b => ⟨M, Q, h, b⟩
theorem w_or1 (ha : HT X a tA) : HW X (.BoolOp .Or [a] pos) tA := fun ρ M Q h => (pw_or1 (ha.d (ρ := ρ))).imp fun σ H Q2 b => ⟨M, Q, h, b⟩
theorem w_and (ha : HT X a tA) (hb : HW X (.BoolOp .And (b :: rest) pos) tB) : HW X (.BoolOp .And (a :: b :: rest) pos) (tAnd3 tA tB) := fun ρ M Q h =>
 (pw_and (ha.d (ρ := ρ)) (hb.d (ρ := ρ))).imp fun σ H Q2 ⟨hr, hh, en⟩ => ⟨M, _, h, hr, hh, fun b M1 H1 k1 h1 q1 => by
   dsimp only at q1 ⊢
   split
   · rename_i hb; rw [if_pos hb] at q1
     exact ⟨M1, Q, q1, hr.kp k1, h1, fun b' M2 H2 k2 => en b' M2 H2 (k1.trans k2)⟩
   · rename_i hb; rw [if_neg hb] at q1
     exact en _ M1 H1 k1 h1 q1⟩
theorem w_or (ha : HT X a tA) (hb : HW X (.BoolOp .Or (b :: rest) pos) tB) : HW X (.BoolOp .Or (a :: b :: rest) pos) (tOr3 tA tB) := fun ρ M Q h =>
 (pw_or (ha.d (ρ := ρ)) (hb.d (ρ := ρ))).imp fun σ H Q2 ⟨hr, hh, en⟩ => ⟨M, _, h, hr, hh, fun b M1 H1 k1 h1 q1 => by
   dsimp only at q1 ⊢
   split
   · rename_i hb; rw [if_pos hb] at q1
     exact en _ M1 H1 k1 h1 q1
   · rename_i hb; rw [if_neg hb] at q1
     exact ⟨M1, Q, q1, hr.kp k1, h1, fun b' M2 H2 k2 => en b' M2 H2 (k1.trans k2)⟩⟩
noncomputable def tAndV3 (ta tb : TE3) : TE3 := fun ρ M Q => ta ρ M fun x M1 => match x with
 | .bl c => (if c = true then tb ρ M1 Q else Q (.bl false) M1)
 | _ => False
theorem h_one {op} (ha : HE X a ta) : HE X (.BoolOp op [a] pos) ta := fun ρ M Q h => pe_one (ha ρ M Q h)
theorem h_and (ha : HE X a ta) (hb : HE X (.BoolOp .And (b :: rest) pos) tb) : HE X (.BoolOp .And (a :: b :: rest) pos) (tAndV3 ta tb) := fun ρ M Q h =>
 (pe_and (ha.d (ρ := ρ)) (hb.d (ρ := ρ))).imp fun σ H Q2 ⟨hr, hh, en⟩ => ⟨M, _, h, hr, hh, fun x v M1 H1 k1 h1 r1 q1 => by
   dsimp only at q1 ⊢
   split at q1
   · rename_i c
     obtain rfl := inv_bl r1
     refine ⟨c, rfl, ?_⟩
     split
     · rename_i hc; rw [if_pos hc] at q1
       exact ⟨M1, Q, q1, hr.kp k1, h1, en.kp k1⟩
     · rename_i hc; rw [if_neg hc] at q1
       exact en _ _ M1 H1 k1 h1 rep_bl q1
   · exact q1.elim⟩
noncomputable def tNil3 : TA3 := fun _ M Q => Q [] M
noncomputable def tCons3 (ta : TE3) (tr : TA3) : TA3 := fun ρ M Q => ta ρ M fun x M1 => tr ρ M1 fun xs M2 => Q (x :: xs) M2
theorem a_nil : HA X [] tNil3 := fun ρ M Q h => pa_nil.imp fun σ H Q2 ⟨hr, hh, en⟩ => en [] [] M H Kp.refl hh .nil h
theorem a_cons (ha : HE X a ta) (hr : HA X es t) (hs : starEach (a :: es) X.env = (false, eval a X.env) :: starEach es X.env := by rfl) : HA X (a :: es) (tCons3 ta t) := fun ρ M Q h =>
 (pa_cons (ha.d (ρ := ρ)) (hr.d (ρ := ρ)) hs).imp fun σ H Q2 ⟨hr, hh, en⟩ => ⟨M, _, h, hr, hh, fun x v M1 H1 k1 h1 r1 q1 => ⟨M1, _, q1, hr.kp k1, h1, fun ts vs M2 H2 k2 h2 r2 q2 =>
   en _ _ M2 H2 (k1.trans k2) h2 (.cons (Rep.kp k2 _ _ r1) r2) q2⟩⟩
noncomputable def tTup3 (t : TA3) : TE3 := fun ρ M Q => t ρ M fun xs M1 => xs.length ≤ sizeLine ∧ Q (.tup xs) M1
noncomputable def tLst3 (t : TA3) : TE3 := fun ρ M Q => t ρ M fun xs M1 => xs.length ≤ sizeLine ∧ ∀ p, M1 p = none → Q (.adr p) (updM M1 p (.lst xs))
theorem h_tup {x1} (h : HA X es t) : HE X (.Tuple es x1 pos) (tTup3 t) := fun ρ M Q q =>
 (pe_tup (h.d (ρ := ρ))).imp fun σ H Q2 ⟨hr, hh, en⟩ => ⟨M, _, q, hr, hh, fun ts vs M1 H1 k1 h1 r1 q1 =>
   ⟨by rw [r1.length]; exact q1.1, fun p hp => en _ _ M1 _ (k1.trans (Kp.new hp)) (h1.keep hp) (rep_tup (SqT.of upd_same) (Reps.kp (Kp.new hp) _ _ r1)) q1.2⟩⟩
theorem h_lst (h : HA X es t) : HE X (.List es pos) (tLst3 t) := fun ρ M Q q =>
 (pe_lst (h.d (ρ := ρ))).imp fun σ H Q2 ⟨hr, hh, en⟩ => ⟨M, _, q, hr, hh, fun ts vs M1 H1 k1 h1 r1 q1 =>
   ⟨by rw [r1.length]; exact q1.1, fun p hp => en _ _ _ _ (k1.trans (Kp.new hp)) (h1.newL hp r1) rep_adr (q1.2 p (h1.free hp))⟩⟩
noncomputable abbrev Sp3 := List T → MH → VK3 → Prop
noncomputable def dSp (K : PySem.W.Frag) (sp : Sp3) : Sp := fun vs H Q2 _ => ∃ ts M Q, Reps K H vs ts ∧ HR K H M ∧ sp ts M Q ∧ EndE K H Q Q2
structure Df (P : Program) (w : World) (K : PySem.W.Frag) (mg : Str → Option Value) (base : Heap) (n : Nat) (x : Str) (ps : List Str) (sp : Sp3) : Prop where
 out : ∃ f fd, FnOk P w K mg base CX0 n f fd ps (dSp K sp) ∧ mg x = some (.ref f) ∧ PySem.W.keepIn K (.ref f) = true ∧ Binds K fd ps []
theorem Df.mono {P : Program} {w : World} {K : PySem.W.Frag} {mg : Str → Option Value} {base : Heap} {n m : Nat} {x : Str} {ps : List Str} {sp : Sp3} (D : Df P w K mg base n x ps sp) (h : n ≤ m) : Df P w K mg base m x ps sp := by
 obtain ⟨f, fd, F, a, b, c⟩ := D.out
 exact ⟨f, fd, F.mono h, a, b, c⟩
noncomputable def tCall3 (sp : Sp3) (t : TA3) : TE3 := fun ρ M Q => t ρ M fun ts M1 => sp ts M1 Q
theorem h_call {n : Nat} {x : Str} {ps : List Str} {sp : Sp3} {p : Pos} (D : Df X.prog X.w X.K X.mg X.base n x ps sp) (hr : Room n X.A) (ha : HA X (e :: es) t) (hg : Gl X x := by rfl) (hdb : (x == ("__debug__" : Str)) = false := by decide)
   (he : starEach (e :: es) X.env = (false, eval e X.env) :: starEach es X.env := by rfl) (hpl : (backTo pos (starEach es X.env)).any (·.1) = false := by rfl) :
   HE X (.Call (.Name x p) (e :: es) [] pos) (tCall3 sp t) := fun ρ M Q h => by
 obtain ⟨f, fd, F, hm, hk, hb⟩ := D.out
 exact (pe_call F hr hg hm hk hb .nil pass0 (ha.d (ρ := ρ)) hdb he hpl).imp fun σ H Q2 ⟨hr, hh, en⟩ => ⟨M, _, h, hr, hh, fun ts vs M1 H1 k1 h1 r1 q1 =>
   ⟨ts, M1, Q, by rw [List.append_nil]; exact r1, h1, q1, en.kp k1⟩⟩
noncomputable def tCB3 (r : List T → MH → VK3 → Prop) (t : TA3) : TE3 := fun ρ M Q => t ρ M fun ts M1 => r ts M1 Q
theorem h_callB {x : Str} {id : String} {r : List T → MH → VK3 → Prop} {p : Pos} (hc : CallR3 X (.builtin id) r) (hm : X.mg x = none) (hv : bootBuiltins x = some (.builtin id)) (ha : HA X (e :: es) t) (hg : Gl X x := by rfl) (hn : x ≠ "__name__" := by decide) (hdb : (x == ("__debug__" : Str)) = false := by decide)
   (he : starEach (e :: es) X.env = (false, eval e X.env) :: starEach es X.env := by rfl) (hpl : (backTo pos (starEach es X.env)).any (·.1) = false := by rfl) : HE X (.Call (.Name x p) (e :: es) [] pos) (tCB3 r t) := fun ρ M Q h =>
 (pe_callB hc hg hm hv (ha.d (ρ := ρ)) hn hdb he hpl).imp fun σ H Q2 ⟨hr, hh, en⟩ => ⟨M, _, h, hr, hh, fun ts vs M1 H1 k1 h1 r1 q1 => ⟨ts, M1, Q, r1, h1, q1, en.kp k1⟩⟩
theorem h_callT {x : Str} {ty : String} {r : List T → MH → VK3 → Prop} {p : Pos} (hc : CallR3 X (.type ty) r) (hm : X.mg x = none) (hv : bootBuiltins x = some (.type ty)) (ha : HA X (e :: es) t) (hg : Gl X x := by rfl) (hn : x ≠ "__name__" := by decide) (hdb : (x == ("__debug__" : Str)) = false := by decide)
   (he : starEach (e :: es) X.env = (false, eval e X.env) :: starEach es X.env := by rfl) (hpl : (backTo pos (starEach es X.env)).any (·.1) = false := by rfl) : HE X (.Call (.Name x p) (e :: es) [] pos) (tCB3 r t) := fun ρ M Q h =>
 (pe_callTy hc hg hm hv (ha.d (ρ := ρ)) hn hdb he hpl).imp fun σ H Q2 ⟨hr, hh, en⟩ => ⟨M, _, h, hr, hh, fun ts vs M1 H1 k1 h1 r1 q1 => ⟨ts, M1, Q, r1, h1, q1, en.kp k1⟩⟩
end
section
variable {X : Cx}
theorem reps1 {K : PySem.W.Frag} {H : Hp} {vs : List V} {x : T} (r : Reps K H vs [x]) : ∃ v, vs = [v] ∧ Rep K H v x := by
 unfold Reps at r
 obtain ⟨v, w, rfl, h, r⟩ := r
 unfold Reps at r
 subst r
 exact ⟨v, rfl, h⟩
theorem reps2 {K : PySem.W.Frag} {H : Hp} {vs : List V} {x y : T} (r : Reps K H vs [x, y]) : ∃ v w, vs = [v, w] ∧ Rep K H v x ∧ Rep K H w y := by
 unfold Reps at r
 obtain ⟨v, r', rfl, h, r⟩ := r
 obtain ⟨w, rfl, h'⟩ := reps1 r
 exact ⟨v, w, rfl, h, h'⟩
noncomputable def rLen3 : List T → MH → VK3 → Prop := fun xs M Q => match xs with
 | [.tup ts] => Q (.int ts.length) M
 | [.rd ts] => Q (.int ts.length) M
 | [.adr p] => (match M p with | some (.lst ts) => Q (.int ts.length) M | _ => False)
 | [.str z] => z.length ≤ sizeLine ∧ Q (.int z.length) M
 | _ => False
theorem call3_len : CallR3 X (.builtin "len") rLen3 := by
 intro pins s σ H vs us Q2 I r h
 obtain ⟨xs, M, Q, rr, hh, q, en⟩ := h
 unfold rLen3 at q
 split at q
 · obtain ⟨v, rfl, r1⟩ := reps1 rr
   obtain ⟨p, ys, rfl, g1, g2⟩ := inv_tup r1
   exact call_len_seq pins s σ H _ us Q2 I r ⟨p, ys, rfl, .inr g1, by rw [g2.length]; exact en _ _ M H Kp.refl hh rep_int q⟩
 · obtain ⟨v, rfl, r1⟩ := reps1 rr
   obtain ⟨p, ys, rfl, g1, g2⟩ := inv_rd r1
   exact call_len_seq pins s σ H _ us Q2 I r ⟨p, ys, rfl, .inl g1.sq, by rw [g2.length]; exact en _ _ M H Kp.refl hh rep_int q⟩
 · obtain ⟨v, rfl, r1⟩ := reps1 rr
   obtain rfl := inv_adr r1
   split at q
   · rename_i ts e0
     obtain ⟨ys, g1, g2⟩ := hh _ _ e0
     exact call_len_seq pins s σ H _ us Q2 I r ⟨_, ys, rfl, .inl (SqL.of g1), by rw [g2.length]; exact en _ _ M H Kp.refl hh rep_int q⟩
   · exact q.elim
 · obtain ⟨v, rfl, r1⟩ := reps1 rr
   obtain rfl := inv_str r1
   exact call_len_str pins s σ H _ us Q2 I r ⟨_, rfl, q.1, en _ _ M H Kp.refl hh rep_int q.2⟩
 · exact q.elim
noncomputable def rAbs3 : List T → MH → VK3 → Prop := fun xs M Q => match xs with
 | [.int i] => Q (.int i.natAbs) M
 | _ => False
theorem call3_abs : CallR3 X (.builtin "abs") rAbs3 := by
 intro pins s σ H vs us Q2 I r h
 obtain ⟨xs, M, Q, rr, hh, q, en⟩ := h
 unfold rAbs3 at q
 split at q
 · rename_i i
   obtain ⟨v, rfl, r1⟩ := reps1 rr
   obtain rfl := inv_int r1
   refine call_abs pins s σ H _ us Q2 I r ⟨_, rfl, en _ _ M H Kp.refl hh ?_ q⟩
   have e : (if i < 0 then -i else i) = (i.natAbs : Int) := by split <;> lia
   rw [e]; exact rep_int
 · exact q.elim
noncomputable def rTuple3 : List T → MH → VK3 → Prop := fun xs M Q => match xs with
 | [.tup ts] => Q (.tup ts) M
 | [.rd ts] => Q (.tup ts) M
 | [.adr p] => (match M p with | some (.lst ts) => Q (.tup ts) M | _ => False)
 | _ => False
theorem call3_tuple : CallR3 X (.type "tuple") rTuple3 := by
 intro pins s σ H vs us Q2 I r h
 obtain ⟨xs, M, Q, rr, hh, q, en⟩ := h
 unfold rTuple3 at q
 split at q
 · obtain ⟨v, rfl, r1⟩ := reps1 rr
   obtain ⟨p, ys, rfl, g1, g2⟩ := inv_tup r1
   exact call_tuple_of pins s σ H _ us Q2 I r ⟨p, ys, rfl, .inr ⟨g1, en _ _ M H Kp.refl hh r1 q⟩⟩
 · obtain ⟨v, rfl, r1⟩ := reps1 rr
   obtain ⟨p, ys, rfl, g1, g2⟩ := inv_rd r1
   exact call_tuple_of pins s σ H _ us Q2 I r ⟨p, ys, rfl, .inl ⟨g1.sq, fun l hl => en _ _ M _ (Kp.new hl) (hh.keep hl) (rep_tup (SqT.of upd_same) (Reps.kp (Kp.new hl) _ _ g2)) q⟩⟩
 · obtain ⟨v, rfl, r1⟩ := reps1 rr
   obtain rfl := inv_adr r1
   split at q
   · rename_i ts e0
     obtain ⟨ys, g1, g2⟩ := hh _ _ e0
     exact call_tuple_of pins s σ H _ us Q2 I r ⟨_, ys, rfl, .inl ⟨SqL.of g1, fun l hl => en _ _ M _ (Kp.new hl) (hh.keep hl) (rep_tup (SqT.of upd_same) (Reps.kp (Kp.new hl) _ _ g2)) q⟩⟩
   · exact q.elim
 · exact q.elim
theorem call_all_bools (hc : X.calm = true) : CallR X (.builtin "all") (fun xs H Q => ∃ (p : Addr) (bs : List Bool), xs = [.ref p] ∧ SqL X.K H p (bs.map V.bl) ∧ Q (.bl (bs.all id)) H) := by
 intro pins s σ H xs us Q I r h
 obtain ⟨p, bs, rfl, hq, q⟩ := h
 obtain ⟨u, rfl, rx⟩ := vals1 r
 cases rx
 obtain ⟨its, r', pl, hz⟩ := I.list hq
 have hlen := r'.length
 refine call_all_walk (wpAny_pyIter_list pl.isList ?_)
 have hp : p < s.heap.objs.size := by obtain ⟨o, n, e, _⟩ := pl; exact Heap.lt_size e
 refine ⟨s.heap.objs.size, _, _, _, _, _, fun i => (bs[i]?).getD true, rfl, Walks.list (A := X.A.in1) (I.ok.hd hc) s.heap.objs.size p (Nat.ne_of_lt hp) its.toArray, ⟨⟨_, Heap.get?_push_size _ rfl, rfl, rfl⟩, pl.isList.push _⟩, ?_, fun h' tk hk => ?_⟩
 · intro i v s' Q' E' hP hQ
   have hP' : its[i]? = some v := by simpa using hP
   have hi : i < bs.length := by
     have := (List.getElem?_eq_some_iff.mp hP').1
     rw [List.length_map] at hlen; lia
   obtain ⟨w, hw, rw'⟩ := r'.get (i := i) (x := .bl bs[i]) (by rw [List.getElem?_map, List.getElem?_eq_getElem hi] <;> rfl)
   rw [hP'] at hw; cases hw
   obtain rfl : v = Value.bool bs[i] := rw'
   refine wpAny_truthy_bool ?_
   have e : (bs[i]?).getD true = bs[i] := by rw [List.getElem?_eq_getElem hi] <;> rfl
   dsimp only at hQ; rw [e] at hQ; exact hQ
 · have e : (List.range its.toArray.size).all (fun i => (bs[i]?).getD true) = bs.all id := by
     rw [List.length_map] at hlen
     rw [List.size_toArray, ← hlen]
     rw [Bool.eq_iff_iff]
     simp only [List.all_eq_true, List.mem_range, id]
     constructor
     · intro h b hb
       obtain ⟨i, hi, rfl⟩ := List.getElem_of_mem hb
       have := h i hi
       rw [List.getElem?_eq_getElem hi] at this; exact this
     · intro h i hi
       rw [List.getElem?_eq_getElem hi]; exact h _ (List.getElem_mem hi)
   rw [e]
   have I1 : Inv X pins σ H { s with heap := h', toks := tk } := I.kept fun b o eb => hk b o (by
     intro hm
     have : b = s.heap.objs.size := by simpa using hm
     rw [this] at eb
     exact absurd (Heap.lt_size eb) (Nat.lt_irrefl _)) (Heap.get?_push_of_some _ eb)
   exact ⟨.bl _, H, I1, rfl, q⟩
noncomputable def bools : List T → Option (List Bool)
 | [] => some []
 | .bl b :: ts => (bools ts).map (b :: ·)
 | _ :: _ => none
theorem bools_reps {K : PySem.W.Frag} {H : Hp} : ∀ {vs : List V} {ts : List T} {bs : List Bool}, Reps K H vs ts → bools ts = some bs → vs = bs.map V.bl
 | vs, [], bs, h, e => by unfold bools at e; cases e; unfold Reps at h; exact h
 | vs, t :: ts, bs, h, e => by
   unfold Reps at h
   obtain ⟨v, r, rfl, h1, h2⟩ := h
   cases t with
   | bl b =>
     unfold bools at e
     cases q : bools ts with
     | none => rw [q] at e; cases e
     | some cs =>
       rw [q] at e; cases e
       obtain rfl := inv_bl h1
       rw [bools_reps h2 q]; rfl
   | _ => unfold bools at e; cases e
noncomputable def rAll3 : List T → MH → VK3 → Prop := fun xs M Q => match xs with
 | [.adr p] => (match M p with | some (.lst ts) => (match bools ts with | some bs => Q (.bl (bs.all id)) M | none => False) | _ => False)
 | _ => False
theorem call3_all (hc : X.calm = true) : CallR3 X (.builtin "all") rAll3 := by
 intro pins s σ H vs us Q2 I r h
 obtain ⟨xs, M, Q, rr, hh, q, en⟩ := h
 unfold rAll3 at q
 split at q
 · obtain ⟨v, rfl, r1⟩ := reps1 rr
   obtain rfl := inv_adr r1
   split at q
   · rename_i ts e0
     obtain ⟨ys, g1, g2⟩ := hh _ _ e0
     split at q
     · rename_i bs eb
       obtain rfl := bools_reps g2 eb
       exact call_all_bools hc pins s σ H _ us Q2 I r ⟨_, bs, rfl, SqL.of g1, en _ _ M H Kp.refl hh rep_bl q⟩
     · exact q.elim
   · exact q.elim
 · exact q.elim
end
end L2
namespace L2
open PySem PySem.Spec PyProof.Rows
section
variable {X : Cx} {a b c e : Expr} {st : Stmt} {rest ba bb body : List Stmt} {ta tb te : TE3} {tA : TT3} {t u : TS3} {pos : Pos}
noncomputable def tNext3 : TS3 := fun D ρ M => D.nx ρ M
noncomputable def tSeq3 (t u : TS3) : TS3 := fun D ρ M => t { D with nx := u D } ρ M
theorem EndS.nx' {K : PySem.W.Frag} {H : Hp} {D : Ends3} {D2 : Ends} {t : TS3} (h : EndS K H D D2) : EndS K H { D with nx := t D } { D2 with nx := dS K t D2 } :=
 ⟨fun ρ' M' σ' H' k r hh q => ⟨D, ρ', M', q, r, hh, h.kp k⟩, h.rt, h.bk, h.ct⟩
theorem ss_nil : HSs X [] tNext3 := fun D ρ M h => pss_nil.imp fun D2 σ H ⟨hr, hh, en⟩ => en.nx ρ M σ H Kp.refl hr hh h
theorem ss_cons (h1 : HS X st t) (h2 : HSs X rest u) : HSs X (st :: rest) (tSeq3 t u) := fun D ρ M h =>
 (pss_cons h1.d h2.d).imp fun D2 σ H ⟨hr, hh, en⟩ => ⟨{ D with nx := u D }, ρ, M, h, hr, hh, en.nx'⟩
theorem ss_one (h1 : HS X st t) : HSs X [st] t := fun D ρ M h => pss_one (h1 D ρ M h)
noncomputable def tRet3 (te : TE3) : TS3 := fun D ρ M => te ρ M D.rt
theorem s_ret (he : HE X e te) : HS X (.Return (some e) pos) (tRet3 te) := fun D ρ M h =>
 (ps_ret (he.d (ρ := ρ))).imp fun D2 σ H ⟨hr, hh, en⟩ => ⟨M, _, h, hr, hh, en.rt⟩
noncomputable def tIfS3 (c : TT3) (t u : TS3) : TS3 := fun D ρ M => c ρ M fun b M1 => if b = true then t D ρ M1 else u D ρ M1
theorem s_if (hc : HT X c tA) (ha : HSs X ba t) (hb : HSs X bb u) : HS X (.If c ba bb pos) (tIfS3 tA t u) := fun D ρ M h =>
 (ps_if (hc.d (ρ := ρ)) ha.d hb.d).imp fun D2 σ H ⟨hr, hh, en⟩ => ⟨M, _, h, hr, hh, fun b M1 H1 k1 h1 q1 => by
   dsimp only at q1 ⊢
   split
   · rename_i hb; rw [if_pos hb] at q1
     exact ⟨D, ρ, M1, q1, hr.kp k1, h1, en.kp k1⟩
   · rename_i hb; rw [if_neg hb] at q1
     exact ⟨D, ρ, M1, q1, hr.kp k1, h1, en.kp k1⟩⟩
noncomputable def tNever3 : TS3 := fun _ _ _ => False
theorem s_never : HS X st tNever3 := fun _ _ _ h => h.elim
noncomputable def tDrop3 (te : TE3) : TS3 := fun D ρ M => te ρ M fun _ M1 => D.nx ρ M1
theorem s_expr (he : HE X e te) (hs : swapsWith e none pos.line X.env = pure false := by rfl) : HS X (.Expr e pos) (tDrop3 te) := fun D ρ M h =>
 (ps_expr (he.d (ρ := ρ)) hs).imp fun D2 σ H ⟨hr, hh, en⟩ => ⟨M, _, h, hr, hh, fun x v M1 H1 k1 h1 r1 q1 => en.nx ρ M1 σ H1 k1 (hr.kp k1) h1 q1⟩
noncomputable def tBreak3 : TS3 := fun D ρ M => D.bk ρ M
theorem s_break : HS X (.Break pos) tBreak3 := fun D ρ M h => ps_break.imp fun D2 σ H ⟨hr, hh, en⟩ => en.bk ρ M σ H Kp.refl hr hh h
noncomputable def tSet3 (i : Nat) (te : TE3) : TS3 := fun D ρ M => te ρ M fun x M1 => D.nx (ρ.set i (some x)) M1
theorem s_set {i : Nat} {x : Str} {pos' : Pos} (he : HE X e te) (hN : X.N.Nodup) (hi : X.N[i]? = some x := by rfl) (hx : Loc X.env.scope x := by first | exact Or.inl rfl | exact Or.inr rfl) (hs : swapsWith e (some (.Name x pos')) pos.line X.env = pure false := by rfl)
   (hf : X.fn x = true ∨ X.env.scope.names.lookup x = some .local := by first | exact .inl rfl | exact .inr rfl | assumption) : HS X (.Assign [.Name x pos'] e pos) (tSet3 i te) := fun D ρ M h =>
 (ps_set hN hi hx (he.d (ρ := ρ)) hs hf).imp fun D2 σ H ⟨hr, hh, en⟩ => ⟨M, _, h, hr, hh, fun t v M1 H1 k1 h1 r1 q1 => en.nx _ M1 _ H1 k1 ((hr.kp k1).set i r1) h1 q1⟩
noncomputable abbrev TG3 := T → En → MH → (En → MH → Prop) → Prop
noncomputable abbrev TGs3 := List T → En → MH → (En → MH → Prop) → Prop
noncomputable def EndG (K : PySem.W.Frag) (H : Hp) (Q : En → MH → Prop) (Q2 : St → Hp → Prop) : Prop := ∀ ρ' M' σ' H', Kp K H H' → RhoR K σ' H' ρ' → HR K H' M' → Q ρ' M' → Q2 σ' H'
noncomputable def dG (K : PySem.W.Frag) (g : TG3) : TG := fun v σ H Q2 => ∃ t ρ M Q, g t ρ M Q ∧ Rep K H v t ∧ RhoR K σ H ρ ∧ HR K H M ∧ EndG K H Q Q2
noncomputable def dGs (K : PySem.W.Frag) (g : TGs3) : TGs := fun vs σ H Q2 => ∃ ts ρ M Q, g ts ρ M Q ∧ Reps K H vs ts ∧ RhoR K σ H ρ ∧ HR K H M ∧ EndG K H Q Q2
noncomputable def HG (X : Cx) (tg : Expr) (g : TG3) : Prop := PG X tg (dG X.K g)
noncomputable def HGs (X : Cx) (tgs : List Expr) (g : TGs3) : Prop := PGs X tgs (dGs X.K g)
noncomputable def gName3 (i : Nat) : TG3 := fun t ρ M Q => Q (ρ.set i (some t)) M
theorem PG.imp {tg : Expr} {g g' : TG} (h : PG X tg g) (f : ∀ v σ H Q, g' v σ H Q → g v σ H Q) : PG X tg g' := fun pins s σ H v u Q I r q => h pins s σ H v u Q I r (f v σ H Q q)
theorem PGs.imp {tg : List Expr} {g g' : TGs} (h : PGs X tg g) (f : ∀ v σ H Q, g' v σ H Q → g v σ H Q) : PGs X tg g' := fun pins s σ H v u Q I r q => h pins s σ H v u Q I r (f v σ H Q q)
theorem g_name {i : Nat} {x : Str} (hN : X.N.Nodup) (hi : X.N[i]? = some x := by rfl) (hx : Loc X.env.scope x := by first | exact Or.inl rfl | exact Or.inr rfl) (hf : X.fn x = true ∨ X.env.scope.names.lookup x = some .local := by first | exact .inl rfl | exact .inr rfl | assumption) : HG X (.Name x pos) (gName3 i) :=
 (pg_name hN hi hx hf).imp fun v σ H Q2 ⟨t, ρ, M, Q, q, r, hr, hh, en⟩ => en _ M _ H Kp.refl (hr.set i r) hh q
noncomputable def gNil3 : TGs3 := fun ts ρ M Q => ts = [] ∧ Q ρ M
noncomputable def gCons3 (g : TG3) (gs : TGs3) : TGs3 := fun ts ρ M Q => match ts with
 | t :: r => g t ρ M fun ρ1 M1 => gs r ρ1 M1 Q
 | [] => False
theorem gs_nil : HGs X [] gNil3 := pgs_nil.imp fun v σ H Q2 ⟨ts, ρ, M, Q, ⟨e, q⟩, r, hr, hh, en⟩ => by
 subst e
 unfold Reps at r
 exact ⟨r, en ρ M σ H Kp.refl hr hh q⟩
theorem gs_cons {es : List Expr} {g : TG3} {gs : TGs3} (h1 : HG X e g) (h2 : HGs X es gs) (hs : (assignEach (e :: es) X.env).map (·.2) = assign e X.env :: (assignEach es X.env).map (·.2) := by rfl) : HGs X (e :: es) (gCons3 g gs) :=
 (pgs_cons h1 h2 hs).imp fun vs σ H Q2 ⟨ts, ρ, M, Q, q, r, hr, hh, en⟩ => by
   unfold gCons3 at q
   split at q
   · rename_i t r'
     unfold Reps at r
     obtain ⟨v, vr, rfl, r1, r2⟩ := r
     exact ⟨v, vr, rfl, t, ρ, M, _, q, r1, hr, hh, fun ρ' M' σ' H' k hr' hh' q' => ⟨r', ρ', M', Q, q', Reps.kp k _ _ r2, hr', hh', fun ρ2 M2 σ2 H2 k2 => en ρ2 M2 σ2 H2 (k.trans k2)⟩⟩
   · exact q.elim
noncomputable def gTup3 (n : Nat) (gs : TGs3) : TG3 := fun t ρ M Q => match t with
 | .tup ts => ts.length = n ∧ gs ts ρ M Q
 | _ => False
theorem g_tup {es : List Expr} {k : Nat} {gs : TGs3} {n : Nat} (hc : X.calm = true) (h : HGs X es gs) (hn : (assignEach es X.env).length = n := by rfl) (hst : (assignEach es X.env).findIdx? (·.1) = none := by rfl) : HG X (.Tuple es k pos) (gTup3 n gs) :=
 (pg_tup hc h hn hst).imp fun v σ H Q2 ⟨t, ρ, M, Q, q, r, hr, hh, en⟩ => by
   unfold gTup3 at q
   split at q
   · rename_i ts
     obtain ⟨a, xs, rfl, g1, g2⟩ := inv_tup r
     exact ⟨a, xs, rfl, g1, by rw [g2.length]; exact q.1, ts, ρ, M, Q, q.2, g2, hr, hh, en⟩
   · exact q.elim
noncomputable def gSub3 (to ti : TE3) : TG3 := fun v ρ M Q => to ρ M fun o M1 => ti ρ M1 fun i M2 => match o, i with
 | .adr p, .int k => (match M2 p with
   | some (.lst ts) => (match ixN ts.length k with | some j => Q ρ (updM M2 p (.lst (ts.set j v))) | none => False)
   | _ => False)
 | _, _ => False
theorem g_sub {o i : Expr} {to ti : TE3} (ho : HE X o to) (hi : HE X i ti)
   (ha : ∀ v, assign (.Subscript o i pos) X.env v = (do
     let ov ← holding [v] (eval o X.env)
     let iv ← holding [v, ov] (eval i X.env)
     standAt pos
     holding [v, ov, iv] (setItem ov iv v)
     release [v, ov, iv] []) := by intro _; rfl) : HG X (.Subscript o i pos) (gSub3 to ti) := by
 intro pins s σ H v u Q2 I r h
 obtain ⟨t, ρ, M, Q, q, rt, hr, hh, en⟩ := h
 refine pg_sub (ho.d (ρ := ρ)) (hi.d (ρ := ρ)) set_list ha pins s σ H v u Q2 I r ?_
 refine ⟨M, _, q, hr, hh, fun ot ov M1 H1 k1 h1 r1 q1 => ⟨M1, _, q1, hr.kp k1, h1, fun it iv M2 H2 k2 h2 r2 q2 => ?_⟩⟩
 dsimp only at q2
 split at q2
 · obtain rfl := inv_adr r1
   obtain rfl := inv_int r2
   split at q2
   · rename_i ts e0
     obtain ⟨xs, g1, g2⟩ := h2 _ _ e0
     split at q2
     · rename_i j ej
       have kk := k1.trans k2
       refine ⟨_, xs, _, j, rfl, rfl, g1, by rw [g2.length]; exact ej, en _ _ σ _ (kk.trans (Kp.lst g1)) (hr.kp (kk.trans (Kp.lst g1))) (h2.setL g1 (g2.set (Rep.kp kk _ _ rt) j)) q2⟩
     · exact q2.elim
   · exact q2.elim
 · exact q2.elim
noncomputable def tAsg3 (te : TE3) (g : TG3) : TS3 := fun D ρ M => te ρ M fun x M1 => g x ρ M1 D.nx
theorem s_asg {tg : Expr} {g : TG3} (he : HE X e te) (hg : HG X tg g) (hs : swapsWithSole [tg] e pos.line X.env = pure false := by rfl) (hw : swappedStores [tg] e X.env = pure none := by rfl)
   (h1 : (assignEach [tg] X.env).map (·.2) = [assign tg X.env] := by rfl) : HS X (.Assign [tg] e pos) (tAsg3 te g) := fun D ρ M h =>
 (ps_asg (he.d (ρ := ρ)) hg hs hw h1).imp fun D2 σ H ⟨hr, hh, en⟩ => ⟨M, _, h, hr, hh, fun t v M1 H1 k1 h1 r1 q1 => ⟨t, ρ, M1, D.nx, q1, r1, hr.kp k1, h1, fun ρ' M' σ' H' k r hh' q => en.nx ρ' M' σ' H' (k1.trans k) r hh' q⟩⟩
structure It3 where
 items : List T
 stay : MH → Prop := fun _ => True
noncomputable abbrev TI3 := En → MH → (It3 → MH → Prop) → Prop
structure ItOk (K : PySem.W.Frag) (H : Hp) (J2 : It) (J : It3) : Prop where
 stop : ∀ H' M', Kp K H H' → HR K H' M' → J.stay M' → J2.stop J.items.length H'
 go : ∀ (i : Nat) (x : T) H' M', J.items[i]? = some x → Kp K H H' → HR K H' M' → J.stay M' → J2.go i H' ∧ ∀ v H'', J2.yld i H' v H'' → Kp K H' H'' ∧ HR K H'' M' ∧ Rep K H'' v x
noncomputable def HI (X : Cx) (tg iter : Expr) (wi : TI3) : Prop := ∀ ρ M R, wi ρ M R → PI X tg iter (fun σ H R2 => RhoR X.K σ H ρ ∧ HR X.K H M ∧ ∀ J J2 M' H', Kp X.K H H' → HR X.K H' M' → ItOk X.K H' J2 J → R J M' → R2 J2 H')
noncomputable def dI (K : PySem.W.Frag) (ρ : En) (wi : TI3) : TI := fun σ H R2 => ∃ M R, wi ρ M R ∧ RhoR K σ H ρ ∧ HR K H M ∧ ∀ J J2 M' H', Kp K H H' → HR K H' M' → ItOk K H' J2 J → R J M' → R2 J2 H'
theorem HI.d {tg iter : Expr} {wi : TI3} {ρ : En} (h : HI X tg iter wi) : PI X tg iter (dI X.K ρ wi) := fun pins s σ H R I ⟨M, R3, q, b⟩ => h ρ M R3 q pins s σ H R I b
theorem PI.imp {tg iter : Expr} {w w' : TI} (h : PI X tg iter w) (f : ∀ σ H R, w' σ H R → w σ H R) : PI X tg iter w' := fun pins s σ H R I q => h pins s σ H R I (f σ H R q)
noncomputable def iSeq3 (tl : TE3) : TI3 := fun ρ M R => tl ρ M fun x M1 => match x with
 | .tup ts => R ⟨ts, fun _ => True⟩ M1
 | .adr p => (match M1 p with | some (.lst ts) => R ⟨ts, fun M' => M' p = some (.lst ts)⟩ M1 | _ => False)
 | _ => False
theorem itok_tup {K : PySem.W.Frag} {H : Hp} {a : Addr} {xs : List V} {ts : List T} (h : SqT K H a xs) (r : Reps K H xs ts) : ItOk K H (Itt K a) ⟨ts, fun _ => True⟩ := by
 refine ⟨fun H' M' k hh _ => ⟨xs, k.tup _ _ h, by rw [r.length]; exact Nat.le_refl _⟩, fun i x H' M' e k hh _ => ?_⟩
 obtain ⟨v, e1, r1⟩ := r.get e
 refine ⟨⟨xs, v, k.tup _ _ h, e1⟩, fun v' H'' y => ?_⟩
 obtain ⟨rfl, y⟩ := y
 have := y xs (k.tup _ _ h)
 rw [e1] at this; cases this
 exact ⟨Kp.refl, hh, Rep.kp k _ _ r1⟩
theorem itok_lst {K : PySem.W.Frag} {H : Hp} {a : Addr} {ts : List T} : ItOk K H (Itl K a) ⟨ts, fun M' => M' a = some (.lst ts)⟩ := by
 refine ⟨fun H' M' k hh st => ?_, fun i x H' M' e k hh st => ?_⟩
 · obtain ⟨xs, g1, g2⟩ := hh _ _ st
   exact ⟨xs, SqL.of g1, by rw [g2.length]; exact Nat.le_refl _⟩
 · obtain ⟨xs, g1, g2⟩ := hh _ _ st
   obtain ⟨v, e1, r1⟩ := g2.get e
   refine ⟨⟨xs, v, SqL.of g1, e1⟩, fun v' H'' y => ?_⟩
   obtain ⟨rfl, y⟩ := y
   have := y xs (SqL.of g1)
   rw [e1] at this; cases this
   exact ⟨Kp.refl, hh, r1⟩
noncomputable def rangeT (lo : Int) (n : Nat) : List T := (List.range n).map fun i => T.int (lo + (i : Nat))
theorem itok_range {K : PySem.W.Frag} {H : Hp} {lo : Int} {n : Nat} : ItOk K H (Itr lo n) ⟨rangeT lo n, fun _ => True⟩ := by
 have hl : (rangeT lo n).length = n := by unfold rangeT; simp
 refine ⟨fun H' M' k hh _ => by show n ≤ (rangeT lo n).length; rw [hl]; exact Nat.le_refl _, fun i x H' M' e k hh _ => ?_⟩
 have hi : i < n := by have := (List.getElem?_eq_some_iff.mp e).1; rwa [hl] at this
 have ex : x = .int (lo + (i : Nat)) := by
   unfold rangeT at e
   rw [List.getElem?_map, List.getElem?_range hi] at e
   exact (Option.some.inj e).symm
 subst ex
 refine ⟨hi, fun v H'' y => ?_⟩
 obtain ⟨rfl, rfl⟩ := y
 exact ⟨Kp.refl, hh, rep_int⟩
theorem i_seq {tg l : Expr} {tl : TE3} (hl : HE X l tl) : HI X tg l (iSeq3 tl) := by
 intro ρ M R h pins s σ H R2 I b
 obtain ⟨hr, hh, en⟩ := b
 refine thn (hl ρ M _ h pins s σ H (fun v H1 => ∃ t M1, Kp X.K H H1 ∧ HR X.K H1 M1 ∧ Rep X.K H1 v t ∧ (match t with
   | .tup ts => R ⟨ts, fun _ => True⟩ M1
   | .adr p => (match M1 p with | some (.lst ts) => R ⟨ts, fun M' => M' p = some (.lst ts)⟩ M1 | _ => False)
   | _ => False)) I ⟨hr, hh, fun t v M1 H1 k1 h1 r1 q1 => ⟨t, M1, k1, h1, r1, q1⟩⟩) fun v s1 ⟨x, H1, I1, rv, t, M1, k1, h1, r1, q1⟩ => ?_
 split at q1
 · rename_i ts
   obtain ⟨a, xs, rfl, g1, g2⟩ := inv_tup r1
   cases rv
   obtain ⟨its, rv, p, hz⟩ := I1.tuple g1
   refine wpAny_pyIter_tuple (show s1.heap.IsTuple a its.toArray from p) ?_
   refine ⟨s1.heap.objs.size, [s1.heap.objs.size], _, _, H1, rfl, I1.kept (t' := s1.toks) fun b o e => Heap.get?_push_of_some _ e, turn_tuple a _, ⟨_, Heap.get?_push_size _ rfl, rfl, rfl⟩, fun b hb => ?_, en _ _ M1 H1 k1 h1 (itok_tup g1 g2) q1⟩
   have e : b = s1.heap.objs.size := by simpa using hb
   subst e
   exact I1.fpOk (Nat.le_refl _) (I1.hok.fresh (Nat.le_refl _))
 · rename_i a
   obtain rfl := inv_adr r1
   cases rv
   split at q1
   · rename_i ts e0
     obtain ⟨xs, g1, g2⟩ := h1 _ _ e0
     obtain ⟨its, rv, p, hz⟩ := I1.list (SqL.of g1)
     refine wpAny_pyIter_list p.isList ?_
     refine ⟨s1.heap.objs.size, [s1.heap.objs.size], _, _, H1, rfl, I1.kept (t' := s1.toks) fun b o e => Heap.get?_push_of_some _ e, turn_list a _, ⟨_, Heap.get?_push_size _ rfl, rfl, rfl⟩, fun b hb => ?_, en _ _ M1 H1 k1 h1 itok_lst q1⟩
     have e : b = s1.heap.objs.size := by simpa using hb
     subst e
     exact I1.fpOk (Nat.le_refl _) (I1.hok.fresh (Nat.le_refl _))
   · exact q1.elim
 · exact q1.elim
noncomputable def iRng1_3 (t : TA3) : TI3 := fun ρ M R => t ρ M fun xs M1 => match xs with
 | [.int j] => -(2 ^ 62) ≤ j ∧ j < 2 ^ 62 ∧ R ⟨rangeT 0 j.toNat, fun _ => True⟩ M1
 | _ => False
noncomputable def iRng2_3 (t : TA3) : TI3 := fun ρ M R => t ρ M fun xs M1 => match xs with
 | [.int i, .int j] => (-(2 ^ 62) ≤ i ∧ i < 2 ^ 62 ∧ -(2 ^ 62) ≤ j ∧ j < 2 ^ 62) ∧ R ⟨rangeT i (j - i).toNat, fun _ => True⟩ M1
 | _ => False
theorem i_range1 {tg : Expr} {t : TA3} {p : Pos} (hm : X.mg "range" = none) (ha : HA X [a] t) (hg : Gl X "range" := by rfl) (hs : starEach [a] X.env = [(false, eval a X.env)] := by rfl) : HI X tg (.Call (.Name "range" p) [a] [] pos) (iRng1_3 t) := fun ρ M R h =>
 (pi_range1 hg hm (ha.d (ρ := ρ)) hs).imp fun σ H R2 ⟨hr, hh, en⟩ => ⟨M, _, h, hr, hh, fun ts vs M1 H1 k1 h1 r1 q1 => by
   dsimp only at q1
   split at q1
   · rename_i j
     obtain ⟨v, rfl, rv⟩ := reps1 r1
     obtain rfl := inv_int rv
     exact ⟨j, rfl, q1.1, q1.2.1, en _ _ M1 H1 k1 h1 itok_range q1.2.2⟩
   · exact q1.elim⟩
theorem i_range2 {tg : Expr} {t : TA3} {p : Pos} (hm : X.mg "range" = none) (ha : HA X [a, b] t) (hg : Gl X "range" := by rfl) (hs : starEach [a, b] X.env = [(false, eval a X.env), (false, eval b X.env)] := by rfl) (hs2 : starEach [b] X.env = [(false, eval b X.env)] := by rfl) : HI X tg (.Call (.Name "range" p) [a, b] [] pos) (iRng2_3 t) := fun ρ M R h =>
 (pi_range2 hg hm (ha.d (ρ := ρ)) hs hs2).imp fun σ H R2 ⟨hr, hh, en⟩ => ⟨M, _, h, hr, hh, fun ts vs M1 H1 k1 h1 r1 q1 => by
   dsimp only at q1
   split at q1
   · rename_i i j
     obtain ⟨v, w', rfl, rv, rw'⟩ := reps2 r1
     obtain rfl := inv_int rv
     obtain rfl := inv_int rw'
     exact ⟨i, j, rfl, q1.1, en _ _ M1 H1 k1 h1 itok_range q1.2⟩
   · exact q1.elim⟩
noncomputable def tFor3 (wi : TI3) (g : TG3) (tb : TS3) : TS3 := fun D ρ M => wi ρ M fun J M1 => ∃ W : Nat → En → MH → Prop, W 0 ρ M1 ∧ (∀ i ρ M, W i ρ M → J.stay M) ∧
 (∀ i x ρ M, J.items[i]? = some x → W i ρ M → g x ρ M fun ρ2 M2 => tb { D with nx := W (i + 1), ct := W (i + 1), bk := D.nx } ρ2 M2) ∧ ∀ ρ M, W J.items.length ρ M → D.nx ρ M
theorem s_for {tg iter : Expr} {wi : TI3} {g : TG3} {tb : TS3} (hp : PassesOwn (model X.prog X.w) X.A X.env X.xe) (hc : X.calm = true) (hi : HI X tg iter wi) (hg : HG X tg g) (hb : HSs X body tb)
   (hs : ∀ x, foldedSetIterable iter X.env x = pure x := by intro _; rfl) : HS X (.For tg iter body [] pos) (tFor3 wi g tb) := fun D ρ0 M0 h =>
 (ps_for hp hc (hi.d (ρ := ρ0)) hg hb.d hs).imp fun D2 σ0 H0 ⟨hr0, hh0, en⟩ => ⟨M0, _, h, hr0, hh0, fun J J2 M1 H1 k1 h1 ok q1 => by
   obtain ⟨W, w0, wst, turn, fin⟩ := q1
   refine ⟨fun i m σ H => m = J.items.length - i ∧ i ≤ J.items.length ∧ Kp X.K H1 H ∧ ∃ ρ M, RhoR X.K σ H ρ ∧ HR X.K H M ∧ W i ρ M, ⟨_, rfl, Nat.zero_le _, Kp.refl, ρ0, M1, hr0.kp k1, h1, w0⟩, ?_⟩
   rintro i m σ H ⟨rfl, hi, kk, ρ, M, hr, hh, w⟩
   have st := wst i ρ M w
   by_cases hlt : i < J.items.length
   · have e : J.items[i]? = some J.items[i] := List.getElem?_eq_getElem hlt
     obtain ⟨go, yl⟩ := ok.go i _ H M e kk hh st
     refine .inr ⟨go, fun σ' H' => i + 1 ≤ J.items.length ∧ Kp X.K H1 H' ∧ ∃ ρ M, RhoR X.K σ' H' ρ ∧ HR X.K H' M ∧ W (i + 1) ρ M, fun σ' H' ⟨a, b, c⟩ => ⟨_, by lia, rfl, a, b, c⟩, fun v H' y => ?_⟩
     obtain ⟨k2, h2, r2⟩ := yl v H' y
     refine ⟨J.items[i], ρ, M, _, turn i _ ρ M e w, r2, hr.kp k2, h2, fun ρ3 M3 σ3 H3 k3 hr3 hh3 q3 => ⟨_, ρ3, M3, q3, hr3, hh3, ?_⟩⟩
     have kall := kk.trans (k2.trans k3)
     refine ⟨fun ρ4 M4 σ4 H4 k4 hr4 hh4 q4 => ⟨hlt, kall.trans k4, ρ4, M4, hr4, hh4, q4⟩, fun t v M4 H4 k4 h4 r4 q4 => en.rt t v M4 H4 (k1.trans (kall.trans k4)) h4 r4 q4, fun ρ4 M4 σ4 H4 k4 hr4 hh4 q4 => en.nx ρ4 M4 σ4 H4 (k1.trans (kall.trans k4)) hr4 hh4 q4, fun ρ4 M4 σ4 H4 k4 hr4 hh4 q4 => ⟨hlt, kall.trans k4, ρ4, M4, hr4, hh4, q4⟩⟩
   · have e : i = J.items.length := by lia
     subst e
     exact .inl ⟨ok.stop H M kk hh st, en.nx ρ M σ H (k1.trans kk) hr hh (fin ρ M w)⟩⟩
noncomputable def tWhile3 (c : TT3) (tb : TS3) : TS3 := fun D ρ M => ∃ W : Nat → En → MH → Prop, (∃ m, W m ρ M) ∧ ∀ m ρ M, W m ρ M →
 c ρ M fun b M1 => if b = true then tb { D with nx := fun ρ' M' => ∃ m', m' < m ∧ W m' ρ' M', ct := fun ρ' M' => ∃ m', m' < m ∧ W m' ρ' M', bk := D.nx } ρ M1 else D.nx ρ M1
theorem s_while {c : Expr} {tc : TT3} {tb : TS3} (hp : PassesOwn (model X.prog X.w) X.A X.env X.xe) (hc : HT X c tc) (hb : HSs X body tb) : HS X (.While c body [] pos) (tWhile3 tc tb) := by
 intro D ρ0 M0 h pins s σ H D2 I b
 obtain ⟨hr0, hh0, en⟩ := b
 obtain ⟨W, ⟨m0, w0⟩, turn⟩ := h
 refine wpAny_While (codeAny_whileLoop (fun n s' => ∃ σ' H' ρ M, Inv X pins σ' H' s' ∧ Kp X.K H H' ∧ RhoR X.K σ' H' ρ ∧ HR X.K H' M ∧ W n ρ M) ?_ m0 ⟨σ, H, ρ0, M0, I, Kp.refl, hr0, hh0, w0⟩)
 rintro n s1 ⟨σ1, H1, ρ, M, I1, k1, hr, hh, w1⟩
 refine wpAny_passesOwn hp (thn (hc ρ M _ (turn n ρ M w1) pins s1 σ1 H1 (fun b H2 => ∃ M2, Kp X.K H1 H2 ∧ HR X.K H2 M2 ∧ (if b = true then tb { D with nx := fun ρ' M' => ∃ m', m' < n ∧ W m' ρ' M', ct := fun ρ' M' => ∃ m', m' < n ∧ W m' ρ' M', bk := D.nx } ρ M2 else D.nx ρ M2)) I1 ⟨hr, hh, fun b M2 H2 k2 h2 q2 => ⟨M2, k2, h2, q2⟩⟩) fun b s2 ⟨H2, I2, M2, k2, h2, q2⟩ => ?_)
 have kk := k1.trans k2
 cases b with
 | true =>
   rw [if_pos rfl] at q2
   rw [if_pos rfl]
   refine wpAny_passesOwn hp (thn (hb _ ρ M2 q2 pins s2 σ1 H2 { nx := fun σ' H' => ∃ ρ' M', Kp X.K H2 H' ∧ RhoR X.K σ' H' ρ' ∧ HR X.K H' M' ∧ ∃ m', m' < n ∧ W m' ρ' M', rt := D2.rt, bk := D2.nx, ct := fun σ' H' => ∃ ρ' M', Kp X.K H2 H' ∧ RhoR X.K σ' H' ρ' ∧ HR X.K H' M' ∧ ∃ m', m' < n ∧ W m' ρ' M' } I2
     ⟨hr.kp k2, h2, ⟨fun ρ' M' σ' H' k r hh' q => ⟨ρ', M', k, r, hh', q⟩, en.rt.kp kk, fun ρ' M' σ' H' k r hh' q => en.nx ρ' M' σ' H' (kk.trans k) r hh' q, fun ρ' M' σ' H' k r hh' q => ⟨ρ', M', k, r, hh', q⟩⟩⟩) fun f s3 q3 => ?_)
   cases f with
   | next =>
     obtain ⟨σ3, H3, I3, ρ', M', k3, r3, h3, m', hm, w3⟩ := q3
     exact ⟨m', hm, σ3, H3, ρ', M', I3, kk.trans k3, r3, h3, w3⟩
   | cont =>
     obtain ⟨σ3, H3, I3, ρ', M', k3, r3, h3, m', hm, w3⟩ := q3
     exact ⟨m', hm, σ3, H3, ρ', M', I3, kk.trans k3, r3, h3, w3⟩
   | brk => exact q3
   | ret v => exact q3
 | false =>
   rw [if_neg Bool.false_ne_true] at q2
   rw [if_neg Bool.false_ne_true]
   exact wpAny_execs_nil ⟨σ1, H2, I2, en.nx ρ M2 σ1 H2 kk (hr.kp k2) h2 q2⟩
noncomputable def pick3 (ix : List (Option Nat)) (ρ : En) : En := ix.map fun o => match o with | some j => (ρ[j]?).join | none => none
theorem rho_pick {K : PySem.W.Frag} {σ : St} {H : Hp} {ρ : En} (ix : List (Option Nat)) (h : RhoR K σ H ρ) : RhoR K (pick ix σ) H (pick3 ix ρ) := by
 refine ⟨by unfold pick pick3; simp, fun i t e => ?_⟩
 unfold pick3 at e
 unfold pick
 rw [List.getElem?_map] at e ⊢
 cases hx : ix[i]? with
 | none => rw [hx] at e; cases e
 | some o =>
   rw [hx] at e
   cases o with
   | none =>
     have e' : (none : Option T) = some t := Option.some.inj e
     cases e'
   | some j =>
     have e' : (ρ[j]?).join = some t := Option.some.inj e
     cases hj : ρ[j]? with
     | none => rw [hj] at e'; cases e'
     | some u =>
       rw [hj] at e'
       have e2 : u = some t := e'
       subst e2
       obtain ⟨v, a, b⟩ := h.2 j t hj
       exact ⟨v, by show some ((σ[j]?).join) = some (some v); rw [a] <;> rfl, b⟩
noncomputable def tComp3 (wi : TI3) (ix : List (Option Nat)) (g : TG3) (tt : TT3) (te : TE3) : TE3 := fun ρ M Q => wi ρ M fun J M1 => ∃ W : Nat → List T → MH → Prop, W 0 [] M1 ∧ (∀ i ys M, W i ys M → J.stay M) ∧ J.items.length < sizeLine ∧
 (∀ i x ys M, J.items[i]? = some x → W i ys M → g x (pick3 ix ρ) M fun ρ2 M2 => tt ρ2 M2 fun ok M3 => if ok = true then te ρ2 M3 fun y M4 => W (i + 1) (ys ++ [y]) M4 else W (i + 1) ys M3) ∧
 ∀ ys M, W J.items.length ys M → ∀ p, M p = none → Q (.adr p) (updM M p (.lst ys))
noncomputable def HTs (X : Cx) (ifs : List Expr) (t : TT3) : Prop := ∀ ρ M Q, t ρ M Q → PTs X ifs (bT X.K ρ M Q)
noncomputable def tYes3 : TT3 := fun _ M Q => Q true M
theorem ts_nil : HTs X [] tYes3 := fun ρ M Q h pins s σ H Q2 I ⟨hr, hh, en⟩ => pts_nil pins s σ H Q2 I (en true M H Kp.refl hh h)
theorem ts_one {c : Expr} {t : TT3} (h : HT X c t) : HTs X [c] t := fun ρ M Q q => pts_one (h ρ M Q q)
end
end L2
namespace L2
open PySem PySem.Spec PyProof.Rows
noncomputable def dEx (K : PySem.W.Frag) (t : TE3) : TE := fun σ H Q2 => ∃ ρ M Q, t ρ M Q ∧ bE K ρ M Q σ H Q2
noncomputable def dTx (K : PySem.W.Frag) (t : TT3) : TT := fun σ H Q2 => ∃ ρ M Q, t ρ M Q ∧ bT K ρ M Q σ H Q2
section
variable {X : Cx} {e : Expr}
theorem HE.dx {t : TE3} (h : HE X e t) : PE X e (dEx X.K t) := fun pins s σ H Q I ⟨ρ, M, Q3, q, b⟩ => h ρ M Q3 q pins s σ H Q I b
theorem HTs.dx {ifs : List Expr} {t : TT3} (h : HTs X ifs t) : PTs X ifs (dTx X.K t) := fun pins s σ H Q I ⟨ρ, M, Q3, q, b⟩ => h ρ M Q3 q pins s σ H Q I b
structure BTg (K : PySem.W.Frag) (ix : List (Option Nat)) (g2 : TG) (g3 : TG3) : Prop where
 own : Own ix g2
 br : ∀ (t : T) (v : V) (ρ : En) (M : MH) (σ : St) (H : Hp) (Q3 : En → MH → Prop) (Q2 : St → Hp → Prop), Rep K H v t → RhoR K σ H ρ → HR K H M → g3 t ρ M Q3 → EndG K H Q3 Q2 → g2 v σ H Q2
theorem bt_name {K : PySem.W.Frag} {ix : List (Option Nat)} {i : Nat} (h : ix[i]? = some none := by rfl) : BTg K ix (gName i) (gName3 i) :=
 ⟨own_name h, fun t v ρ M σ H Q3 Q2 r hr hh q en => en _ M _ H Kp.refl (hr.set i r) hh q⟩
variable {elt iter tg : Expr} {ifs : List Expr} {pos : Pos} {scope : Scope} {N' : List Str} {ix : List (Option Nat)} {wi : TI3} {g2 : TG} {g3 : TG3} {tt : TT3} {te : TE3}
theorem comp_red {X : Cx} {N' : List Str} {ix : List (Option Nat)} {wi : TI3} {g2 : TG} {g3 : TG3} {tt : TT3} {te : TE3} (bt : BTg X.K ix g2 g3) (ρ0 : En) (M0 : MH) (Q : VK3) (h : tComp3 wi ix g3 tt te ρ0 M0 Q) (σ0 : St) (H0 : Hp) (Q2 : VK) (bb : bE X.K ρ0 M0 Q σ0 H0 Q2) :
   tComp (dI X.K ρ0 wi) ix g2 (dTx X.K tt) (dEx X.K te) σ0 H0 Q2 := by
 obtain ⟨hr0, hh0, en⟩ := bb
 exact ⟨M0, _, h, hr0, hh0, fun J J2 M1 H1 k1 h1 ok q1 => by
   obtain ⟨W, w0, wst, hsz, turn, fin⟩ := q1
   refine ⟨fun i m ys H => m = J.items.length - i ∧ i ≤ J.items.length ∧ ys.length ≤ i ∧ Kp X.K H1 H ∧ ∃ ts M, Reps X.K H ys ts ∧ HR X.K H M ∧ W i ts M, ⟨_, rfl, Nat.zero_le _, Nat.zero_le _, Kp.refl, [], M1, .nil, h1, w0⟩, ?_⟩
   rintro i m ys H ⟨rfl, hi, hy, kk, ts, M, rts, hh, w⟩
   have st := wst i ts M w
   by_cases hlt : i < J.items.length
   · have e : J.items[i]? = some J.items[i] := List.getElem?_eq_getElem hlt
     obtain ⟨go, yl⟩ := ok.go i _ H M e kk hh st
     refine .inr ⟨go, by lia, fun v H' y => ?_⟩
     obtain ⟨k2, h2, r2⟩ := yl v H' y
     have kk2 := kk.trans k2
     refine bt.br J.items[i] v _ M _ H' _ _ r2 (rho_pick ix (hr0.kp (k1.trans kk2))) h2 (turn i _ ts M e w) fun ρ3 M3 σ3 H3 k3 hr3 hh3 q3 => ⟨ρ3, M3, _, q3, hr3, hh3, fun b M4 H4 k4 h4 q4 => ?_⟩
     have kk4 := kk2.trans (k3.trans k4)
     dsimp only at q4 ⊢
     cases b with
     | true =>
       rw [if_pos rfl] at q4 ⊢
       refine ⟨ρ3, M4, _, q4, hr3.kp k4, h4, fun t5 v5 M5 H5 k5 h5 r5 q5 => ⟨_, Nat.sub_lt_sub_left hlt (Nat.lt_succ_self i), rfl, hlt, ?_, kk4.trans k5, ts ++ [t5], M5, ?_, h5, q5⟩⟩
       · rw [List.length_append, List.length_singleton]; lia
       · exact (Reps.kp (k2.trans (k3.trans (k4.trans k5))) _ _ rts).append (.cons r5 .nil)
     | false =>
       rw [if_neg Bool.false_ne_true] at q4 ⊢
       exact ⟨_, Nat.sub_lt_sub_left hlt (Nat.lt_succ_self i), rfl, hlt, by lia, kk4, ts, M4, Reps.kp (k2.trans (k3.trans k4)) _ _ rts, h4, q4⟩
   · have e : i = J.items.length := by lia
     subst e
     refine .inl ⟨ok.stop H M kk hh st, by lia, fun p hp => ?_⟩
     exact en _ _ _ _ (k1.trans (kk.trans (Kp.new hp))) (hh.newL hp rts) rep_adr (fin ts M w p (hh.free hp))⟩
theorem h_comp (hc : X.calm = true) (hi : HI X tg iter wi) (S : BlkScope X N' ix scope) (bt : BTg X.K ix g2 g3) (hg : ∀ C s H fp pins, PG (blk X N' scope C s H fp pins) tg g2)
   (ht : ∀ C s H fp pins, HTs (blk X N' scope C s H fp pins) ifs tt) (he : ∀ C s H fp pins, HE (blk X N' scope C s H fp pins) elt te)
   (hs : ∀ x, foldedSetIterable iter X.env x = pure x := by intro _; rfl) :
   HE X (.ListComp elt [⟨tg, iter, ifs, 0⟩] scope pos) (tComp3 wi ix g3 tt te) := fun ρ0 M0 Q h =>
 (pe_comp (tt := dTx X.K tt) (te := dEx X.K te) hc (hi.d (ρ := ρ0)) S bt.own hg (fun C s H fp pins => (ht C s H fp pins).dx) (fun C s H fp pins => (he C s H fp pins).dx) hs).imp fun σ0 H0 Q2 bb => comp_red (X := X) (N' := N') bt ρ0 M0 Q h σ0 H0 Q2 bb
noncomputable def start3 (N : List Str) (ts : List T) : En := ts.map some ++ List.replicate (N.length - ts.length) none
theorem rho_start {K : PySem.W.Frag} {H : Hp} {N : List Str} {vs : List V} {ts : List T} (r : Reps K H vs ts) : RhoR K (start N vs) H (start3 N ts) := by
 have hl := r.length
 refine ⟨by unfold start start3; simp [hl], fun i t e => ?_⟩
 unfold start3 at e
 unfold start
 by_cases hi : i < ts.length
 · rw [List.getElem?_append_left (by simpa using hi), List.getElem?_map] at e
   cases q : ts[i]? with
   | none => rw [q] at e; cases e
   | some u =>
     rw [q] at e
     cases e
     obtain ⟨v, a, b⟩ := r.get q
     refine ⟨v, ?_, b⟩
     rw [List.getElem?_append_left (by simpa [hl] using hi), List.getElem?_map, a]
     rfl
 · rw [List.getElem?_append_right (by simpa using hi), List.getElem?_replicate] at e
   split at e <;> cases e
noncomputable def rt3 (M : MH) (Q : VK3) : VK3 := fun t M' => ∃ M0, Sub M0 M' ∧ Q t M0
end
section
variable {P : Program} {w : World} {K : PySem.W.Frag} {mg : Str → Option Value} {base : Heap}
theorem Fun.fnk {x qual : Str} {st : Stmt} {f : Addr} {fd : FuncData} {N ps : List Str} {n : Nat} {sp : Sp3} (F : Fun K x qual st f fd) (S : FnScope N ps (defScope st)) (len : ∀ ts M Q, sp ts M Q → ts.length = ps.length)
   (hbody : ∃ t : TS3, (∀ (cdv : Value) (A : Around) (outer : List Env) (s : Shared) (H : Hp) (E : XK), Room n (A.deeper (envOfC qual (defScope st) s.heap.objs.size f cdv)) →
     HSs (cxOf CX0 P w K mg base N qual (defScope st) f cdv A outer s H E).nox (defBody st) t) ∧
     ∀ ts M Q, sp ts M Q → t { nx := fun _ M' => rt3 M Q .non M', rt := rt3 M Q } (start3 N ts) M) : FnOk P w K mg base CX0 (n + 1) f fd ps (dSp K sp) := by
 obtain ⟨t, hbody, rd⟩ := hbody
 refine F.ok S (fun vs H Q E ⟨ts, M, Q3, r, _, q, _⟩ => by rw [r.length]; exact len _ _ _ q) (fun cdv A outer s H vs Q E hr ⟨ts, M, Q3, r, hh, q, en⟩ => ?_)
 refine ⟨_, hbody cdv A outer s H E hr _ _ _ (rd ts M Q3 q), rho_start r, hh, ⟨?_, ?_, fun _ _ _ _ _ _ _ z => z.elim, fun _ _ _ _ _ _ _ z => z.elim⟩⟩
 · rintro ρ' M' σ' H' k hr' hh' ⟨M0, hs, q'⟩
   exact en .non .non M0 H' k (hh'.sub hs) rep_non q'
 · rintro t' v' M' H' k hh' r' ⟨M0, hs, q'⟩
   exact en t' v' M0 H' k (hh'.sub hs) r' q'
theorem Fun.dfn {x qual : Str} {st : Stmt} {f : Addr} {fd : FuncData} {N ps : List Str} {n : Nat} {sp : Sp3} (F : Fun K x qual st f fd) (hm : mg x = some (.ref f)) (hb : Binds K fd ps []) (S : FnScope N ps (defScope st)) (len : ∀ ts M Q, sp ts M Q → ts.length = ps.length)
   (hbody : ∃ t : TS3, (∀ (cdv : Value) (A : Around) (outer : List Env) (s : Shared) (H : Hp) (E : XK), Room n (A.deeper (envOfC qual (defScope st) s.heap.objs.size f cdv)) →
     HSs (cxOf CX0 P w K mg base N qual (defScope st) f cdv A outer s H E).nox (defBody st) t) ∧
     ∀ ts M Q, sp ts M Q → t { nx := fun _ M' => rt3 M Q .non M', rt := rt3 M Q } (start3 N ts) M) : Df P w K mg base (n + 1) x ps sp :=
 ⟨f, fd, F.fnk S len hbody, hm, F.kp, hb⟩
end
theorem law_walk {l : PySem.W.OpenLaw} {k : Nat} {q : Program} {loose : List Str} {XP : (Str → Option Value) → Heap → Prop} {YP : World → Heap → Prop} {d : DefRec} {K : Params → PySem.W.Frag} {sp : Sp3}
   (hn : l.most = some 63) (hdf : d.params.defaults = []) (hr : Room k callerA) (hY : ∀ (w : World) (h : Heap), YP w h → (K w.params).In h)
   (hs : ∀ (ns : List Int) M Q, ns.length ≤ 63 → Q (.bl true) M → sp [.rd (ns.map .int)] M Q)
   (F : ∀ (w : World) (mg : Str → Option Value) (fa : Addr) (h : Heap), (K w.params).In h → h.Ns mainGlobals mg → mg d.name = some (.ref fa) →
     ∃ fd : FuncData, (∀ (s : Shared) (u : Value), BindsTo s fd ⟨[u], []⟩ [("script", u)]) ∧ ∀ base : Heap, (K w.params).In base → base.Ns mainGlobals mg → FnOk l.prog w (K w.params) mg base CX0 k fa fd ["script"] (dSp (K w.params) sp)) :
   PySem.W.WalkO q loose XP YP l.row.toRowW d [] (fun f vs => PySem.call f vs) := by
 refine L2.walk_of (n := 63) (k := k) (x := "script") (CX := fun _ => CX0) (sp := fun w => dSp (K w.params) sp) hn (by decide) hdf hr hY F (fun w H a ns hl hO hS => ?_) fun _ _ _ _ _ z => z
 have fz : FzL (K w.params) H a (ns.map V.int) := by
   rcases hS with (h | ⟨o, h⟩) | h
   · rcases hO a with z | ⟨ob, xs, z⟩
     · rw [h] at z; cases z
     · rw [h] at z; cases z
   · exact .inl ⟨o, h⟩
   · exact .inr h
 refine ⟨[.rd (ns.map .int)], fun _ => none, fun t _ => t = .bl true, .cons ?_ .nil, (fun _ _ z => by cases z), hs ns _ (fun t _ => t = .bl true) hl rfl, fun t v M' H' _ _ r e => ?_⟩
 · unfold Rep
   exact ⟨a, _, rfl, fz, Reps.of_ints ns⟩
 · subst e
   exact inv_bl r
end L2
namespace L2
open PySem PySem.Spec PyProof.Rows
theorem vals_of_get : ∀ {xs : List V} {us : List Value}, xs.length = us.length → (∀ (j : Nat) x, xs[j]? = some x → ∃ u, us[j]? = some u ∧ RelV x u) → Vals xs us
 | [], [], _, _ => .nil
 | [], _ :: _, h, _ => by simp at h
 | _ :: _, [], h, _ => by simp at h
 | x :: xs, u :: us, h, g => by
   refine .cons ?_ (vals_of_get (by simpa using h) fun j y e => ?_)
   · obtain ⟨w, e, r⟩ := g 0 x rfl
     have : u = w := by simpa using e
     subst this; exact r
   · obtain ⟨w, e', r⟩ := g (j + 1) y (by simpa using e)
     exact ⟨w, by simpa using e', r⟩
noncomputable def rangeV (lo : Int) (n : Nat) : List V := (List.range n).map fun i => V.int (lo + (i : Nat))
theorem rangeV_reps {K : PySem.W.Frag} {H : Hp} (lo : Int) (n : Nat) : Reps K H (rangeV lo n) (rangeT lo n) := by
 have e1 : rangeV lo n = ((List.range n).map fun i => lo + ((i : Nat) : Int)).map V.int := by unfold rangeV; rw [List.map_map]; rfl
 have e2 : rangeT lo n = ((List.range n).map fun i => lo + ((i : Nat) : Int)).map T.int := by unfold rangeT; rw [List.map_map]; rfl
 rw [e1, e2]; exact Reps.of_ints _
section
variable {X : Cx} {a b e : Expr} {es : List Expr} {ta te : TE3} {t : TA3} {pos : Pos}
noncomputable def isLst (M : MH) (x : T) : Prop := match x with
 | .adr p => (match M p with | some (.lst _) => True | _ => False)
 | _ => False
noncomputable abbrev RM3 := T → List T → MH → VK3 → Prop
noncomputable def dM (K : PySem.W.Frag) (r : RM3) : V → List V → Hp → VK → Prop := fun v vs H Q2 => ∃ x xs M Q, Rep K H v x ∧ Reps K H vs xs ∧ HR K H M ∧ r x xs M Q ∧ EndE K H Q Q2
noncomputable def MtR3 (X : Cx) (id : String) (r : RM3) : Prop := MtR X id (dM X.K r)
noncomputable def tLM3 (r : RM3) (to : TE3) (t : TA3) : TE3 := fun ρ M Q => to ρ M fun x M1 => isLst M1 x ∧ t ρ M1 fun xs M2 => r x xs M2 Q
noncomputable def tLM0 (r : RM3) (to : TE3) : TE3 := fun ρ M Q => to ρ M fun x M1 => isLst M1 x ∧ r x [] M1 Q
theorem isLst_ty {K : PySem.W.Frag} {H : Hp} {M : MH} {x : T} {v : V} (hh : HR K H M) (r : Rep K H v x) (h : isLst M x) : tyV K "list" v H := by
 unfold isLst at h
 split at h
 · rename_i p
   split at h
   · rename_i ts e
     obtain ⟨xs, g1, _⟩ := hh _ _ e
     obtain rfl := inv_adr r
     exact .inl ⟨rfl, xs, SqL.of g1⟩
   · exact h.elim
 · exact h.elim
theorem h_lm {o : Expr} {to : TE3} {name : Str} {apos cpos : Pos} {id : String} {r : RM3} (slot : Slot "list" name id) (hty : typeOf (.builtin id) = pure (.type "method_descriptor")) (hm : MtR3 X id r) (ho : HE X o to) (ha : HA X (e :: es) t)
   (hbase : attributeBase o name X.env (eval o X.env) = eval o X.env := by rfl)
   (hfew : ((backTo cpos (starEach (e :: es) X.env)).all (fun x => !x.1) && (backToKw cpos (keywordEach [] X.env)).all (fun x => x.1.isSome)
     && decide ((e :: es).length + ([] : List Keyword).length + (if ([] : List Keyword).isEmpty then 0 else 1) < 30)) = true := by rfl)
   (hline : (apos.endLine == cpos.line) = true := by rfl) (hs : starEach (e :: es) X.env = (false, eval e X.env) :: starEach es X.env := by rfl) (hplain : (backTo cpos (starEach es X.env)).any (·.1) = false := by rfl) :
   HE X (.Call (.Attribute o name apos) (e :: es) [] cpos) (tLM3 r to t) := fun ρ M Q h =>
 (pe_bm PySem.F.plainAttrs_list slot hty hm (ho.d (ρ := ρ)) (ha.d (ρ := ρ)) hbase hfew hline hs hplain).imp fun σ H Q2 ⟨hr, hh, en⟩ => ⟨M, _, h, hr, hh, fun x v M1 H1 k1 h1 r1 q1 => ⟨isLst_ty h1 r1 q1.1, M1, _, q1.2, hr.kp k1, h1, fun ts vs M2 H2 k2 h2 r2 q2 =>
   ⟨x, ts, M2, Q, Rep.kp k2 _ _ r1, r2, h2, q2, en.kp (k1.trans k2)⟩⟩⟩
theorem h_lm0 {o : Expr} {to : TE3} {name : Str} {apos cpos : Pos} {id : String} {r : RM3} (slot : Slot "list" name id) (hty : typeOf (.builtin id) = pure (.type "method_descriptor")) (hm : MtR3 X id r) (ho : HE X o to)
   (hbase : attributeBase o name X.env (eval o X.env) = eval o X.env := by rfl) (hline : (apos.endLine == cpos.line) = true := by rfl) : HE X (.Call (.Attribute o name apos) [] [] cpos) (tLM0 r to) := fun ρ M Q h =>
 (pe_bm0 PySem.F.plainAttrs_list slot hty hm (ho.d (ρ := ρ)) hbase hline).imp fun σ H Q2 ⟨hr, hh, en⟩ => ⟨M, _, h, hr, hh, fun x v M1 H1 k1 h1 r1 q1 => ⟨isLst_ty h1 r1 q1.1, x, [], M1, Q, r1, .nil, h1, q1.2, en.kp k1⟩⟩
noncomputable def rApp3 : RM3 := fun x xs M Q => match x, xs with
 | .adr p, [y] => (match M p with | some (.lst ts) => ts.length < sizeLine ∧ Q .non (updM M p (.lst (ts ++ [y]))) | _ => False)
 | _, _ => False
theorem mt3_append : MtR3 X "list.append" rApp3 := by
 intro pins s σ H v vs u us Q2 I rv rvs h
 obtain ⟨x, xs, M, Q, r1, r2, hh, q, en⟩ := h
 unfold rApp3 at q
 split at q
 · rename_i p y
   split at q
   · rename_i ts e0
     obtain ⟨ys, g1, g2⟩ := hh _ _ e0
     obtain rfl := inv_adr r1
     obtain ⟨w, rfl, rw'⟩ := reps1 r2
     exact mt_append pins s σ H _ _ u us Q2 I rv rvs ⟨_, ys, w, rfl, rfl, g1, by rw [g2.length]; exact q.1, en _ _ _ _ (Kp.lst g1) (hh.setL g1 (g2.append (.cons rw' .nil))) rep_non q.2⟩
   · exact q.elim
 · exact q.elim
noncomputable def rPop3 : RM3 := fun x xs M Q => match x, xs with
 | .adr p, [] => (match M p with | some (.lst ts) => (match ts[ts.length - 1]? with | some y => Q y (updM M p (.lst ts.dropLast)) | none => False) | _ => False)
 | _, _ => False
theorem mt3_pop : MtR3 X "list.pop" rPop3 := by
 intro pins s σ H v vs u us Q2 I rv rvs h
 obtain ⟨x, xs, M, Q, r1, r2, hh, q, en⟩ := h
 unfold rPop3 at q
 split at q
 · rename_i p
   split at q
   · rename_i ts e0
     obtain ⟨ys, g1, g2⟩ := hh _ _ e0
     obtain rfl := inv_adr r1
     unfold Reps at r2
     subst r2
     split at q
     · rename_i y ey
       obtain ⟨w, ew, rw'⟩ := g2.get ey
       rw [← g2.length] at ew
       exact mt_pop pins s σ H _ _ u us Q2 I rv rvs ⟨_, ys, w, rfl, rfl, g1, ew, en _ _ _ _ (Kp.lst g1) (hh.setL g1 g2.dropLast) (Rep.kp (Kp.lst g1) _ _ rw') q⟩
     · exact q.elim
   · exact q.elim
 · exact q.elim
noncomputable def intsT : List T → Option (List Int)
 | [] => some []
 | .int i :: ts => (intsT ts).map (i :: ·)
 | _ :: _ => none
theorem intsT_map : ∀ (ns : List Int), intsT (ns.map T.int) = some ns
 | [] => rfl
 | n :: ns => by show (intsT (ns.map T.int)).map (n :: ·) = _; rw [intsT_map ns]; rfl
theorem intsT_some : ∀ {ts : List T} {ns : List Int}, intsT ts = some ns → ts = ns.map T.int
 | [], ns, e => by unfold intsT at e; cases e; rfl
 | t :: ts, ns, e => by
   cases t with
   | int i =>
     unfold intsT at e
     cases q : intsT ts with
     | none => rw [q] at e; cases e
     | some cs => rw [q] at e; cases e; rw [intsT_some q]; rfl
   | _ => unfold intsT at e; cases e
noncomputable def rIndex3 : RM3 := fun x xs M Q => match x, xs with
 | .adr p, [.int k] => (match M p with
   | some (.lst ts) => (match intsT ts with | some ns => k ∈ ns ∧ Q (.int (ns.idxOf k)) M | none => False)
   | _ => False)
 | _, _ => False
theorem mt3_index : MtR3 X "list.index" rIndex3 := by
 intro pins s σ H v vs u us Q2 I rv rvs h
 obtain ⟨x, xs, M, Q, r1, r2, hh, q, en⟩ := h
 unfold rIndex3 at q
 split at q
 · rename_i p k
   split at q
   · rename_i ts e0
     obtain ⟨ys, g1, g2⟩ := hh _ _ e0
     obtain rfl := inv_adr r1
     obtain ⟨w, rfl, rw'⟩ := reps1 r2
     obtain rfl := inv_int rw'
     split at q
     · rename_i ns en'
       have et := intsT_some en'
       subst et
       obtain rfl := g2.ints
       cases rv
       obtain ⟨w', rfl, tk, rfl⟩ := vals1 rvs
       obtain ⟨its, r', pl, hz⟩ := I.list (SqL.of g1)
       have hl := r'.length
       rw [List.length_map] at hl hz
       obtain ⟨o, n, eo, ec, edd, ed⟩ := id pl
       obtain ⟨cls, dd, data, sl⟩ := o
       simp only at ec edd ed
       subst ec edd ed
       have hk : ns.idxOf k < ns.length := List.idxOf_lt_length_iff.mpr q.1
       have item : ∀ (j : Nat) (hj : j < its.toArray.size), ∃ tk', its.toArray[j] = Value.int (ns[j]'(by rw [List.size_toArray, ← hl] at hj; exact hj)) tk' := fun j hj => by
         have hj' : j < ns.length := by rw [List.size_toArray, ← hl] at hj; exact hj
         obtain ⟨w2, e2, tk', rfl⟩ := r'.get (i := j) (x := V.int ns[j]) (by rw [List.getElem?_map, List.getElem?_eq_getElem hj'] <;> rfl)
         have : its[j]? = some its.toArray[j] := by rw [List.getElem?_eq_getElem (by rw [List.size_toArray] at hj; exact hj)] <;> simp
         rw [e2] at this
         exact ⟨tk', (Option.some.inj this).symm⟩
       let ee : Value → Bool := fun v => match v with | .int i _ => i == k | _ => false
       have hsz := sizeLine_eq
       refine call_meets PySem.F.slot_list_index ⟨_, eo, rfl⟩ PySem.F.entry_list_index (PySem.F.args_list_index_2 _ _)
         (SeqAt.list_indexAt p its.toArray n none sl (.int k tk) ee (ns.idxOf k) (by rw [List.size_toArray, ← hl]; exact hk) (by lia) ?_ ?_) ⟨eo, fun y hy => ?_, ?_⟩
       · obtain ⟨tk', e⟩ := item (ns.idxOf k) (by rw [List.size_toArray, ← hl]; exact hk)
         rw [e]
         show (ns[ns.idxOf k] == k) = true
         simp
       · intro m hm hlt
         obtain ⟨tk', e⟩ := item m hm
         rw [e]
         show (ns[m]'_ == k) = false
         have := List.not_of_lt_findIdx (p := (· == k)) (xs := ns) (i := m) (by simpa [List.idxOf] using hlt)
         simpa using this
       · obtain ⟨j, hj, rfl⟩ := Array.getElem_of_mem hy
         obtain ⟨tk', e⟩ := item j hj
         rw [e]
         exact SeqAt.EqAt.int_int _ _ _ _
       · exact ⟨.int (ns.idxOf k), H, I.tok _, ⟨_, rfl⟩, en _ _ M H Kp.refl hh rep_int q.2⟩
     · exact q.elim
   · exact q.elim
 · exact q.elim
theorem h_m_append {o : Expr} {to : TE3} {apos cpos : Pos} (ho : HE X o to) (ha : HA X (e :: es) t)
   (hbase : attributeBase o "append" X.env (eval o X.env) = eval o X.env := by rfl)
   (hfew : ((backTo cpos (starEach (e :: es) X.env)).all (fun x => !x.1) && (backToKw cpos (keywordEach [] X.env)).all (fun x => x.1.isSome)
     && decide ((e :: es).length + ([] : List Keyword).length + (if ([] : List Keyword).isEmpty then 0 else 1) < 30)) = true := by rfl)
   (hline : (apos.endLine == cpos.line) = true := by rfl) (hs : starEach (e :: es) X.env = (false, eval e X.env) :: starEach es X.env := by rfl) (hplain : (backTo cpos (starEach es X.env)).any (·.1) = false := by rfl) :
   HE X (.Call (.Attribute o "append" apos) (e :: es) [] cpos) (tLM3 rApp3 to t) := h_lm PySem.F.slot_list_append PySem.F.type_list_append mt3_append ho ha hbase hfew hline hs hplain
theorem h_m_pop {o : Expr} {to : TE3} {apos cpos : Pos} (ho : HE X o to) (_ : HA X [] tNil3) (hbase : attributeBase o "pop" X.env (eval o X.env) = eval o X.env := by rfl) (hline : (apos.endLine == cpos.line) = true := by rfl) :
   HE X (.Call (.Attribute o "pop" apos) [] [] cpos) (tLM0 rPop3 to) := h_lm0 PySem.F.slot_list_pop PySem.F.type_list_pop mt3_pop ho hbase hline
end
end L2
namespace LM
noncomputable def LetOK (n l : Int) : Prop := 1 ≤ (l.natAbs : Int) ∧ (l.natAbs : Int) < n
noncomputable def WordOK (n : Int) (w : List Int) : Prop := ∀ l ∈ w, LetOK n l
noncomputable def isLet (n l : Int) : Bool := decide (1 ≤ l.natAbs) && decide ((l.natAbs : Int) < n)
noncomputable def isPl (n : Int) (w : List Int) : Bool := decide (1 ≤ n) && decide (n ≤ 6) && decide (w.length ≤ 16) && w.all (isLet n)
noncomputable def PlOK (n : Int) (w : List Int) : Prop := 1 ≤ n ∧ n ≤ 6 ∧ w.length ≤ 16 ∧ WordOK n w
theorem isLet_iff {n l : Int} : isLet n l = true ↔ LetOK n l := by
 unfold isLet LetOK
 simp only [Bool.and_eq_true, decide_eq_true_eq]
 lia
theorem PlOK.is {n : Int} {w : List Int} (h : PlOK n w) : isPl n w = true := by
 obtain ⟨h1, h2, h3, h4⟩ := h
 unfold isPl
 simp only [Bool.and_eq_true, decide_eq_true_eq, List.all_eq_true]
 exact ⟨⟨⟨h1, h2⟩, h3⟩, fun l hl => isLet_iff.mpr (h4 l hl)⟩
theorem WordOK.nil {n : Int} : WordOK n [] := fun _ z => nomatch z
theorem WordOK.append {n : Int} {u v : List Int} (h : WordOK n u) (g : WordOK n v) : WordOK n (u ++ v) := fun l hl => (List.mem_append.mp hl).elim (h l) (g l)
theorem take_succ_map {α β : Type} (f : α → β) {L : List α} {i : Nat} {x : α} (h : L[i]? = some x) : (L.take i).map f ++ [f x] = (L.take (i + 1)).map f := by
 rw [List.take_add_one, h]; simp
theorem get_map_int {α β : Type} {f : α → β} {L : List α} {i : Nat} {y : β} (h : (L.map f)[i]? = some y) : ∃ x, L[i]? = some x ∧ f x = y := by
 rw [List.getElem?_map] at h
 cases q : L[i]? with
 | none => rw [q] at h; cases h
 | some x => rw [q] at h; exact ⟨x, rfl, Option.some.inj h⟩
noncomputable def range0 (n : Int) : List Int := (List.range n.toNat).map fun i => ((i : Nat) : Int)
theorem range0_length (n : Int) : (range0 n).length = n.toNat := by unfold range0; simp
theorem mem_range0 {n s : Int} (h : s ∈ range0 n) : 0 ≤ s ∧ s < n := by
 unfold range0 at h
 obtain ⟨i, hi, rfl⟩ := List.mem_map.mp h
 have := List.mem_range.mp hi
 lia
theorem range0_get (n : Int) (s : Int) (h0 : 0 ≤ s) (h1 : s < n) : (range0 n).getD s.toNat 0 = s := by
 unfold range0
 rw [List.getD_eq_getElem?_getD, List.getElem?_map, List.getElem?_range (by lia)]
 show ((s.toNat : Nat) : Int) = s
 lia
theorem getD_mem {l : List Int} {k : Nat} (h : k < l.length) : l.getD k 0 ∈ l := by
 rw [List.getD_eq_getElem?_getD, List.getElem?_eq_getElem h]
 exact List.getElem_mem h
theorem range0_nodup (n : Int) : (range0 n).Nodup := by
 unfold range0
 refine List.Pairwise.map _ (fun (a b : Nat) (h : a ≠ b) => ?_) List.nodup_range
 show (a : Int) ≠ (b : Int)
 lia
theorem foldl_succ {α β : Type} (f : β → α → β) {L : List α} {i : Nat} {x : α} (b : β) (h : L[i]? = some x) : (L.take (i + 1)).foldl f b = f ((L.take i).foldl f b) x := by
 rw [List.take_add_one, h, List.foldl_append]; rfl
noncomputable def contrL (w : List Int) : List Int := w.reverse.map fun l => -l
theorem LetOK.neg {n l : Int} (h : LetOK n l) : LetOK n (-l) := by unfold LetOK at *; lia
theorem WordOK.map {n : Int} {w : List Int} {f : Int → Int} (hf : ∀ l, LetOK n l → LetOK n (f l)) (h : WordOK n w) : WordOK n (w.map f) := fun l hl => by
 obtain ⟨k, hk, rfl⟩ := List.mem_map.mp hl
 exact hf k (h k hk)
theorem WordOK.reverse {n : Int} {w : List Int} (h : WordOK n w) : WordOK n w.reverse := fun l hl => h l (List.mem_reverse.mp hl)
theorem WordOK.contr {n : Int} {w : List Int} (h : WordOK n w) : WordOK n (contrL w) := h.reverse.map fun _ => LetOK.neg
theorem PlOK.map {n : Int} {w : List Int} {f : Int → Int} (hf : ∀ l, LetOK n l → LetOK n (f l)) (h : PlOK n w) : PlOK n (w.map f) := ⟨h.1, h.2.1, by rw [List.length_map]; exact h.2.2.1, h.2.2.2.map hf⟩
theorem range0_mem {n s : Int} (h0 : 0 ≤ s) (h1 : s < n) : s ∈ range0 n := by
 unfold range0
 exact List.mem_map.mpr ⟨s.toNat, List.mem_range.mpr (by lia), by lia⟩
theorem map_same {f : Int → Int} {w : List Int} (h : ∀ l ∈ w, f l = l) : w.map f = w := by
 conv => rhs; rw [← List.map_id w]
 exact List.map_congr_left h
theorem neg_neg_map (w : List Int) : (w.map fun l => -l).map (fun l => -l) = w := by
 rw [List.map_map]
 exact map_same fun l _ => Int.neg_neg l
theorem contrL_contr (w : List Int) : contrL (contrL w) = w := by
 unfold contrL
 rw [← List.map_reverse, List.reverse_reverse]
 exact neg_neg_map w
theorem contrL_append (u v : List Int) : contrL (u ++ v) = contrL v ++ contrL u := by unfold contrL; rw [List.reverse_append, List.map_append]
theorem LetOK.ne {n l : Int} (h : LetOK n l) : l ≠ 0 := by unfold LetOK at h; lia
noncomputable def stepL (st : List Int) (l : Int) : List Int := match st with
 | [] => [l]
 | x :: t => if x = -l then t else l :: x :: t
noncomputable def redS (st w : List Int) : List Int := w.foldl stepL st
noncomputable def redL (w : List Int) : List Int := (redS [] w).reverse
noncomputable def Red : List Int → Prop
 | [] => True
 | [_] => True
 | x :: y :: t => x ≠ -y ∧ Red (y :: t)
theorem Red.tail {x : Int} {t : List Int} (h : Red (x :: t)) : Red t := by
 cases t with
 | nil => trivial
 | cons y t => exact h.2
theorem stepL_back {st : List Int} (h : Red st) (l : Int) : stepL (stepL st l) (-l) = st := by
 cases st with
 | nil => unfold stepL; simp
 | cons x t =>
   by_cases c : x = -l
   · have e : stepL (x :: t) l = t := by show (if x = -l then t else _) = t; rw [if_pos c]
     rw [e]
     cases t with
     | nil => show [-l] = _; rw [c]
     | cons y t =>
       have := h.1
       show (if y = -(-l) then t else -l :: y :: t) = _
       rw [if_neg (by lia), c]
   · have e : stepL (x :: t) l = l :: x :: t := by show (if x = -l then t else _) = _; rw [if_neg c]
     rw [e]
     show (if l = -(-l) then x :: t else _) = _
     rw [if_pos (by lia)]
theorem Red.step {st : List Int} (h : Red st) (l : Int) : Red (stepL st l) := by
 cases st with
 | nil => trivial
 | cons x t =>
   show Red (if x = -l then t else l :: x :: t)
   by_cases c : x = -l
   · rw [if_pos c]; exact h.tail
   · rw [if_neg c]; exact ⟨by lia, h⟩
theorem Red.redS {w : List Int} : ∀ {st : List Int}, Red st → Red (redS st w) := by
 induction w with
 | nil => intro st h; exact h
 | cons l w ih => intro st h; exact ih (h.step l)
theorem redS_append (st u v : List Int) : redS st (u ++ v) = redS (redS st u) v := by unfold redS; rw [List.foldl_append]
theorem contrL_cons (l : Int) (w : List Int) : contrL (l :: w) = contrL w ++ [-l] := by unfold contrL; rw [List.reverse_cons, List.map_append]; rfl
theorem redS_contr (w : List Int) : ∀ {st : List Int}, Red st → redS st (w ++ contrL w) = st := by
 induction w with
 | nil => intro st _; rfl
 | cons l w ih =>
   intro st h
   rw [contrL_cons]
   show redS (stepL st l) (w ++ (contrL w ++ [-l])) = st
   rw [← List.append_assoc, redS_append, ih (h.step l)]
   exact stepL_back h l
theorem redL_contr (w : List Int) : redL (w ++ contrL w) = [] := by unfold redL; rw [redS_contr w (st := []) trivial]; rfl
theorem stepL_length (st : List Int) (l : Int) : (stepL st l).length ≤ st.length + 1 := by
 cases st with
 | nil => simp [stepL]
 | cons x t =>
   show (if x = -l then t else l :: x :: t).length ≤ _
   split <;> simp <;> lia
theorem redS_length (w : List Int) : ∀ st : List Int, (redS st w).length ≤ st.length + w.length := by
 induction w with
 | nil => intro st; exact Nat.le_refl _
 | cons l w ih =>
   intro st
   have h1 := ih (stepL st l)
   have h2 := stepL_length st l
   show (redS (stepL st l) w).length ≤ _
   rw [List.length_cons]
   lia
theorem redL_length (w : List Int) : (redL w).length ≤ w.length := by
 unfold redL
 rw [List.length_reverse]
 simpa using redS_length w []
theorem redS_succ {L st : List Int} {i : Nat} {x : Int} (h : L[i]? = some x) : redS st (L.take (i + 1)) = stepL (redS st (L.take i)) x := foldl_succ stepL st h
theorem Red.suffix : ∀ {u s : List Int}, Red (u ++ s) → Red s
 | [], _, h => h
 | _ :: u, _, h => Red.suffix (u := u) h.tail
theorem redS_id : ∀ (v st : List Int), Red (v.reverse ++ st) → redS st v = v.reverse ++ st
 | [], st, _ => rfl
 | l :: v, st, h => by
   rw [List.reverse_cons, List.append_assoc] at h ⊢
   have h1 : Red (l :: st) := Red.suffix (u := v.reverse) h
   have e : stepL st l = l :: st := by
     cases st with
     | nil => rfl
     | cons x t =>
       have := h1.1
       show (if x = -l then t else l :: x :: t) = _
       rw [if_neg (by lia)]
   show redS (stepL st l) v = _
   rw [e]
   exact redS_id v (l :: st) h
theorem redL_redL (w : List Int) : redL (redL w) = redL w := by
 have h : Red (redS [] w) := Red.redS (st := []) trivial
 have := redS_id (redS [] w).reverse [] (by rw [List.reverse_reverse, List.append_nil]; exact h)
 show (redS [] (redS [] w).reverse).reverse = _
 rw [this, List.reverse_reverse, List.append_nil]
 rfl
theorem Red.get : ∀ {s : List Int} (j : Nat), Red s → j + 1 < s.length → s.getD j 0 + s.getD (j + 1) 0 ≠ 0
 | [], _, _, h => by simp at h
 | [_], j, _, h => by simp at h
 | x :: y :: t, 0, h, _ => by
   have := h.1
   show x + y ≠ 0
   lia
 | x :: y :: t, j + 1, h, hj => by
   have := Red.get (s := y :: t) j h.2 (by simpa using hj)
   exact this
theorem getD_reverse (s : List Int) (k : Nat) (h : k < s.length) : s.reverse.getD k 0 = s.getD (s.length - 1 - k) 0 := by
 rw [List.getD_eq_getElem?_getD, List.getD_eq_getElem?_getD, List.getElem?_reverse h]
theorem Red.of_get : ∀ {s : List Int}, (∀ j, j + 1 < s.length → s.getD j 0 + s.getD (j + 1) 0 ≠ 0) → Red s
 | [], _ => trivial
 | [_], _ => trivial
 | x :: y :: t, h => by
   refine ⟨?_, Red.of_get fun j hj => h (j + 1) (by simpa using hj)⟩
   have : x + y ≠ 0 := h 0 (by simp)
   lia
theorem Red.reverse {s : List Int} (h : Red s) : Red s.reverse := Red.of_get fun j hj => by
 rw [List.length_reverse] at hj
 rw [getD_reverse s j (by lia), getD_reverse s (j + 1) hj]
 have := Red.get (s := s) (s.length - 1 - (j + 1)) h (by lia)
 have e2 : s.length - 1 - (j + 1) + 1 = s.length - 1 - j := by lia
 rw [e2] at this
 lia
theorem redS_rev_cons (l : Int) (w : List Int) : redS [] (l :: w).reverse = stepL (redS [] w.reverse) l := by
 rw [List.reverse_cons, redS_append]; rfl
theorem redS_same (w : List Int) : ∀ st : List Int, Red st → redS st w = redS st (redS [] w.reverse) := by
 induction w with
 | nil => intro st _; rfl
 | cons l w ih =>
   intro st h
   rw [redS_rev_cons]
   show redS (stepL st l) w = _
   rw [ih _ (h.step l)]
   generalize redS [] w.reverse = r
   cases r with
   | nil => rfl
   | cons x t =>
     by_cases c : x = -l
     · have e : stepL (x :: t) l = t := by show (if x = -l then t else _) = t; rw [if_pos c]
       rw [e, c]
       show redS (stepL (stepL st l) (-l)) t = _
       rw [stepL_back h]
     · have e : stepL (x :: t) l = l :: x :: t := by show (if x = -l then t else _) = _; rw [if_neg c]
       rw [e]
       rfl
theorem redL_back (w : List Int) : redS [] w.reverse = redL w := by
 have h : Red (redS [] w.reverse) := Red.redS (st := []) trivial
 have h1 := redS_same w [] trivial
 have h2 := redS_id (redS [] w.reverse) [] (by rw [List.append_nil]; exact h.reverse)
 rw [List.append_nil] at h2
 unfold redL
 rw [h1, h2, List.reverse_reverse]
end LM
namespace LM
theorem redS_red (w : List Int) (st : List Int) (h : Red st) : redS st (redL w) = redS st w := by rw [redS_same w st h, redL_back]
theorem red_nil : Red ([] : List Int) := trivial
theorem redL_app (u v : List Int) : redL (redL u ++ redL v) = redL (u ++ v) := by
 unfold redL
 rw [redS_append, redS_append]
 have e1 : redS [] (redS [] u).reverse = redS [] u := redS_red u [] red_nil
 rw [e1]
 have e2 : redS (redS [] u) (redS [] v).reverse = redS (redS [] u) v := redS_red v _ (Red.redS red_nil)
 rw [e2]
noncomputable def Eqv (u v : List Int) : Prop := redL u = redL v
theorem Eqv.refl {u : List Int} : Eqv u u := rfl
theorem Eqv.of {u v : List Int} (h : u = v) : Eqv u v := by rw [h]; rfl
theorem Eqv.symm {u v : List Int} (h : Eqv u v) : Eqv v u := Eq.symm h
theorem Eqv.trans {u v w : List Int} (h : Eqv u v) (g : Eqv v w) : Eqv u w := Eq.trans h g
theorem Eqv.app {u u' v v' : List Int} (h : Eqv u u') (g : Eqv v v') : Eqv (u ++ v) (u' ++ v') := by
 unfold Eqv at *
 rw [← redL_app, h, g, redL_app]
theorem Eqv.red (u : List Int) : Eqv (redL u) u := redL_redL u
theorem eqv_contr (w : List Int) : Eqv (w ++ contrL w) [] := redL_contr w
theorem eqv_contr' (w : List Int) : Eqv (contrL w ++ w) [] := by
 have := eqv_contr (contrL w)
 rwa [contrL_contr] at this
theorem Eqv.contr {u v : List Int} (h : Eqv u v) : Eqv (contrL u) (contrL v) := by
 have h1 : Eqv (contrL u ++ (v ++ contrL v)) (contrL u) := by
   have := Eqv.app (Eqv.refl (u := contrL u)) (eqv_contr v)
   rwa [List.append_nil] at this
 have h2 : Eqv (contrL u ++ (v ++ contrL v)) (contrL v) := by
   rw [← List.append_assoc]
   have := Eqv.app ((Eqv.app (Eqv.refl (u := contrL u)) h.symm).trans (eqv_contr' u)) (Eqv.refl (u := contrL v))
   exact this
 exact h1.symm.trans h2
structure Hom (g : Int → List Int) : Prop where
 neg : ∀ j, g (-j) = contrL (g j)
theorem contrL_flat (u : List Int) {g : Int → List Int} (h : Hom g) : (contrL u).flatMap g = contrL (u.flatMap g) := by
 induction u with
 | nil => rfl
 | cons l u ih =>
   have e : (l :: u).flatMap g = g l ++ u.flatMap g := List.flatMap_cons ..
   rw [e, contrL_cons, List.flatMap_append, ih, contrL_append]
   congr 1
   rw [List.flatMap_cons, List.flatMap_nil, List.append_nil, h.neg]
theorem step_eqv (g : Int → List Int) (h : Hom g) (st : List Int) (l : Int) : Eqv ((stepL st l).reverse.flatMap g) ((l :: st).reverse.flatMap g) := by
 cases st with
 | nil => exact Eqv.refl
 | cons x t =>
   by_cases c : x = -l
   · have e : stepL (x :: t) l = t := by show (if x = -l then t else _) = t; rw [if_pos c]
     rw [e, c, List.reverse_cons, List.reverse_cons, List.append_assoc, List.flatMap_append]
     have h1 : Eqv (([-l].flatMap g) ++ ([l].flatMap g)) [] := by
       rw [List.flatMap_cons, List.flatMap_cons, List.flatMap_nil, List.append_nil, List.append_nil, h.neg]
       exact eqv_contr' _
     rw [List.flatMap_append]
     have := Eqv.app (Eqv.refl (u := t.reverse.flatMap g)) h1.symm
     rwa [List.append_nil] at this
   · have e : stepL (x :: t) l = l :: x :: t := by show (if x = -l then t else _) = _; rw [if_neg c]
     rw [e]
     exact Eqv.refl
theorem redS_eqv (g : Int → List Int) (h : Hom g) (w : List Int) : ∀ st : List Int, Eqv ((redS st w).reverse.flatMap g) (st.reverse.flatMap g ++ w.flatMap g) := by
 induction w with
 | nil => intro st; rw [List.flatMap_nil, List.append_nil]; exact Eqv.refl
 | cons l w ih =>
   intro st
   show Eqv ((redS (stepL st l) w).reverse.flatMap g) _
   refine (ih _).trans ?_
   rw [List.flatMap_cons, ← List.append_assoc]
   refine Eqv.app ((step_eqv g h st l).trans (Eqv.of ?_)) Eqv.refl
   rw [List.reverse_cons, List.flatMap_append, List.flatMap_cons, List.flatMap_nil, List.append_nil]
theorem flat_red (g : Int → List Int) (h : Hom g) (w : List Int) : Eqv ((redL w).flatMap g) (w.flatMap g) := redS_eqv g h w []
theorem Eqv.flat {g : Int → List Int} (h : Hom g) {u v : List Int} (e : Eqv u v) : Eqv (u.flatMap g) (v.flatMap g) := by
 refine (flat_red g h u).symm.trans ?_
 rw [show redL u = redL v from e]
 exact flat_red g h v
theorem Hom.of_eqv {g g' : Int → List Int} (e : ∀ j, Eqv (g j) (g' j)) (u : List Int) : Eqv (u.flatMap g) (u.flatMap g') := by
 induction u with
 | nil => exact Eqv.refl
 | cons l u ih => rw [List.flatMap_cons, List.flatMap_cons]; exact Eqv.app (e l) ih
noncomputable def mkL (l : Int) (x : Int) : List Int :=
 let i : Int := l.natAbs
 let a : List Int := if l > 0 then [i, i + 1, -i] else [i + 1]
 let b : List Int := if l > 0 then [i] else [-(i + 1), i, i + 1]
 if x = i then a else if x = i + 1 then b else if x = -i then contrL a else if x = -(i + 1) then contrL b else [x]
theorem mkL_hom {l : Int} (hl : l ≠ 0) : Hom (mkL l) := ⟨fun j => by
 have hi : (1 : Int) ≤ (l.natAbs : Int) := by lia
 unfold mkL
 dsimp only
 generalize (l.natAbs : Int) = i at hi
 by_cases h1 : j = i
 · subst h1
   rw [if_neg (by lia), if_neg (by lia), if_pos rfl, if_pos rfl]
 · by_cases h2 : j = i + 1
   · subst h2
     rw [if_neg (show ¬ -(i + 1) = i by lia), if_neg (show ¬ -(i + 1) = i + 1 by lia), if_neg (show ¬ -(i + 1) = -i by lia), if_pos rfl, if_neg (show ¬ i + 1 = i by lia), if_pos rfl]
   · by_cases h3 : j = -i
     · subst h3
       rw [Int.neg_neg, if_pos rfl, if_neg h1, if_neg h2, if_pos rfl, contrL_contr]
     · by_cases h4 : j = -(i + 1)
       · subst h4
         rw [Int.neg_neg, if_neg (by lia), if_pos rfl, if_neg h1, if_neg h2, if_neg h3, if_pos rfl, contrL_contr]
       · rw [if_neg (by lia), if_neg (by lia), if_neg (by lia), if_neg (by lia), if_neg h1, if_neg h2, if_neg h3, if_neg h4]
         rfl⟩
noncomputable def subW (w : List Int) (u : List Int) : List Int := w.foldl (fun u l => u.flatMap (mkL l)) u
noncomputable def actW (w : List Int) (u : List Int) : List Int := w.foldl (fun u l => redL (u.flatMap (mkL l))) u
noncomputable def NZ (w : List Int) : Prop := ∀ l ∈ w, l ≠ 0
theorem NZ.tail {l : Int} {w : List Int} (h : NZ (l :: w)) : NZ w := fun x hx => h x (List.mem_cons_of_mem _ hx)
theorem NZ.head {l : Int} {w : List Int} (h : NZ (l :: w)) : l ≠ 0 := h l List.mem_cons_self
theorem WordOK.nz {n : Int} {w : List Int} (h : WordOK n w) : NZ w := fun l hl => by
 have := h l hl
 unfold LetOK at this
 lia
theorem NZ.contr {w : List Int} (h : NZ w) : NZ (contrL w) := fun l hl => by
 obtain ⟨x, hx, rfl⟩ := List.mem_map.mp hl
 have := h x (List.mem_reverse.mp hx)
 lia
theorem subW_cons (l : Int) (w u : List Int) : subW (l :: w) u = subW w (u.flatMap (mkL l)) := rfl
theorem subW_app (v w u : List Int) : subW (v ++ w) u = subW w (subW v u) := by unfold subW; rw [List.foldl_append]
theorem subW_nil (w : List Int) : subW w [] = [] := by
 induction w with
 | nil => rfl
 | cons l w ih => rw [subW_cons, List.flatMap_nil, ih]
theorem subW_join (w : List Int) : ∀ (u v : List Int), subW w (u ++ v) = subW w u ++ subW w v := by
 induction w with
 | nil => intro u v; rfl
 | cons l w ih => intro u v; rw [subW_cons, List.flatMap_append, ih]; rfl
theorem subW_flat (w : List Int) (u : List Int) : subW w u = u.flatMap fun j => subW w [j] := by
 induction u with
 | nil => rw [subW_nil]; rfl
 | cons j u ih =>
   have : j :: u = [j] ++ u := rfl
   rw [this, subW_join, ih]; rfl
theorem subW_contr {w : List Int} (hw : NZ w) : ∀ (u : List Int), subW w (contrL u) = contrL (subW w u) := by
 induction w with
 | nil => intro u; rfl
 | cons l w ih => intro u; rw [subW_cons, contrL_flat u (mkL_hom hw.head), ih hw.tail]; rfl
theorem subW_hom {w : List Int} (hw : NZ w) : Hom (fun j => subW w [j]) := ⟨fun j => by
 have : [-j] = contrL [j] := rfl
 rw [this, subW_contr hw]⟩
theorem Eqv.sub {w : List Int} (hw : NZ w) {u v : List Int} (e : Eqv u v) : Eqv (subW w u) (subW w v) := by
 rw [subW_flat w u, subW_flat w v]
 exact e.flat (subW_hom hw)
theorem actW_eqv {w : List Int} (hw : NZ w) : ∀ u : List Int, Eqv (actW w u) (subW w u) := by
 induction w with
 | nil => intro u; exact Eqv.refl
 | cons l w ih =>
   intro u
   show Eqv (actW w (redL (u.flatMap (mkL l)))) _
   refine (ih hw.tail _).trans ?_
   rw [subW_cons]
   exact Eqv.sub hw.tail (Eqv.red _)
theorem actW_red : ∀ (w u : List Int), redL u = u → redL (actW w u) = actW w u
 | [], u, h => h
 | l :: w, u, _ => actW_red w _ (redL_redL _)
theorem redL_one (j : Int) : redL [j] = [j] := rfl
noncomputable def imgL (w : List Int) (j : Int) : List Int := redL (subW w [j])
theorem actW_img {w : List Int} (hw : NZ w) (j : Int) : actW w [j] = imgL w j := by
 rw [← actW_red w [j] (redL_one j)]
 exact actW_eqv hw [j]
theorem actW_succ {w : List Int} {i : Nat} {l : Int} (h : w[i]? = some l) (u : List Int) : actW (w.take (i + 1)) u = redL ((actW (w.take i) u).flatMap (mkL l)) := by
 unfold actW
 rw [List.take_add_one, h, List.foldl_append]
 rfl
noncomputable def cntL (j : Nat) (u : List Int) : Nat := u.countP fun x => x.natAbs == j
theorem cntL_app (j : Nat) (u v : List Int) : cntL j (u ++ v) = cntL j u + cntL j v := List.countP_append ..
theorem cntL_cons (j : Nat) (x : Int) (u : List Int) : cntL j (x :: u) = cntL j u + if x.natAbs = j then 1 else 0 := by
 unfold cntL
 rw [List.countP_cons]
 simp only [beq_iff_eq]
theorem cntL_step (j : Nat) (st : List Int) (l : Int) : cntL j (stepL st l) ≤ cntL j st + cntL j [l] := by
 cases st with
 | nil => show cntL j [l] ≤ _; lia
 | cons x t =>
   show cntL j (if x = -l then t else l :: x :: t) ≤ _
   have h0 : cntL j [l] = if l.natAbs = j then 1 else 0 := by rw [cntL_cons]; simp [cntL]
   split
   · rw [cntL_cons]; lia
   · rw [cntL_cons j l, h0]; lia
theorem cntL_redS (j : Nat) (w : List Int) : ∀ st : List Int, cntL j (redS st w) ≤ cntL j st + cntL j w := by
 induction w with
 | nil => intro st; exact Nat.le_refl _
 | cons l w ih =>
   intro st
   have h1 := ih (stepL st l)
   have h2 := cntL_step j st l
   have h3 : cntL j (l :: w) = cntL j [l] + cntL j w := cntL_app j [l] w
   show cntL j (redS (stepL st l) w) ≤ _
   lia
theorem cntL_red (j : Nat) (w : List Int) : cntL j (redL w) ≤ cntL j w := by
 unfold redL
 have h := cntL_redS j w []
 have e : cntL j (redS [] w).reverse = cntL j (redS [] w) := List.countP_reverse
 rw [e]
 simpa [cntL] using h
noncomputable def srcL (l : Int) : Nat := if l > 0 then l.natAbs else l.natAbs + 1
theorem mkL_cases (l x : Int) (hl : l ≠ 0) : (mkL l x = [x] ∧ x.natAbs ≠ l.natAbs ∧ x.natAbs ≠ l.natAbs + 1) ∨ ((x.natAbs = l.natAbs ∨ x.natAbs = l.natAbs + 1) ∧
   ((x.natAbs ≠ srcL l ∧ ∃ p, mkL l x = [p] ∧ (p.natAbs = l.natAbs ∨ p.natAbs = l.natAbs + 1)) ∨ (x.natAbs = srcL l ∧ ∃ p q, mkL l x = [p, q, -p] ∧ (p.natAbs = l.natAbs ∨ p.natAbs = l.natAbs + 1) ∧ (q.natAbs = l.natAbs ∨ q.natAbs = l.natAbs + 1) ∧ p.natAbs ≠ q.natAbs))) := by
 unfold mkL srcL
 dsimp only
 have hi : 1 ≤ l.natAbs := by lia
 generalize (decide (l > 0)) = d
 generalize l.natAbs = i at hi
 have one : ∀ y z : Int, y.natAbs = i ∨ y.natAbs = i + 1 → contrL [y] = [-y] := fun _ _ _ => rfl
 by_cases c : l > 0
 · rw [if_pos c, if_pos c, if_pos c]
   clear one hl c
   by_cases h1 : x = i
   · rw [if_pos h1]
     exact .inr ⟨.inl (by lia), .inr ⟨by lia, _, _, rfl, .inl (by lia), .inr (by lia), by lia⟩⟩
   · rw [if_neg h1]
     by_cases h2 : x = i + 1
     · rw [if_pos h2]
       exact .inr ⟨.inr (by lia), .inl ⟨by lia, _, rfl, .inl (by lia)⟩⟩
     · rw [if_neg h2]
       by_cases h3 : x = -i
       · rw [if_pos h3]
         refine .inr ⟨.inl (by lia), .inr ⟨by lia, i, -(i + 1), ?_, .inl (by lia), .inr (by lia), by lia⟩⟩
         show [- -(i : Int), -((i : Int) + 1), -(i : Int)] = _
         rw [Int.neg_neg]
       · rw [if_neg h3]
         by_cases h4 : x = -(i + 1)
         · rw [if_pos h4]
           exact .inr ⟨.inr (by lia), .inl ⟨by lia, -(i : Int), rfl, .inl (by lia)⟩⟩
         · rw [if_neg h4]
           exact .inl ⟨rfl, by lia, by lia⟩
 · rw [if_neg c, if_neg c, if_neg c]
   clear one hl c
   by_cases h1 : x = i
   · rw [if_pos h1]
     exact .inr ⟨.inl (by lia), .inl ⟨by lia, _, rfl, .inr (by lia)⟩⟩
   · rw [if_neg h1]
     by_cases h2 : x = i + 1
     · rw [if_pos h2]
       refine .inr ⟨.inr (by lia), .inr ⟨by lia, -((i : Int) + 1), i, ?_, .inr (by lia), .inl (by lia), by lia⟩⟩
       rw [Int.neg_neg]
     · rw [if_neg h2]
       by_cases h3 : x = -i
       · rw [if_pos h3]
         exact .inr ⟨.inl (by lia), .inl ⟨by lia, -((i : Int) + 1), rfl, .inr (by lia)⟩⟩
       · rw [if_neg h3]
         by_cases h4 : x = -(i + 1)
         · rw [if_pos h4]
           refine .inr ⟨.inr (by lia), .inr ⟨by lia, -((i : Int) + 1), -(i : Int), ?_, .inr (by lia), .inl (by lia), by lia⟩⟩
           show [-((i : Int) + 1), -(i : Int), - -((i : Int) + 1)] = _
           rfl
         · rw [if_neg h4]
           exact .inl ⟨rfl, by lia, by lia⟩
theorem mkL_len {l : Int} (hl : l ≠ 0) (x : Int) : (mkL l x).length ≤ 1 + 2 * (if x.natAbs = srcL l then 1 else 0) := by
 rcases mkL_cases l x hl with ⟨e, h1, h2⟩ | ⟨_, ⟨_, p, e, _⟩ | ⟨h, p, q, e, _⟩⟩
 · rw [e]; exact Nat.le_add_right 1 _
 · rw [e]; exact Nat.le_add_right 1 _
 · rw [e, if_pos h]; exact Nat.le_refl 3
theorem cntL_le (j : Nat) (u : List Int) : cntL j u ≤ u.length := List.countP_le_length
theorem mkL_cnt (l x : Int) (hl0 : l ≠ 0) (j : Nat) : cntL j (mkL l x) ≤ 1 + (if x.natAbs = srcL l then 1 else 0) := by
 have z : cntL j ([] : List Int) = 0 := rfl
 rcases mkL_cases l x hl0 with ⟨e, h1, h2⟩ | ⟨_, ⟨_, p, e, _⟩ | ⟨h, p, q, e, _, _, hpq⟩⟩
 · rw [e]; exact Nat.le_trans (cntL_le j [x]) (Nat.le_add_right 1 _)
 · rw [e]; exact Nat.le_trans (cntL_le j [p]) (Nat.le_add_right 1 _)
 · rw [e, if_pos h, cntL_cons, cntL_cons, cntL_cons, z]
   by_cases c : p.natAbs = j
   · rw [if_neg (show ¬ q.natAbs = j from fun k => hpq (c.trans k.symm)), if_pos c, if_pos (show (-p).natAbs = j by rw [Int.natAbs_neg]; exact c)]
     exact Nat.le_refl 2
   · rw [if_neg c, if_neg (show ¬ (-p).natAbs = j from fun k => c (by rw [← k, Int.natAbs_neg]))]
     split <;> lia
theorem mkL_abs' {l x : Int} (hl : l ≠ 0) : ∀ y ∈ mkL l x, y.natAbs = x.natAbs ∨ ((x.natAbs = l.natAbs ∨ x.natAbs = l.natAbs + 1) ∧ (y.natAbs = l.natAbs ∨ y.natAbs = l.natAbs + 1)) := by
 intro y hy
 rcases mkL_cases l x hl with ⟨e, _, _⟩ | ⟨hx, ⟨_, p, e, hp⟩ | ⟨_, p, q, e, hp, hq, _⟩⟩
 · rw [e] at hy
   rw [List.mem_singleton.mp hy]; exact .inl rfl
 · rw [e] at hy
   rw [List.mem_singleton.mp hy]; exact .inr ⟨hx, hp⟩
 · rw [e] at hy
   refine .inr ⟨hx, ?_⟩
   rcases List.mem_cons.mp hy with rfl | hy
   · exact hp
   · rcases List.mem_cons.mp hy with rfl | hy
     · exact hq
     · rw [List.mem_singleton.mp hy, Int.natAbs_neg]; exact hp
theorem flat_len {l : Int} (hl : l ≠ 0) (u : List Int) : (u.flatMap (mkL l)).length ≤ u.length + 2 * cntL (srcL l) u := by
 induction u with
 | nil => exact Nat.zero_le _
 | cons x u ih =>
   have h := mkL_len hl x
   rw [List.flatMap_cons, List.length_append, List.length_cons, cntL_cons]
   lia
theorem flat_cnt (l : Int) (hl : l ≠ 0) (j : Nat) (u : List Int) : cntL j (u.flatMap (mkL l)) ≤ u.length + cntL (srcL l) u := by
 induction u with
 | nil => exact Nat.zero_le _
 | cons x u ih =>
   have h := mkL_cnt l x hl j
   rw [List.flatMap_cons, cntL_app, List.length_cons, cntL_cons]
   lia
noncomputable def pell : Nat → Nat × Nat
 | 0 => (1, 1)
 | k + 1 => ((pell k).1 + 2 * (pell k).2, (pell k).1 + (pell k).2)
theorem pell_step (k : Nat) : (pell k).1 ≤ (pell (k + 1)).1 ∧ (pell k).2 ≤ (pell (k + 1)).2 := by
 show (pell k).1 ≤ (pell k).1 + 2 * (pell k).2 ∧ (pell k).2 ≤ (pell k).1 + (pell k).2
 lia
theorem pell_le {j k : Nat} (h : j ≤ k) : (pell j).1 ≤ (pell k).1 := by
 induction k with
 | zero => rw [Nat.le_zero.mp h]; exact Nat.le_refl _
 | succ k ih =>
   by_cases c : j = k + 1
   · rw [c]; exact Nat.le_refl _
   · exact Nat.le_trans (ih (by lia)) (pell_step k).1
theorem pell_16 {k : Nat} (h : k ≤ 16) : (pell k).1 ≤ 1607521 := Nat.le_trans (pell_le h) (by decide)
noncomputable def Sized (k : Nat) (u : List Int) : Prop := u.length ≤ (pell k).1 ∧ ∀ j, cntL j u ≤ (pell k).2
theorem Sized.flat {k : Nat} {u : List Int} (h : Sized k u) {l : Int} (hl : l ≠ 0) : Sized (k + 1) (u.flatMap (mkL l)) := by
 have h1 := h.2 (srcL l)
 refine ⟨?_, fun j => ?_⟩
 · have := flat_len hl u
   have := h.1
   show _ ≤ (pell k).1 + 2 * (pell k).2
   lia
 · have := flat_cnt l hl j u
   have := h.1
   show _ ≤ (pell k).1 + (pell k).2
   lia
theorem Sized.red {k : Nat} {u : List Int} (h : Sized k u) : Sized k (redL u) := ⟨Nat.le_trans (redL_length u) h.1, fun j => Nat.le_trans (cntL_red j u) (h.2 j)⟩
theorem Sized.one (j : Int) : Sized 0 [j] := ⟨Nat.le_refl _, fun k => by
 rw [cntL_cons]
 show 0 + _ ≤ 1
 split <;> lia⟩
theorem Sized.act : ∀ (w : List Int), NZ w → ∀ (k : Nat) (u : List Int), Sized k u → Sized (k + w.length) (actW w u)
 | [], _, k, u, h => h
 | l :: w, hw, k, u, h => by
   have := Sized.act w hw.tail (k + 1) _ (h.flat hw.head).red
   rw [List.length_cons, show k + (w.length + 1) = k + 1 + w.length by lia]
   exact this
theorem mkL_at (l : Int) : mkL l (l.natAbs : Int) = if l > 0 then [(l.natAbs : Int), (l.natAbs : Int) + 1, -(l.natAbs : Int)] else [(l.natAbs : Int) + 1] := by
 unfold mkL
 dsimp only
 rw [if_pos rfl]
theorem mkL_at1 (l : Int) : mkL l ((l.natAbs : Int) + 1) = if l > 0 then [(l.natAbs : Int)] else [-((l.natAbs : Int) + 1), (l.natAbs : Int), (l.natAbs : Int) + 1] := by
 unfold mkL
 dsimp only
 rw [if_neg (by lia), if_pos rfl]
end LM
namespace LM
theorem redL_of {v : List Int} (h : Red v) : redL v = v := by
 unfold redL
 have := redS_id v [] (by rw [List.append_nil]; exact h.reverse)
 rw [List.append_nil] at this
 rw [this, List.reverse_reverse]
end LM
namespace LM
noncomputable def InN (n : Int) (u : List Int) : Prop := ∀ x ∈ u, 1 ≤ (x.natAbs : Int) ∧ (x.natAbs : Int) ≤ n
theorem InN.app {n : Int} {u v : List Int} (h : InN n u) (g : InN n v) : InN n (u ++ v) := fun x hx => (List.mem_append.mp hx).elim (h x) (g x)
theorem mkL_in {n l x : Int} (hl : LetOK n l) (hx : 1 ≤ (x.natAbs : Int) ∧ (x.natAbs : Int) ≤ n) : InN n (mkL l x) := by
 intro y hy
 have hz := hl.ne
 unfold LetOK at hl
 rcases mkL_abs' hz y hy with e | ⟨_, e | e⟩
 · rw [e]; exact hx
 · rw [e]; exact ⟨hl.1, Int.le_of_lt hl.2⟩
 · rw [e]; lia
theorem flat_in {n l : Int} (hl : LetOK n l) {u : List Int} (h : InN n u) : InN n (u.flatMap (mkL l)) := fun y hy => by
 obtain ⟨x, hx, hy⟩ := List.mem_flatMap.mp hy
 exact mkL_in hl (h x hx) y hy
theorem subW_in {n : Int} : ∀ (w : List Int), WordOK n w → ∀ u, InN n u → InN n (subW w u)
 | [], _, u, h => h
 | l :: w, hw, u, h => subW_in w (fun x hx => hw x (List.mem_cons_of_mem _ hx)) _ (flat_in (hw l List.mem_cons_self) h)
end LM
namespace LM
noncomputable def SameW (w v : List Int) : Prop := ∀ u, Eqv (subW w u) (subW v u)
theorem SameW.refl {w : List Int} : SameW w w := fun _ => Eqv.refl
theorem SameW.symm {w v : List Int} (h : SameW w v) : SameW v w := fun u => (h u).symm
theorem SameW.trans {w v x : List Int} (h : SameW w v) (g : SameW v x) : SameW w x := fun u => (h u).trans (g u)
theorem SameW.mid {a b : List Int} (h : SameW a b) (x : List Int) {y : List Int} (hy : NZ y) : SameW (x ++ a ++ y) (x ++ b ++ y) := fun u => by
 rw [subW_app, subW_app, subW_app, subW_app]
 exact Eqv.sub hy (h _)
theorem SameW.img {w v : List Int} (h : SameW w v) (j : Int) : imgL w j = imgL v j := h [j]
theorem subW_two (a b : Int) (u : List Int) : subW [a, b] u = u.flatMap fun x => (mkL a x).flatMap (mkL b) := by
 show (u.flatMap (mkL a)).flatMap (mkL b) = _
 rw [List.flatMap_assoc]
theorem subW_three (a b c : Int) (u : List Int) : subW [a, b, c] u = u.flatMap fun x => ((mkL a x).flatMap (mkL b)).flatMap (mkL c) := by
 show ((u.flatMap (mkL a)).flatMap (mkL b)).flatMap (mkL c) = _
 rw [List.flatMap_assoc, List.flatMap_assoc]
 congr 1
 funext x
 rw [List.flatMap_assoc]
theorem flat_one (u : List Int) : u.flatMap (fun x => [x]) = u := by
 induction u with
 | nil => rfl
 | cons x u ih => rw [List.flatMap_cons, ih]; rfl
noncomputable def g3 (a b c : Int) (x : Int) : List Int := if x = 1 then [a] else if x = -1 then [-a] else if x = 2 then [b] else if x = -2 then [-b] else if x = 3 then [c] else if x = -3 then [-c] else [x]
theorem g3_hom (a b c : Int) : Hom (g3 a b c) := ⟨fun j => by
 unfold g3
 by_cases h1 : j = 1
 · subst h1; rfl
 by_cases h2 : j = -1
 · subst h2; show [a] = [- -a]; rw [Int.neg_neg]
 by_cases h3 : j = 2
 · subst h3; rfl
 by_cases h4 : j = -2
 · subst h4; show [b] = [- -b]; rw [Int.neg_neg]
 by_cases h5 : j = 3
 · subst h5; rfl
 by_cases h6 : j = -3
 · subst h6; show [c] = [- -c]; rw [Int.neg_neg]
 rw [if_neg (by lia), if_neg (by lia), if_neg (by lia), if_neg (by lia), if_neg (by lia), if_neg (by lia), if_neg h1, if_neg h2, if_neg h3, if_neg h4, if_neg h5, if_neg h6]
 rfl⟩
theorem mkL_fix (l : Int) {x : Int} (h1 : x.natAbs ≠ l.natAbs) (h2 : x.natAbs ≠ l.natAbs + 1) : mkL l x = [x] := by
 unfold mkL
 dsimp only
 rw [if_neg (by lia), if_neg (by lia), if_neg (by lia), if_neg (by lia)]
theorem flat_fix' (l : Int) (u : List Int) (h : ∀ x ∈ u, x.natAbs ≠ l.natAbs ∧ x.natAbs ≠ l.natAbs + 1) : u.flatMap (mkL l) = u := by
 induction u with
 | nil => rfl
 | cons x u ih =>
   obtain ⟨h1, h2⟩ := h x List.mem_cons_self
   rw [List.flatMap_cons, mkL_fix l h1 h2, ih fun y hy => h y (List.mem_cons_of_mem _ hy)]
   rfl
theorem mkL_abs {l x : Int} (hl : l ≠ 0) (hx : x.natAbs = l.natAbs ∨ x.natAbs = l.natAbs + 1) : ∀ y ∈ mkL l x, y.natAbs = l.natAbs ∨ y.natAbs = l.natAbs + 1 := by
 intro y hy
 rcases mkL_abs' hl y hy with e | ⟨_, e⟩
 · rw [e]; exact hx
 · exact e
theorem far_apart {A B Y : Nat} (h : A + 1 < B ∨ B + 1 < A) (y : Y = A ∨ Y = A + 1) : Y ≠ B ∧ Y ≠ B + 1 := by lia
theorem same_far {a b : Int} (ha : a ≠ 0) (hb : b ≠ 0) (h : a.natAbs + 1 < b.natAbs ∨ b.natAbs + 1 < a.natAbs) : SameW [a, b] [b, a] := fun u => by
 rw [subW_two, subW_two]
 refine Hom.of_eqv (fun x => Eqv.of ?_) u
 have one : ∀ l : Int, [x].flatMap (mkL l) = mkL l x := fun l => by rw [List.flatMap_cons, List.flatMap_nil, List.append_nil]
 by_cases c1 : x.natAbs = a.natAbs ∨ x.natAbs = a.natAbs + 1
 · have k := far_apart h c1
   rw [mkL_fix b k.1 k.2, one, flat_fix' b _ fun y hy => far_apart h (mkL_abs ha c1 y hy)]
 · have n1 : mkL a x = [x] := mkL_fix a (fun z => c1 (.inl z)) (fun z => c1 (.inr z))
   by_cases c2 : x.natAbs = b.natAbs ∨ x.natAbs = b.natAbs + 1
   · rw [n1, one, flat_fix' a _ fun y hy => far_apart h.symm (mkL_abs hb c2 y hy)]
   · rw [n1, mkL_fix b (fun z => c2 (.inl z)) (fun z => c2 (.inr z)), one, one, n1, mkL_fix b (fun z => c2 (.inl z)) (fun z => c2 (.inr z))]
theorem hom_pos {G G' : Int → List Int} (h : Hom G) (h' : Hom G') (k : ∀ x, 0 ≤ x → Eqv (G x) (G' x)) (x : Int) : Eqv (G x) (G' x) := by
 by_cases c : 0 ≤ x
 · exact k x c
 · have e : x = -(-x) := by lia
   rw [e, h.neg, h'.neg]
   exact (k (-x) (by lia)).contr
theorem Hom.comp {g g' : Int → List Int} (h : Hom g) (h' : Hom g') : Hom (fun x => (g x).flatMap g') := ⟨fun j => by
 show (g (-j)).flatMap g' = _
 rw [h.neg, contrL_flat _ h']⟩
theorem hom_one : Hom (fun x => [x]) := ⟨fun j => rfl⟩
theorem mkp_at {i : Int} (hi : 0 < i) : mkL i i = [i, i + 1, -i] := by
 have := mkL_at i
 rw [if_pos hi, show (i.natAbs : Int) = i by lia] at this
 exact this
theorem mkp_at1 {i : Int} (hi : 0 < i) : mkL i (i + 1) = [i] := by
 have := mkL_at1 i
 rw [if_pos hi, show (i.natAbs : Int) = i by lia] at this
 exact this
theorem mkp_else {i x : Int} (hi : 0 < i) (hx : 0 ≤ x) (h1 : x ≠ i) (h2 : x ≠ i + 1) : mkL i x = [x] := mkL_fix i (by lia) (by lia)
theorem mkp_at' {i : Int} (hi : 0 < i) : mkL i (-i) = [i, -(i + 1), -i] := by rw [(mkL_hom (by lia)).neg, mkp_at hi]; show [- -i, -(i + 1), -i] = _; rw [Int.neg_neg]
theorem mkp_at1' {i : Int} (hi : 0 < i) : mkL i (-(i + 1)) = [-i] := by rw [(mkL_hom (by lia)).neg, mkp_at1 hi]; rfl
theorem mkp_else' {i x : Int} (hi : 0 < i) (hx : 0 ≤ x) (h1 : x ≠ i) (h2 : x ≠ i + 1) : mkL i (-x) = [-x] := by rw [(mkL_hom (by lia)).neg, mkp_else hi hx h1 h2]; rfl
theorem mkn_at {i : Int} (hi : 0 < i) : mkL (-i) i = [i + 1] := by
 have := mkL_at (-i)
 rw [if_neg (by lia), show ((-i).natAbs : Int) = i by lia] at this
 exact this
theorem mkn_at1 {i : Int} (hi : 0 < i) : mkL (-i) (i + 1) = [-(i + 1), i, i + 1] := by
 have := mkL_at1 (-i)
 rw [if_neg (by lia), show ((-i).natAbs : Int) = i by lia] at this
 exact this
theorem mkn_else {i x : Int} (hi : 0 < i) (hx : 0 ≤ x) (h1 : x ≠ i) (h2 : x ≠ i + 1) : mkL (-i) x = [x] := mkL_fix (-i) (by lia) (by lia)
theorem mkn_at' {i : Int} (hi : 0 < i) : mkL (-i) (-i) = [-(i + 1)] := by rw [(mkL_hom (by lia)).neg, mkn_at hi]; rfl
theorem mkn_at1' {i : Int} (hi : 0 < i) : mkL (-i) (-(i + 1)) = [-(i + 1), -i, i + 1] := by rw [(mkL_hom (by lia)).neg, mkn_at1 hi]; show [-(i + 1), -i, - -(i + 1)] = _; rw [Int.neg_neg]
theorem mkn_else' {i x : Int} (hi : 0 < i) (hx : 0 ≤ x) (h1 : x ≠ i) (h2 : x ≠ i + 1) : mkL (-i) (-x) = [-x] := by rw [(mkL_hom (by lia)).neg, mkn_else hi hx h1 h2]; rfl
theorem same_pair {l : Int} (hl : l ≠ 0) : SameW [l, -l] [] := fun u => by
 rw [subW_two]
 show Eqv _ u
 rw [show Eqv (u.flatMap fun x => (mkL l x).flatMap (mkL (-l))) u ↔ Eqv (u.flatMap fun x => (mkL l x).flatMap (mkL (-l))) (u.flatMap fun x => [x]) by rw [flat_one]]
 refine Hom.of_eqv (hom_pos ((mkL_hom hl).comp (mkL_hom (by lia))) hom_one fun x hx => ?_) u
 show Eqv ((mkL l x).flatMap (mkL (-l))) [x]
 have key : ∀ i : Int, 0 < i → Eqv ((mkL i x).flatMap (mkL (-i))) [x] ∧ Eqv ((mkL (-i) x).flatMap (mkL i)) [x] := fun i hi => by
   by_cases c1 : x = i
   · subst c1
     constructor
     · rw [mkp_at hi]
       simp only [List.flatMap_cons, List.flatMap_nil, List.append_nil, mkn_at hi, mkn_at1 hi, mkn_at' hi, List.cons_append, List.nil_append]
       have := Eqv.flat (g3_hom x (x + 1) 0) (u := [2, -2, 1, 2, -2]) (v := [1]) (show redL _ = redL _ by decide)
       simpa [g3] using this
     · rw [mkn_at hi]
       simp only [List.flatMap_cons, List.flatMap_nil, List.append_nil, mkp_at1 hi]
       exact Eqv.refl
   · by_cases c2 : x = i + 1
     · subst c2
       constructor
       · rw [mkp_at1 hi]
         simp only [List.flatMap_cons, List.flatMap_nil, List.append_nil, mkn_at hi]
         exact Eqv.refl
       · rw [mkn_at1 hi]
         simp only [List.flatMap_cons, List.flatMap_nil, List.append_nil, mkp_at hi, mkp_at1 hi, mkp_at1' hi, List.cons_append, List.nil_append]
         have := Eqv.flat (g3_hom i (i + 1) 0) (u := [-1, 1, 2, -1, 1]) (v := [2]) (show redL _ = redL _ by decide)
         simpa [g3] using this
     · rw [mkp_else hi hx c1 c2, mkn_else hi hx c1 c2]
       simp only [List.flatMap_cons, List.flatMap_nil, List.append_nil, mkp_else hi hx c1 c2, mkn_else hi hx c1 c2]
       exact ⟨Eqv.refl, Eqv.refl⟩
 by_cases hp : 0 < l
 · exact (key l hp).1
 · have := (key (-l) (by lia)).2
   rwa [Int.neg_neg] at this
theorem same_pair' {l : Int} (hl : l ≠ 0) : SameW [-l, l] [] := by
 have := same_pair (l := -l) (by lia)
 rwa [Int.neg_neg] at this
theorem three_pos {i : Int} (hi : 0 < i) (x : Int) (hx : 0 ≤ x) : Eqv (((mkL i x).flatMap (mkL (i + 1))).flatMap (mkL i)) (((mkL (i + 1) x).flatMap (mkL i)).flatMap (mkL (i + 1))) := by
 have hj : 0 < i + 1 := by lia
 have e2 : mkL (i + 1) (i + 1 + 1) = [i + 1] := mkp_at1 hj
 have e1 : mkL (i + 1) (i + 1) = [i + 1, i + 1 + 1, -(i + 1)] := mkp_at hj
 have e1' : mkL (i + 1) (-(i + 1)) = [i + 1, -(i + 1 + 1), -(i + 1)] := mkp_at' hj
 have e2' : mkL (i + 1) (-(i + 1 + 1)) = [-(i + 1)] := mkp_at1' hj
 have e0 : mkL (i + 1) i = [i] := mkp_else hj (by lia) (by lia) (by lia)
 have e0' : mkL (i + 1) (-i) = [-i] := mkp_else' hj (by lia) (by lia) (by lia)
 have f0 : mkL i i = [i, i + 1, -i] := mkp_at hi
 have f1 : mkL i (i + 1) = [i] := mkp_at1 hi
 have f2 : mkL i (i + 1 + 1) = [i + 1 + 1] := mkp_else hi (by lia) (by lia) (by lia)
 have f0' : mkL i (-i) = [i, -(i + 1), -i] := mkp_at' hi
 have f1' : mkL i (-(i + 1)) = [-i] := mkp_at1' hi
 have f2' : mkL i (-(i + 1 + 1)) = [-(i + 1 + 1)] := mkp_else' hi (by lia) (by lia) (by lia)
 by_cases c0 : x = i
 · subst c0
   simp only [f0, f1, f2, f0', f1', f2', e0, e1, e2, e0', e1', e2', List.flatMap_cons, List.flatMap_nil, List.append_nil, List.cons_append, List.nil_append]
   have := Eqv.flat (g3_hom x (x + 1) (x + 1 + 1)) (u := [1, 2, -1, 1, 3, -1, 1, -2, -1]) (v := [1, 2, 3, -2, -1]) (show redL _ = redL _ by decide)
   simpa [g3] using this
 · by_cases c1 : x = i + 1
   · subst c1
     simp only [f0, f1, f2, f0', f1', f2', e0, e1, e2, e0', e1', e2', List.flatMap_cons, List.flatMap_nil, List.append_nil, List.cons_append, List.nil_append]
     have := Eqv.flat (g3_hom i (i + 1) (i + 1 + 1)) (u := [1, 2, -1]) (v := [1, 2, -1]) (show redL _ = redL _ by decide)
     simpa [g3] using this
   · by_cases c2 : x = i + 1 + 1
     · subst c2
       simp only [f0, f1, f2, f0', f1', f2', e0, e1, e2, e0', e1', e2', List.flatMap_cons, List.flatMap_nil, List.append_nil, List.cons_append, List.nil_append]
       exact Eqv.refl
     · have h1 : mkL i x = [x] := mkp_else hi hx c0 c1
       have h2 : mkL (i + 1) x = [x] := mkp_else hj hx c1 c2
       simp only [h1, h2, List.flatMap_cons, List.flatMap_nil, List.append_nil]
       exact Eqv.refl
theorem three_neg {i : Int} (hi : 0 < i) (x : Int) (hx : 0 ≤ x) : Eqv (((mkL (-i) x).flatMap (mkL (-(i + 1)))).flatMap (mkL (-i))) (((mkL (-(i + 1)) x).flatMap (mkL (-i))).flatMap (mkL (-(i + 1)))) := by
 have hj : 0 < i + 1 := by lia
 have e2 : mkL (-(i + 1)) (i + 1 + 1) = [-(i + 1 + 1), i + 1, i + 1 + 1] := mkn_at1 hj
 have e1 : mkL (-(i + 1)) (i + 1) = [i + 1 + 1] := mkn_at hj
 have e1' : mkL (-(i + 1)) (-(i + 1)) = [-(i + 1 + 1)] := mkn_at' hj
 have e2' : mkL (-(i + 1)) (-(i + 1 + 1)) = [-(i + 1 + 1), -(i + 1), i + 1 + 1] := mkn_at1' hj
 have e0 : mkL (-(i + 1)) i = [i] := mkn_else hj (by lia) (by lia) (by lia)
 have e0' : mkL (-(i + 1)) (-i) = [-i] := mkn_else' hj (by lia) (by lia) (by lia)
 have f0 : mkL (-i) i = [i + 1] := mkn_at hi
 have f1 : mkL (-i) (i + 1) = [-(i + 1), i, i + 1] := mkn_at1 hi
 have f2 : mkL (-i) (i + 1 + 1) = [i + 1 + 1] := mkn_else hi (by lia) (by lia) (by lia)
 have f0' : mkL (-i) (-i) = [-(i + 1)] := mkn_at' hi
 have f1' : mkL (-i) (-(i + 1)) = [-(i + 1), -i, i + 1] := mkn_at1' hi
 have f2' : mkL (-i) (-(i + 1 + 1)) = [-(i + 1 + 1)] := mkn_else' hi (by lia) (by lia) (by lia)
 by_cases c0 : x = i
 · subst c0
   simp only [f0, f1, f2, f0', f1', f2', e0, e1, e2, e0', e1', e2', List.flatMap_cons, List.flatMap_nil, List.append_nil, List.cons_append, List.nil_append]
   exact Eqv.refl
 · by_cases c1 : x = i + 1
   · subst c1
     simp only [f0, f1, f2, f0', f1', f2', e0, e1, e2, e0', e1', e2', List.flatMap_cons, List.flatMap_nil, List.append_nil, List.cons_append, List.nil_append]
     have := Eqv.flat (g3_hom i (i + 1) (i + 1 + 1)) (u := [-3, 2, 3]) (v := [-3, 2, 3]) (show redL _ = redL _ by decide)
     simpa [g3] using this
   · by_cases c2 : x = i + 1 + 1
     · subst c2
       simp only [f0, f1, f2, f0', f1', f2', e0, e1, e2, e0', e1', e2', List.flatMap_cons, List.flatMap_nil, List.append_nil, List.cons_append, List.nil_append]
       have := Eqv.flat (g3_hom i (i + 1) (i + 1 + 1)) (u := [-3, -2, 1, 2, 3]) (v := [-3, -2, 3, -3, 1, 3, -3, 2, 3]) (show redL _ = redL _ by decide)
       simpa [g3] using this
     · have h1 : mkL (-i) x = [x] := mkn_else hi hx c0 c1
       have h2 : mkL (-(i + 1)) x = [x] := mkn_else hj hx c1 c2
       simp only [h1, h2, List.flatMap_cons, List.flatMap_nil, List.append_nil]
       exact Eqv.refl
theorem same_three_up {p : Int} (hp : p ≠ 0) : SameW [p, if 0 < p then p + 1 else p - 1, p] [if 0 < p then p + 1 else p - 1, p, if 0 < p then p + 1 else p - 1] := fun u => by
 rw [subW_three, subW_three]
 have hq : (if 0 < p then p + 1 else p - 1) ≠ 0 := by split <;> lia
 refine Hom.of_eqv (hom_pos (((mkL_hom hp).comp (mkL_hom hq)).comp (mkL_hom hp)) (((mkL_hom hq).comp (mkL_hom hp)).comp (mkL_hom hq)) fun x hx => ?_) u
 by_cases c : 0 < p
 · simp only [if_pos c]
   exact three_pos c x hx
 · simp only [if_neg c]
   have := three_neg (i := -p) (by lia) x hx
   rw [show -(-p + 1) = p - 1 by lia, Int.neg_neg] at this
   exact this
theorem same_three {p q : Int} (h : p * q > 0) (hd : (p - q).natAbs = 1) : SameW [p, q, p] [q, p, q] := by
 have hp : p ≠ 0 := fun z => by rw [z, Int.zero_mul] at h; lia
 have hq : q ≠ 0 := fun z => by rw [z, Int.mul_zero] at h; lia
 have hs : (0 < p ∧ 0 < q) ∨ (p < 0 ∧ q < 0) := by
   by_cases c1 : 0 < p
   · by_cases c2 : 0 < q
     · exact .inl ⟨c1, c2⟩
     · have := Int.mul_nonpos_of_nonneg_of_nonpos (show 0 ≤ p by lia) (show q ≤ 0 by lia)
       lia
   · by_cases c2 : 0 < q
     · have := Int.mul_nonpos_of_nonpos_of_nonneg (show p ≤ 0 by lia) (show 0 ≤ q by lia)
       lia
     · exact .inr ⟨by lia, by lia⟩
 by_cases up : p.natAbs < q.natAbs
 · have := same_three_up hp
   have e : (if 0 < p then p + 1 else p - 1) = q := by split <;> lia
   rwa [e] at this
 · have := same_three_up hq
   have e : (if 0 < q then q + 1 else q - 1) = p := by split <;> lia
   rw [e] at this
   exact this.symm
end LM
namespace LM
theorem same_back {w : List Int} (hw : NZ w) : SameW (contrL w ++ w) [] := by
 induction w with
 | nil => exact SameW.refl
 | cons l w ih =>
   have h1 : SameW (contrL w ++ [-l, l] ++ w) (contrL w ++ [] ++ w) := (same_pair' hw.head).mid (contrL w) hw.tail
   rw [List.append_nil] at h1
   have e : contrL (l :: w) ++ (l :: w) = contrL w ++ [-l, l] ++ w := by rw [contrL_cons]; simp
   rw [e]
   exact h1.trans (ih hw.tail)
theorem same_back' {w : List Int} (hw : NZ w) : SameW (w ++ contrL w) [] := by
 have := same_back hw.contr
 rwa [contrL_contr] at this
theorem same_of_img {n : Int} {w v : List Int} (hw : NZ w) (hv : NZ v) (h : ∀ j : Int, 1 ≤ j → j ≤ n → imgL w j = imgL v j) {u : List Int} (hu : InN n u) : Eqv (subW w u) (subW v u) := by
 rw [subW_flat w u, subW_flat v u]
 have key : ∀ x : Int, 1 ≤ (x.natAbs : Int) → (x.natAbs : Int) ≤ n → Eqv (subW w [x]) (subW v [x]) := fun x h1 h2 => by
   by_cases c : 0 < x
   · exact h x (by lia) (by lia)
   · have e : [x] = contrL [-x] := by show [x] = [- -x]; rw [Int.neg_neg]
     rw [e, subW_contr hw, subW_contr hv]
     exact Eqv.contr (h (-x) (by lia) (by lia))
 induction u with
 | nil => exact Eqv.refl
 | cons x u ih =>
   rw [List.flatMap_cons, List.flatMap_cons]
   obtain ⟨h1, h2⟩ := hu x List.mem_cons_self
   exact Eqv.app (key x h1 h2) (ih fun y hy => hu y (List.mem_cons_of_mem _ hy))
end LM
namespace L2
open PySem PySem.Spec PyProof.Rows LM
theorem start3_cons (x : Str) (N : List Str) (t : T) (ts : List T) : start3 (x :: N) (t :: ts) = some t :: start3 N ts := by
 unfold start3
 simp only [List.map_cons, List.length_cons, Nat.add_sub_add_right, List.cons_append]
theorem start3_none (x : Str) (N : List Str) : start3 (x :: N) [] = none :: start3 N [] := by
 unfold start3
 simp only [List.map_nil, List.length_cons, List.length_nil, Nat.sub_zero, List.nil_append, List.replicate_succ]
theorem start3_nil : start3 [] [] = [] := rfl
theorem pick3_none (ix : List (Option Nat)) (ρ : En) : pick3 (none :: ix) ρ = none :: pick3 ix ρ := rfl
theorem pick3_some (j : Nat) (ix : List (Option Nat)) (ρ : En) : pick3 (some j :: ix) ρ = (ρ[j]?).join :: pick3 ix ρ := rfl
theorem pick3_nil (ρ : En) : pick3 [] ρ = [] := rfl
theorem join_some {α : Type} (a : Option α) : (some a).join = a := rfl
theorem rt3_here {M : MH} {Q : VK3} {t : T} {M' : MH} (h : Q t M') : rt3 M Q t M' := ⟨M', Sub.refl, h⟩
theorem atI_0 {α : Type} (x : α) (xs : List α) : atI (x :: xs) 0 = some x := by
 have := atI_nat (xs := x :: xs) (j := 0) (v := x) rfl
 simpa using this
theorem atI_1 {α : Type} (x y : α) (xs : List α) : atI (x :: y :: xs) 1 = some y := by
 have := atI_nat (xs := x :: y :: xs) (j := 1) (v := y) rfl
 simpa using this
theorem atI_2 {α : Type} (x y z : α) (xs : List α) : atI (x :: y :: z :: xs) 2 = some z := by
 have := atI_nat (xs := x :: y :: z :: xs) (j := 2) (v := z) rfl
 simpa using this
theorem ixN_0 (n : Nat) : ixN (n + 1) 0 = some 0 := by
 unfold ixN
 rw [if_pos (by lia), if_pos (by lia)]; rfl
theorem updM_updM {M : MH} {a : Addr} {o u : MO} : updM (updM M a o) a u = updM M a u := by
 funext b; unfold updM; split <;> rfl
theorem atI_ints (ns : List Int) (i : Int) (h0 : 0 ≤ i) (h : i < ns.length) : atI (ns.map T.int) i = some (.int (ns.getD i.toNat 0)) := by
 have e : i = ((i.toNat : Nat) : Int) := by lia
 have hl : i.toNat < ns.length := by lia
 have := atI_nat (xs := ns.map T.int) (j := i.toNat) (v := .int (ns.getD i.toNat 0)) (by
   rw [List.getElem?_map, List.getElem?_eq_getElem hl]
   simp [List.getD, List.getElem?_eq_getElem hl])
 rw [← e] at this
 exact this
theorem bools_map (bs : List Bool) : bools (bs.map T.bl) = some bs := by
 induction bs with
 | nil => rfl
 | cons b bs ih => show (bools (bs.map T.bl)).map (b :: ·) = _; rw [ih]; rfl
theorem pureTs_ints (ns : List Int) : pureTs (ns.map T.int) = true := by
 induction ns with
 | nil => rfl
 | cons n ns ih => show (pureT (.int n) && pureTs (ns.map T.int)) = true; rw [ih]; rfl
theorem depTs_ints (ns : List Int) : depTs (ns.map T.int) = 0 := by
 induction ns with
 | nil => rfl
 | cons n ns ih => show max (depT (.int n)) (depTs (ns.map T.int)) = 0; rw [ih]; rfl
theorem eqTs_ints (a b : List Int) : eqTs (a.map T.int) (b.map T.int) = decide (a = b) := by
 induction a generalizing b with
 | nil => cases b <;> simp [eqTs]
 | cons x a ih =>
   cases b with
   | nil => simp [eqTs]
   | cons y b =>
     show (eqT (.int x) (.int y) && eqTs (a.map T.int) (b.map T.int)) = _
     rw [ih]
     have : eqT (.int x) (.int y) = (x == y) := rfl
     rw [this]
     by_cases h1 : x = y <;> by_cases h2 : a = b <;> simp [h1, h2]
theorem eqT_tup (a b : List T) : eqT (.tup a) (.tup b) = eqTs a b := rfl
theorem eqT_int (a b : Int) : eqT (.int a) (.int b) = decide (a = b) := by
 show (a == b) = _
 by_cases h : a = b <;> simp [h]
theorem eqTs_cons (x y : T) (a b : List T) : eqTs (x :: a) (y :: b) = (eqT x y && eqTs a b) := rfl
theorem eqTs_nil : eqTs [] [] = true := rfl
theorem pureTs_cons (x : T) (a : List T) : pureTs (x :: a) = (pureT x && pureTs a) := rfl
theorem pureTs_nil : pureTs [] = true := rfl
theorem pureT_int (i : Int) : pureT (.int i) = true := rfl
theorem pureT_bl (i : Bool) : pureT (.bl i) = true := rfl
theorem pureT_tup (i : List T) : pureT (.tup i) = pureTs i := rfl
theorem depT_int (i : Int) : depT (.int i) = 0 := rfl
theorem depT_bl (i : Bool) : depT (.bl i) = 0 := rfl
theorem depT_tup (i : List T) : depT (.tup i) = depTs i + 1 := rfl
theorem depTs_cons (x : T) (a : List T) : depTs (x :: a) = max (depT x) (depTs a) := rfl
theorem depTs_nil : depTs [] = 0 := rfl
theorem updM_self {M : MH} {p : Addr} {o : MO} (h : M p = some o) : updM M p o = M := by
 funext b; unfold updM; split
 · rename_i e; rw [e, h]
 · rfl
theorem ne_of_M {M : MH} {p q : Addr} {o : MO} (h : M p = some o) (h' : M q = none) : p ≠ q := by
 rintro rfl
 rw [h] at h'; cases h'
theorem Sub.set {M M' : MH} {p : Addr} {o u : MO} (h : Sub (updM M p o) M') : Sub (updM M p u) (updM M' p u) := fun a v e => by
 by_cases ha : a = p
 · subst ha; rw [updM_same] at e ⊢; exact e
 · rw [updM_ne ha] at e ⊢
   exact h a v (by rw [updM_ne ha]; exact e)
theorem Sub.newr {M M' : MH} {r : Addr} {o : MO} (h : Sub M M') (hr : M' r = none) : Sub M (updM M' r o) := h.trans (Sub.new hr)
theorem rt3_sub {M : MH} {Q : VK3} {t : T} {M0 M' : MH} (h : Q t M0) (s : Sub M0 M') : rt3 M Q t M' := ⟨M0, s, h⟩
theorem ixN_nat {n : Nat} {k : Int} (h0 : 0 ≤ k) (h : k < n) : ixN n k = some k.toNat := by
 unfold ixN
 rw [if_pos h0, if_pos h]
theorem rangeT_map (n : Nat) : rangeT 0 n = ((List.range n).map fun i => ((i : Nat) : Int)).map T.int := by
 unfold rangeT
 rw [List.map_map]
 congr 1
 funext i
 simp
theorem rangeT0 (n : Int) : rangeT 0 n.toNat = (range0 n).map T.int := rangeT_map _
theorem rangeT_length (a : Int) (n : Nat) : (rangeT a n).length = n := by unfold rangeT; simp
theorem Sub.updF {M M' : MH} {p : Addr} {o : MO} (h : Sub M M') (hp : M p = none) : Sub M (updM M' p o) := fun a v e => by
 have ha : a ≠ p := by rintro rfl; rw [hp] at e; cases e
 rw [updM_ne ha]; exact h a v e
end L2
namespace L2
open PySem PySem.Spec PyProof.Rows
theorem no_rev_tuple : typeLookup (.type "tuple") "__reversed__" = pure none := by rw [typeLookup_type, builtinLookup_eq_fast]; kernel_rfl
theorem sub_tuple_dict : isSubtype (.type "tuple") (.type "dict") = pure false := by rw [isSubtype_type]; kernel_rfl
noncomputable def revT (t : Addr) (i : Int) : Obj := { cls := .type "reversed", data := .fields #[.ref t, rawInt i] }
section
variable {prog : Program} {w : World} {A : Around} {E : Value → Shared → Prop} {s : Shared}
theorem code_revT_new {t : Addr} {items : Array Value} {Q₁ : Value → Shared → Prop} (ht : IsTup s.heap t items) (hz : items.size ≤ sizeLine)
   (h : ∀ h' tk, (∀ b o, s.heap.get? b = some o → h'.get? b = some o) → h'.get? s.heap.objs.size = some (revT t ((items.size : Int) - 1)) → Q₁ (.ref s.heap.objs.size) { s with heap := h', toks := tk }) :
   codeAny (model prog w) A (.call (.builtin "reversed.__new__") ⟨[.type "reversed", .ref t], []⟩) (wants Q₁ E) s := by
 refine codeAny_of_tree ?_
 show wpAny _ A.in1 (do checkBuiltinCall "reversed.__new__" ⟨[.type "reversed", .ref t], []⟩; again (.builtin "reversed.__new__" ⟨[.type "reversed", .ref t], []⟩)) _ _ s
 refine wpAny_bind (wpAny_of_eq (F.newCall_reversed_1 _) (wpAny_pure ⟨plainId_quiet F.plain_reversed_new _, codeAny_builtin F.entry_reversed_new ?_⟩))
 rw [Around.under_plainId F.plain_reversed_new _]
 unfold Builtin.«reversed.__new__»
 refine wpAny_bind (wpAny_of_eq (newClass_reversed _) ?_)
 try dsimp only
 refine wpAny_bind (wpAny_of_eq (a := ()) (by first | rfl | kernel_rfl) ?_)
 refine wpAny_bind (wpAny_of_eq (a := ()) (by first | rfl | kernel_rfl) ?_)
 try dsimp only
 refine wpAny_bind (wpAny_specialOf ht.typeIs no_rev_tuple ?_)
 try dsimp only
 refine wpAny_bind (m := (do
   if ← isInstance (.ref t) (.type "dict") then return false
   match ← specialOf (.ref t) "__getitem__" with
   | none => return false
   | some (.builtin id) =>
     if ["tuple.__getitem__", "str.__getitem__", "bytes.__getitem__", "bytearray.__getitem__", "memoryview.__getitem__", "numpy.ndarray.__getitem__", "sqlite3.Row.__getitem__"].contains id then return true
     if id == "sqlite3.Blob.__getitem__" then return false
     unsupported "reversed.__new__:is-it-a-sequence"
   | some _ => return true)) ?_
 refine wpAny_bind (wpAny_isInstance ht.typeIs sub_tuple_dict ?_)
 try dsimp only
 rw [if_neg Bool.false_ne_true]
 refine wpAny_bind (wpAny_specialOf ht.typeIs slot_tuple_getitem.lookup ?_)
 try dsimp only
 rw [if_pos (by decide)]
 refine wpAny_pure ?_
 rw [if_neg (by decide)]
 have hn := line63
 refine wpAny_bind (len_tuple ht (by lia) ?_)
 refine wpAny_bind (wpAny_of_eq (a := some (items.size : Int)) (by rfl) ?_)
 dsimp only
 refine wpAny_bind ?_
 unfold Builtin.SmallTypes.newRecord
 dsimp only
 refine wpAny_newObj_type ?_
 exact wpAny_pure (h _ _ (fun b o e => Heap.get?_push_of_some _ e) (Heap.get?_push_size _ rfl))
theorem slot_rev_init : Slot "reversed" "__init__" "object.__init__" :=
 .of (owner := "object") (n := "__init__") (by rw [typeLookup_type, builtinLookup_eq_fast]; kernel_rfl) (by decide +kernel) (by decide +kernel) (by decide +kernel)
   (by first | exact .inl (by decide +kernel) | exact .inr (by decide +kernel)) (by rw [isSubtype_type]; kernel_rfl)
theorem slot_rev_next : Slot "reversed" "__next__" "reversed.__next__" :=
 .of (owner := "reversed") (n := "__next__") (by rw [typeLookup_type, builtinLookup_eq_fast]; kernel_rfl) (by decide +kernel) (by decide +kernel) (by decide +kernel)
   (by first | exact .inl (by decide +kernel) | exact .inr (by decide +kernel)) (by rw [isSubtype_type]; kernel_rfl)
theorem called_reversed : TypeCalled "reversed" "reversed.__new__" "object.__init__" :=
 ⟨by decide +kernel, by decide +kernel, ⟨_, _, F.mro_reversed⟩, F.made_reversed, F.plain_reversed_new, F.sub_reversed_self, slot_rev_init⟩
theorem call_reversedT {t : Addr} {items : Array Value} {Q : Value → Shared → Prop} (ht : IsTup s.heap t items) (hz : items.size ≤ sizeLine)
   (h : ∀ h' tk, (∀ b o, s.heap.get? b = some o → h'.get? b = some o) → h'.get? s.heap.objs.size = some (revT t ((items.size : Int) - 1)) → Q (.ref s.heap.objs.size) { s with heap := h', toks := tk }) :
   wpAny (model prog w) A (call (.type "reversed") [.ref t]) Q E s := by
 refine callType_codes (Q₁ := fun obj s₁ => s₁.TypeIs obj "reversed" ∧ Q obj s₁) called_reversed (F.typeCall_reversed_1 _) F.entry_object_init (code_revT_new ht hz fun h' tk k e => ⟨⟨_, e, rfl⟩, h h' tk k e⟩) fun obj s₁ h₁ => ?_
 exact ⟨h₁.1, F.args_object_init_2 obj _, object_init_meets called_reversed.init.lookup called_reversed.made (by decide) prog w A.in1 _ s₁ ⟨h₁.1, rfl, h₁.2⟩⟩
theorem slot_rev_iter : Slot "reversed" "__iter__" "reversed.__iter__" :=
 .of (owner := "reversed") (n := "__iter__") (by rw [typeLookup_type, builtinLookup_eq_fast]; kernel_rfl) (by decide +kernel) (by decide +kernel) (by decide +kernel)
   (by first | exact .inl (by decide +kernel) | exact .inr (by decide +kernel)) (by rw [isSubtype_type]; kernel_rfl)
theorem entry_rev_iter : entryFor table "reversed.__iter__" = some Builtin.«dict_keyiterator.__iter__» :=
 entryFor_alias (id' := "dict_keyiterator.__iter__") (by kernel_rfl) (by first | rfl | decide +kernel | (unfold String.splitOn; simp +decide [String.splitOnAux])) (by decide +kernel) (by kernel_rfl)
theorem entry_rev_next : entryFor table "reversed.__next__" = some Builtin.«reversed.__next__» := entryFor_of_tree (by kernel_rfl)
theorem owner_rev : Manifest.owners.lookup (String.ofList ['d', 'e', 's', 'r', 'e', 'v', 'e', 'r'].reverse) = some Manifest.sig_reversed := by kernel_rfl
theorem args_rev_next_1 (a : Value) : argsOk "reversed.__next__" ⟨[a], []⟩ := by
 unfold argsOk; rw [signature?_of (id := "reversed.__next__") (n := ['_', '_', 't', 'x', 'e', 'n', '_', '_']) (o := ['d', 'e', 's', 'r', 'e', 'v', 'e', 'r']) (by kernel_rfl) owner_rev]; kernel_rfl
theorem args_rev_iter_1 (a : Value) : argsOk "reversed.__iter__" ⟨[a], []⟩ := by
 unfold argsOk; rw [signature?_of (id := "reversed.__iter__") (n := ['_', '_', 'r', 'e', 't', 'i', '_', '_']) (o := ['d', 'e', 's', 'r', 'e', 'v', 'e', 'r']) (by kernel_rfl) owner_rev]; kernel_rfl
noncomputable def IsRev (h : Heap) (a t : Addr) (i : Int) : Prop := h.get? a = some (revT t i)
theorem rev_type {a t : Addr} {i : Int} (x : IsRev s.heap a t i) : s.TypeIs (.ref a) "reversed" := ⟨_, x, rfl⟩
theorem next_rev_item {it t : Addr} {i : Nat} {items : Array Value} {x : Value} {Q : Option Value → Shared → Prop} (hit : IsRev s.heap it t (i : Int)) (ht : IsTup s.heap t items) (hx : items[i]? = some x) (hz : items.size ≤ sizeLine)
   (hQ : ∀ h' tk, IsRev h' it t ((i : Int) - 1) → Heap.SameBut it s.heap h' → Q (some x) { s with heap := h', toks := tk }) : wpAny (model prog w) A (pyNext (.ref it)) Q E s := by
 have hn := line63
 have hi : i < items.size := (Array.getElem?_eq_some_iff.mp hx).1
 have ho : s.heap.get? it = some (revT t (i : Int)) := hit
 unfold pyNext
 refine wpAny_bind (wpAny_attempt (wpAny_callSpecial?_slot (name := Str.ofString "__next__") (rev_type hit) slot_rev_next
   (wpAny_call_entry slot_rev_next (rev_type hit) entry_rev_next ?_ (args_rev_next_1 _))))
 unfold Builtin.«reversed.__next__»
 refine wpAny_bind (wpAny_of_eq (a := (Value.ref it, [])) rfl ?_)
 try dsimp only
 refine wpAny_bind (wpAny_field ho rfl (x := .ref t) rfl ?_)
 refine wpAny_bind (wpAny_field ho rfl (x := rawInt (i : Int)) rfl ?_)
 show wpAny _ _ (if (i : Int) < 0 then _ else _) _ _ s
 rw [if_neg (by lia)]
 refine wpAny_bind (wpAny_specialOf ht.typeIs slot_tuple_getitem.lookup ?_)
 try dsimp only
 rw [if_neg (by decide)]
 refine wpAny_bind (wpAny_mkInt ?_)
 refine wpAny_bind (wpAny_attempt (getItem_tuple (j := i) ht (by lia) (by lia) (seqIndex_of (by lia) (by lia)) hx ?_))
 try dsimp only
 refine wpAny_bind (wpAny_field (s := { s with toks := s.toks + 1 }) ho rfl (x := rawInt (i : Int)) rfl ?_)
 show wpAny _ _ (setField (.ref it) 1 (rawInt ((i : Int) - 1)) >>= fun _ => ret x) _ _ _
 refine wpAny_bind (wpAny_setField (s := { s with toks := s.toks + 1 }) ho rfl (by simp) ?_)
 refine wpAny_pure ⟨x, rfl, wpAny_pure (hQ _ _ ?_ (Heap.SameBut.update ..))⟩
 show Heap.get? _ it = _
 rw [Heap.get?_update_self _ ho (by simp [revT, Obj.mapFields, Obj.isFreed])]
 simp [revT, Obj.mapFields]
theorem stop_rev {it t : Addr} {Q : Option Value → Shared → Prop} (hh : A.handled = none) (hit : IsRev s.heap it t (-1))
   (hQ : ∀ h', Heap.ExtBut it s.heap h' → Q none { s with heap := h' }) : wpAny (model prog w) A (pyNext (.ref it)) Q E s := by
 have ho : s.heap.get? it = some (revT t (-1)) := hit
 unfold pyNext
 refine wpAny_bind (wpAny_attempt (wpAny_callSpecial?_slot (name := Str.ofString "__next__") (rev_type hit) slot_rev_next
   (wpAny_call_entry slot_rev_next (rev_type hit) entry_rev_next ?_ (args_rev_next_1 _))))
 unfold Builtin.«reversed.__next__»
 refine wpAny_bind (wpAny_of_eq (a := (Value.ref it, [])) rfl ?_)
 try dsimp only
 refine wpAny_bind (wpAny_field ho rfl (x := .ref t) rfl ?_)
 refine wpAny_bind (wpAny_field ho rfl (x := rawInt (-1)) rfl ?_)
 show wpAny _ _ (if (-1 : Int) < 0 then _ else _) _ _ s
 rw [if_pos (by decide)]
 refine wpAny_bind (wpAny_rule ?_)
 refine wpAny_bind (wpAny_bind (m := setField (.ref it) 1 (rawInt (-1))) (f := fun _ => setField (.ref it) 0 .none) ?_)
 refine wpAny_setField_rec ho (by simp) fun h1 e1 b1 => ?_
 refine wpAny_setField_rec (s := { s with heap := h1 }) e1 (by simp) fun h2 e2 b2 => ?_
 unfold Builtin.SmallTypes.stopIteration
 refine wpAny_bind ?_
 refine wpAny_bind ?_
 simp only [newExc, newTuple]
 refine wpAny_bind (wpAny_newObj_type ?_ (by size_fits))
 refine wpAny_bind (m := firstArgMember _ _) (wpAny_of_eq (a := Value.none) (by first | rfl | (simp only [firstArgMember]; rfl)) ?_)
 refine wpAny_newObj_type ?_ (by size_fits)
 simp only [raiseNew]
 refine wpAny_bind (wpAny_handled ?_)
 first | rw [show A.in1.handled = none from hh] | rw [hh]
 refine wpAny_bind (wpAny_pure (wpAny_throw ?_))
 refine wpAny_bind (wpAny_isInstance (T := "StopIteration") (b := true) ⟨_, Heap.get?_push_size _ rfl, rfl⟩ isSubtype_stop ?_)
 exact wpAny_pure (hQ _ (((b1.extBut.trans b2.extBut).push _).push _))
theorem iter_rev {it t : Addr} {i : Int} {Q : Value → Shared → Prop} (hit : IsRev s.heap it t i) (h : Q (.ref it) s) : wpAny (model prog w) A (pyIter (.ref it)) Q E s := by
 refine wpAny_pyIter_slot (rev_type hit) slot_rev_iter (wpAny_call_entry slot_rev_iter (rev_type hit) entry_rev_iter ?_ (args_rev_iter_1 _))
 show wpAny _ _ (ret (.ref it)) _ _ s
 exact wpAny_pure ⟨_, rfl, "reversed", _, rev_type hit, slot_rev_next.lookup, h⟩
end
noncomputable def Ittr (K : PySem.W.Frag) (a : Addr) (xs : List V) : It :=
 ⟨fun i H => SqT K H a xs ∧ i < xs.length, fun i H x H' => H' = H ∧ xs.reverse[i]? = some x, fun i H => SqT K H a xs ∧ i = xs.length⟩
theorem turn_rev {P : Program} {w : World} {K : PySem.W.Frag} {tg : Expr} (a it : Addr) (xs : List V) : Turn P w K tg (Ittr K a xs) [it] it (fun i h => IsRev h it a ((xs.length : Int) - 1 - (i : Int))) where
 mem := by simp
 obj := fun i h st b hb => by
   have e : b = it := by simpa using hb
   subst e
   exact ⟨_, st, fun v z => by
     have z' : Data.fields _ = Data.cell v := z
     cases z'⟩
 keep := fun i h h' st k => k it (by simp) _ st
 item := by
   intro X hP hw hK hc i pins s σ H E I hf st hg
   subst hP hw hK
   obtain ⟨hq, hi⟩ := hg
   obtain ⟨its, rv, p, hz⟩ := I.tuple hq
   have hl := rv.length
   obtain ⟨x, hx'⟩ : ∃ x, xs[xs.length - 1 - i]? = some x := ⟨_, List.getElem?_eq_getElem (by lia)⟩
   obtain ⟨u, hu, ru⟩ := rv.get hx'
   obtain ⟨f0, f1, f2, f3, f4, f5⟩ := hf it (by simp)
   have e1 : (xs.length : Int) - 1 - (i : Int) = ((xs.length - 1 - i : Nat) : Int) := by lia
   rw [e1] at st
   refine next_rev_item st p (x := u) (by simpa using hu) (by simp; lia) fun h' tk st' sb => ?_
   have I1 : Inv X pins σ H { s with heap := h', toks := tk } := I.turned (fun b o hb e => (sb.2 b hb).trans e) f0 f1 f3 f4 f5
   have e2 : ((xs.length - 1 - i : Nat) : Int) - 1 = (xs.length : Int) - 1 - ((i + 1 : Nat) : Int) := by lia
   rw [e2] at st'
   exact ⟨u, rfl, go_of (s := { s with heap := h', toks := tk }) (n := "reversed") st' rfl rfl (by decide) ⟨x, H, I1, ru, ⟨rfl, by rw [List.getElem?_reverse hi]; exact hx'⟩, st', fun b hb => (hf b hb).1⟩⟩
 done := by
   intro X hP hw hK hc i pins s σ H E I hf st hg
   subst hP hw hK
   obtain ⟨hq, rfl⟩ := hg
   obtain ⟨f0, f1, f2, f3, f4, f5⟩ := hf it (by simp)
   have e1 : (xs.length : Int) - 1 - (xs.length : Int) = -1 := by lia
   rw [e1] at st
   exact stop_rev (I.ok.hd hc) st fun h' eb => ⟨rfl, I.turned (t' := s.toks) (fun b o hb e => eb b o hb e) f0 f1 f3 f4 f5⟩
 self := fun _ _ _ _ _ st h => iter_rev st h
section
variable {X : Cx}
theorem itok_rev {K : PySem.W.Frag} {H : Hp} {a : Addr} {xs : List V} {ts : List T} (h : SqT K H a xs) (r : Reps K H xs ts) : ItOk K H (Ittr K a xs) ⟨ts.reverse, fun _ => True⟩ := by
 refine ⟨fun H' M' k hh _ => ⟨k.tup _ _ h, by show ts.reverse.length = _; rw [List.length_reverse, r.length]⟩, fun i x H' M' e k hh _ => ?_⟩
 have e' : ts.reverse[i]? = some x := e
 have hi : i < ts.length := by have := (List.getElem?_eq_some_iff.mp e').1; simpa using this
 rw [List.getElem?_reverse hi] at e'
 obtain ⟨v, e1, r1⟩ := r.get e'
 have hl := r.length
 have e2 : xs.reverse[i]? = some v := by rw [List.getElem?_reverse (by lia), hl]; exact e1
 refine ⟨⟨k.tup _ _ h, by lia⟩, fun v' H'' y => ?_⟩
 obtain ⟨rfl, y⟩ := y
 rw [e2] at y; cases y
 exact ⟨Kp.refl, hh, Rep.kp k _ _ r1⟩
end
theorem line_len {n : Nat} (h : n < 10000) : n < sizeLine := Nat.lt_of_le_of_lt (by lia : n ≤ 10000) (by decide)
theorem line_len' {n : Nat} (h : n < 10000) : n ≤ sizeLine := Nat.le_of_lt (line_len h)
theorem take_ys {α : Type} (f : α → Int) {L : List α} {i : Nat} {x : α} (h : L[i]? = some x) : ((L.take i).map f).map T.int ++ [T.int (f x)] = ((L.take (i + 1)).map f).map T.int := by
 rw [← LM.take_succ_map f h, List.map_append]; rfl
end L2
namespace HT
open PySem PySem.Spec PyProof.Rows
section
variable {prog : Program} {w : World} {A : Around} {E : Value → Shared → Prop} {s : Shared}
theorem getItem_tuple_all {t sl : Addr} {items : Array Value} {vl vu : Value} {lo hi : Option Int} {Q : Value → Shared → Prop} (ht : IsTup s.heap t items) (hs : s.heap.IsSliceOf sl vl vu .none) (pl : IsPart vl lo) (pu : IsPart vu hi)
   (hw : sIx items.size 0 lo = 0 ∧ sIx items.size items.size hi = items.size) (h : Q (.ref t) s)
   (hsz : items.size ≤ sizeLine) : wpAny (model prog w) A (getItem (.ref t) (.ref sl)) Q E s := by
 obtain ⟨os, hos, hcs, hds⟩ := id hs
 have hTs : s.TypeIs (.ref sl) "slice" := ⟨os, hos, hcs⟩
 unfold getItem
 try with_reducible refine wpAny_holding ?_
 first | refine wpAny_bind (wpAny_pure ?_) | skip
 refine wpAny_bind (wpAny_sequenceKey ht.typeIs (by decide) ?_)
 refine wpAny_bind (wpAny_callSpecial?_slot (name := Str.ofString "__getitem__") ht.typeIs PyProof.Rows.slot_tuple_getitem
   (wpAny_call_entry PyProof.Rows.slot_tuple_getitem ht.typeIs entry_tuple_getitem ?_ (args_tuple_getitem _ _)))
 show wpAny _ _ (Builtin.Tuple.tupleItemsOf (.ref t) >>= _) _ _ s
 refine wpAny_bind (tupleItemsOf_ ht ?_)
 refine wpAny_bind (wpAny_typeOf hTs ?_)
 rw [if_pos (by decide)]
 refine wpAny_bind (sliceApplied_gen hs pl pu ?_)
 have hyes : (((sIx items.size 0 lo : Nat) : Int) == 0 && (1 : Int) == 1 && (sIx items.size items.size hi - sIx items.size 0 lo) == items.size) = true := by
   rw [hw.1, hw.2]
   simp
 show wpAny _ _ (if (((sIx items.size 0 lo : Nat) : Int) == 0 && (1 : Int) == 1 && (sIx items.size items.size hi - sIx items.size 0 lo) == items.size) = true then _ else _) _ _ s
 rw [if_pos hyes]
 refine wpAny_bind (m := Builtin.Tuple.tupleIsExact (.ref t)) (wpAny_bind (wpAny_typeOf ht.typeIs (wpAny_pure ?_)))
 rw [if_pos (by decide)]
 refine wpAny_bind (wpAny_rule ?_)
 first
   | exact wpAny_pure ⟨_, rfl, wpAny_pure h⟩
   | exact wpAny_bind (wpAny_pure (wpAny_pure ⟨_, rfl, wpAny_pure h⟩))
end
end HT
namespace L2
open PySem PySem.Spec PyProof.Rows
section
variable {X : Cx}
noncomputable def cutT (xs : List T) (lo hi : Option Int) : List T := (xs.drop (HT.sIx xs.length 0 lo)).take (HT.sIx xs.length xs.length hi - HT.sIx xs.length 0 lo)
noncomputable def rSlT' (K : PySem.W.Frag) : V → Option Int → Option Int → Hp → VK → Prop := fun x lo hi H Q => ∃ a xs, x = .ref a ∧ SqT K H a xs ∧
 ∀ p H', SqT K H' p (cutV xs lo hi) → (H' = H ∨ H p = none ∧ H' = upd H p (.tup (cutV xs lo hi))) → Q (.ref p) H'
theorem sl_tup' : SlR X (rSlT' X.K) := by
 intro pins s σ H x v vl vu lo hi sl Q I rx hs pl pu h
 obtain ⟨a, xs, rfl, hx, q⟩ := h
 by_cases hw : HT.sIx xs.length 0 lo = 0 ∧ HT.sIx xs.length xs.length hi = xs.length
 · cases rx
   obtain ⟨its, r, ht, hz⟩ := I.tuple hx
   have hlen : its.toArray.size = xs.length := by rw [List.size_toArray]; exact r.length.symm
   refine ⟨"tuple", _, PyProof.Rows.slot_tuple_getitem.lookup, ht.typeIs, ?_⟩
   refine HT.getItem_tuple_all ht hs pl pu (by rw [hlen]; exact hw) ?_ (by rw [hlen]; exact hz)
   have e : cutV xs lo hi = xs := by
     unfold cutV
     rw [hw.1, hw.2]
     simp
   exact ⟨.ref a, H, I, rfl, q a H (by rw [e]; exact hx) (.inl rfl)⟩
 · exact sl_tup pins s σ H _ v vl vu lo hi sl Q I rx hs pl pu ⟨a, xs, rfl, hx, hw, fun p hp => q p _ (SqT.of upd_same) (.inr ⟨hp, rfl⟩)⟩
theorem Reps.cut {K : PySem.W.Frag} {H : Hp} {xs : List V} {ts : List T} (r : Reps K H xs ts) (lo hi : Option Int) : Reps K H (cutV xs lo hi) (cutT ts lo hi) := by
 unfold cutV cutT
 rw [r.length]
 exact (r.drop _).take _
noncomputable abbrev TO3 := En → MH → (Option Int → MH → Prop) → Prop
noncomputable def HPo (X : Cx) (e : Option Expr) (t : TO3) : Prop := ∀ ρ M Q, t ρ M Q → PO X e (fun σ H Q2 => RhoR X.K σ H ρ ∧ HR X.K H M ∧ ∀ o M' H', Kp X.K H H' → HR X.K H' M' → Q o M' → Q2 o H')
noncomputable def dPo (K : PySem.W.Frag) (ρ : En) (t : TO3) : TO := fun σ H Q2 => ∃ M Q, t ρ M Q ∧ RhoR K σ H ρ ∧ HR K H M ∧ ∀ o M' H', Kp K H H' → HR K H' M' → Q o M' → Q2 o H'
theorem HPo.d {e : Option Expr} {t : TO3} {ρ : En} (h : HPo X e t) : PO X e (dPo X.K ρ t) := fun pins s σ H Q I ⟨M, Q3, q, b⟩ => h ρ M Q3 q pins s σ H Q I b
theorem PO.imp {e : Option Expr} {w w' : TO} (h : PO X e w) (f : ∀ σ H Q, w' σ H Q → w σ H Q) : PO X e w' := fun pins s σ H Q I q => h pins s σ H Q I (f σ H Q q)
noncomputable def tNo3 : TO3 := fun ρ M Q => Q none M
noncomputable def tPt3 (t : TE3) : TO3 := fun ρ M Q => t ρ M fun x M1 => match x with
 | .int i => Q (some i) M1
 | _ => False
theorem o_none : HPo X none tNo3 := fun ρ M Q h => po_none.imp fun σ H Q2 ⟨hr, hh, en⟩ => en _ _ _ Kp.refl hh h
theorem o_some {e : Expr} {t : TE3} (he : HE X e t) : HPo X (some e) (tPt3 t) := fun ρ M Q h => (po_some (he.d (ρ := ρ))).imp fun σ H Q2 ⟨hr, hh, en⟩ =>
 ⟨M, _, h, hr, hh, fun x v M1 H1 k1 h1 r1 q1 => by
   dsimp only at q1
   split at q1
   · obtain rfl := inv_int r1
     exact ⟨_, rfl, en _ _ _ k1 h1 q1⟩
   · exact q1.elim⟩
noncomputable def rSlS : V → Option Int → Option Int → Hp → VK → Prop := fun x lo hi H Q => ∃ z, x = .str z ∧ z.length ≤ sizeLine ∧ Q (.str (Txt.slice z lo hi)) H
theorem sl_str : SlR X rSlS := by
 intro pins s σ H x v vl vu lo hi sl Q I rx hs pl pu h
 obtain ⟨z, rfl, hz, q⟩ := h
 obtain ⟨t, rfl⟩ := rx
 refine ⟨"str", _, F.slot_str_getitem.lookup, typeIs_str _ _ _, ?_⟩
 have fin : ∀ t' k, EP X pins σ Q (.str (Txt.slice z lo hi) t') { s with toks := k } := fun t' k => ⟨.str _, H, I.kept fun b o e => e, ⟨_, rfl⟩, q⟩
 have hl : (Txt.slice z lo hi).length ≤ sizeLine := Nat.le_trans (Txt.slice_le z _ _) hz
 cases pl with
 | none => cases pu with
   | none => exact wpAny_getItem_str_slice (l := none) (u := none) (st := none) hs rfl (post_val_or_str ⟨hl, fin⟩)
   | int j uj => exact wpAny_getItem_str_slice (l := none) (u := some (j, uj)) (st := none) hs rfl (post_val_or_str ⟨hl, fin⟩)
 | int i ui => cases pu with
   | none => exact wpAny_getItem_str_slice (l := some (i, ui)) (u := none) (st := none) hs rfl (post_val_or_str ⟨hl, fin⟩)
   | int j uj => exact wpAny_getItem_str_slice (l := some (i, ui)) (u := some (j, uj)) (st := none) hs rfl (post_val_or_str ⟨hl, fin⟩)
noncomputable def tSl3 (te : TE3) (tl th : TO3) : TE3 := fun ρ M Q => te ρ M fun x M1 => tl ρ M1 fun l M2 => th ρ M2 fun u M3 => match x with
 | .tup ts => Q (.tup (cutT ts l u)) M3
 | .adr p => (match M3 p with
   | some (.lst ts) => ∀ r, M3 r = none → Q (.adr r) (updM M3 r (.lst (cutT ts l u)))
   | _ => False)
 | .str z => z.length ≤ sizeLine ∧ Q (.str (Txt.slice z l u)) M3
 | _ => False
theorem h_slice {e : Expr} {lo hi : Option Expr} {te : TE3} {tl th : TO3} {pos p2 : Pos} (he : HE X e te) (hl : HPo X lo tl) (hu : HPo X hi th) : HE X (.Subscript e (.Slice lo hi none p2) pos) (tSl3 te tl th) := fun ρ M Q h =>
 (pe_slice ((sl_tup'.or sl_list).or sl_str) (he.d (ρ := ρ)) (hl.d (ρ := ρ)) (hu.d (ρ := ρ))).imp fun σ H Q2 ⟨hr, hh, en⟩ =>
   ⟨M, _, h, hr, hh, fun x v M1 H1 k1 h1 r1 q1 => ⟨M1, _, q1, hr.kp k1, h1, fun l M2 H2 k2 h2 q2 => ⟨M2, _, q2, hr.kp (k1.trans k2), h2, fun u M3 H3 k3 h3 q3 => by
     have r3 := Rep.kp (k2.trans k3) _ _ r1
     have k13 := (k1.trans k2).trans k3
     split at q3
     · rename_i ts
       obtain ⟨a, xs, rfl, g1, g2⟩ := inv_tup r3
       refine .inl (.inl ⟨a, xs, rfl, g1, fun p H' h' c => ?_⟩)
       rcases c with rfl | ⟨c1, rfl⟩
       · exact en _ _ _ _ k13 h3 (rep_tup h' (g2.cut l u)) q3
       · exact en _ _ _ _ (k13.trans (Kp.new c1)) (h3.keep c1) (rep_tup h' (Reps.kp (Kp.new c1) _ _ (g2.cut l u))) q3
     · obtain rfl := inv_adr r3
       split at q3
       · rename_i ts e0
         obtain ⟨xs, g1, g2⟩ := h3 _ _ e0
         refine .inl (.inr ⟨_, xs, rfl, SqL.of g1, fun p hp => ?_⟩)
         exact en _ _ _ _ (k13.trans (Kp.new hp)) (h3.newL hp (g2.cut l u)) rep_adr (q3 p (h3.free hp))
       · exact q3.elim
     · obtain rfl := inv_str r3
       exact .inr ⟨_, rfl, q3.1, en _ _ _ _ k13 h3 rep_str q3.2⟩
     · exact q3.elim⟩⟩⟩
theorem cutT_to (xs : List T) (k : Int) (h0 : 0 ≤ k) (h1 : k ≤ xs.length) : cutT xs none (some k) = xs.take k.toNat := by
 unfold cutT
 have e : k = ((k.toNat : Nat) : Int) := by lia
 rw [e, HT.sIx_nat, HT.sIx_none, List.drop_zero, Nat.sub_zero, Nat.min_eq_left (by lia), Int.toNat_natCast]
theorem cutT_from (xs : List T) (k : Int) (h0 : 0 ≤ k) (h1 : k ≤ xs.length) : cutT xs (some k) none = xs.drop k.toNat := by
 unfold cutT
 have e : k = ((k.toNat : Nat) : Int) := by lia
 rw [e, HT.sIx_nat, HT.sIx_none, Nat.min_eq_left (by lia), Int.toNat_natCast]
 exact List.take_of_length_le (by rw [List.length_drop]; exact Nat.le_refl _)
end
end L2
namespace HT
open PySem PySem.Spec PyProof.Rows
section
variable {prog : Program} {w : World} {A : Around} {E : Value → Shared → Prop} {s : Shared}
end
end HT
namespace L2
open PySem PySem.Spec PyProof.Rows
section
variable {X : Cx}
end
end L2
namespace L2
open PySem PySem.Spec PyProof.Rows
section
variable {X : Cx}
end
end L2
namespace L2
open PySem PySem.Spec PyProof.Rows
section
variable {X : Cx}
end
end L2
namespace L2
open PySem PySem.Spec PyProof.Rows
section
variable {X : Cx}
end
end L2
namespace L2
open PySem PySem.Spec PyProof.Rows
section
variable {X : Cx} {es : List Expr} {e : Expr} {t : TA3}
end
end L2
namespace L2
open PySem PySem.Spec PyProof.Rows
section
variable {X : Cx} {es : List Expr} {e : Expr} {t : TA3}
noncomputable def strsT : List T → Option (List Str)
 | [] => some []
 | .str i :: ts => (strsT ts).map (i :: ·)
 | _ :: _ => none
theorem strsT_map : ∀ (ns : List Str), strsT (ns.map T.str) = some ns
 | [] => rfl
 | n :: ns => by show (strsT (ns.map T.str)).map (n :: ·) = _; rw [strsT_map ns]; rfl
end
end L2
namespace L2
open PySem PySem.Spec PyProof.Rows LM
end L2
namespace L2
open PySem PySem.Spec PyProof.Rows
section
variable {prog : Program} {w : World} {A : Around} {E : Value → Shared → Prop} {s : Shared}
theorem iadd_rangeL {R : Result → Shared → Prop} {S r : Addr} {a b c : Int} {t u v : Tok} {n : Nat} (hh : A.handled = none) (hr : IsRange s.heap r a b c t u v) (hsmall : Builtin.Range.small a b c = true)
   (hn : Builtin.Range.rangeSize a b c = n) (hlen : n ≤ 2 ^ 24) (hS : s.heap.get? S = some { cls := .type "list", data := .seq #[] 0 })
   (hR : ∀ (h' : Heap) (tk : Tok) (acc' : Array Value) (c' : Nat), (∀ b o, b ≠ S → s.heap.get? b = some o → h'.get? b = some o) → h'.get? S = some { cls := .type "list", dict := none, data := .seq acc' c', slots := #[] } →
     ItemsOf (fun i v => ∃ t, v = .int (a + i * c) t) acc' n → R (.ok (.ret (.ref S))) { s with heap := h', toks := tk }) :
   codeAny (model prog w) A (.builtin "list.__iadd__" ⟨[.ref S, .ref r], []⟩) R s := by
 refine codeAny_builtin F.entry_list_iadd ?_
 rw [Around.under_plainId F.plain_list_iadd _]
 show wpAny _ A.in1 (Builtin.List.listExtendWith (.ref S) (.ref r) (.ref S)) _ _ _
 exact wpAny_extend_range hh hr hsmall hn hlen S (.ref S) 0 hS hR
theorem collect_rangeL {Q : List Value → Shared → Prop} {r : Addr} {a b c : Int} {t u v : Tok} {n : Nat} (hh : A.handled = none) (hr : IsRange s.heap r a b c t u v) (hsmall : Builtin.Range.small a b c = true)
   (hn : Builtin.Range.rangeSize a b c = n) (hlen : n ≤ 2 ^ 24)
   (hQ : ∀ (h' : Heap) (tk : Tok) (acc' : Array Value), (∀ b o, s.heap.get? b = some o → h'.get? b = some o) → ItemsOf (fun i v => ∃ t, v = .int (a + i * c) t) acc' n → Q acc'.toList { s with heap := h', toks := tk }) :
   wpAny (model prog w) A (collect (.ref r)) Q E s := by
 unfold collect
 refine wpAny_bind (wpAny_runValue (codeAny_builtin F.entry_proto_collect ?_))
 rw [Around.under_plainId F.plain_proto_collect _]
 show wpAny _ A.in1 (newList [] >>= fun l => again (.builtin "list.__iadd__" ⟨[l, .ref r], []⟩)) _ _ s
 refine wpAny_bind (wpAny_newObj_type ?_)
 have hS₁ : (s.heap.push { cls := .type "list", data := .seq ([] : List Value).toArray }).get? s.heap.objs.size = some { cls := .type "list", data := .seq #[] } := Heap.get?_push_size _ rfl
 refine wpAny_pure ⟨plainId_quiet F.plain_list_iadd _, iadd_rangeL (s := { s with heap := s.heap.push { cls := .type "list", data := .seq ([] : List Value).toArray } }) hh (Heap.get?_push_of_some _ hr) hsmall hn hlen hS₁ fun h' tk acc' c' hk hS hacc => ?_⟩
 show wpAny _ A (load s.heap.objs.size >>= _) _ _ _
 refine wpAny_bind (wpAny_load hS ?_)
 exact wpAny_pure (hQ h' tk acc' (fun b o e => hk b o (Nat.ne_of_lt (Heap.lt_size e)) (Heap.get?_push_of_some _ e)) hacc)
theorem code_tuple_new_range {Q₁ : Value → Shared → Prop} {r : Addr} {a b c : Int} {t u v : Tok} {n : Nat} (hh : A.handled = none) (hr : IsRange s.heap r a b c t u v) (hsmall : Builtin.Range.small a b c = true)
   (hn : Builtin.Range.rangeSize a b c = n) (hlen : n ≤ 2 ^ 24)
   (h : ∀ (h' : Heap) (tk : Tok) (acc : Array Value), (∀ b o, s.heap.get? b = some o → h'.get? b = some o) → ItemsOf (fun i v => ∃ t, v = .int (a + i * c) t) acc n → Q₁ (.ref h'.objs.size) { s with heap := h'.push { cls := .type "tuple", data := .seq acc }, toks := tk }) :
   codeAny (model prog w) A (.call (.builtin "tuple.__new__") ⟨[.type "tuple", .ref r], []⟩) (wants Q₁ E) s := by
 refine codeAny_of_tree ?_
 show wpAny _ A.in1 (do checkBuiltinCall "tuple.__new__" ⟨[.type "tuple", .ref r], []⟩; again (.builtin "tuple.__new__" ⟨[.type "tuple", .ref r], []⟩)) _ _ s
 refine wpAny_bind (wpAny_of_eq (F.newCall_tuple_1 _) (wpAny_pure ⟨plainId_quiet F.plain_tuple_new _, codeAny_builtin F.entry_tuple_new ?_⟩))
 rw [Around.under_plainId F.plain_tuple_new _]
 have hsub := sub_tuple_self
 have hinit := init_tuple_lookup
 have hmh := madeHere_tuple
 have hTI : s.TypeIs (.ref r) "range" := ⟨_, hr, rfl⟩
 wp_walk using wpAny_typeOf hTI, collect_rangeL (n := n) (A := A.in1) hh hr hsmall hn hlen
 intro h' tk acc hk hacc
 show wpAny _ _ (Builtin.Tuple.tupleExact acc.toList.toArray >>= fun v => ret v) _ _ _
 unfold Builtin.Tuple.tupleExact
 refine wpAny_bind (wpAny_newObj_type ?_ (by show acc.toList.toArray.size ≤ sizeLine; simp only [Array.toArray_toList]; rw [hacc.1, sizeLine_eq]; lia))
 refine wpAny_pure ?_
 have e : acc.toList.toArray = acc := by simp
 rw [e]
 exact h h' tk acc hk hacc
theorem call_tuple_rangeL {Q : Value → Shared → Prop} {r : Addr} {a b c : Int} {t u v : Tok} {n : Nat} (hh : A.handled = none) (hr : IsRange s.heap r a b c t u v) (hsmall : Builtin.Range.small a b c = true)
   (hn : Builtin.Range.rangeSize a b c = n) (hlen : n ≤ 2 ^ 24)
   (hQ : ∀ (h' : Heap) (tk : Tok) (acc : Array Value), (∀ b o, s.heap.get? b = some o → h'.get? b = some o) → ItemsOf (fun i v => ∃ t, v = .int (a + i * c) t) acc n → Q (.ref h'.objs.size) { s with heap := h'.push { cls := .type "tuple", data := .seq acc }, toks := tk }) :
   wpAny (model prog w) A (call (.type "tuple") [.ref r]) Q E s := by
 refine callType_codes (Q₁ := fun obj s₁ => s₁.TypeIs obj "tuple" ∧ Q obj s₁) F.called_tuple (F.typeCall_tuple_1 _) F.entry_object_init
   (code_tuple_new_range (A := A.in1) (Q₁ := fun obj s₁ => s₁.TypeIs obj "tuple" ∧ Q obj s₁) hh hr hsmall hn hlen fun h' tk acc hm hacc => ⟨⟨_, Heap.get?_push_size _ rfl, rfl⟩, hQ h' tk acc hm hacc⟩) fun obj s₁ h₁ => ?_
 exact ⟨h₁.1, F.args_object_init_2 obj _, object_init_meets F.called_tuple.init.lookup F.called_tuple.made (by decide) prog w A.in1 _ s₁ ⟨h₁.1, rfl, h₁.2⟩⟩
end
section
open AutoSeq1 (wpAny_loadPart')
open SeqAt (EqAt)
theorem wpAny_forIn_rng {M : Model} {A : Around} {E : Value → Shared → Prop} {s : Shared} {β : Type} (f : Nat → β → Sem (ForInStep β)) (I : List Nat → β → Shared → Prop) (Q : β → Shared → Prop)
   (turn : ∀ x rest b s, I (x :: rest) b s → wpAny M A (f x b) (fun r s' => match r with | .yield b' => I rest b' s' | .done b' => Q b' s') E s)
   (fin : ∀ b s, I [] b s → Q b s) (r : Std.Legacy.Range) (b : β) (h : I (List.range' r.start r.size r.step) b s) : wpAny M A (forIn r b f) Q E s := by
 rw [Std.Legacy.Range.forIn_eq_forIn_range']
 exact wpAny_forIn_list f I Q turn fin _ b h
theorem tuple_indexAt (l : Addr) (items : Array Value) (n : Nat) (dd : Option Addr) (sl : Array (Option Value)) (x : Value) (e : Value → Bool) (j : Nat) (hj : j < items.size) (hit : e items[j] = true) (hno : ∀ m (hm : m < items.size), m < j → e items[m] = false) :
   Meets (Builtin.«tuple.index» ⟨[.ref l, x], []⟩)
     (fun A R s => s.heap.get? l = some { cls := .type "tuple", dict := dd, data := .seq items n, slots := sl } ∧ (∀ y, y ∈ items → EqAt A.in1 s y x (e y)) ∧ R (.ok (.ret (.int j s.toks))) { s with toks := s.toks + 1 }) :=
 .of_wp fun prog w A R s h => by
   obtain ⟨hp, g, d, tk, os⟩ := s; obtain ⟨hl, he, h⟩ := h
   wp_walk using wpAny_loadPart' hl, wpAny_forIn_rng _ (fun rest b s' => b.1 = none ∧ s' = ⟨hp, g, d, tk, os⟩ ∧ ∃ i, i ≤ j ∧ rest = List.range' i (items.size - i)) _
   case turn =>
     rintro y rest b s' ⟨hb, rfl, i, hij, hr⟩
     have hsz : items.size - i = (items.size - (i + 1)) + 1 := by lia
     rw [hsz, List.range'_succ] at hr
     injection hr with hy hr
     subst hy
     have hys : y < items.size := by lia
     rw [Array.getElem?_eq_getElem hys]
     refine wpAny_bind (he items[y] (Array.getElem_mem hys) prog w _ _ ?_)
     by_cases hyj : y = j
     · subst hyj
       rw [hit]
       wp_walk
       exact ⟨_, rfl, h⟩
     · rw [hno y hys (by lia)]
       wp_walk
       exact ⟨rfl, rfl, y + 1, by lia, hr⟩
   case fin =>
     rintro ⟨b1, b2⟩ s' ⟨hb, rfl, i, hij, hr⟩
     exfalso
     have : (List.range' i (items.size - i)).length = 0 := by rw [← hr]; rfl
     rw [List.length_range'] at this
     lia
   case h =>
     refine ⟨rfl, rfl, 0, Nat.zero_le _, ?_⟩
     simp [Std.Legacy.Range.size]
end
section
variable {X : Cx} {a b e : Expr} {es : List Expr} {ta te : TE3} {t : TA3} {pos : Pos}
noncomputable def tTRng1 (t : TA3) : TE3 := fun ρ M Q => t ρ M fun xs M1 => match xs with
 | [.int j] => (-(2 ^ 62) ≤ j ∧ j < 2 ^ 24) ∧ Q (.tup (rangeT 0 j.toNat)) M1
 | _ => False
theorem h_tupRange1 {t : TA3} {p p' pos' : Pos} (hm : X.mg "tuple" = none) (hm' : X.mg "range" = none) (ha : HA X [a] t) (hc : X.calm = true := by rfl) (hg : Gl X "tuple" := by rfl) (hg' : Gl X "range" := by rfl) (hs : starEach [a] X.env = [(false, eval a X.env)] := by rfl)
   (he : starEach [.Call (.Name "range" p') [a] [] pos'] X.env = (false, eval (.Call (.Name "range" p') [a] [] pos') X.env) :: starEach [] X.env := by rfl) :
   HE X (.Call (.Name "tuple" p) [.Call (.Name "range" p') [a] [] pos'] [] pos) (tTRng1 t) := by
 intro ρ M Q h pins s σ H Q2 I bb
 obtain ⟨hr, hh, en⟩ := bb
 refine wpAny_Call_Name_kw (ld_blt I hg hm boot_tuple ?_ (by decide) (by decide))
 refine PyProof.Rows.callWith_type1 ?_ he rfl
 rw [he]
 refine Calls.spliced_cons ?_
 refine Call_ (ld_blt I hg' hm' boot_range (PyProof.Rows.callWith_type1 (thn (ha ρ M _ h pos' pins s σ H (fun vs H1 => ∃ j M1, vs = [V.int j] ∧ HR X.K H1 M1 ∧ Kp X.K H H1 ∧ (-(2 ^ 62) ≤ j ∧ j < 2 ^ 24) ∧ Q (.tup (rangeT 0 j.toNat)) M1) I
   ⟨hr, hh, fun ts vs M1 H1 k1 h1 r1 q1 => by
     dsimp only at q1
     split at q1
     · rename_i j
       obtain ⟨v, rfl, rv⟩ := reps1 r1
       obtain rfl := inv_int rv
       exact ⟨j, M1, rfl, h1, k1, q1.1, q1.2⟩
     · exact q1.elim⟩) fun us s1 ⟨vs, H1, I1, rv, j, M1, e1, h1, k1, hj, q1⟩ => ?_) hs rfl))
 subst e1
 obtain ⟨u, rfl, t', rfl⟩ := vals1 rv
 refine call_range_1 (Calls.spliced_nil ?_)
 have I2 : Inv X pins σ H1 { s1 with heap := s1.heap.push { cls := .type "range", data := .fields #[.int 0 s1.toks, .int j t', .int 1 (s1.toks + 1)] }, toks := s1.toks + 2 } := I1.kept fun b o e => Heap.get?_push_of_some _ e
 have hn : Builtin.Range.rangeSize 0 j 1 = ((j.toNat : Nat) : Int) := by rw [rangeSize_one]; split <;> lia
 refine call_tuple_rangeL (I1.ok.hd hc) (IsRange.new ..) (small_one (by lia) (by lia) (by lia) (by lia)) hn (by lia) fun h' tk acc' kp ito => ?_
 have hz : j.toNat ≤ sizeLine := by rw [sizeLine_eq]; lia
 have vr : Vals (rangeV 0 j.toNat) acc'.toList := by
   refine vals_of_get (by unfold rangeV; simp [ito.1]) fun i x ex => ?_
   have hi : i < j.toNat := by have := (List.getElem?_eq_some_iff.mp ex).1; simpa [rangeV] using this
   have hi' : i < acc'.size := by rw [ito.1]; exact hi
   have ea : acc'[i]? = some acc'[i] := Array.getElem?_eq_getElem hi'
   obtain ⟨tt, et⟩ := ito.2 i _ ea
   refine ⟨acc'[i], by rw [Array.getElem?_toList]; exact ea, ?_⟩
   unfold rangeV at ex
   rw [List.getElem?_map, List.getElem?_range hi] at ex
   have := Option.some.inj ex
   subst this
   exact ⟨tt, by rw [et, Int.mul_one]⟩
 have I2' : Inv X pins σ H1 { s1 with heap := h', toks := tk } := I2.kept (h' := h') (t' := tk) kp
 have eacc : acc'.toList.toArray = acc' := by simp
 have I3 : Inv X pins σ (upd H1 h'.objs.size (.tup (rangeV 0 j.toNat))) { s1 with heap := h'.push { cls := .type "tuple", data := .seq acc' }, toks := tk } :=
   I2'.laid (t' := tk) (fun b o e => Heap.get?_push_of_some _ e) (Nat.le_refl _) (show ObjOk X.prog X.w _ _ _ (.tup (rangeV 0 j.toNat)) from
     ⟨by unfold rangeV; simpa using hz, acc'.toList, vr, by rw [eacc]; exact IsTup0.new _ _⟩)
 have hf := I2'.hok.fresh (Nat.le_refl _)
 have nw := Kp.new (K := X.K) (H := H1) (o := .tup (rangeV 0 j.toNat)) hf
 exact ⟨.ref h'.objs.size, _, I3, rfl, en _ _ _ _ (k1.trans nw) (h1.keep hf) (rep_tup (SqT.of upd_same) (rangeV_reps 0 j.toNat)) q1⟩
noncomputable def isSeq (M : MH) (x : T) : Prop := match x with
 | .adr p => (match M p with | some (.lst _) => True | _ => False)
 | .tup _ => True
 | _ => False
noncomputable def rIdxS : RM3 := fun x xs M Q => match x, xs with
 | .adr p, [.int k] => (match M p with
   | some (.lst ts) => (match intsT ts with | some ns => k ∈ ns ∧ Q (.int (ns.idxOf k)) M | none => False)
   | _ => False)
 | .tup ts, [.int k] => (match intsT ts with | some ns => k ∈ ns ∧ Q (.int (ns.idxOf k)) M | none => False)
 | _, _ => False
theorem mt3_tindex (pins : List (Addr × Obj)) (s : Shared) (σ : St) (H : Hp) (v : V) (k : Int) (u : Value) (us : List Value) (ns : List Int) (M : MH) (Q : VK3) (Q2 : VK) (I : Inv X pins σ H s) (rv : RelV v u) (rvs : Vals [.int k] us) (r1 : Rep X.K H v (.tup (ns.map T.int))) (hh : HR X.K H M)
   (en : EndE X.K H Q Q2) (hk : k ∈ ns) (q : Q (.int (ns.idxOf k)) M) : wpAny (model X.prog X.w) X.A (call (.builtin "tuple.index") (u :: us)) (EP X pins σ Q2) X.xe s := by
 obtain ⟨p, ys, rfl, g1, g2⟩ := inv_tup r1
 obtain rfl := g2.ints
 cases rv
 obtain ⟨w', rfl, tk, rfl⟩ := vals1 rvs
 obtain ⟨its, r', pl, hz⟩ := I.tuple0 g1
 have hl := r'.length
 rw [List.length_map] at hl hz
 obtain ⟨o, eo, ec, edd, n, ed⟩ := id pl
 obtain ⟨cls, dd, data, sl⟩ := o
 simp only at ec edd ed
 subst ec edd ed
 have hk' : ns.idxOf k < ns.length := List.idxOf_lt_length_iff.mpr hk
 have item : ∀ (j : Nat) (hj : j < its.toArray.size), ∃ tk', its.toArray[j] = Value.int (ns[j]'(by rw [List.size_toArray, ← hl] at hj; exact hj)) tk' := fun j hj => by
   have hj' : j < ns.length := by rw [List.size_toArray, ← hl] at hj; exact hj
   obtain ⟨w2, e2, tk', rfl⟩ := r'.get (i := j) (x := V.int ns[j]) (by rw [List.getElem?_map, List.getElem?_eq_getElem hj'] <;> rfl)
   have : its[j]? = some its.toArray[j] := by rw [List.getElem?_eq_getElem (by rw [List.size_toArray] at hj; exact hj)] <;> simp
   rw [e2] at this
   exact ⟨tk', (Option.some.inj this).symm⟩
 let ee : Value → Bool := fun v => match v with | .int i _ => i == k | _ => false
 refine call_meets PySem.F.slot_tuple_index ⟨_, eo, rfl⟩ PySem.F.entry_tuple_index (PySem.F.args_tuple_index_2 _ _)
   (tuple_indexAt p its.toArray n none sl (.int k tk) ee (ns.idxOf k) (by rw [List.size_toArray, ← hl]; exact hk') ?_ ?_) ⟨eo, fun y hy => ?_, ?_⟩
 · obtain ⟨tk', e⟩ := item (ns.idxOf k) (by rw [List.size_toArray, ← hl]; exact hk')
   rw [e]
   show (ns[ns.idxOf k] == k) = true
   simp
 · intro m hm hlt
   obtain ⟨tk', e⟩ := item m hm
   rw [e]
   show (ns[m]'_ == k) = false
   have := List.not_of_lt_findIdx (p := (· == k)) (xs := ns) (i := m) (by simpa [List.idxOf] using hlt)
   simpa using this
 · obtain ⟨j, hj, rfl⟩ := Array.getElem_of_mem hy
   obtain ⟨tk', e⟩ := item j hj
   rw [e]
   exact SeqAt.EqAt.int_int _ _ _ _
 · exact ⟨.int (ns.idxOf k), H, I.tok _, ⟨_, rfl⟩, en _ _ M H Kp.refl hh rep_int q⟩
noncomputable def tLMS (to : TE3) (t : TA3) : TE3 := fun ρ M Q => to ρ M fun x M1 => isSeq M1 x ∧ t ρ M1 fun xs M2 => rIdxS x xs M2 Q
theorem h_m_index {o : Expr} {to : TE3} {apos cpos : Pos} (ho : HE X o to) (ha : HA X (e :: es) t)
   (hbase : attributeBase o "index" X.env (eval o X.env) = eval o X.env := by rfl)
   (hfew : ((backTo cpos (starEach (e :: es) X.env)).all (fun x => !x.1) && (backToKw cpos (keywordEach [] X.env)).all (fun x => x.1.isSome)
     && decide ((e :: es).length + ([] : List Keyword).length + (if ([] : List Keyword).isEmpty then 0 else 1) < 30)) = true := by rfl)
   (hline : (apos.endLine == cpos.line) = true := by rfl) (hs : starEach (e :: es) X.env = (false, eval e X.env) :: starEach es X.env := by rfl) (hplain : (backTo cpos (starEach es X.env)).any (·.1) = false := by rfl) :
   HE X (.Call (.Attribute o "index" apos) (e :: es) [] cpos) (tLMS to t) := by
 intro ρ M Q h pins s σ H Q2 I bb
 obtain ⟨hr, hh, en⟩ := bb
 refine wpAny_Call_method_late hbase hfew hline rfl (thn (ho ρ M _ h pins s σ H (fun v H1 => ∃ x M1, Rep X.K H1 v x ∧ HR X.K H1 M1 ∧ Kp X.K H H1 ∧ isSeq M1 x ∧ t ρ M1 fun xs M2 => rIdxS x xs M2 Q) I
   ⟨hr, hh, fun x v M1 H1 k1 h1 r1 q1 => ⟨x, M1, r1, h1, k1, q1.1, q1.2⟩⟩) fun v s1 ⟨vv, H1, I1, rvv, x, M1, r1, h1, k1, sq, q1⟩ => ?_)
 have hA := ha ρ M1 _ q1 cpos pins s1 σ H1
 cases x with
 | adr p =>
   have ty : tyV X.K "list" vv H1 := isLst_ty h1 r1 sq
   obtain ⟨t1, t2⟩ := tyV_is I1 rvv ty
   refine ⟨"list", "list.index", PySem.F.plainAttrs_list, PySem.F.slot_list_index, PySem.F.type_list_index, t1, t2, ?_⟩
   have hB := hA (fun vs H2 => ∃ xs M2, Reps X.K H2 vs xs ∧ HR X.K H2 M2 ∧ Kp X.K H1 H2 ∧ rIdxS (.adr p) xs M2 Q) I1 ⟨hr.kp k1, h1, fun ts vs M2 H2 k2 h2 r2 q2 => ⟨ts, M2, r2, h2, k2, q2⟩⟩
   rw [hs] at hB ⊢
   refine Calls.callWith_builtin (by show (false || (backTo cpos (starEach es X.env)).any (·.1)) = false; rw [hplain] <;> rfl) (Calls.evalArgs_plain ?_)
   refine thn hB fun us s2 ⟨vs, H2, I2, rvs, xs, M2, r2, h2, k2, q2⟩ => ?_
   have q3 : rIndex3 (.adr p) xs M2 Q := by
     unfold rIdxS at q2
     split at q2
     · rename_i h; cases h; exact q2
     · rename_i h; cases h
     · exact q2.elim
   exact mt3_index pins s2 σ H2 vv vs v us Q2 I2 rvv rvs ⟨.adr p, xs, M2, Q, Rep.kp k2 _ _ r1, r2, h2, q3, en.kp (k1.trans k2)⟩
 | tup ts =>
   obtain ⟨a1, ys, rfl, g1, g2⟩ := inv_tup r1
   have eu : v = .ref a1 := by cases rvv; rfl
   obtain ⟨its, _, ⟨oo, eo, ec, ed, _⟩, _⟩ := I1.tuple0 g1
   refine ⟨"tuple", "tuple.index", PySem.F.plainAttrs_tuple, PySem.F.slot_tuple_index, PySem.F.type_tuple_index, ?_, ?_, ?_⟩
   · rw [eu]; exact ⟨oo, eo, ec⟩
   · intro a2 e2
     rw [eu] at e2
     cases e2
     exact ⟨oo, eo, ed⟩
   have hB := hA (fun vs H2 => ∃ xs M2, Reps X.K H2 vs xs ∧ HR X.K H2 M2 ∧ Kp X.K H1 H2 ∧ rIdxS (.tup ts) xs M2 Q) I1 ⟨hr.kp k1, h1, fun ts vs M2 H2 k2 h2 r2 q2 => ⟨ts, M2, r2, h2, k2, q2⟩⟩
   rw [hs] at hB ⊢
   refine Calls.callWith_builtin (by show (false || (backTo cpos (starEach es X.env)).any (·.1)) = false; rw [hplain] <;> rfl) (Calls.evalArgs_plain ?_)
   refine thn hB fun us s2 ⟨vs, H2, I2, rvs, xs, M2, r2, h2, k2, q2⟩ => ?_
   unfold rIdxS at q2
   split at q2
   · rename_i h; cases h
   · rename_i ts' k h
     cases h
     obtain ⟨w, rfl, rw'⟩ := reps1 r2
     obtain rfl := inv_int rw'
     split at q2
     · rename_i ns en'
       have et := intsT_some en'
       subst et
       exact mt3_tindex pins s2 σ H2 _ k v us ns M2 Q Q2 I2 rvv rvs (Rep.kp k2 _ _ r1) h2 (en.kp (k1.trans k2)) q2.1 q2.2
     · exact q2.elim
   · exact q2.elim
 | _ => exact sq.elim
end
end L2
namespace L2
open PySem PySem.Spec PyProof.Rows
section
open AutoSeq1
theorem extend_tupleL (l : Addr) (items : Array Value) (n : Nat) (b : Addr) (items2 : Array Value) (n2 : Nat) (sl : Array (Option Value)) (hs0 : ¬(!items.isEmpty && Builtin.List.listTooLong (items.size + items2.size)) = true) (hs1 : items.size ≤ sizeLine) (hs2 : items.size + items2.size ≤ sizeLine + 1) :
   Meets (Builtin.«list.extend» ⟨[.ref l, .ref b], []⟩) (fun _ R s => s.heap.get? l = some { cls := .type "list", dict := none, data := .seq items n, slots := #[] } ∧ s.heap.get? b = some { cls := .type "tuple", dict := none, data := .seq items2 n2, slots := sl } ∧ R (.ok (.ret Value.none)) { s with heap := s.heap.update l (Obj.mapSeq fun x => x ++ items2), toks := s.toks }) :=
 .of_wp fun prog w A R s h => by
   obtain ⟨hp, g, d, tk, os⟩ := s; obtain ⟨hl, hb, h⟩ := h; have f1 := idx_int; have f2 := AutoSeq1.sub_tuple_tuple; have f3 := AutoSeq1.sub_list_list; have f4 := AutoSeq1.sub_tuple_list; have f5 := AutoSeq1.sub_list_tuple;
   have hz' : (items ++ items2).size ≤ sizeLine + 1 := by rw [Array.size_append]; exact hs2
   wp_walk using (wpAny_updateSeq hl rfl (hz := hs1) (_hz' := hz')), wpAny_loadPart' hl, wpAny_loadPart' hb; exact ⟨_, rfl, h⟩
end
section
variable {X : Cx} {a b e f : Expr} {es : List Expr} {ta te : TE3} {t : TA3} {pos : Pos}
noncomputable def rExt3 : RM3 := fun x xs M Q => match x, xs with
 | .adr p, [.tup us] => (match M p with | some (.lst ts) => ts.length + us.length ≤ sizeLine ∧ Q .non (updM M p (.lst (ts ++ us))) | _ => False)
 | .adr p, [.adr q] => (match M p, M q with | some (.lst ts), some (.lst us) => ts.length + us.length ≤ sizeLine ∧ Q .non (updM M p (.lst (ts ++ us))) | _, _ => False)
 | _, _ => False
theorem mt3_extend : MtR3 X "list.extend" rExt3 := by
 intro pins s σ H v vs u us Q2 I rv rvs h
 obtain ⟨x, xs, M, Q, r1, r2, hh, q, en⟩ := h
 unfold rExt3 at q
 split at q
 · rename_i p ys
   split at q
   · rename_i ts e0
     obtain ⟨zs, g1, g2⟩ := hh _ _ e0
     obtain rfl := inv_adr r1
     obtain ⟨w, rfl, rw'⟩ := reps1 r2
     obtain ⟨b1, ws, rfl, k1, k2⟩ := inv_tup rw'
     cases rv
     obtain ⟨u2, rfl, ru⟩ := rvs.one
     cases ru
     obtain ⟨z, its, n, r, hl, e⟩ := I.lstM g1
     obtain ⟨its2, r2', ⟨o, eo, ec, ed, n2, edd⟩, hz2⟩ := I.tuple0 k1
     obtain ⟨cls, dd, data, sl⟩ := o
     simp only at ec ed edd
     subst ec ed edd
     have l2 := r2'.length
     have l3 := g2.length
     have l4 := k2.length
     have hsz : its.toArray.size + its2.toArray.size ≤ sizeLine := by rw [List.size_toArray, List.size_toArray]; lia
     have hlong : ¬ (!its.toArray.isEmpty && Builtin.List.listTooLong (its.toArray.size + its2.toArray.size)) = true := by
       rw [notLongL hsz, Bool.and_false]
       exact Bool.false_ne_true
     refine call_meets F.slot_list_extend ⟨_, e, rfl⟩ F.entry_list_extend (F.args_list_extend_2 _ _)
       (extend_tupleL p its.toArray n b1 its2.toArray n2 sl hlong (by rw [List.size_toArray]; lia) (by lia)) ⟨e, eo, ?_⟩
     refine ⟨.non, _, I.lset (its' := its ++ its2) g1 e (by simp) (r.append r2') ?_, rfl, en _ _ _ _ (Kp.lst g1) (hh.setL g1 (g2.append k2)) rep_non q.2⟩
     rw [List.length_append]
     lia
   · exact q.elim
 · rename_i p b1
   split at q
   · rename_i ts us' e0 e1
     obtain ⟨zs, g1, g2⟩ := hh _ _ e0
     obtain ⟨ws, k1, k2⟩ := hh _ _ e1
     obtain rfl := inv_adr r1
     obtain ⟨w, rfl, rw'⟩ := reps1 r2
     obtain rfl := inv_adr rw'
     have l3 := g2.length
     have l4 := k2.length
     exact mt_extend pins s σ H _ _ u us Q2 I rv rvs ⟨_, _, zs, ws, rfl, rfl, g1, k1, by lia, en _ _ _ _ (Kp.lst g1) (hh.setL g1 (g2.append k2)) rep_non q.2⟩
   · exact q.elim
 · exact q.elim
theorem h_m_extend {o : Expr} {to : TE3} {apos cpos : Pos} (ho : HE X o to) (ha : HA X (e :: es) t)
   (hbase : attributeBase o "extend" X.env (eval o X.env) = eval o X.env := by rfl)
   (hfew : ((backTo cpos (starEach (e :: es) X.env)).all (fun x => !x.1) && (backToKw cpos (keywordEach [] X.env)).all (fun x => x.1.isSome)
     && decide ((e :: es).length + ([] : List Keyword).length + (if ([] : List Keyword).isEmpty then 0 else 1) < 30)) = true := by rfl)
   (hline : (apos.endLine == cpos.line) = true := by rfl) (hs : starEach (e :: es) X.env = (false, eval e X.env) :: starEach es X.env := by rfl) (hplain : (backTo cpos (starEach es X.env)).any (·.1) = false := by rfl) :
   HE X (.Call (.Attribute o "extend" apos) (e :: es) [] cpos) (tLM3 rExt3 to t) := h_lm PySem.F.slot_list_extend PySem.F.type_list_extend mt3_extend ho ha hbase hfew hline hs hplain
noncomputable def tP3 : List (TE3 × TE3) → En → MH → (List T → List T → MH → Prop) → Prop
 | [], _, M, Q => Q [] [] M
 | (tk, tv) :: r, ρ, M, Q => tk ρ M fun x M1 => tv ρ M1 fun y M2 => tP3 r ρ M2 fun ks vs M3 => Q (x :: ks) (y :: vs) M3
noncomputable def HPs (X : Cx) (keys : List (Option Expr)) (values : List Expr) (trs : List (TE3 × TE3)) : Prop :=
 ∀ (pos : Pos) (ρ : En) (M : MH) (Q : List T → List T → MH → Prop), tP3 trs ρ M Q → ∀ (pins : List (Addr × Obj)) (s : Shared) (σ : St) (H : Hp), Inv X pins σ H s → RhoR X.K σ H ρ → HR X.K H M →
   wpAny (model X.prog X.w) X.A (evalPairs (pairTrees keys values X.env pos)) (fun vs s' => ∃ xs ys ks ts M' H', Inv X pins σ H' s' ∧ VV (xs.zip ys) vs ∧ (xs.length = ys.length ∧ xs.length = keys.length) ∧ Kp X.K H H' ∧ HR X.K H' M' ∧ Reps X.K H' xs ks ∧ Reps X.K H' ys ts ∧ Q ks ts M') X.xe s
theorem hps_nil : HPs X [] [] [] := fun pos ρ M Q h pins s σ H I hr hh => pairTrees_nil_walk ⟨[], [], [], [], M, H, I, .nil, ⟨rfl, rfl⟩, Kp.refl, hh, .nil, .nil, h⟩
theorem hps_cons {k v : Expr} {ks : List (Option Expr)} {vs : List Expr} {tk tv : TE3} {trs : List (TE3 × TE3)} (hk : HE X k tk) (hv : HE X v tv) (hr' : HPs X ks vs trs) : HPs X (some k :: ks) (v :: vs) ((tk, tv) :: trs) := by
 intro pos ρ M Q h pins s σ H I hr hh
 refine pairTrees_cons_walk (thn (hk ρ M _ h pins s σ H (fun v H1 => ∃ x M1, Rep X.K H1 v x ∧ HR X.K H1 M1 ∧ Kp X.K H H1 ∧ tv ρ M1 fun y M2 => tP3 trs ρ M2 fun ks vs M3 => Q (x :: ks) (y :: vs) M3) I
   ⟨hr, hh, fun x v M1 H1 k1 h1 r1 q1 => ⟨x, M1, r1, h1, k1, q1⟩⟩) fun u s1 ⟨xv, H1, I1, rx, x, M1, r1, h1, k1, q1⟩ => ?_)
 refine thn (hv ρ M1 _ q1 pins s1 σ H1 (fun v H2 => ∃ y M2, Rep X.K H2 v y ∧ HR X.K H2 M2 ∧ Kp X.K H1 H2 ∧ tP3 trs ρ M2 fun ks vs M3 => Q (x :: ks) (y :: vs) M3) I1
   ⟨hr.kp k1, h1, fun y v M2 H2 k2 h2 r2 q2 => ⟨y, M2, r2, h2, k2, q2⟩⟩) fun w2 s2 ⟨yv, H2, I2, ry, y, M2, r2, h2, k2, q2⟩ => ?_
 refine thn (hr' pos ρ M2 _ q2 pins s2 σ H2 I2 (hr.kp (k1.trans k2)) h2) fun ws s3 ⟨xs, ys, ks', ts', M3, H3, I3, rel, hl, k3, h3, rk, rv, q3⟩ => ?_
 exact ⟨xv :: xs, yv :: ys, x :: ks', y :: ts', M3, H3, I3, .cons ⟨rx, ry⟩ rel, ⟨by rw [List.length_cons, List.length_cons, hl.1], by rw [List.length_cons, List.length_cons, hl.2]⟩, (k1.trans k2).trans k3, h3, .cons (Rep.kp (k2.trans k3) _ _ r1) rk, .cons (Rep.kp k3 _ _ r2) rv, q3⟩
theorem mergeK_new : ∀ (more acc : List (Key × V)), (∀ kv ∈ more, valV acc kv.1 = none) → (more.map (·.1)).Nodup → mergeK acc more = acc ++ more
 | [], acc, _, _ => by show acc = acc ++ []; rw [List.append_nil]
 | p :: r, acc, h, nd => by
   show mergeK (putK acc p.1 p.2) r = _
   rw [putK_new p.2 (h p List.mem_cons_self)]
   rw [List.map_cons, List.nodup_cons] at nd
   rw [mergeK_new r _ (fun kv hkv => ?_) nd.2, List.append_assoc]
   · rfl
   · have h1 := h kv (List.mem_cons_of_mem _ hkv)
     unfold valV at h1 ⊢
     rw [List.find?_append]
     have h2 : (acc.find? fun x => decide (x.1 = kv.1)) = none := by
       cases q : acc.find? fun x => decide (x.1 = kv.1) with
       | none => rfl
       | some z => rw [q] at h1; cases h1
     rw [h2]
     have h3 : p.1 ≠ kv.1 := fun e => nd.1 (e ▸ List.mem_map_of_mem hkv)
     simp [h3]
noncomputable def keyT : Key → T
 | .inl i => .int i
 | .inr x => .str x
theorem rep_key {K : PySem.W.Frag} {H : Hp} {v : V} {k : Key} (r : Rep K H v (keyT k)) : v = kV k := by
 cases k with
 | inl i => exact inv_int r
 | inr x => exact inv_str r
theorem rep_keys {K : PySem.W.Frag} {H : Hp} : ∀ {ks : List Key} {vs : List V}, Reps K H vs (ks.map keyT) → vs = ks.map kV
 | [], _, r => by rw [List.map_nil] at r; unfold Reps at r; exact r
 | k :: ks, _, r => by
   rw [List.map_cons] at r
   unfold Reps at r
   obtain ⟨v, w, rfl, r1, r2⟩ := r
   rw [rep_key r1, rep_keys r2]
   rfl
noncomputable def valT {κ : Type} [DecidableEq κ] (kvs : List (κ × T)) (k : κ) : Option T := (kvs.find? fun kv => decide (kv.1 = k)).map (·.2)
theorem KRep.val {κ : Type} [DecidableEq κ] {K : PySem.W.Frag} {H : Hp} (k : κ) : ∀ {xs : List (κ × V)} {kvs : List (κ × T)}, KRep K H xs kvs → (match valT kvs k with | some t => ∃ v, valV xs k = some v ∧ Rep K H v t | none => valV xs k = none)
 | [], [], _ => rfl
 | p :: r, q :: u, h => by
   have ih := KRep.val k h.2.2
   unfold valT valV at ih ⊢
   rw [List.find?_cons, List.find?_cons, h.1]
   by_cases c : q.1 = k
   · simp only [c, decide_true, Option.map_some]
     exact ⟨p.2, rfl, h.2.1⟩
   · simp only [c, decide_false]
     exact ih
 | [], q :: u, h => h.elim
 | p :: r, [], h => h.elim
theorem krep_zip {κ : Type} {K : PySem.W.Frag} {H : Hp} : ∀ {kvs : List (κ × T)} {ys : List V}, Reps K H ys (kvs.map Prod.snd) → KRep K H ((kvs.map Prod.fst).zip ys) kvs
 | [], ys, r => by rw [List.map_nil] at r; unfold Reps at r; subst r; exact trivial
 | q :: u, ys, r => by
   rw [List.map_cons] at r
   unfold Reps at r
   obtain ⟨v, w, rfl, r1, r2⟩ := r
   exact ⟨rfl, r1, krep_zip r2⟩
theorem zip_keys : ∀ (ks : List Key) (ys : List V), ((ks.map kV).zip ys) = (ks.zip ys).map fun kv => (kV kv.1, kv.2)
 | [], ys => by simp
 | k :: ks, [] => by simp
 | k :: ks, y :: ys => by
   rw [List.map_cons, List.zip_cons_cons, List.zip_cons_cons, List.map_cons, zip_keys ks ys]
noncomputable def tDic3 (trs : List (TE3 × TE3)) : TE3 := fun ρ M Q => ∀ p, M p = none → tP3 trs ρ (updM M p (.dk [])) fun ks ts M1 => M1 p = some (.dk []) ∧ ∃ kvs : List (Key × T), ks = kvs.map (fun kv => keyT kv.1) ∧ ts = kvs.map Prod.snd ∧ (kvs.map Prod.fst).Nodup ∧ Q (.adr p) (updM M1 p (.dk kvs))
theorem h_dic {keys : List (Option Expr)} {values : List Expr} {trs : List (TE3 × TE3)} (h : HPs X keys values trs) (hall : keys.all (·.isSome) = true := by rfl) (hl : keys.length = values.length := by rfl) (h0 : keys ≠ [] := by exact fun z => nomatch z)
   (h15 : keys.length ≤ 15 := by decide) : HE X (.Dict keys values pos) (tDic3 trs) := by
 intro ρ M Q q pins s σ H Q2 I bb
 obtain ⟨hr, hh, en⟩ := bb
 have hn := I.hok.fresh (Nat.le_refl s.heap.objs.size)
 have I1 := I.laid (a := s.heap.objs.size) (o := .dK []) (h' := s.heap.push { cls := .type "dict", data := .dict #[] }) (t' := s.toks) (fun _ _ q => Heap.get?_push_of_some _ q) (Nat.le_refl _) (dk_empty s.heap I.big)
 have k0 := Kp.new (K := X.K) (o := .dK []) hn
 have hh1 : HR X.K (upd H s.heap.objs.size (.dK [])) (updM M s.heap.objs.size (.dk [])) := hh.newK hn (kvs := []) (xs := []) trivial
 refine wpAny_Dict_walk (knd := mixKind X.prog X.w) hall hl h0 h15 (thn (h pos ρ _ _ (q _ (hh.free hn)) pins _ σ _ I1 (hr.kp k0) hh1) fun ws s2 ⟨xs, ys, ks, ts, M2, H2, I2, rel, hxy, k2, h2, rk, rv, hM2, kvs, eks, ets, nd, q2⟩ => ?_)
 subst eks ets
 have rk' : Reps X.K H2 xs ((kvs.map Prod.fst).map keyT) := by rw [List.map_map]; exact rk
 obtain rfl := rep_keys rk'
 rw [zip_keys] at rel
 obtain ⟨zs, e, kr0⟩ := h2 _ _ hM2
 obtain rfl : zs = [] := by cases zs with | nil => rfl | cons a b => exact kr0.elim
 obtain ⟨rs, c, rkv⟩ := carries_of (P := X.prog) (w := X.w) rel
 obtain ⟨z, hd, vs0, r0, dd⟩ := dk_of I2.hok e
 cases r0
 have hyl := rv.length
 rw [List.length_map] at hyl
 have em : mergeK [] ((kvs.map Prod.fst).zip ys) = (kvs.map Prod.fst).zip ys := by
   rw [mergeK_new _ _ (fun _ _ => rfl), List.nil_append]
   rw [List.map_fst_zip (by rw [List.length_map]; lia)]
   exact nd
 refine ⟨rs, c, dd, fun h' dd' hs => ?_⟩
 have hz : ((kvs.map Prod.fst).zip ys).length ≤ sizeLine := by
   rw [List.length_zip, List.length_map, sizeLine_eq]
   have h1 := hxy.2
   rw [List.length_map, List.length_map] at h1
   lia
 have he : ∃ q, h'.get? s.heap.objs.size = some q := let ⟨q, _, _, hq, _⟩ := dd'; ⟨q, hq⟩
 have rm := rkv.merge (kvs := []) (vs := []) .nil
 rw [em] at rm
 exact ⟨.ref s.heap.objs.size, _, d_write I2 (by rw [e]; exact True.intro) hs he (dk_new hz hd rm dd'), rfl, en _ _ _ _ ((k0.trans k2).trans (Kp.dict e (.inl ⟨_, rfl⟩))) (h2.setK e (.inl ⟨_, rfl⟩) (krep_zip rv)) rep_adr q2⟩
noncomputable def isDic (M : MH) (x : T) : Prop := match x with
 | .adr p => (match M p with | some (.dk _) => True | some (.dt _) => True | _ => False)
 | _ => False
theorem isDic_at {K : PySem.W.Frag} {H : Hp} {M : MH} {x : T} {v : V} (hh : HR K H M) (r : Rep K H v x) (d : isDic M x) : ∃ a, v = .ref a ∧ IsD H a := by
 cases x with
 | adr p =>
   obtain rfl := inv_adr r
   unfold isDic at d
   dsimp only at d
   cases e : M p with
   | none => rw [e] at d; exact d.elim
   | some o =>
     rw [e] at d
     cases o with
     | lst ts => exact d.elim
     | dk kvs => obtain ⟨xs, g1, _⟩ := hh _ _ e; exact ⟨p, rfl, .inl ⟨xs, .of g1⟩⟩
     | dt kvs => obtain ⟨xs, g1, _⟩ := hh _ _ e; exact ⟨p, rfl, .inr ⟨xs, .of g1⟩⟩
 | _ => exact d.elim
noncomputable def tGet3 (td tk tx : TE3) : TE3 := fun ρ M Q => td ρ M fun x M1 => isDic M1 x ∧ tk ρ M1 fun k M2 => tx ρ M2 fun z M3 => match x with
 | .adr p => (match M3 p with
   | some (.dk kvs) => ∃ kk, k = keyT kk ∧ Q ((valT kvs kk).getD z) M3
   | _ => False)
 | _ => False
theorem h_get2 {o : Expr} {td tk tx : TE3} {apos cpos : Pos} (hu : X.A.units + 64 < cLine) (ho : HE X o td) (he : HE X e tk) (hf : HE X f tx)
   (m1 : attributeBase o "get" X.env (eval o X.env) = eval o X.env := by rfl)
   (m2 : ((backTo cpos (starEach [e, f] X.env)).all (fun x => !x.1) && (backToKw cpos (keywordEach [] X.env)).all (fun x => x.1.isSome)
     && decide (([e, f] : List Expr).length + ([] : List Keyword).length + (if ([] : List Keyword).isEmpty then 0 else 1) < 30)) = true := by rfl)
   (m3 : (apos.endLine == cpos.line) = true := by rfl) (m4 : backTo cpos (starEach [e, f] X.env) = [(false, eval e X.env), (false, eval f X.env)] := by rfl) :
   HE X (.Call (.Attribute o "get" apos) [e, f] [] cpos) (tGet3 td tk tx) := fun ρ M Q h =>
 (pe_dget2 (by lia) (ho.d (ρ := ρ)) (he.d (ρ := ρ)) (hf.d (ρ := ρ)) ⟨m1, m2, m3, m4⟩).imp fun σ H Q2 ⟨hr, hh, en⟩ => ⟨M, _, h, hr, hh, fun x v M1 H1 k1 h1 r1 q1 => by
   obtain ⟨hd, q1⟩ := q1
   obtain ⟨a, rfl, isd⟩ := isDic_at h1 r1 hd
   refine ⟨a, rfl, isd, M1, _, q1, hr.kp k1, h1, fun y v2 M2 H2 k2 h2 r2 q2 => ⟨M2, _, q2, hr.kp (k1.trans k2), h2, fun z v3 M3 H3 k3 h3 r3 q3 => ?_⟩⟩
   cases x with
   | adr p =>
     cases r1
     dsimp only at q3
     split at q3
     · rename_i kvs e
       obtain ⟨kk, rfl, q3⟩ := q3
       obtain rfl := rep_key r2
       obtain ⟨xs, g1, g2⟩ := h3 _ _ e
       refine ⟨_, DGet.k g1, en _ _ M3 H3 ((k1.trans k2).trans k3) h3 ?_ q3⟩
       have hv := g2.val kk
       cases ev : valT kvs kk with
       | none => rw [ev] at hv; rw [hv]; exact r3
       | some t =>
         rw [ev] at hv
         obtain ⟨u, e1, e2⟩ := hv
         rw [e1]; exact e2
     · exact q3.elim
   | _ => exact hd.elim⟩
noncomputable def isNonT (x : T) : Bool := match x with
 | .non => true
 | _ => false
theorem isNon_rep {K : PySem.W.Frag} {H : Hp} {v : V} {x : T} (r : Rep K H v x) : decide (v = .non) = isNonT x := by
 cases x with
 | non => obtain rfl := inv_non r; rfl
 | bl b => obtain rfl := inv_bl r; rfl
 | int i => obtain rfl := inv_int r; rfl
 | str y => obtain rfl := inv_str r; rfl
 | adr a => obtain rfl := inv_adr r; rfl
 | tup ts => obtain ⟨p, xs, rfl, _, _⟩ := inv_tup r; rfl
 | rd ts => obtain ⟨p, xs, rfl, _, _⟩ := inv_rd r; rfl
 | dic ks ts => unfold Rep at r; exact r.elim
noncomputable def isBlT (x : T) (c : Bool) : Option Bool := match x with
 | .bl b => some (b == c)
 | _ => none
noncomputable def rIs3 : R3 := fun x y M Q => match y with
 | .non => Q (.bl (isNonT x)) M
 | .bl c => (match isBlT x c with | some b => Q (.bl b) M | none => False)
 | _ => False
theorem is_blg {M : Model} {A : Around} {E : Value → Shared → Prop} {s : Shared} {Q : Value → Shared → Prop} {b c : Bool} (h : Q (.bool (b == c)) s) : wpAny M A (compareOp .Is (.bool b) (.bool c)) Q E s := by
 cases b <;> cases c <;> exact wpAny_pure h
theorem op3_is : OpR3 X (compareOp .Is) rIs3 := by
 intro pins s σ H x y v u Q2 I rx ry q
 obtain ⟨a, b, M, Q, r1, r2, hh, q, en⟩ := q
 cases b with
 | non =>
   obtain rfl := inv_non r2
   refine op_isN pins s σ H _ _ v u Q2 I rx ry ⟨rfl, ?_⟩
   rw [isNon_rep r1]
   exact en _ _ M H Kp.refl hh rep_bl q
 | bl c =>
   cases a with
   | bl b =>
     obtain rfl := inv_bl r1
     obtain rfl := inv_bl r2
     cases rx
     cases ry
     exact is_blg ⟨.bl _, H, I, rfl, en _ _ M H Kp.refl hh rep_bl q⟩
   | _ => exact q.elim
 | _ => exact q.elim
end
end L2
namespace L2
open PySem PySem.Spec PyProof.Rows LM
noncomputable def swapN (st : List Int) (k : Nat) : List Int := (st.set k (st.getD (k + 1) 0)).set (k + 1) (st.getD k 0)
theorem swapN_cut (st : List Int) (k : Nat) (h : k + 1 < st.length) : st.take k ++ ([st.getD (k + 1) 0, st.getD k 0] ++ st.drop (k + 2)) = swapN st k := by
 unfold swapN
 induction st generalizing k with
 | nil => simp at h
 | cons x t ih =>
   cases k with
   | zero =>
     cases t with
     | nil => simp at h
     | cons y t => rfl
   | succ k =>
     have := ih k (by simp at h; lia)
     simp only [List.take_succ_cons, List.cons_append, List.drop_succ_cons, List.set_cons_succ, List.getD_cons_succ] at this ⊢
     rw [← this]
noncomputable def isWd (n : Int) (w : List Int) (k : Int) : Bool := decide (1 ≤ n) && decide (n ≤ 6) && decide ((w.length : Int) ≤ k) && w.all (isLet n)
theorem isWd_16 (n : Int) (w : List Int) : isWd n w 16 = isPl n w := by
 unfold isWd isPl
 rw [show decide ((w.length : Int) ≤ 16) = decide (w.length ≤ 16) from decide_eq_decide.mpr (by lia)]
theorem line_big {n : Nat} (h : n < 2 ^ 23) : n < sizeLine := Nat.lt_of_le_of_lt (by lia : n ≤ 2 ^ 23) (by decide)
theorem line_big' {n : Nat} (h : n < 2 ^ 23) : n ≤ sizeLine := Nat.le_of_lt (line_big h)
noncomputable def mkKs (l : Int) : List Int := [(l.natAbs : Int), (l.natAbs : Int) + 1, -(l.natAbs : Int), -((l.natAbs : Int) + 1)]
noncomputable def mkA (l : Int) : List Int := if l > 0 then [(l.natAbs : Int), (l.natAbs : Int) + 1, -(l.natAbs : Int)] else [(l.natAbs : Int) + 1]
noncomputable def mkB (l : Int) : List Int := if l > 0 then [(l.natAbs : Int)] else [-((l.natAbs : Int) + 1), (l.natAbs : Int), (l.natAbs : Int) + 1]
noncomputable def mkKv (l : Int) : List (Key × T) := [(.inl (l.natAbs : Int), .tup ((mkA l).map .int)), (.inl ((l.natAbs : Int) + 1), .tup ((mkB l).map .int)), (.inl (-(l.natAbs : Int)), .tup ((contrL (mkA l)).map .int)), (.inl (-((l.natAbs : Int) + 1)), .tup ((contrL (mkB l)).map .int))]
theorem valT_cons {κ : Type} [DecidableEq κ] (p : κ × T) (r : List (κ × T)) (k : κ) : valT (p :: r) k = if p.1 = k then some p.2 else valT r k := by
 unfold valT
 rw [List.find?_cons]
 by_cases c : p.1 = k
 · simp [c]
 · simp [c]
theorem mk_get (l x : Int) : (valT (mkKv l) (.inl x)).getD (.tup ([x].map .int)) = .tup ((mkL l x).map .int) := by
 unfold mkKv
 simp only [valT_cons, Sum.inl.injEq]
 unfold mkL
 dsimp only
 by_cases h1 : x = (l.natAbs : Int)
 · rw [if_pos h1.symm, if_pos h1]; rfl
 · rw [if_neg (fun z => h1 z.symm), if_neg h1]
   by_cases h2 : x = (l.natAbs : Int) + 1
   · rw [if_pos h2.symm, if_pos h2]; rfl
   · rw [if_neg (fun z => h2 z.symm), if_neg h2]
     by_cases h3 : x = -(l.natAbs : Int)
     · rw [if_pos h3.symm, if_pos h3]; rfl
     · rw [if_neg (fun z => h3 z.symm), if_neg h3]
       by_cases h4 : x = -((l.natAbs : Int) + 1)
       · rw [if_pos h4.symm, if_pos h4]; rfl
       · rw [if_neg (fun z => h4 z.symm), if_neg h4]; rfl
theorem mkKs_nodup (l : Int) (h : l ≠ 0) : (mkKs l).Nodup := by
 unfold mkKs
 simp
 lia
theorem intL_get {L : List Int} {i : Nat} {x : T} (h : (L.map T.int)[i]? = some x) : ∃ l, L[i]? = some l ∧ x = .int l := by
 obtain ⟨l, a, b⟩ := get_map_int h
 exact ⟨l, a, b.symm⟩
theorem none_of {M M' : MH} {p : Addr} (h : Sub M M') (hp : M' p = none) : M p = none := by
 cases q : M p with
 | none => rfl
 | some o => have := h p o q; rw [hp] at this; cases this
theorem flat_succ {g : Int → List Int} {L : List Int} {i : Nat} {x : Int} (h : L[i]? = some x) : (L.take (i + 1)).flatMap g = (L.take i).flatMap g ++ g x := by
 rw [List.take_add_one, h, List.flatMap_append]; simp
theorem plNZ {n : Int} {w : List Int} (ok : PlOK n w) : ∀ l ∈ w, l ≠ 0 ∧ l.natAbs < 1000 := fun l hl => by
 have := ok.2.2.2 l hl
 have := ok.2.1
 unfold LetOK at *
 lia
theorem rangeT_get {a : Int} {n i : Nat} {x : T} (h : (rangeT a n)[i]? = some x) : i < n ∧ x = .int (a + (i : Nat)) := by
 unfold rangeT at h
 rw [List.getElem?_map] at h
 cases q : (List.range n)[i]? with
 | none => rw [q] at h; cases h
 | some k =>
   rw [q] at h
   have hi := (List.getElem?_eq_some_iff.mp q).1
   rw [List.length_range] at hi
   rw [List.getElem?_range hi] at q
   cases q
   exact ⟨hi, (Option.some.inj h).symm⟩
noncomputable def unlikeFrom (u v : List Int) : List Int → Option Int
 | [] => none
 | j :: js => if imgL u j = imgL v j then unlikeFrom u v js else some j
noncomputable def unlikeL (n : Int) (u v : List Int) : Option Int := unlikeFrom u v ((List.range n.toNat).map fun i => ((i : Nat) : Int) + 1)
noncomputable def unlikeT (n : Int) (u v : List Int) : T := match unlikeL n u v with
 | none => .non
 | some j => .tup [.int j, .tup ((imgL u j).map .int), .tup ((imgL v j).map .int)]
theorem unlikeFrom_none {u v : List Int} : ∀ {js : List Int}, (∀ j ∈ js, imgL u j = imgL v j) → unlikeFrom u v js = none
 | [], _ => rfl
 | j :: js, h => by
   unfold unlikeFrom
   rw [if_pos (h j List.mem_cons_self)]
   exact unlikeFrom_none fun k hk => h k (List.mem_cons_of_mem _ hk)
theorem unlikeFrom_some {u v : List Int} : ∀ {js : List Int} {i : Nat} {j : Int}, js[i]? = some j → (∀ k ∈ js.take i, imgL u k = imgL v k) → imgL u j ≠ imgL v j → unlikeFrom u v js = some j
 | [], i, j, h, _, _ => by simp at h
 | k :: js, 0, j, h, _, hne => by
   simp at h
   subst h
   unfold unlikeFrom
   rw [if_neg hne]
 | k :: js, i + 1, j, h, hk, hne => by
   unfold unlikeFrom
   rw [if_pos (hk k (by simp))]
   exact unlikeFrom_some (i := i) (by simpa using h) (fun m hm => hk m (by simp [hm])) hne
theorem cutT_to' (xs : List T) (k : Int) (h0 : 0 ≤ k) : cutT xs none (some k) = xs.take k.toNat := by
 unfold cutT
 have e : k = ((k.toNat : Nat) : Int) := by lia
 rw [e, HT.sIx_nat, HT.sIx_none, List.drop_zero, Nat.sub_zero, Int.toNat_natCast]
 by_cases h : k.toNat ≤ xs.length
 · rw [Nat.min_eq_left h]
 · rw [Nat.min_eq_right (by lia), List.take_of_length_le (Nat.le_refl _), List.take_of_length_le (by lia)]
end L2
namespace L2
open PySem PySem.Spec PyProof.Rows LM
end L2
namespace L2
open PySem PySem.Spec PyProof.Rows LM
end L2
namespace L2
open PySem PySem.Spec PyProof.Rows LM
theorem depTs_tups : ∀ (L : List (List Int)), depTs (L.map fun u => T.tup (u.map .int)) ≤ 1
 | [] => by rw [List.map_nil, depTs_nil]; lia
 | u :: L => by
   have := depTs_tups L
   rw [List.map_cons, depTs_cons, depT_tup, depTs_ints]
   lia
end L2
namespace L2
open PySem PySem.Spec PyProof.Rows LM
noncomputable def plT (p : Nat × Nat × List Int) : T := .tup [.int p.1, .int p.2.1, .tup (p.2.2.map .int)]
theorem WordOK.take {n : Int} {w : List Int} (h : WordOK n w) (k : Nat) : WordOK n (w.take k) := fun l hl => h l (List.mem_of_mem_take hl)
theorem WordOK.drop {n : Int} {w : List Int} (h : WordOK n w) (k : Nat) : WordOK n (w.drop k) := fun l hl => h l (List.mem_of_mem_drop hl)
theorem drop_take2 {ws : List Int} {i : Nat} (h : i + 1 < ws.length) : (ws.drop i).take 2 = [ws.getD i 0, ws.getD (i + 1) 0] := by
 rw [List.drop_eq_getElem_cons (show i < ws.length by lia), List.take_succ_cons, List.drop_eq_getElem_cons h, List.take_succ_cons, List.take_zero]
 simp [List.getD_eq_getElem?_getD, List.getElem?_eq_getElem h, List.getElem?_eq_getElem (show i < ws.length by lia)]
theorem drop_take3 {ws : List Int} {i : Nat} (h : i + 2 < ws.length) : (ws.drop i).take 3 = [ws.getD i 0, ws.getD (i + 1) 0, ws.getD (i + 2) 0] := by
 rw [List.drop_eq_getElem_cons (show i < ws.length by lia), List.take_succ_cons, List.drop_eq_getElem_cons (show i + 1 < ws.length by lia), List.take_succ_cons, List.drop_eq_getElem_cons (show i + 1 + 1 < ws.length by lia), List.take_succ_cons, List.take_zero]
 simp [List.getD_eq_getElem?_getD, List.getElem?_eq_getElem h, List.getElem?_eq_getElem (show i < ws.length by lia), List.getElem?_eq_getElem (show i + 1 < ws.length by lia)]
theorem getD_ok {n : Int} {ws : List Int} (hw : WordOK n ws) {i : Nat} (h : i < ws.length) : LetOK n (ws.getD i 0) := by
 rw [List.getD_eq_getElem?_getD, List.getElem?_eq_getElem h]
 exact hw _ (List.getElem_mem h)
end L2
namespace L2
open PySem PySem.Spec PyProof.Rows LM
theorem plT_pure (p : Nat × Nat × List Int) : pureT (plT p) = true := by
 unfold plT
 rw [pureT_tup, pureTs_cons, pureTs_cons, pureTs_cons, pureTs_nil, pureT_int, pureT_int, pureT_tup, pureTs_ints]; rfl
theorem plTs_pure : ∀ (L : List (Nat × Nat × List Int)), pureTs (L.map plT) = true
 | [] => rfl
 | u :: L => by rw [List.map_cons, pureTs_cons, plT_pure, plTs_pure L]; rfl
theorem plT_dep (p : Nat × Nat × List Int) : depT (plT p) ≤ 2 := by
 unfold plT
 rw [depT_tup, depTs_cons, depTs_cons, depTs_cons, depTs_nil, depT_int, depT_int, depT_tup, depTs_ints]
 decide
theorem plTs_dep : ∀ (L : List (Nat × Nat × List Int)), depTs (L.map plT) ≤ 2
 | [] => by rw [List.map_nil, depTs_nil]; lia
 | u :: L => by
   have := plTs_dep L
   have := plT_dep u
   rw [List.map_cons, depTs_cons]
   lia
end L2
namespace L2
open PySem PySem.Spec PyProof.Rows LM
theorem cutT_from' (xs : List T) (k : Int) (h0 : 0 ≤ k) : cutT xs (some k) none = xs.drop k.toNat := by
 unfold cutT
 have e : k = ((k.toNat : Nat) : Int) := by lia
 rw [e, HT.sIx_nat, HT.sIx_none, Int.toNat_natCast]
 by_cases h : k.toNat ≤ xs.length
 · rw [Nat.min_eq_left h, List.take_of_length_le (by rw [List.length_drop]; lia)]
 · rw [Nat.min_eq_right (by lia), Nat.sub_self, List.take_zero, List.drop_of_length_le (by lia)]
theorem cutT_mid' (xs : List T) (a b : Int) (h0 : 0 ≤ a) (h1 : a ≤ b) (h2 : a ≤ xs.length) : cutT xs (some a) (some b) = (xs.drop a.toNat).take (b - a).toNat := by
 unfold cutT
 have e : a = ((a.toNat : Nat) : Int) := by lia
 have e' : b = ((b.toNat : Nat) : Int) := by lia
 rw [e, e', HT.sIx_nat, HT.sIx_nat, ← e, ← e', Nat.min_eq_left (show a.toNat ≤ xs.length by lia)]
 by_cases h : b.toNat ≤ xs.length
 · rw [Nat.min_eq_left h, show (b - a).toNat = b.toNat - a.toNat by lia]
 · rw [Nat.min_eq_right (by lia), List.take_of_length_le (by rw [List.length_drop]; exact Nat.le_refl _), List.take_of_length_le (by rw [List.length_drop]; lia)]
end L2
namespace L2
open PySem PySem.Spec PyProof.Rows LM
theorem unlikeFrom_all {u v : List Int} : ∀ {js : List Int}, unlikeFrom u v js = none → ∀ j ∈ js, imgL u j = imgL v j
 | [], _, _, hj => nomatch hj
 | k :: js, h, j, hj => by
   unfold unlikeFrom at h
   by_cases c : imgL u k = imgL v k
   · rw [if_pos c] at h
     rcases List.mem_cons.mp hj with rfl | hj
     · exact c
     · exact unlikeFrom_all h j hj
   · rw [if_neg c] at h; cases h
theorem unlikeL_none {n : Int} {u v : List Int} : (unlikeL n u v).isNone = true ↔ ∀ j : Int, 1 ≤ j → j ≤ n → imgL u j = imgL v j := by
 unfold unlikeL
 constructor
 · intro h j h1 h2
   rw [Option.isNone_iff_eq_none] at h
   exact unlikeFrom_all h j (List.mem_map.mpr ⟨(j - 1).toNat, List.mem_range.mpr (by lia), by lia⟩)
 · intro h
   rw [unlikeFrom_none fun j hj => ?_]
   · rfl
   · obtain ⟨i, hi, rfl⟩ := List.mem_map.mp hj
     have := List.mem_range.mp hi
     exact h _ (by lia) (by lia)
end L2
namespace LM
noncomputable def AL (n : Int) (w v : List Int) : Prop := ∀ j : Int, 1 ≤ j → j ≤ n → imgL w j = imgL v j
theorem AL.refl {n : Int} {w : List Int} : AL n w w := fun _ _ _ => rfl
theorem AL.symm {n : Int} {w v : List Int} (h : AL n w v) : AL n v w := fun j a b => (h j a b).symm
theorem AL.trans {n : Int} {w v x : List Int} (h : AL n w v) (g : AL n v x) : AL n w x := fun j a b => (h j a b).trans (g j a b)
theorem SameW.al {n : Int} {w v : List Int} (h : SameW w v) : AL n w v := fun j _ _ => h.img j
theorem inN_one {n j : Int} (h1 : 1 ≤ j) (h2 : j ≤ n) : InN n [j] := fun x hx => by
 have : x = j := by simpa using hx
 lia
theorem AL.sub {n : Int} {w v : List Int} (hw : NZ w) (hv : NZ v) (h : AL n w v) {u : List Int} (hu : InN n u) : Eqv (subW w u) (subW v u) := same_of_img hw hv h hu
theorem AL.app {n : Int} {w v x y : List Int} (hw : WordOK n w) (hv : WordOK n v) (hx : WordOK n x) (hy : WordOK n y) (h : AL n w v) (g : AL n x y) : AL n (w ++ x) (v ++ y) := fun j h1 h2 => by
 show Eqv (subW (w ++ x) [j]) (subW (v ++ y) [j])
 rw [subW_app, subW_app]
 exact (Eqv.sub hx.nz (AL.sub hw.nz hv.nz h (inN_one h1 h2))).trans (AL.sub hx.nz hy.nz g (subW_in v hv _ (inN_one h1 h2)))
theorem al_back {n : Int} {w : List Int} (hw : NZ w) : AL n (contrL w ++ w) [] := (same_back hw).al
theorem al_back' {n : Int} {w : List Int} (hw : NZ w) : AL n (w ++ contrL w) [] := (same_back' hw).al
theorem AL.back_iff {n : Int} {w v : List Int} (hw : WordOK n w) (hv : WordOK n v) : AL n (w ++ contrL v) [] ↔ AL n w v := by
 constructor
 · intro h
   have a := AL.app (n := n) (hw.append hv.contr) WordOK.nil hv hv h (AL.refl (w := v))
   have b := AL.app (n := n) hw hw (hv.contr.append hv) WordOK.nil (AL.refl (w := w)) (al_back hv.nz)
   rw [List.append_nil] at b
   rw [List.nil_append, List.append_assoc] at a
   exact b.symm.trans a
 · intro h
   exact (AL.app (n := n) hw hv hv.contr hv.contr h AL.refl).trans (al_back' hv.nz)
end LM
namespace LM
end LM
namespace LM
end LM
namespace LM
end LM
namespace L2
open PySem PySem.Spec PyProof.Rows LM
noncomputable def gI (w : List Int) (k : Int) : Int := w.getD k.toNat 0
theorem gI_nat {A B : List Int} {x : Int} {a : Int} (h0 : 0 ≤ a) (h : A.length = a.toNat) : gI (A ++ x :: B) a = x := by
 unfold gI
 rw [List.getD_eq_getElem?_getD, ← h, List.getElem?_append_right (Nat.le_refl _), Nat.sub_self]
 rfl
theorem gI_nat1 {A B : List Int} {x y : Int} {a : Int} (h0 : 0 ≤ a) (h : A.length = a.toNat) : gI (A ++ x :: y :: B) (a + 1) = y := by
 have : A ++ x :: y :: B = (A ++ [x]) ++ y :: B := by simp
 rw [this]
 exact gI_nat (by lia) (by simp; lia)
end L2
namespace L2
open PySem PySem.Spec PyProof.Rows LM
theorem gI_at {w : List Int} {a : Int} (h0 : 0 ≤ a) (h1 : a < w.length) : atI (w.map T.int) a = some (.int (gI w a)) := atI_ints w a h0 h1
end L2
namespace L2
open PySem PySem.Spec PyProof.Rows LM
end L2
namespace L2
open PySem PySem.Spec PyProof.Rows LM
end L2
namespace L2
open PySem PySem.Spec PyProof.Rows LM
end L2
namespace L2
open PySem PySem.Spec PyProof.Rows LM
noncomputable def Sn : Nat → List Int → Nat
 | _, [] => 0
 | i, x :: r => i * x.toNat + Sn (i + 1) r
theorem Sn_append (A B : List Int) (i : Nat) : Sn i (A ++ B) = Sn i A + Sn (i + A.length) B := by
 induction A generalizing i with
 | nil => simp [Sn]
 | cons x A ih =>
   rw [List.cons_append]
   show i * x.toNat + Sn (i + 1) (A ++ B) = i * x.toNat + Sn (i + 1) A + _
   rw [ih, List.length_cons, show i + 1 + A.length = i + (A.length + 1) by lia]
   lia
noncomputable def sw (l x : Int) : Int := if x = l - 1 then l else if x = l then l - 1 else x
theorem sw_off {l x : Int} (h1 : x ≠ l - 1) (h2 : x ≠ l) : sw l x = x := by unfold sw; rw [if_neg h1, if_neg h2]
theorem sw_lo (l : Int) : sw l (l - 1) = l := by unfold sw; rw [if_pos rfl]
theorem sw_hi (l : Int) : sw l l = l - 1 := by unfold sw; rw [if_neg (by lia), if_pos rfl]
theorem map_sw_off {l : Int} {A : List Int} (h : ∀ x ∈ A, x ≠ l - 1 ∧ x ≠ l) : A.map (sw l) = A := by
 induction A with
 | nil => rfl
 | cons x A ih =>
   rw [List.map_cons, sw_off (h x (by simp)).1 (h x (by simp)).2, ih fun y hy => h y (by simp [hy])]
noncomputable def IsP (n : Int) (r : List Int) : Prop := r.Perm (range0 n)
theorem IsP.nodup {n : Int} {r : List Int} (h : IsP n r) : r.Nodup := h.nodup_iff.mpr (range0_nodup n)
theorem IsP.len {n : Int} {r : List Int} (h : IsP n r) : r.length = n.toNat := by rw [h.length_eq, range0_length]
theorem IsP.mem {n x : Int} {r : List Int} (h : IsP n r) : x ∈ r ↔ 0 ≤ x ∧ x < n := by
 rw [h.mem_iff]
 exact ⟨mem_range0, fun z => range0_mem z.1 z.2⟩
noncomputable def mvC (one other : List Int) (l : Nat) : Bool := decide (gI other ((l : Int) - 1) > gI other l) && decide (one.idxOf ((l : Int) - 1) < one.idxOf (l : Int))
noncomputable def mvS (one other : List Int) (m : Nat) : List Nat := (List.range m).filter fun i => mvC one other (i + 1)
noncomputable def mvL (one other : List Int) : Nat := match mvS one other (one.length - 1) with
 | [] => 0
 | i :: _ => i + 1
theorem mvL_cases (one other : List Int) : mvL one other = 0 ∨ (1 ≤ mvL one other ∧ mvL one other < one.length ∧ mvC one other (mvL one other) = true) := by
 unfold mvL
 cases e : mvS one other (one.length - 1) with
 | nil => exact .inl rfl
 | cons i r =>
   have hi : i ∈ mvS one other (one.length - 1) := by rw [e]; exact List.mem_cons_self
   unfold mvS at hi
   obtain ⟨h1, h2⟩ := List.mem_filter.mp hi
   have h1 := List.mem_range.mp h1
   exact .inr ⟨by show 1 ≤ i + 1; lia, by show i + 1 < _; lia, h2⟩
noncomputable def begL (row : List Int) (l : Nat) : List Int := row.take (l - 1) ++ [gI row l, gI row ((l : Int) - 1)] ++ row.drop (l + 1)
theorem ord_cut {row : List Int} {l : Nat} (h1 : 1 ≤ l) (h2 : l < row.length) : ∃ A x y B, row = A ++ x :: y :: B ∧ A.length = l - 1 := by
 refine ⟨row.take (l - 1), row[l - 1], row[l], row.drop (l + 1), ?_, by rw [List.length_take]; lia⟩
 have e1 := List.take_append_drop (l - 1) row
 rw [List.drop_eq_getElem_cons (show l - 1 < row.length by lia), show l - 1 + 1 = l by lia, List.drop_eq_getElem_cons h2] at e1
 exact e1.symm
theorem begL_cut {A B : List Int} {x y : Int} {l : Nat} (h1 : 1 ≤ l) (h : A.length = l - 1) : begL (A ++ x :: y :: B) l = A ++ y :: x :: B ∧ gI (A ++ x :: y :: B) ((l : Int) - 1) = x ∧ gI (A ++ x :: y :: B) l = y := by
 have g1 : gI (A ++ x :: y :: B) ((l : Int) - 1) = x := gI_nat (by lia) (by lia)
 have g2 : gI (A ++ x :: y :: B) l = y := by
   have := gI_nat1 (A := A) (x := x) (y := y) (B := B) (a := (l : Int) - 1) (by lia) (by lia)
   rw [show (l : Int) - 1 + 1 = l by lia] at this
   exact this
 refine ⟨?_, g1, g2⟩
 unfold begL
 rw [g1, g2, ← h, List.take_left]
 rw [show l + 1 = A.length + 2 by lia, List.drop_append]
 simp
theorem Sn_beg {A B : List Int} {x y : Int} (hx : 0 ≤ x) (hy : 0 ≤ y) (h : x > y) (i : Nat) : Sn i (A ++ y :: x :: B) + y.toNat = Sn i (A ++ x :: y :: B) + x.toNat := by
 rw [Sn_append, Sn_append]
 show Sn i A + ((i + A.length) * y.toNat + ((i + A.length + 1) * x.toNat + Sn (i + A.length + 1 + 1) B)) + y.toNat = Sn i A + ((i + A.length) * x.toNat + ((i + A.length + 1) * y.toNat + Sn (i + A.length + 1 + 1) B)) + x.toNat
 rw [Nat.add_mul (i + A.length) 1 x.toNat, Nat.add_mul (i + A.length) 1 y.toNat]
 lia
theorem Sn_two (A B C : List Int) (a b : Int) (i : Nat) : Sn i (A ++ a :: B ++ b :: C) = Sn i A + ((i + A.length) * a.toNat + (Sn (i + A.length + 1) B + ((i + A.length + 1 + B.length) * b.toNat + Sn (i + A.length + 1 + B.length + 1) C))) := by
 rw [List.append_assoc, Sn_append, List.cons_append]
 show Sn i A + ((i + A.length) * a.toNat + Sn (i + A.length + 1) (B ++ b :: C)) = _
 rw [Sn_append]
 rfl
theorem Sn_end {A B C : List Int} {v : Int} (hv : 0 ≤ v) (i : Nat) : Sn i (A ++ (v + 1) :: B ++ v :: C) < Sn i (A ++ v :: B ++ (v + 1) :: C) := by
 rw [Sn_two, Sn_two]
 have e : (v + 1).toNat = v.toNat + 1 := by lia
 rw [e, Nat.mul_add, Nat.mul_add]
 lia
theorem idx_cut {r : List Int} {v : Int} (nd : r.Nodup) (h1 : v ∈ r) (h2 : v + 1 ∈ r) (h : r.idxOf v < r.idxOf (v + 1)) : ∃ A B C, r = A ++ v :: B ++ (v + 1) :: C := by
 obtain ⟨A, D, rfl⟩ := List.append_of_mem h1
 rcases List.mem_append.mp h2 with hA | hD
 · exfalso
   rw [List.idxOf_append, List.idxOf_append, if_pos hA] at h
   rw [if_neg (fun z => (List.nodup_append.mp nd).2.2 v z v (List.mem_cons_self) rfl)] at h
   have := List.idxOf_lt_length_of_mem hA
   lia
 · rcases List.mem_cons.mp hD with e | hD
   · lia
   · obtain ⟨B, C, rfl⟩ := List.append_of_mem hD
     exact ⟨A, B, C, by simp⟩
theorem ended_cut {n : Int} {r : List Int} {l : Int} (h : IsP n r) (h1 : 1 ≤ l) (h2 : l < n) (hi : r.idxOf (l - 1) < r.idxOf l) : (∃ A B C, r = A ++ (l - 1) :: B ++ l :: C ∧ r.map (sw l) = A ++ l :: B ++ (l - 1) :: C) := by
 have hm1 : l - 1 ∈ r := h.mem.mpr (by lia)
 have hm2 : l - 1 + 1 ∈ r := h.mem.mpr (by lia)
 obtain ⟨A, B, C, rfl⟩ := idx_cut h.nodup hm1 hm2 (by rw [show l - 1 + 1 = l by lia]; exact hi)
 rw [show l - 1 + 1 = l by lia] at *
 refine ⟨A, B, C, rfl, ?_⟩
 have nd := h.nodup
 rw [List.append_assoc] at nd
 obtain ⟨_, n2, n3⟩ := List.nodup_append.mp nd
 rw [List.cons_append, List.nodup_cons] at n2
 obtain ⟨n4, n5⟩ := n2
 obtain ⟨_, n6, n7⟩ := List.nodup_append.mp n5
 rw [List.nodup_cons] at n6
 rw [List.map_append, List.map_append, List.map_cons, List.map_cons, sw_lo, sw_hi]
 rw [map_sw_off (A := A) (fun x hx => ⟨fun z => n3 x hx (l - 1) (by simp) z, fun z => n3 x hx l (by simp) z⟩),
   map_sw_off (A := B) (fun x hx => ⟨fun z => n4 (by rw [← z]; exact List.mem_append_left _ hx), fun z => n7 x hx l (by simp) z⟩),
   map_sw_off (A := C) (fun x hx => ⟨fun z => n4 (by rw [← z]; exact List.mem_append_right _ (List.mem_cons_of_mem _ hx)), fun z => n6.1 (by rw [← z]; exact hx)⟩)]
noncomputable def muR : List (List Int) → Nat
 | [] => 0
 | r :: R => Sn 0 r * 6 ^ R.length + muR R
theorem muR_move {a b a' b' : List Int} (ha : Sn 0 a' < Sn 0 a) (hb : Sn 0 b' ≤ Sn 0 b + 5) : ∀ {R : List (List Int)} {k : Nat}, R[k]? = some a → R[k + 1]? = some b → muR ((R.set k a').set (k + 1) b') < muR R
 | [], k, h, _ => by cases h
 | r :: R, 0, h, g => by
   obtain rfl : r = a := Option.some.inj h
   cases R with
   | nil => cases g
   | cons q R =>
     obtain rfl : q = b := Option.some.inj g
     show Sn 0 a' * 6 ^ (R.length + 1) + (Sn 0 b' * 6 ^ R.length + muR R) < Sn 0 r * 6 ^ (R.length + 1) + (Sn 0 q * 6 ^ R.length + muR R)
     have h1 := Nat.mul_le_mul_right (6 ^ (R.length + 1)) (Nat.succ_le_of_lt ha)
     have h2 := Nat.mul_le_mul_right (6 ^ R.length) hb
     have h3 : 0 < 6 ^ R.length := Nat.pow_pos (by decide)
     rw [Nat.succ_mul] at h1
     rw [Nat.add_mul] at h2
     rw [Nat.pow_succ] at h1 ⊢
     lia
 | r :: R, k + 1, h, g => by
   have := muR_move ha hb (R := R) (k := k) h g
   show Sn 0 r * 6 ^ ((R.set k a').set (k + 1) b').length + muR ((R.set k a').set (k + 1) b') < Sn 0 r * 6 ^ R.length + muR R
   rw [List.length_set, List.length_set]
   lia
theorem rangeT_range0 (n : Int) : rangeT 0 n.toNat = (range0 n).map .int := by
 unfold rangeT range0
 rw [List.map_map]
 exact List.map_congr_left fun i _ => by show T.int (0 + (i : Nat)) = T.int (i : Nat); rw [Int.zero_add]
theorem range0_sorted (n : Int) : (range0 n).Pairwise (· ≤ ·) := by
 unfold range0
 rw [List.pairwise_map]
 exact List.Pairwise.imp (fun h => by lia) List.pairwise_lt_range
theorem mvL_zero (us vs : List Int) : mvL us vs = 0 ↔ mvS us vs (us.length - 1) = [] := by
 unfold mvL
 cases mvS us vs (us.length - 1) with
 | nil => simp
 | cons i r => simp
noncomputable def tupT (r : List Int) : T := .tup (r.map .int)
noncomputable def stillB (R : List (List Int)) : Bool := (List.range (R.length - 1)).all fun i => decide (mvL (R.getD i []) (R.getD (i + 1) []) = 0)
theorem tupT_at {R : List (List Int)} {i : Nat} (h : i < R.length) : atI (R.map tupT) (i : Nat) = some (tupT (R.getD i [])) := by
 refine atI_nat ?_
 rw [List.getElem?_map, List.getD_eq_getElem?_getD, List.getElem?_eq_getElem h]
 rfl
theorem getD_mem {R : List (List Int)} {i : Nat} (h : i < R.length) : R.getD i [] ∈ R := by
 rw [List.getD_eq_getElem?_getD, List.getElem?_eq_getElem h]
 exact List.getElem_mem h
end L2
namespace L2
open PySem PySem.Spec PyProof.Rows LM
theorem mvL_no {us vs : List Int} (h : mvL us vs = 0) {l : Nat} (h1 : 1 ≤ l) (h2 : l < us.length) : mvC us vs l = false := by
 have := (mvL_zero us vs).mp h
 unfold mvS at this
 rw [List.filter_eq_nil_iff] at this
 have := this (l - 1) (List.mem_range.mpr (by lia))
 rw [show l - 1 + 1 = l by lia] at this
 exact Bool.eq_false_iff.mpr this
theorem pw_succ {vs : List Int} (h : ∀ i, i + 1 < vs.length → vs.getD i 0 ≤ vs.getD (i + 1) 0) : vs.Pairwise (· ≤ ·) := by
 induction vs with
 | nil => exact .nil
 | cons x vs ih =>
   have ih := ih fun i hi => by
     have := h (i + 1) (by rw [List.length_cons]; lia)
     simpa [List.getD_cons_succ] using this
   refine .cons (fun y hy => ?_) ih
   cases vs with
   | nil => cases hy
   | cons z vs =>
     have h0 := h 0 (by simp)
     have h0 : x ≤ z := by simpa using h0
     rcases List.mem_cons.mp hy with rfl | hy
     · exact h0
     · exact Int.le_trans h0 ((List.pairwise_cons.mp ih).1 y hy)
theorem range0_idx {n : Int} {s : Int} (h0 : 0 ≤ s) (h1 : s < n) : (range0 n).idxOf s = s.toNat := by
 have hl : (range0 n).length = n.toNat := range0_length n
 have e : (range0 n)[s.toNat]'(by rw [hl]; lia) = s := by
   unfold range0
   rw [List.getElem_map, List.getElem_range]
   lia
 have := (range0_nodup n).idxOf_getElem s.toNat (by rw [hl]; lia)
 rwa [e] at this
theorem plain_next {n : Int} {vs : List Int} (hv : IsP n vs) (h : mvL (range0 n) vs = 0) : vs = range0 n := by
 have hl := hv.len
 refine List.Perm.eq_of_pairwise (fun a b _ _ h1 h2 => Int.le_antisymm h1 h2) (pw_succ fun i hi => ?_) (range0_sorted n) hv
 have hc := mvL_no h (l := i + 1) (by lia) (by rw [range0_length]; lia)
 unfold mvC at hc
 rw [show ((i + 1 : Nat) : Int) - 1 = (i : Int) by lia, range0_idx (by lia) (by lia), range0_idx (by lia) (by lia)] at hc
 rw [decide_eq_true (show (i : Int).toNat < ((i + 1 : Nat) : Int).toNat by lia), Bool.and_true, decide_eq_false_iff_not] at hc
 unfold gI at hc
 rw [Int.toNat_natCast, Int.toNat_natCast] at hc
 lia
theorem idx_down {us : List Int} {n : Int} (h : ∀ l : Nat, 1 ≤ l → (l : Int) < n → us.idxOf (l : Int) < us.idxOf ((l : Int) - 1)) : ∀ (d a : Nat), (a : Int) + d + 1 < n → us.idxOf (((a + d + 1 : Nat)) : Int) < us.idxOf (a : Int) := by
 intro d
 induction d with
 | zero =>
   intro a ha
   have := h (a + 1) (by lia) (by lia)
   rwa [show ((a + 1 : Nat) : Int) - 1 = (a : Int) by lia] at this
 | succ d ih =>
   intro a ha
   have h1 := ih a (by lia)
   have h2 := h (a + d + 2) (by lia) (by lia)
   rw [show ((a + d + 2 : Nat) : Int) - 1 = ((a + d + 1 : Nat) : Int) by lia] at h2
   exact Nat.lt_trans h2 h1
theorem half_ahead {n : Int} {us : List Int} (hu : IsP n us) (h : mvL us (range0 n).reverse = 0) : us = (range0 n).reverse := by
 have hl := hu.len
 have hr : (range0 n).length = n.toNat := range0_length n
 have hd : ∀ l : Nat, 1 ≤ l → (l : Int) < n → us.idxOf (l : Int) < us.idxOf ((l : Int) - 1) := by
   intro l l1 l2
   have hc := mvL_no h l1 (by lia)
   unfold mvC at hc
   have g : ∀ s : Nat, s < n.toNat → gI (range0 n).reverse (s : Nat) = n - 1 - s := by
     intro s hs
     unfold gI range0
     rw [Int.toNat_natCast, List.getD_eq_getElem?_getD, List.getElem?_reverse (by rw [List.length_map, List.length_range]; lia), List.getElem?_map, List.length_map, List.length_range, List.getElem?_range (by lia)]
     show ((n.toNat - 1 - s : Nat) : Int) = _
     lia
   have e1 := g l (by lia)
   have e2 := g (l - 1) (by lia)
   rw [show ((l - 1 : Nat) : Int) = (l : Int) - 1 by lia] at e2
   rw [e1, e2, decide_eq_true (show n - 1 - ((l : Int) - 1) > n - 1 - l by lia), Bool.true_and, decide_eq_false_iff_not] at hc
   have m1 : (l : Int) ∈ us := hu.mem.mpr (by lia)
   have m2 : (l : Int) - 1 ∈ us := hu.mem.mpr (by lia)
   have : us.idxOf (l : Int) ≠ us.idxOf ((l : Int) - 1) := fun z => by
     have f1 := List.getElem_idxOf (List.idxOf_lt_length_of_mem m1)
     have f2 := List.getElem_idxOf (List.idxOf_lt_length_of_mem m2)
     have : (l : Int) = (l : Int) - 1 := f1.symm.trans ((getElem_congr_idx z).trans f2)
     lia
   lia
 have hk := idx_down hd
 have key : us.reverse = range0 n := by
   refine List.Perm.eq_of_pairwise (fun a b _ _ h1 h2 => Int.le_antisymm h1 h2) ?_ (range0_sorted n) ((List.reverse_perm us).trans hu)
   rw [List.pairwise_reverse, List.pairwise_iff_getElem]
   intro i j hi hj hij
   have m1 := hu.mem.mp (List.getElem_mem hi)
   have m2 := hu.mem.mp (List.getElem_mem hj)
   have i1 := hu.nodup.idxOf_getElem i hi
   have i2 := hu.nodup.idxOf_getElem j hj
   rcases Int.lt_trichotomy us[i] us[j] with z | z | z
   · exfalso
     have := hk (us[j].toNat - us[i].toNat - 1) us[i].toNat (by lia)
     rw [show ((us[i].toNat + (us[j].toNat - us[i].toNat - 1) + 1 : Nat) : Int) = us[j] by lia, show ((us[i].toNat : Nat) : Int) = us[i] by lia, i1, i2] at this
     lia
   · lia
   · lia
 rw [← key, List.reverse_reverse]
noncomputable def stillC (R : List (List Int)) : Prop := ∀ i, i + 1 < R.length → mvL (R.getD i []) (R.getD (i + 1) []) = 0
theorem stillC_iff {R : List (List Int)} : stillB R = true ↔ stillC R := by
 unfold stillB stillC
 rw [List.all_eq_true]
 constructor
 · intro h i hi
   exact of_decide_eq_true (h i (List.mem_range.mpr (by lia)))
 · intro h i hi
   have := List.mem_range.mp hi
   exact decide_eq_true (h i (by lia))
theorem stillC_tail {r : List Int} {R : List (List Int)} (h : stillC (r :: R)) : stillC R := fun i hi => by
 have := h (i + 1) (by rw [List.length_cons]; lia)
 simpa [List.getD_cons_succ] using this
theorem stillC_two {r s : List Int} {R : List (List Int)} (h : stillC (r :: s :: R)) : mvL r s = 0 := by
 have := h 0 (by simp)
 simpa using this
theorem stillC_cons {r s : List Int} {R : List (List Int)} (h : mvL r s = 0) (hs : stillC (s :: R)) : stillC (r :: s :: R) := fun i hi => by
 cases i with
 | zero => simpa using h
 | succ i =>
   have := hs i (by simp only [List.length_cons] at hi ⊢; lia)
   simpa [List.getD_cons_succ] using this
end L2
namespace L2
open PySem PySem.Spec PyProof.Rows LM
theorem swapN_begL {row : List Int} {l : Nat} (h1 : 1 ≤ l) (h2 : l < row.length) : swapN row (l - 1) = begL row l := by
 obtain ⟨A, x, y, B, rfl, hA⟩ := ord_cut h1 h2
 rw [(begL_cut (x := x) (y := y) (B := B) h1 hA).1]
 unfold swapN
 have e1 : (A ++ x :: y :: B).getD (l - 1) 0 = x := by
   rw [List.getD_eq_getElem?_getD, ← hA, List.getElem?_append_right (Nat.le_refl _), Nat.sub_self]; rfl
 have e2 : (A ++ x :: y :: B).getD (l - 1 + 1) 0 = y := by
   rw [List.getD_eq_getElem?_getD, ← hA, List.getElem?_append_right (by lia), show A.length + 1 - A.length = 1 by lia]; rfl
 rw [e1, e2, ← hA, List.set_append_right _ _ (Nat.le_refl _), Nat.sub_self, List.set_append_right _ _ (by lia), show A.length + 1 - A.length = 1 by lia]
 rfl
noncomputable def dsB (row : List Int) (l : Nat) : Bool := decide (gI row ((l : Int) - 1) > gI row l)
noncomputable def dsL (row : List Int) (m : Nat) : List Nat := ((List.range m).map (· + 1)).filter (dsB row)
theorem dsL_succ (row : List Int) (m : Nat) : dsL row (m + 1) = dsL row m ++ if dsB row (m + 1) = true then [m + 1] else [] := by
 unfold dsL
 rw [List.range_succ, List.map_append, List.filter_append, List.map_cons, List.map_nil, List.filter_cons, List.filter_nil]
noncomputable def fsD (row : List Int) : Nat := match dsL row (row.length - 1) with
 | [] => 0
 | l :: _ => l
theorem dsL_mem {row : List Int} {m l : Nat} : l ∈ dsL row m ↔ (1 ≤ l ∧ l ≤ m) ∧ dsB row l = true := by
 unfold dsL
 rw [List.mem_filter, List.mem_map]
 constructor
 · rintro ⟨⟨a, ha, rfl⟩, h⟩
   have := List.mem_range.mp ha
   exact ⟨by lia, h⟩
 · rintro ⟨h, g⟩
   exact ⟨⟨l - 1, List.mem_range.mpr (by lia), by lia⟩, g⟩
theorem fsD_pos {row : List Int} (h : fsD row ≠ 0) : 1 ≤ fsD row ∧ fsD row < row.length ∧ dsB row (fsD row) = true := by
 unfold fsD at h ⊢
 cases e : dsL row (row.length - 1) with
 | nil => rw [e] at h; exact absurd rfl h
 | cons l r =>
   have : l ∈ dsL row (row.length - 1) := by rw [e]; exact List.mem_cons_self
   obtain ⟨⟨h1, h2⟩, h3⟩ := dsL_mem.mp this
   exact ⟨h1, by show l < _; lia, h3⟩
theorem fsD_zero {row : List Int} : fsD row = 0 ↔ ∀ l : Nat, 1 ≤ l → l < row.length → dsB row l = false := by
 constructor
 · intro h l h1 h2
   cases g : dsB row l with
   | false => rfl
   | true =>
     have : l ∈ dsL row (row.length - 1) := dsL_mem.mpr ⟨⟨h1, by lia⟩, g⟩
     unfold fsD at h
     cases e : dsL row (row.length - 1) with
     | nil => rw [e] at this; cases this
     | cons x r =>
       rw [e] at h
       have hx : x ∈ dsL row (row.length - 1) := by rw [e]; exact List.mem_cons_self
       have := (dsL_mem.mp hx).1.1
       have h : x = 0 := h
       lia
 · intro h
   unfold fsD
   cases e : dsL row (row.length - 1) with
   | nil => rfl
   | cons x r =>
     have hx : x ∈ dsL row (row.length - 1) := by rw [e]; exact List.mem_cons_self
     obtain ⟨⟨h1, h2⟩, h3⟩ := dsL_mem.mp hx
     rw [h x h1 (by lia)] at h3
     cases h3
theorem fsD_first {row : List Int} {l : Nat} (h1 : 1 ≤ l) (h2 : l < row.length) (h : dsB row l = true) (hk : ∀ k : Nat, 1 ≤ k → k < l → dsB row k = false) : fsD row = l := by
 have key : ∀ m, l ≤ m → ∃ r, dsL row m = l :: r := by
   intro m
   induction m with
   | zero => intro z; lia
   | succ m ih =>
     intro z
     rw [dsL_succ]
     by_cases e : l = m + 1
     · subst e
       have : dsL row m = [] := List.eq_nil_iff_forall_not_mem.mpr fun x hx => by
         obtain ⟨⟨a, b⟩, c⟩ := dsL_mem.mp hx
         rw [hk x a (by lia)] at c
         cases c
       rw [this, if_pos h]
       exact ⟨[], rfl⟩
     · obtain ⟨r, hr⟩ := ih (by lia)
       rw [hr]
       exact ⟨_, rfl⟩
 obtain ⟨r, hr⟩ := key (row.length - 1) (by lia)
 unfold fsD
 rw [hr]
noncomputable def ltF : Nat → List Int → List Int
 | 0, _ => []
 | k + 1, row => if fsD row = 0 then [] else (fsD row : Nat) :: ltF k (begL row (fsD row))
noncomputable def ltO (row : List Int) : List Int := ltF 400 row
theorem Sn_le {B : Nat} : ∀ (L : List Int) (i : Nat), (∀ x ∈ L, x.toNat ≤ B) → Sn i L ≤ (i + L.length) * B * L.length
 | [], i, _ => Nat.zero_le _
 | x :: L, i, h => by
   have ih := Sn_le L (i + 1) fun y hy => h y (by simp [hy])
   have hx := h x (by simp)
   show i * x.toNat + Sn (i + 1) L ≤ (i + (L.length + 1)) * B * (L.length + 1)
   rw [show i + (L.length + 1) = i + 1 + L.length by lia, Nat.mul_succ]
   have h1 : i * x.toNat ≤ (i + 1 + L.length) * B := Nat.mul_le_mul (by lia) hx
   lia
theorem Sn_small {n : Int} {row : List Int} (h : IsP n row) (h6 : n ≤ 6) : Sn 0 row ≤ 216 := by
 have hl := h.len
 have h1 := Sn_le (B := 6) row 0 fun x hx => by have := h.mem.mp hx; lia
 have h2 : (0 + row.length) * 6 * row.length ≤ 6 * 6 * 6 := Nat.mul_le_mul (Nat.mul_le_mul (by lia) (Nat.le_refl _)) (by lia)
 lia
theorem beg_isP {n : Int} {row : List Int} {l : Nat} (h : IsP n row) (h1 : 1 ≤ l) (h2 : l < row.length) : IsP n (begL row l) := by
 obtain ⟨A, x, y, B, rfl, hA⟩ := ord_cut h1 h2
 rw [(begL_cut (x := x) (y := y) (B := B) h1 hA).1]
 refine List.Perm.trans (List.perm_iff_count.mpr fun z => ?_) h
 simp only [List.count_append, List.count_cons]
 lia
theorem beg_up {n : Int} {row : List Int} {l : Nat} (h : IsP n row) (h1 : 1 ≤ l) (h2 : l < row.length) (hd : dsB row l = true) : Sn 0 row < Sn 0 (begL row l) := by
 obtain ⟨A, x, y, B, rfl, hA⟩ := ord_cut h1 h2
 obtain ⟨b1, b2, b3⟩ := begL_cut (x := x) (y := y) (B := B) h1 hA
 unfold dsB at hd
 rw [b2, b3, decide_eq_true_eq] at hd
 rw [b1]
 have hx := h.mem.mp (show x ∈ A ++ x :: y :: B by simp)
 have hy := h.mem.mp (show y ∈ A ++ x :: y :: B by simp)
 have := Sn_beg (A := A) (B := B) hx.1 hy.1 hd 0
 lia
theorem ltF_enough {n : Int} (h6 : n ≤ 6) : ∀ (k : Nat) {row : List Int}, IsP n row → 217 ≤ k + Sn 0 row → ltF (k + 1) row = ltF k row := by
 intro k
 induction k with
 | zero =>
   intro row h hk
   have := Sn_small h h6
   lia
 | succ k ih =>
   intro row h hk
   by_cases e : fsD row = 0
   · show (if fsD row = 0 then [] else _) = (if fsD row = 0 then [] else _)
     rw [if_pos e, if_pos e]
   · show (if fsD row = 0 then [] else (fsD row : Int) :: ltF (k + 1) (begL row (fsD row))) = (if fsD row = 0 then [] else (fsD row : Int) :: ltF k (begL row (fsD row)))
     obtain ⟨f1, f2, f3⟩ := fsD_pos e
     rw [if_neg e, if_neg e, ih (beg_isP h f1 f2) (by have := beg_up h f1 f2 f3; lia)]
theorem ltO_eq {n : Int} {row : List Int} (h : IsP n row) (h6 : n ≤ 6) : ltO row = if fsD row = 0 then [] else (fsD row : Int) :: ltO (begL row (fsD row)) := by
 have := ltF_enough h6 400 h (by lia)
 unfold ltO
 rw [← this]
 rfl
theorem ltO_nil {n : Int} {row : List Int} (h : IsP n row) (h6 : n ≤ 6) (e : fsD row = 0) : ltO row = [] := by rw [ltO_eq h h6, if_pos e]
theorem ltO_cons {n : Int} {row : List Int} (h : IsP n row) (h6 : n ≤ 6) {l : Nat} (e : fsD row = l) (hl : 1 ≤ l) : ltO row = (l : Int) :: ltO (begL row l) := by
 rw [ltO_eq h h6, if_neg (by lia), e]
end L2
namespace L2
open PySem PySem.Spec PyProof.Rows LM
theorem isP_of {n : Int} {L : List Int} (h1 : L.Nodup) (h2 : ∀ x, x ∈ L ↔ 0 ≤ x ∧ x < n) : IsP n L :=
 (List.perm_ext_iff_of_nodup h1 (range0_nodup n)).mpr fun a => (h2 a).trans ⟨fun z => range0_mem z.1 z.2, mem_range0⟩
noncomputable def invO (ws : List Int) : List Int := (range0 ws.length).map fun s => ((ws.idxOf s : Nat) : Int)
theorem idx_inj {ws : List Int} {a b : Int} (h1 : a ∈ ws) (h2 : b ∈ ws) (h : ws.idxOf a = ws.idxOf b) : a = b := by
 have e1 := List.getElem_idxOf (List.idxOf_lt_length_of_mem h1)
 have e2 := List.getElem_idxOf (List.idxOf_lt_length_of_mem h2)
 exact e1.symm.trans ((getElem_congr_idx h).trans e2)
theorem inv_isP {n : Int} {ws : List Int} (h0 : 0 ≤ n) (h : IsP n ws) : IsP n (invO ws) := by
 have hl := h.len
 have el : ((ws.length : Nat) : Int) = n := by lia
 unfold invO
 rw [el]
 refine isP_of ?_ fun x => ?_
 · unfold List.Nodup
   rw [List.pairwise_map]
   refine List.Pairwise.imp_of_mem (fun {a b} ha hb hab z => ?_) (range0_nodup n)
   exact hab (idx_inj (h.mem.mpr (mem_range0 ha)) (h.mem.mpr (mem_range0 hb)) (by lia))
 · rw [List.mem_map]
   constructor
   · rintro ⟨a, ha, rfl⟩
     have := List.idxOf_lt_length_of_mem (h.mem.mpr (mem_range0 ha))
     lia
   · rintro ⟨h1, h2⟩
     have hx : x.toNat < ws.length := by lia
     refine ⟨ws[x.toNat], ?_, ?_⟩
     · have := h.mem.mp (List.getElem_mem hx)
       exact range0_mem this.1 this.2
     · rw [h.nodup.idxOf_getElem _ hx]
       lia
noncomputable def flO (n : Int) (ws : List Int) : List Int := ws.reverse.map fun x => n - 1 - x
theorem fl_isP {n : Int} {ws : List Int} (h : IsP n ws) : IsP n (flO n ws) := by
 unfold flO
 refine isP_of ?_ fun x => ?_
 · unfold List.Nodup
   rw [List.pairwise_map, List.pairwise_reverse]
   exact List.Pairwise.imp (fun {a b} hab z => hab (by lia)) h.nodup
 · rw [List.mem_map]
   constructor
   · rintro ⟨a, ha, rfl⟩
     have := h.mem.mp (List.mem_reverse.mp ha)
     lia
   · rintro ⟨h1, h2⟩
     exact ⟨n - 1 - x, List.mem_reverse.mpr (h.mem.mpr (by lia)), by lia⟩
theorem swap_isP {n : Int} {row : List Int} {k : Nat} (h : IsP n row) (h2 : k + 1 < row.length) : IsP n (swapN row k) := by
 have := swapN_begL (row := row) (l := k + 1) (by lia) h2
 rw [Nat.add_sub_cancel] at this
 rw [this]
 exact beg_isP h (by lia) h2
end L2
namespace L2
open PySem PySem.Spec PyProof.Rows LM
noncomputable def alB (n : Int) (w v : List Int) : Bool := @decide (AL n w v) (Classical.propDecidable _)
theorem alB_is (n : Int) (w v : List Int) : (unlikeL n w v).isNone = alB n w v := by
 unfold alB
 cases q : (unlikeL n w v).isNone with
 | true => exact (@decide_eq_true _ (Classical.propDecidable _) (unlikeL_none.mp q)).symm
 | false =>
   refine (@decide_eq_false _ (Classical.propDecidable _) fun h => ?_).symm
   rw [unlikeL_none.mpr h] at q
   cases q
theorem alB_true {n : Int} {w v : List Int} (h : AL n w v) : alB n w v = true := @decide_eq_true _ (Classical.propDecidable _) h
theorem alB_iff {n m : Int} {w v x y : List Int} (h : AL n w v ↔ AL m x y) : alB n w v = alB m x y := by
 unfold alB
 by_cases c : AL n w v
 · rw [@decide_eq_true _ (Classical.propDecidable _) c, @decide_eq_true _ (Classical.propDecidable _) (h.mp c)]
 · rw [@decide_eq_false _ (Classical.propDecidable _) c, @decide_eq_false _ (Classical.propDecidable _) (fun z => c (h.mpr z))]
end L2
namespace L2
open PySem PySem.Spec PyProof.Rows LM
noncomputable def tupI (u : List Int) : T := .tup (u.map .int)
theorem eqTs_tupI : ∀ (L L' : List (List Int)), eqTs (L.map tupI) (L'.map tupI) = decide (L = L')
 | [], [] => by simp [eqTs_nil]
 | [], u :: L' => by simp [eqTs]
 | u :: L, [] => by simp [eqTs]
 | u :: L, v :: L' => by
   rw [List.map_cons, List.map_cons, eqTs_cons, eqTs_tupI L L']
   unfold tupI
   rw [eqT_tup, eqTs_ints]
   by_cases h : u = v
   · subst h; simp
   · simp [h]
theorem alB_false {n : Int} {w v : List Int} : alB n w v = false ↔ ¬ AL n w v := by
 unfold alB
 by_cases c : AL n w v
 · rw [@decide_eq_true _ (Classical.propDecidable _) c]; simp [c]
 · rw [@decide_eq_false _ (Classical.propDecidable _) c]; simp [c]
end L2
namespace L2
open PySem PySem.Spec PyProof.Rows LM
theorem seq_cut {a b : TS3} {D : Ends3} {ρ : En} {M : MH} (h : ∀ K : En → MH → Prop, K = b D → a { D with nx := K } ρ M) : tSeq3 a b D ρ M := h _ rfl
theorem seq_cut2 {a b c : TS3} {D : Ends3} {ρ : En} {M : MH} (h : ∀ K : En → MH → Prop, K = c D → tSeq3 a b { D with nx := K } ρ M) : tSeq3 a (tSeq3 b c) D ρ M := h _ rfl
theorem seq_cut3 {a b c d : TS3} {D : Ends3} {ρ : En} {M : MH} (h : ∀ K : En → MH → Prop, K = d D → tSeq3 a (tSeq3 b c) { D with nx := K } ρ M) : tSeq3 a (tSeq3 b (tSeq3 c d)) D ρ M := h _ rfl
end L2
namespace L2
open PySem PySem.Spec PyProof.Rows LM
end L2
namespace L2
open PySem PySem.Spec PyProof.Rows LM
theorem sw_sw (l x : Int) : sw l (sw l x) = x := by
 unfold sw
 split
 · rename_i h; rw [if_neg (by lia), if_pos rfl]; lia
 · split
   · rename_i h1 h2; rw [if_pos rfl]; lia
   · rename_i h1 h2; rfl
theorem idx_map (l : Int) : ∀ (a : List Int) (x : Int), (a.map (sw l)).idxOf (sw l x) = a.idxOf x
 | [], x => rfl
 | y :: a, x => by
   rw [List.map_cons, List.idxOf_cons, List.idxOf_cons, idx_map l a x]
   by_cases c : y = x
   · subst c; simp
   · have c' : ¬ sw l y = sw l x := fun z => c (by have := congrArg (sw l) z; rwa [sw_sw, sw_sw] at this)
     rw [show (y == x) = false from beq_eq_false_iff_ne.mpr c, show (sw l y == sw l x) = false from beq_eq_false_iff_ne.mpr c']
theorem idx_map' (l : Int) (a : List Int) (x : Int) : (a.map (sw l)).idxOf x = a.idxOf (sw l x) := by
 have := idx_map l a (sw l x)
 rwa [sw_sw] at this
theorem idx_swap {A B : List Int} {x y : Int} (nd : (A ++ x :: y :: B).Nodup) (z : Int) :
   (A ++ y :: x :: B).idxOf z = if z = x then A.length + 1 else if z = y then A.length else (A ++ x :: y :: B).idxOf z := by
 obtain ⟨_, n2, n3⟩ := List.nodup_append.mp nd
 have hx : x ∉ A := fun h => n3 x h x (by simp) rfl
 have hy : y ∉ A := fun h => n3 y h y (by simp) rfl
 have hxy : x ≠ y := fun h => by rw [List.nodup_cons] at n2; exact n2.1 (by simp [h])
 by_cases c1 : z = x
 · subst c1
   rw [if_pos rfl, List.idxOf_append, if_neg hx, List.idxOf_cons, show (y == z) = false from beq_eq_false_iff_ne.mpr (Ne.symm hxy), List.idxOf_cons]
   simp
   lia
 · rw [if_neg c1]
   by_cases c2 : z = y
   · subst c2
     rw [if_pos rfl, List.idxOf_append, if_neg hy, List.idxOf_cons]
     simp
   · rw [if_neg c2, List.idxOf_append, List.idxOf_append]
     by_cases c3 : z ∈ A
     · rw [if_pos c3, if_pos c3]
     · rw [if_neg c3, if_neg c3, List.idxOf_cons, List.idxOf_cons, List.idxOf_cons, List.idxOf_cons]
       have e1 : (y == z) = false := beq_eq_false_iff_ne.mpr fun h => c2 h.symm
       have e2 : (x == z) = false := beq_eq_false_iff_ne.mpr fun h => c1 h.symm
       rw [e1, e2]
theorem idx_at {A B : List Int} {x y : Int} (nd : (A ++ x :: y :: B).Nodup) : (A ++ x :: y :: B).idxOf x = A.length ∧ (A ++ x :: y :: B).idxOf y = A.length + 1 := by
 have nd' : (A ++ y :: x :: B).Nodup := (List.Perm.append_left A (List.Perm.swap y x B)).nodup_iff.mp nd |> fun h => h
 have h1 := idx_swap (A := A) (B := B) (x := y) (y := x) nd' x
 have h2 := idx_swap (A := A) (B := B) (x := y) (y := x) nd' y
 have hxy : x ≠ y := fun h => by
   obtain ⟨_, n2, _⟩ := List.nodup_append.mp nd
   rw [List.nodup_cons] at n2
   exact n2.1 (by simp [h])
 rw [if_neg hxy, if_pos rfl] at h1
 rw [if_pos rfl] at h2
 exact ⟨h1, h2⟩
theorem beg_keep {n : Int} {b : List Int} {l m : Nat} (h : IsP n b) (l1 : 1 ≤ l) (l2 : (l : Int) < n) (hb : gI b ((l : Int) - 1) > gI b l) (he : b.idxOf ((m : Int) - 1) < b.idxOf (m : Int)) :
   gI (b.map (sw m)) ((l : Int) - 1) > gI (b.map (sw m)) l ∧ (begL b l).idxOf ((m : Int) - 1) < (begL b l).idxOf (m : Int) ∧ begL (b.map (sw m)) l = (begL b l).map (sw m) := by
 have hl := h.len
 obtain ⟨A, x, y, B, rfl, hA⟩ := ord_cut (row := b) l1 (by lia)
 obtain ⟨b1, b2, b3⟩ := begL_cut (x := x) (y := y) (B := B) l1 hA
 obtain ⟨i1, i2⟩ := idx_at h.nodup
 rw [b2, b3] at hb
 have em : (A ++ x :: y :: B).map (sw m) = A.map (sw m) ++ sw m x :: sw m y :: B.map (sw m) := by rw [List.map_append, List.map_cons, List.map_cons]
 have hA' : (A.map (sw m)).length = l - 1 := by rw [List.length_map]; exact hA
 obtain ⟨c1, c2, c3⟩ := begL_cut (x := sw m x) (y := sw m y) (B := B.map (sw m)) l1 hA'
 rw [em, c1, c2, c3, b1]
 refine ⟨?_, ?_, ?_⟩
 · unfold sw
   by_cases q1 : x = (m : Int) - 1
   · rw [if_pos q1]
     by_cases q2 : y = (m : Int) - 1
     · lia
     · rw [if_neg q2]
       by_cases q3 : y = m
       · lia
       · rw [if_neg q3]; lia
   · rw [if_neg q1]
     by_cases q4 : x = m
     · rw [if_pos q4]
       by_cases q2 : y = (m : Int) - 1
       · exfalso
         have e1 : (m : Int) - 1 = y := q2.symm
         have e2 : (m : Int) = x := q4.symm
         rw [e1, e2, i1, i2] at he
         lia
       · rw [if_neg q2]
         by_cases q3 : y = m
         · lia
         · rw [if_neg q3]; lia
     · rw [if_neg q4]
       by_cases q2 : y = (m : Int) - 1
       · rw [if_pos q2]; lia
       · rw [if_neg q2]
         by_cases q3 : y = m
         · rw [if_pos q3]; lia
         · rw [if_neg q3]; lia
 · rw [idx_swap h.nodup, idx_swap h.nodup]
   have d1 : ∀ z, z ≠ x → (A ++ x :: y :: B).idxOf z ≠ A.length ∨ (z ∉ A ++ x :: y :: B) := fun z hz => by
     by_cases hm : z ∈ A ++ x :: y :: B
     · exact .inl fun e => hz (idx_inj hm (by simp) (e.trans i1.symm))
     · exact .inr hm
   have d2 : ∀ z, z ≠ y → (A ++ x :: y :: B).idxOf z ≠ A.length + 1 ∨ (z ∉ A ++ x :: y :: B) := fun z hz => by
     by_cases hm : z ∈ A ++ x :: y :: B
     · exact .inl fun e => hz (idx_inj hm (by simp) (e.trans i2.symm))
     · exact .inr hm
   have big : ∀ z, z ∉ A ++ x :: y :: B → (A ++ x :: y :: B).idxOf z = (A ++ x :: y :: B).length := fun z hz => List.idxOf_eq_length hz
   have hlen : A.length + 2 ≤ (A ++ x :: y :: B).length := by rw [List.length_append, List.length_cons, List.length_cons]; lia
   have du := d1 ((m : Int) - 1)
   have dv := d1 m
   have eu := d2 ((m : Int) - 1)
   have ev := d2 m
   have bu := big ((m : Int) - 1)
   have bv := big m
   by_cases q1 : (m : Int) - 1 = x
   · rw [if_pos q1]
     rw [if_neg (show ¬ (m : Int) = x by lia)]
     by_cases q2 : (m : Int) = y
     · lia
     · rw [if_neg q2]
       rw [q1, i1] at he
       have := ev q2
       have := dv (by lia)
       rcases ev q2 with z | z
       · lia
       · have := bv z; lia
   · rw [if_neg q1]
     by_cases q3 : (m : Int) - 1 = y
     · rw [if_pos q3]
       by_cases q4 : (m : Int) = x
       · rw [if_pos q4]; lia
       · rw [if_neg q4, if_neg (show ¬ (m : Int) = y by lia)]
         rw [q3, i2] at he
         lia
     · rw [if_neg q3]
       by_cases q4 : (m : Int) = x
       · rw [if_pos q4]
         have e1 : (A ++ x :: y :: B).idxOf (m : Int) = A.length := by rw [q4]; exact i1
         lia
       · rw [if_neg q4]
         by_cases q5 : (m : Int) = y
         · rw [if_pos q5]
           have e1 : (A ++ x :: y :: B).idxOf (m : Int) = A.length + 1 := by rw [q5]; exact i2
           rcases du q1 with z | z
           · lia
           · have := bu z; lia
         · rw [if_neg q5]; exact he
 · rw [List.map_append, List.map_cons, List.map_cons]
end L2
namespace L2
open PySem PySem.Spec PyProof.Rows LM
theorem beg_len {b : List Int} {l : Nat} (h1 : 1 ≤ l) (h2 : l < b.length) : (begL b l).length = b.length := by
 obtain ⟨A, x, y, B, rfl, hA⟩ := ord_cut h1 h2
 rw [(begL_cut (x := x) (y := y) (B := B) h1 hA).1, List.length_append, List.length_append]
 rfl
theorem gI_ext {b c : List Int} (hl : b.length = c.length) (h : ∀ k : Nat, k < b.length → gI b k = gI c k) : b = c := by
 refine List.ext_getElem hl fun k h1 h2 => ?_
 have := h k h1
 unfold gI at this
 rw [Int.toNat_natCast, List.getD_eq_getElem?_getD, List.getD_eq_getElem?_getD, List.getElem?_eq_getElem h1, List.getElem?_eq_getElem h2] at this
 exact this
theorem gI_beg {b : List Int} {l : Nat} (h1 : 1 ≤ l) (h2 : l < b.length) (k : Nat) : gI (begL b l) k = gI b (sw l k) := by
 obtain ⟨A, x, y, B, rfl, hA⟩ := ord_cut h1 h2
 obtain ⟨b1, b2, b3⟩ := begL_cut (x := x) (y := y) (B := B) h1 hA
 rw [b1]
 unfold sw
 by_cases c1 : (k : Int) = (l : Int) - 1
 · rw [if_pos c1, b3]
   have : k = A.length := by lia
   subst this
   unfold gI
   rw [Int.toNat_natCast, List.getD_eq_getElem?_getD, List.getElem?_append_right (Nat.le_refl _), Nat.sub_self]
   rfl
 · rw [if_neg c1]
   by_cases c2 : (k : Int) = l
   · rw [if_pos c2, b2]
     have : k = A.length + 1 := by lia
     subst this
     unfold gI
     rw [Int.toNat_natCast, List.getD_eq_getElem?_getD, List.getElem?_append_right (by lia), show A.length + 1 - A.length = 1 by lia]
     rfl
   · rw [if_neg c2]
     unfold gI
     rw [Int.toNat_natCast, List.getD_eq_getElem?_getD, List.getD_eq_getElem?_getD]
     by_cases c3 : k < A.length
     · rw [List.getElem?_append_left c3, List.getElem?_append_left c3]
     · rw [List.getElem?_append_right (by lia), List.getElem?_append_right (by lia)]
       obtain ⟨d, hd⟩ : ∃ d, k - A.length = d + 2 := ⟨k - A.length - 2, by lia⟩
       rw [hd]
       rfl
theorem sw_rng {l k : Int} {n : Int} (h1 : 1 ≤ l) (h2 : l < n) (h0 : 0 ≤ k) (hk : k < n) : 0 ≤ sw l k ∧ sw l k < n := by
 unfold sw
 split
 · lia
 · split <;> lia
theorem gI_beg' {b : List Int} {l : Nat} (h1 : 1 ≤ l) (h2 : l < b.length) {k : Int} (h0 : 0 ≤ k) : gI (begL b l) k = gI b (sw l k) := by
 have := gI_beg h1 h2 k.toNat
 rwa [Int.toNat_of_nonneg h0] at this
theorem sw_far {l m : Int} (h : l + 2 ≤ m ∨ m + 2 ≤ l) (x : Int) : sw m (sw l x) = sw l (sw m x) := by
 by_cases a : x = l - 1
 · rw [a, sw_lo, sw_off (l := m) (x := l) (by lia) (by lia), sw_off (l := m) (by lia) (by lia), sw_lo]
 · by_cases b : x = l
   · rw [b, sw_hi, sw_off (l := m) (x := l - 1) (by lia) (by lia), sw_off (l := m) (by lia) (by lia), sw_hi]
   · rw [sw_off a b]
     by_cases c : x = m - 1
     · rw [c, sw_lo, sw_off (by lia) (by lia)]
     · by_cases d : x = m
       · rw [d, sw_hi, sw_off (by lia) (by lia)]
       · rw [sw_off c d, sw_off a b]
theorem sw_near (l x : Int) : sw l (sw (l + 1) (sw l x)) = sw (l + 1) (sw l (sw (l + 1) x)) := by
 have e : l + 1 - 1 = l := by lia
 have p1 := sw_lo (l + 1)
 have p2 := sw_hi (l + 1)
 rw [e] at p1 p2
 have p3 : sw (l + 1) (l - 1) = l - 1 := sw_off (by lia) (by lia)
 have p4 : sw l (l + 1) = l + 1 := sw_off (by lia) (by lia)
 by_cases a : x = l - 1
 · rw [a, sw_lo, p1, p4, p3, sw_lo, p1]
 · by_cases b : x = l
   · rw [b, sw_hi, p3, sw_lo, p1, p4, p2]
   · by_cases c : x = l + 1
     · rw [c, p4, p2, sw_hi, p3]
     · rw [sw_off a b, sw_off (l := l + 1) (by lia) c, sw_off a b, sw_off (by lia) c]
theorem sw_fl {n l m : Int} (e : l + m = n) (x : Int) : n - 1 - sw l x = sw m (n - 1 - x) := by
 by_cases a : x = l - 1
 · rw [a, sw_lo, show n - 1 - (l - 1) = m by lia, sw_hi]; lia
 · by_cases b : x = l
   · rw [b, sw_hi, show n - 1 - l = m - 1 by lia, sw_lo]; lia
   · rw [sw_off a b, sw_off (by lia) (by lia)]
theorem mvC_iff {a b : List Int} {l : Nat} : mvC a b l = true ↔ gI b ((l : Int) - 1) > gI b l ∧ a.idxOf ((l : Int) - 1) < a.idxOf (l : Int) := by
 unfold mvC
 rw [Bool.and_eq_true, decide_eq_true_eq, decide_eq_true_eq]
theorem pair_far {n : Int} {a b : List Int} {l m : Nat} (ha : IsP n a) (hb : IsP n b) (l1 : 1 ≤ l) (l2 : (l : Int) < n) (m1 : 1 ≤ m) (m2 : (m : Int) < n) (h : l + 2 ≤ m ∨ m + 2 ≤ l) (hm : mvC a b m = true) :
   mvC (a.map (sw l)) (begL b l) m = true ∧ (a.map (sw l)).map (sw m) = (a.map (sw m)).map (sw l) ∧ begL (begL b l) m = begL (begL b m) l := by
 have lb := hb.len
 have e1 : sw l ((m : Int) - 1) = (m : Int) - 1 := sw_off (by lia) (by lia)
 have e2 : sw l (m : Int) = (m : Int) := sw_off (by lia) (by lia)
 refine ⟨?_, ?_, ?_⟩
 · rw [mvC_iff] at hm ⊢
   rw [gI_beg' l1 (by lia) (by lia), gI_beg' l1 (by lia) (by lia), idx_map', idx_map', e1, e2]
   exact hm
 · rw [List.map_map, List.map_map]
   exact List.map_congr_left fun x _ => sw_far (by lia) x
 · have q1 := beg_len (b := b) (l := l) l1 (by lia)
   have q2 := beg_len (b := b) (l := m) m1 (by lia)
   refine gI_ext ?_ fun k hk => ?_
   · rw [beg_len (b := begL b l) m1 (by lia), beg_len (b := begL b m) l1 (by lia), q1, q2]
   · have hk' : k < b.length := by rw [beg_len m1 (by lia), q1] at hk; exact hk
     have r1 := sw_rng (l := m) (k := k) (n := n) (by lia) (by lia) (by lia) (by lia)
     have r2 := sw_rng (l := l) (k := k) (n := n) (by lia) (by lia) (by lia) (by lia)
     rw [gI_beg m1 (by lia), gI_beg' l1 (by lia) r1.1, gI_beg l1 (by lia), gI_beg' m1 (by lia) r2.1, sw_far (by lia)]
theorem pair_near {n : Int} {a b : List Int} {l : Nat} (ha : IsP n a) (hb : IsP n b) (l1 : 1 ≤ l) (l2 : (l : Int) + 1 < n) (hl : mvC a b l = true) (hm : mvC a b (l + 1) = true) :
   (mvC (a.map (sw l)) (begL b l) (l + 1) = true ∧ mvC ((a.map (sw l)).map (sw ((l + 1 : Nat) : Int))) (begL (begL b l) (l + 1)) l = true) ∧
   (mvC (a.map (sw ((l + 1 : Nat) : Int))) (begL b (l + 1)) l = true ∧ mvC ((a.map (sw ((l + 1 : Nat) : Int))).map (sw l)) (begL (begL b (l + 1)) l) (l + 1) = true) ∧
   ((a.map (sw l)).map (sw ((l + 1 : Nat) : Int))).map (sw l) = ((a.map (sw ((l + 1 : Nat) : Int))).map (sw l)).map (sw ((l + 1 : Nat) : Int)) ∧
   begL (begL (begL b l) (l + 1)) l = begL (begL (begL b (l + 1)) l) (l + 1) := by
 have lb := hb.len
 rw [mvC_iff] at hl hm
 have el : ((l + 1 : Nat) : Int) = (l : Int) + 1 := by lia
 rw [el] at hm
 rw [show (l : Int) + 1 - 1 = l by lia] at hm
 have q1 := beg_len (b := b) (l := l) l1 (by lia)
 have q2 := beg_len (b := b) (l := l + 1) (by lia) (by lia)
 have q3 := beg_len (b := begL b l) (l := l + 1) (by lia) (by lia)
 have q4 := beg_len (b := begL b (l + 1)) (l := l) l1 (by lia)
 have s1 : sw l ((l : Int) - 1) = l := sw_lo l
 have s2 : sw l (l : Int) = (l : Int) - 1 := sw_hi l
 have s3 : sw l ((l : Int) + 1) = (l : Int) + 1 := sw_off (by lia) (by lia)
 have t1 : sw ((l : Int) + 1) ((l : Int) - 1) = (l : Int) - 1 := sw_off (by lia) (by lia)
 have t2 : sw ((l : Int) + 1) (l : Int) = (l : Int) + 1 := by have := sw_lo ((l : Int) + 1); rwa [show (l : Int) + 1 - 1 = l by lia] at this
 have t3 : sw ((l : Int) + 1) ((l : Int) + 1) = l := by have := sw_hi ((l : Int) + 1); rwa [show (l : Int) + 1 - 1 = l by lia] at this
 have G1 : ∀ k : Int, 0 ≤ k → gI (begL b l) k = gI b (sw l k) := fun k hk => gI_beg' l1 (by lia) hk
 have G2 : ∀ k : Int, 0 ≤ k → gI (begL b (l + 1)) k = gI b (sw ((l : Int) + 1) k) := fun k hk => by
   have := gI_beg' (b := b) (l := l + 1) (by lia) (by lia) hk
   rwa [el] at this
 have G3 : ∀ k : Int, 0 ≤ k → gI (begL (begL b l) (l + 1)) k = gI (begL b l) (sw ((l : Int) + 1) k) := fun k hk => by
   have := gI_beg' (b := begL b l) (l := l + 1) (by lia) (by lia) hk
   rwa [el] at this
 have G4 : ∀ k : Int, 0 ≤ k → gI (begL (begL b (l + 1)) l) k = gI (begL b (l + 1)) (sw l k) := fun k hk => gI_beg' l1 (by lia) hk
 have x1 : ((l + 1 : Nat) : Int) - 1 = l := by lia
 have p0 : (0 : Int) ≤ (l : Int) - 1 := by lia
 have p1 : (0 : Int) ≤ (l : Int) := by lia
 have p2 : (0 : Int) ≤ (l : Int) + 1 := by lia
 refine ⟨⟨?_, ?_⟩, ⟨?_, ?_⟩, ?_, ?_⟩
 · rw [mvC_iff, x1, el, G1 _ p1, G1 _ p2, idx_map' l a l, idx_map' l a ((l : Int) + 1), s2, s3]
   lia
 · rw [mvC_iff, G3 _ p0, G3 _ p1, t1, t2, G1 _ p0, G1 _ p2, s1, s3, el, idx_map' ((l : Int) + 1) (a.map (sw l)) ((l : Int) - 1), idx_map' ((l : Int) + 1) (a.map (sw l)) l, t1, t2, idx_map' l a ((l : Int) - 1), idx_map' l a ((l : Int) + 1), s1, s3]
   lia
 · rw [mvC_iff, el, G2 _ p0, G2 _ p1, t1, t2, idx_map' ((l : Int) + 1) a ((l : Int) - 1), idx_map' ((l : Int) + 1) a l, t1, t2]
   lia
 · rw [mvC_iff, x1, el, G4 _ p1, G4 _ p2, s2, s3, G2 _ p0, G2 _ p2, t1, t3, idx_map' l (a.map (sw ((l : Int) + 1))) l, idx_map' l (a.map (sw ((l : Int) + 1))) ((l : Int) + 1), s2, s3, idx_map' ((l : Int) + 1) a ((l : Int) - 1), idx_map' ((l : Int) + 1) a ((l : Int) + 1), t1, t3]
   lia
 · rw [el]
   simp only [List.map_map]
   exact List.map_congr_left fun x _ => sw_near l x
 · have q5 := beg_len (b := begL (begL b l) (l + 1)) (l := l) l1 (by lia)
   have q6 := beg_len (b := begL (begL b (l + 1)) l) (l := l + 1) (by lia) (by lia)
   refine gI_ext ?_ fun k hk => ?_
   · rw [q5, q6, q3, q4, q1, q2]
   · have hk' : k < b.length := by rw [q5, q3, q1] at hk; exact hk
     have r1 := sw_rng (l := l) (k := k) (n := n) (by lia) (by lia) (by lia) (by lia)
     have r2 := sw_rng (l := (l : Int) + 1) (k := k) (n := n) (by lia) (by lia) (by lia) (by lia)
     have r3 := sw_rng (l := (l : Int) + 1) (k := sw l k) (n := n) (by lia) (by lia) r1.1 r1.2
     have r4 := sw_rng (l := l) (k := sw ((l : Int) + 1) k) (n := n) (by lia) (by lia) r2.1 r2.2
     rw [gI_beg (b := begL (begL b l) (l + 1)) (l := l) l1 (by lia) k, G3 _ r1.1, G1 _ r3.1]
     rw [gI_beg (b := begL (begL b (l + 1)) l) (l := l + 1) (by lia) (by lia) k, el, G4 _ r2.1, G2 _ r4.1, sw_near]
end L2
namespace L2
open PySem PySem.Spec PyProof.Rows LM
noncomputable def setp (R : List (List Int)) (i : Nat) (a b : List Int) : List (List Int) := (R.set i a).set (i + 1) b
theorem setp_len (R : List (List Int)) (i : Nat) (a b : List Int) : (setp R i a b).length = R.length := by unfold setp; rw [List.length_set, List.length_set]
theorem setp_get {R : List (List Int)} {i : Nat} {a b : List Int} (h : i + 1 < R.length) (k : Nat) : (setp R i a b)[k]? = if k = i then some a else if k = i + 1 then some b else R[k]? := by
 unfold setp
 rw [List.getElem?_set, List.getElem?_set, List.length_set]
 by_cases c1 : k = i
 · subst c1
   rw [if_neg (by lia), if_pos rfl, if_pos (by lia), if_pos rfl]
 · by_cases c2 : k = i + 1
   · subst c2
     rw [if_pos rfl, if_pos h, if_neg (by lia), if_pos rfl]
   · rw [if_neg (fun z => c2 z.symm), if_neg (fun z => c1 z.symm), if_neg c1, if_neg c2]
noncomputable def StepR (n : Int) (R R' : List (List Int)) : Prop := ∃ (i l : Nat) (a b : List Int), R[i]? = some a ∧ R[i + 1]? = some b ∧ 1 ≤ l ∧ (l : Int) < n ∧ mvC a b l = true ∧ R' = setp R i (a.map (sw l)) (begL b l)
inductive Go (n : Int) : List (List Int) → List (List Int) → Prop where
 | refl (R : List (List Int)) : Go n R R
 | head {R R1 R2 : List (List Int)} (h : StepR n R R1) (g : Go n R1 R2) : Go n R R2
theorem Go.trans {n : Int} {R R1 R2 : List (List Int)} (a : Go n R R1) (b : Go n R1 R2) : Go n R R2 := by
 induction a with
 | refl _ => exact b
 | head h _ ih => exact .head h (ih b)
theorem Go.one {n : Int} {R R1 : List (List Int)} (h : StepR n R R1) : Go n R R1 := .head h (.refl _)
noncomputable def okR (n : Int) (R : List (List Int)) : Prop := ∀ r ∈ R, IsP n r
theorem moved_any {n : Int} {one other : List Int} {l : Nat} (h1 : IsP n one) (h2 : IsP n other) (h6 : n ≤ 6) (l1 : 1 ≤ l) (l2 : (l : Int) < n) (hc : mvC one other l = true) :
   IsP n (one.map (sw l)) ∧ IsP n (begL other l) ∧ Sn 0 (one.map (sw l)) < Sn 0 one ∧ Sn 0 (begL other l) ≤ Sn 0 other + 5 := by
 have e1 := h1.len
 have e2 := h2.len
 rw [mvC_iff] at hc
 obtain ⟨A, x, y, B, rfl, hA⟩ := ord_cut (row := other) l1 (by lia)
 obtain ⟨b1, b2, b3⟩ := begL_cut (x := x) (y := y) (B := B) l1 hA
 rw [b2, b3] at hc
 obtain ⟨C, D, E, rfl, c2⟩ := ended_cut h1 (show (1 : Int) ≤ l by lia) (by lia) hc.2
 rw [b1, c2]
 have hx := h2.mem.mp (show x ∈ A ++ x :: y :: B by simp)
 have hy := h2.mem.mp (show y ∈ A ++ x :: y :: B by simp)
 refine ⟨?_, ?_, ?_, ?_⟩
 · refine List.Perm.trans (List.perm_iff_count.mpr fun z => ?_) h1
   simp only [List.count_append, List.count_cons]
   lia
 · refine List.Perm.trans (List.perm_iff_count.mpr fun z => ?_) h2
   simp only [List.count_append, List.count_cons]
   lia
 · have := Sn_end (A := C) (B := D) (C := E) (v := (l : Int) - 1) (by lia) 0
   rw [show (l : Int) - 1 + 1 = l by lia] at this
   exact this
 · have := Sn_beg (A := A) (B := B) hx.1 hy.1 hc.1 0
   lia
theorem okR_at {n : Int} {R : List (List Int)} {i : Nat} {a : List Int} (h : okR n R) (e : R[i]? = some a) : IsP n a := h a (List.mem_of_getElem? e)
theorem step_ok {n : Int} (h6 : n ≤ 6) {R R' : List (List Int)} (h : okR n R) (s : StepR n R R') : okR n R' ∧ muR R' < muR R ∧ R'.length = R.length := by
 obtain ⟨i, l, a, b, e1, e2, l1, l2, hc, rfl⟩ := s
 obtain ⟨q1, q2, q3, q4⟩ := moved_any (okR_at h e1) (okR_at h e2) h6 l1 l2 hc
 refine ⟨fun r hr => ?_, muR_move q3 q4 e1 e2, setp_len ..⟩
 unfold setp at hr
 rcases List.mem_or_eq_of_mem_set hr with hr | rfl
 · rcases List.mem_or_eq_of_mem_set hr with hr | rfl
   · exact h r hr
   · exact q1
 · exact q2
theorem go_ok {n : Int} (h6 : n ≤ 6) {R R' : List (List Int)} (g : Go n R R') (h : okR n R) : okR n R' := by
 induction g with
 | refl _ => exact h
 | head s _ ih => exact ih (step_ok h6 h s).1
theorem lt_get {R : List (List Int)} {i : Nat} {a : List Int} (e : R[i]? = some a) : i < R.length := (List.getElem?_eq_some_iff.mp e).1
theorem loc_same {n : Int} {R : List (List Int)} {i l m : Nat} {a b : List Int} (h : okR n R) (e1 : R[i]? = some a) (e2 : R[i + 1]? = some b) (l1 : 1 ≤ l) (l2 : (l : Int) < n) (hl : mvC a b l = true) (m1 : 1 ≤ m) (m2 : (m : Int) < n) (hm : mvC a b m = true) (hlm : l ≤ m) :
   ∃ R3, Go n (setp R i (a.map (sw l)) (begL b l)) R3 ∧ Go n (setp R i (a.map (sw m)) (begL b m)) R3 := by
 have hi := lt_get e2
 have ss : ∀ (x y u v : List Int), setp (setp R i x y) i u v = setp R i u v := fun x y u v => by
   refine List.ext_getElem? fun k => ?_
   rw [setp_get (by rw [setp_len]; exact hi), setp_get hi, setp_get hi]
   split
   · rfl
   · split <;> rfl
 have g1 : ∀ x y : List Int, (setp R i x y)[i]? = some x := fun x y => by rw [setp_get hi, if_pos rfl]
 have g2 : ∀ x y : List Int, (setp R i x y)[i + 1]? = some y := fun x y => by rw [setp_get hi, if_neg (by lia), if_pos rfl]
 have st : ∀ (x y : List Int) (k : Nat), 1 ≤ k → (k : Int) < n → mvC x y k = true → StepR n (setp R i x y) (setp R i (x.map (sw k)) (begL y k)) := fun x y k k1 k2 hk =>
   ⟨i, k, x, y, g1 x y, g2 x y, k1, k2, hk, (ss _ _ _ _).symm⟩
 by_cases c0 : l = m
 · subst c0
   exact ⟨_, .refl _, .refl _⟩
 by_cases c1 : m = l + 1
 · subst c1
   obtain ⟨⟨p1, p2⟩, ⟨p3, p4⟩, p5, p6⟩ := pair_near (okR_at h e1) (okR_at h e2) l1 (by lia) hl hm
   refine ⟨_, .head (st _ _ (l + 1) m1 m2 p1) (Go.one (st _ _ l l1 l2 p2)), .head (st _ _ l l1 l2 p3) ?_⟩
   rw [p5, p6]
   exact Go.one (st _ _ (l + 1) m1 m2 p4)
 · obtain ⟨p1, p2, p3⟩ := pair_far (okR_at h e1) (okR_at h e2) l1 l2 m1 m2 (.inl (by lia)) hm
   obtain ⟨q1, _, _⟩ := pair_far (okR_at h e1) (okR_at h e2) m1 m2 l1 l2 (.inr (by lia)) hl
   refine ⟨_, Go.one (st _ _ m m1 m2 p1), ?_⟩
   rw [p2, p3]
   exact Go.one (st _ _ l l1 l2 q1)
theorem loc_le {n : Int} {R : List (List Int)} {i j l m : Nat} {a b c d : List Int} (h : okR n R) (hij : i < j) (e1 : R[i]? = some a) (e2 : R[i + 1]? = some b) (l1 : 1 ≤ l) (l2 : (l : Int) < n) (hl : mvC a b l = true)
   (e3 : R[j]? = some c) (e4 : R[j + 1]? = some d) (m1 : 1 ≤ m) (m2 : (m : Int) < n) (hm : mvC c d m = true) :
   ∃ R3, Go n (setp R i (a.map (sw l)) (begL b l)) R3 ∧ Go n (setp R j (c.map (sw m)) (begL d m)) R3 := by
 have hi := lt_get e2
 have hj := lt_get e4
 by_cases c0 : j = i + 1
 · subst c0
   rw [e2] at e3
   obtain rfl := Option.some.inj e3
   have hb := okR_at h e2
   have hl' := mvC_iff.mp hl
   have hm' := mvC_iff.mp hm
   obtain ⟨k1, k2, k3⟩ := beg_keep hb l1 l2 hl'.1 hm'.2
   refine ⟨_, Go.one ⟨i + 1, m, begL b l, d, ?_, ?_, m1, m2, mvC_iff.mpr ⟨hm'.1, k2⟩, rfl⟩, Go.one ⟨i, l, a, b.map (sw m), ?_, ?_, l1, l2, mvC_iff.mpr ⟨k1, hl'.2⟩, ?_⟩⟩
   · rw [setp_get hi, if_neg (by lia), if_pos rfl]
   · rw [setp_get hi, if_neg (by lia), if_neg (by lia)]; exact e4
   · rw [setp_get hj, if_neg (by lia), if_neg (by lia)]; exact e1
   · rw [setp_get hj, if_pos rfl]
   · rw [k3]
     refine List.ext_getElem? fun k => ?_
     rw [setp_get (by rw [setp_len]; exact hj), setp_get hi, setp_get (by rw [setp_len]; exact hi), setp_get hj]
     by_cases z1 : k = i
     · subst z1
       rw [if_neg (by lia), if_neg (by lia), if_pos rfl, if_pos rfl]
     · rw [if_neg z1, if_neg z1]
       by_cases z2 : k = i + 1
       · subst z2
         rw [if_pos rfl, if_pos rfl]
       · rw [if_neg z2, if_neg z2, if_neg z2, if_neg z2]
 · refine ⟨_, Go.one ⟨j, m, c, d, ?_, ?_, m1, m2, hm, rfl⟩, Go.one ⟨i, l, a, b, ?_, ?_, l1, l2, hl, ?_⟩⟩
   · rw [setp_get hi, if_neg (by lia), if_neg (by lia)]; exact e3
   · rw [setp_get hi, if_neg (by lia), if_neg (by lia)]; exact e4
   · rw [setp_get hj, if_neg (by lia), if_neg (by lia)]; exact e1
   · rw [setp_get hj, if_neg (by lia), if_neg (by lia)]; exact e2
   · refine List.ext_getElem? fun k => ?_
     rw [setp_get (by rw [setp_len]; exact hj), setp_get hi, setp_get (by rw [setp_len]; exact hi), setp_get hj]
     by_cases z1 : k = i
     · subst z1; rw [if_neg (by lia), if_neg (by lia), if_pos rfl, if_pos rfl]
     · rw [if_neg z1, if_neg z1]
       by_cases z2 : k = i + 1
       · subst z2; rw [if_neg (by lia), if_neg (by lia), if_pos rfl, if_pos rfl]
       · rw [if_neg z2, if_neg z2]
theorem loc_conf {n : Int} {R R1 R2 : List (List Int)} (h : okR n R) (s1 : StepR n R R1) (s2 : StepR n R R2) : ∃ R3, Go n R1 R3 ∧ Go n R2 R3 := by
 obtain ⟨i, l, a, b, e1, e2, l1, l2, hl, rfl⟩ := s1
 obtain ⟨j, m, c, d, e3, e4, m1, m2, hm, rfl⟩ := s2
 rcases Nat.lt_trichotomy i j with z | z | z
 · exact loc_le h z e1 e2 l1 l2 hl e3 e4 m1 m2 hm
 · subst z
   rw [e1] at e3
   rw [e2] at e4
   obtain rfl := Option.some.inj e3
   obtain rfl := Option.some.inj e4
   rcases Nat.le_total l m with q | q
   · exact loc_same h e1 e2 l1 l2 hl m1 m2 hm q
   · obtain ⟨R3, a, b⟩ := loc_same h e1 e2 m1 m2 hm l1 l2 hl q
     exact ⟨R3, b, a⟩
 · obtain ⟨R3, a, b⟩ := loc_le h z e3 e4 m1 m2 hm e1 e2 l1 l2 hl
   exact ⟨R3, b, a⟩
noncomputable def Nf (n : Int) (R : List (List Int)) : Prop := ∀ R', ¬ StepR n R R'
theorem nf_some {n : Int} (h6 : n ≤ 6) : ∀ (k : Nat) {R : List (List Int)}, muR R ≤ k → okR n R → ∃ N, Go n R N ∧ Nf n N := by
 intro k
 induction k with
 | zero =>
   intro R hk h
   refine ⟨R, .refl _, fun R' s => ?_⟩
   have := (step_ok h6 h s).2.1
   lia
 | succ k ih =>
   intro R hk h
   by_cases c : ∃ R', StepR n R R'
   · obtain ⟨R', s⟩ := c
     obtain ⟨o1, o2, _⟩ := step_ok h6 h s
     obtain ⟨N, g, nf⟩ := ih (by lia) o1
     exact ⟨N, .head s g, nf⟩
   · exact ⟨R, .refl _, fun R' s => c ⟨R', s⟩⟩
theorem nf_one {n : Int} (h6 : n ≤ 6) : ∀ (k : Nat) {R N1 N2 : List (List Int)}, muR R ≤ k → okR n R → Go n R N1 → Nf n N1 → Go n R N2 → Nf n N2 → N1 = N2 := by
 intro k
 induction k with
 | zero =>
   intro R N1 N2 hk h g1 f1 g2 f2
   cases g1 with
   | refl _ =>
     cases g2 with
     | refl _ => rfl
     | head s _ => exact absurd s (f1 _)
   | head s _ => have := (step_ok h6 h s).2.1; lia
 | succ k ih =>
   intro R N1 N2 hk h g1 f1 g2 f2
   cases g1 with
   | refl _ =>
     cases g2 with
     | refl _ => rfl
     | head s _ => exact absurd s (f1 _)
   | head s1 t1 =>
     cases g2 with
     | refl _ => exact absurd s1 (f2 _)
     | head s2 t2 =>
       obtain ⟨o1, o2, _⟩ := step_ok h6 h s1
       obtain ⟨o3, o4, _⟩ := step_ok h6 h s2
       obtain ⟨R3, u1, u2⟩ := loc_conf h s1 s2
       obtain ⟨N3, u3, f3⟩ := nf_some h6 _ (Nat.le_refl _) (go_ok h6 u1 o1)
       rw [ih (by lia) o1 t1 f1 (u1.trans u3) f3, ih (by lia) o3 t2 f2 (u2.trans u3) f3]
end L2
namespace L2
open PySem PySem.Spec PyProof.Rows LM
theorem gI_map {u : List Int} {l : Int} {j : Nat} (h : j < u.length) : gI (u.map (sw l)) j = sw l (gI u j) := by
 unfold gI
 rw [Int.toNat_natCast, List.getD_eq_getElem?_getD, List.getD_eq_getElem?_getD, List.getElem?_map, List.getElem?_eq_getElem h]
 rfl
theorem gI_get {u : List Int} {j : Nat} (h : j < u.length) : gI u j = u[j] := by
 unfold gI
 rw [Int.toNat_natCast, List.getD_eq_getElem?_getD, List.getElem?_eq_getElem h]
 rfl
theorem gI_idx {n : Int} {u : List Int} (hu : IsP n u) {v : Int} (h0 : 0 ≤ v) (h1 : v < n) : gI u ((u.idxOf v : Nat) : Int) = v ∧ u.idxOf v < u.length := by
 have hm : v ∈ u := hu.mem.mpr ⟨h0, h1⟩
 have hi := List.idxOf_lt_length_of_mem hm
 exact ⟨by rw [gI_get hi]; exact List.getElem_idxOf hi, hi⟩
theorem idx_gI {n : Int} {u : List Int} (hu : IsP n u) {j : Nat} (h : j < u.length) : u.idxOf (gI u j) = j := by
 rw [gI_get h]
 exact hu.nodup.idxOf_getElem j h
theorem gI_rng {n : Int} {u : List Int} (hu : IsP n u) {j : Nat} (h : j < u.length) : 0 ≤ gI u j ∧ gI u j < n := by
 rw [gI_get h]
 exact hu.mem.mp (List.getElem_mem h)
theorem step2 {n : Int} {a b : List Int} {R : List (List Int)} (s : StepR n [a, b] R) : ∃ l : Nat, 1 ≤ l ∧ (l : Int) < n ∧ mvC a b l = true ∧ R = [a.map (sw l), begL b l] := by
 obtain ⟨i, l, a', b', e1, e2, l1, l2, hc, rfl⟩ := s
 have hi := lt_get e2
 have : i = 0 := by have : i + 1 < 2 := hi; lia
 subst this
 obtain rfl := Option.some.inj e1
 obtain rfl := Option.some.inj e2
 exact ⟨l, l1, l2, hc, rfl⟩
theorem go2 {n : Int} (P : List Int → List Int → Prop) (st : ∀ (a b : List Int) (l : Nat), P a b → 1 ≤ l → (l : Int) < n → mvC a b l = true → P (a.map (sw l)) (begL b l)) {R N : List (List Int)} (g : Go n R N) : ∀ a b, R = [a, b] → P a b → ∃ u v, N = [u, v] ∧ P u v := by
 induction g with
 | refl _ => intro a b e h; exact ⟨a, b, e, h⟩
 | head s _ ih =>
   intro a b e h
   subst e
   obtain ⟨l, l1, l2, hc, e⟩ := step2 s
   exact ih _ _ e (st a b l h l1 l2 hc)
structure Two (n : Int) (t : Nat → Int) (u v : List Int) : Prop where
 pu : IsP n u
 pv : IsP n v
 at' : ∀ j : Nat, j < u.length → gI v (gI u j) = t j
theorem Two.step {n : Int} (h6 : n ≤ 6) {t : Nat → Int} {u v : List Int} {l : Nat} (h : Two n t u v) (l1 : 1 ≤ l) (l2 : (l : Int) < n) (hc : mvC u v l = true) : Two n t (u.map (sw l)) (begL v l) := by
 obtain ⟨q1, q2, _, _⟩ := moved_any h.pu h.pv h6 l1 l2 hc
 refine ⟨q1, q2, fun j hj => ?_⟩
 rw [List.length_map] at hj
 have lv := h.pv.len
 have r := gI_rng h.pu hj
 have r2 := sw_rng (l := l) (n := n) (by lia) l2 r.1 r.2
 rw [gI_map hj, gI_beg' l1 (by lia) r2.1, sw_sw]
 exact h.at' j hj
theorem sw_lt {l x y : Int} (h : x < y) (hs : sw l x > sw l y) : x = l - 1 ∧ y = l := by
 unfold sw at hs
 repeat' split at hs
 all_goals lia
theorem sw_gt {l x y : Int} (h : x > y) (hs : ¬ sw l x > sw l y) (hne : x ≠ y) : x = l ∧ y = l - 1 := by
 unfold sw at hs
 repeat' split at hs
 all_goals lia
theorem gI_inj {n : Int} {u : List Int} (hu : IsP n u) {p q : Nat} (hp : p < u.length) (hq : q < u.length) (h : gI u p = gI u q) : p = q := by
 have := congrArg u.idxOf h
 rwa [idx_gI hu hp, idx_gI hu hq] at this
theorem gI_range0 {n : Int} {k : Int} (h0 : 0 ≤ k) (h1 : k < n) : gI (range0 n) k = k := range0_get n k h0 h1
theorem sorted_plain {n : Int} {v : List Int} (hv : IsP n v) (h : ∀ l : Nat, 1 ≤ l → (l : Int) < n → ¬ gI v ((l : Int) - 1) > gI v l) : v = range0 n := by
 have hl := hv.len
 refine List.Perm.eq_of_pairwise (fun a b _ _ h1 h2 => Int.le_antisymm h1 h2) (pw_succ fun i hi => ?_) (range0_sorted n) hv
 have := h (i + 1) (by lia) (by lia)
 rw [show ((i + 1 : Nat) : Int) - 1 = (i : Int) by lia] at this
 unfold gI at this
 rw [Int.toNat_natCast, Int.toNat_natCast] at this
 lia
theorem plain_back {n : Int} (h0 : 0 ≤ n) (h6 : n ≤ 6) {x : List Int} (hx : IsP n x) : Go n [range0 n, x] [x, range0 n] := by
 have hp : IsP n (range0 n) := .refl _
 have ok : okR n [range0 n, x] := fun r hr => by
   rcases List.mem_cons.mp hr with rfl | hr
   · exact hp
   · obtain rfl := List.mem_singleton.mp hr; exact hx
 obtain ⟨N, g, nf⟩ := nf_some h6 _ (Nat.le_refl _) ok
 have lx := hx.len
 have lr := range0_length n
 obtain ⟨u, v, rfl, ht, hi⟩ := go2 (n := n) (fun u v => Two n (fun j : Nat => gI x j) u v ∧ ∀ p q : Nat, p < q → q < u.length → gI u p > gI u q → gI x p > gI x q) (fun a b l ⟨h, hi⟩ l1 l2 hc => by
   refine ⟨h.step h6 l1 l2 hc, fun p q hpq hq hg => ?_⟩
   rw [List.length_map] at hq
   rw [gI_map (by lia), gI_map hq] at hg
   rcases Int.lt_trichotomy (gI a p) (gI a q) with z | z | z
   · obtain ⟨z1, z2⟩ := sw_lt z hg
     have := (mvC_iff.mp hc).1
     rw [← h.at' p (by lia), ← h.at' q hq, z1, z2]
     exact this
   · rw [z] at hg; lia
   · exact hi p q hpq hq z) g _ _ rfl ⟨⟨hp, hx, fun j hj => by rw [gI_range0 (by lia) (by lia)]⟩, fun p q hpq hq hg => by
     rw [gI_range0 (by lia) (by lia), gI_range0 (by lia) (by lia)] at hg
     lia⟩
 have lu := ht.pu.len
 have hv : v = range0 n := sorted_plain ht.pv fun l l1 l2 hB => by
   have hn : ¬ mvC u v l = true := fun z => nf _ ⟨0, l, u, v, rfl, rfl, l1, l2, z, rfl⟩
   rw [mvC_iff] at hn
   have a1 := gI_idx ht.pu (v := (l : Int)) (by lia) l2
   have a2 := gI_idx ht.pu (v := (l : Int) - 1) (by lia) (by lia)
   have hne : u.idxOf (l : Int) ≠ u.idxOf ((l : Int) - 1) := fun z => by
     have := a1.1
     rw [z, a2.1] at this
     lia
   have h1 : u.idxOf (l : Int) < u.idxOf ((l : Int) - 1) := by
     have : ¬ (u.idxOf ((l : Int) - 1) < u.idxOf (l : Int)) := fun z => hn ⟨hB, z⟩
     lia
   have := hi _ _ h1 a2.2 (by rw [a1.1, a2.1]; lia)
   rw [← ht.at' _ a1.2, ← ht.at' _ a2.2, a1.1, a2.1] at this
   lia
 subst hv
 have hu : u = x := gI_ext (by lia) fun k hk => by
   have r := gI_rng ht.pu hk
   have := ht.at' k hk
   rwa [gI_range0 r.1 r.2] at this
 rw [hu] at g
 exact g
theorem half_all {n : Int} {u : List Int} (hu : IsP n u) (h : ∀ l : Nat, 1 ≤ l → (l : Int) < n → u.idxOf (l : Int) < u.idxOf ((l : Int) - 1)) : u = (range0 n).reverse := by
 have hk := idx_down h
 have hl := hu.len
 have key : u.reverse = range0 n := by
   refine List.Perm.eq_of_pairwise (fun a b _ _ h1 h2 => Int.le_antisymm h1 h2) ?_ (range0_sorted n) ((List.reverse_perm u).trans hu)
   rw [List.pairwise_reverse, List.pairwise_iff_getElem]
   intro i j hi hj hij
   have m1 := hu.mem.mp (List.getElem_mem hi)
   have m2 := hu.mem.mp (List.getElem_mem hj)
   have i1 := hu.nodup.idxOf_getElem i hi
   have i2 := hu.nodup.idxOf_getElem j hj
   rcases Int.lt_trichotomy u[i] u[j] with z | z | z
   · exfalso
     have := hk (u[j].toNat - u[i].toNat - 1) u[i].toNat (by lia)
     rw [show ((u[i].toNat + (u[j].toNat - u[i].toNat - 1) + 1 : Nat) : Int) = u[j] by lia, show ((u[i].toNat : Nat) : Int) = u[i] by lia, i1, i2] at this
     lia
   · lia
   · lia
 rw [← key, List.reverse_reverse]
theorem gI_half {n : Int} {k : Nat} (h : (k : Int) < n) : gI (range0 n).reverse k = n - 1 - k := by
 unfold gI range0
 rw [Int.toNat_natCast, List.getD_eq_getElem?_getD, List.getElem?_reverse (by rw [List.length_map, List.length_range]; lia), List.getElem?_map, List.length_map, List.length_range, List.getElem?_range (by lia)]
 show ((n.toNat - 1 - k : Nat) : Int) = _
 lia
theorem gI_fl {n : Int} {u : List Int} (hu : IsP n u) {k : Nat} (h : k < u.length) : gI (flO n u) k = n - 1 - gI u ((u.length - 1 - k : Nat) : Int) := by
 unfold flO gI
 rw [Int.toNat_natCast, Int.toNat_natCast, List.getD_eq_getElem?_getD, List.getD_eq_getElem?_getD, List.getElem?_map, List.getElem?_reverse h, List.getElem?_eq_getElem (by lia)]
 rfl
theorem half_front {n : Int} (h0 : 0 ≤ n) (h6 : n ≤ 6) {x : List Int} (hx : IsP n x) : Go n [x, (range0 n).reverse] [(range0 n).reverse, flO n x] := by
 have hp : IsP n (range0 n).reverse := List.reverse_perm _
 have ok : okR n [x, (range0 n).reverse] := fun r hr => by
   rcases List.mem_cons.mp hr with rfl | hr
   · exact hx
   · obtain rfl := List.mem_singleton.mp hr; exact hp
 obtain ⟨N, g, nf⟩ := nf_some h6 _ (Nat.le_refl _) ok
 have lx := hx.len
 have lr := range0_length n
 obtain ⟨u, v, rfl, ht, hi⟩ := go2 (n := n) (fun u v => Two n (fun j => n - 1 - gI x j) u v ∧ ∀ p q : Nat, p < q → q < u.length → gI x p > gI x q → gI u p > gI u q) (fun a b l ⟨h, hi⟩ l1 l2 hc => by
   refine ⟨h.step h6 l1 l2 hc, fun p q hpq hq hg => ?_⟩
   rw [List.length_map] at hq
   rw [gI_map (by lia), gI_map hq]
   have h1 := hi p q hpq hq hg
   refine Classical.byContradiction fun hs => ?_
   obtain ⟨z1, z2⟩ := sw_gt h1 hs (by lia)
   have h2 := (mvC_iff.mp hc).2
   have e1 : (l : Int) - 1 = gI a q := z2.symm
   have e2 : (l : Int) = gI a p := z1.symm
   rw [e1, e2, idx_gI h.pu hq, idx_gI h.pu (by lia)] at h2
   lia) g _ _ rfl ⟨⟨hx, hp, fun j hj => by
     have r := gI_rng hx hj
     have := gI_half (n := n) (k := (gI x j).toNat) (by lia)
     rwa [Int.toNat_of_nonneg r.1] at this⟩, fun p q _ _ hg => hg⟩
 have lu := ht.pu.len
 have lv := ht.pv.len
 have hu : u = (range0 n).reverse := half_all ht.pu fun l l1 l2 => by
   have hn : ¬ mvC u v l = true := fun z => nf _ ⟨0, l, u, v, rfl, rfl, l1, l2, z, rfl⟩
   rw [mvC_iff] at hn
   have a1 := gI_idx ht.pu (v := (l : Int)) (by lia) l2
   have a2 := gI_idx ht.pu (v := (l : Int) - 1) (by lia) (by lia)
   have hne : u.idxOf (l : Int) ≠ u.idxOf ((l : Int) - 1) := fun z => by
     have := a1.1
     rw [z, a2.1] at this
     lia
   refine Classical.byContradiction fun hc => hn ⟨?_, by lia⟩
   have b1 := ht.at' _ a1.2
   have b2 := ht.at' _ a2.2
   rw [a1.1] at b1
   rw [a2.1] at b2
   rw [b1, b2]
   have hlt : u.idxOf ((l : Int) - 1) < u.idxOf (l : Int) := by lia
   have c1 : ¬ gI x ((u.idxOf ((l : Int) - 1) : Nat) : Int) > gI x ((u.idxOf (l : Int) : Nat) : Int) := fun z => by
     have := hi _ _ hlt a1.2 z
     rw [a1.1, a2.1] at this
     lia
   have c2 : gI x ((u.idxOf ((l : Int) - 1) : Nat) : Int) ≠ gI x ((u.idxOf (l : Int) : Nat) : Int) := fun z => by
     have := gI_inj hx (by lia) (by lia) z
     lia
   lia
 subst hu
 have hv : v = flO n x := by
   have lf : (flO n x).length = x.length := by unfold flO; rw [List.length_map, List.length_reverse]
   refine gI_ext (by lia) fun k hk => ?_
   have hj : x.length - 1 - k < (range0 n).reverse.length := by rw [List.length_reverse]; lia
   have := ht.at' _ hj
   rw [gI_half (by lia)] at this
   rw [gI_fl hx (by lia)]
   rw [show n - 1 - ((x.length - 1 - k : Nat) : Int) = (k : Int) by lia] at this
   exact this
 rw [hv] at g
 exact g
end L2
namespace L2
open PySem PySem.Spec PyProof.Rows LM
theorem getD_some {R : List (List Int)} {i : Nat} {a : List Int} (e : R[i]? = some a) : R.getD i [] = a := by
 rw [List.getD_eq_getElem?_getD, e]; rfl
theorem some_getD {R : List (List Int)} {i : Nat} (h : i < R.length) : R[i]? = some (R.getD i []) := by
 rw [List.getD_eq_getElem?_getD, List.getElem?_eq_getElem h]; rfl
theorem still_nf {n : Int} {R : List (List Int)} (h : okR n R) : stillB R = true ↔ Nf n R := by
 rw [stillC_iff]
 constructor
 · rintro hs R' ⟨i, l, a, b, e1, e2, l1, l2, hc, _⟩
   have := hs i (lt_get e2)
   rw [getD_some e1, getD_some e2] at this
   have la := (okR_at h e1).len
   rw [mvL_no this l1 (by lia)] at hc
   exact absurd hc (by decide)
 · intro hn i hi
   have e1 := some_getD (R := R) (i := i) (by lia)
   have e2 := some_getD hi
   generalize R.getD i [] = a at e1 ⊢
   generalize R.getD (i + 1) [] = b at e2 ⊢
   have la := (okR_at h e1).len
   rcases mvL_cases a b with z | ⟨z1, z2, z3⟩
   · exact z
   · exact absurd ⟨i, mvL a b, a, b, e1, e2, z1, by lia, z3, rfl⟩ (hn _)
theorem settled_one {n : Int} (h6 : n ≤ 6) {R N1 N2 : List (List Int)} (h : okR n R) (g1 : Go n R N1) (s1 : stillB N1 = true) (g2 : Go n R N2) (s2 : stillB N2 = true) : N1 = N2 :=
 nf_one h6 _ (Nat.le_refl _) h g1 ((still_nf (go_ok h6 g1 h)).mp s1) g2 ((still_nf (go_ok h6 g2 h)).mp s2)
theorem setp_in {A R B : List (List Int)} {i : Nat} {a b : List Int} (h : i + 1 < R.length) : setp (A ++ R ++ B) (A.length + i) a b = A ++ setp R i a b ++ B := by
 have a1 : ∀ (X : List (List Int)) (j : Nat) (x : List Int), (A ++ X).set (A.length + j) x = A ++ X.set j x := fun X j x => by
   rw [List.set_append_right _ _ (Nat.le_add_right _ _), Nat.add_sub_cancel_left]
 have a2 : ∀ (X : List (List Int)) (j : Nat) (x : List Int), j < X.length → (X ++ B).set j x = X.set j x ++ B := fun X j x hj => List.set_append_left _ _ hj
 unfold setp
 rw [List.append_assoc, List.append_assoc, a1, Nat.add_assoc, a1, a2 R i a (by lia), a2 (R.set i a) (i + 1) b (by rw [List.length_set]; exact h)]
theorem get_in {A R B : List (List Int)} {i : Nat} {a : List Int} (e : R[i]? = some a) : (A ++ R ++ B)[A.length + i]? = some a := by
 have := lt_get e
 rw [List.append_assoc, List.getElem?_append_right (by lia), show A.length + i - A.length = i by lia, List.getElem?_append_left this, e]
theorem step_in {n : Int} {R R' : List (List Int)} (A B : List (List Int)) (s : StepR n R R') : StepR n (A ++ R ++ B) (A ++ R' ++ B) := by
 obtain ⟨i, l, a, b, e1, e2, l1, l2, hc, rfl⟩ := s
 refine ⟨A.length + i, l, a, b, get_in e1, ?_, l1, l2, hc, (setp_in (lt_get e2)).symm⟩
 rw [show A.length + i + 1 = A.length + (i + 1) by lia]
 exact get_in e2
theorem go_in {n : Int} {R R' : List (List Int)} (A B : List (List Int)) (g : Go n R R') : Go n (A ++ R ++ B) (A ++ R' ++ B) := by
 induction g with
 | refl _ => exact .refl _
 | head s _ ih => exact .head (step_in A B s) ih
theorem plain_behind {n : Int} (h0 : 0 ≤ n) (h6 : n ≤ 6) : ∀ {R : List (List Int)}, okR n R → Go n (range0 n :: R) (R ++ [range0 n]) := by
 intro R
 induction R with
 | nil => exact fun _ => .refl _
 | cons r R ih =>
   intro h
   have g1 := go_in [] R (plain_back h0 h6 (h r List.mem_cons_self))
   have g2 := go_in [r] [] (ih fun x hx => h x (List.mem_cons_of_mem _ hx))
   rw [List.append_nil, List.append_nil] at g2
   exact Go.trans g1 g2
theorem half_before {n : Int} (h0 : 0 ≤ n) (h6 : n ≤ 6) : ∀ {R : List (List Int)}, okR n R → Go n (R ++ [(range0 n).reverse]) ((range0 n).reverse :: R.map (flO n)) := by
 intro R
 induction R with
 | nil => exact fun _ => .refl _
 | cons r R ih =>
   intro h
   have g1 := go_in [r] [] (ih fun x hx => h x (List.mem_cons_of_mem _ hx))
   rw [List.append_nil, List.append_nil] at g1
   have g2 := go_in [] (R.map (flO n)) (half_front h0 h6 (h r List.mem_cons_self))
   exact Go.trans g1 g2
end L2
namespace L2
open PySem PySem.Spec PyProof.Rows LM
theorem gI_inv {n : Int} {u : List Int} (hu : IsP n u) {k : Int} (h0 : 0 ≤ k) (h1 : k < n) : gI (invO u) k = (u.idxOf k : Nat) := by
 have lu := hu.len
 unfold invO
 have hk : k.toNat < (range0 (u.length : Int)).length := by rw [range0_length]; lia
 unfold gI
 rw [List.getD_eq_getElem?_getD, List.getElem?_map, List.getElem?_eq_getElem hk]
 have e := gI_range0 (n := (u.length : Int)) h0 (by lia)
 unfold gI at e
 rw [List.getD_eq_getElem?_getD, List.getElem?_eq_getElem hk] at e
 show ((u.idxOf _ : Nat) : Int) = _
 rw [show (range0 (u.length : Int))[k.toNat] = k from e]
theorem sw_isP {n : Int} {u : List Int} (hu : IsP n u) {l : Nat} (l1 : 1 ≤ l) (l2 : (l : Int) < n) : IsP n (u.map (sw l)) := by
 refine isP_of ?_ fun x => ?_
 · unfold List.Nodup
   rw [List.pairwise_map]
   refine hu.nodup.imp fun {a b} hab z => hab ?_
   have := congrArg (sw l) z
   rwa [sw_sw, sw_sw] at this
 · rw [List.mem_map]
   constructor
   · rintro ⟨a, ha, rfl⟩
     have := hu.mem.mp ha
     exact sw_rng (by lia) l2 this.1 this.2
   · intro hx
     exact ⟨sw l x, hu.mem.mpr (sw_rng (by lia) l2 hx.1 hx.2), sw_sw _ _⟩
theorem inv_len (u : List Int) : (invO u).length = u.length := by
 unfold invO; rw [List.length_map, range0_length]; lia
theorem inv_inv {n : Int} (h0 : 0 ≤ n) {u : List Int} (hu : IsP n u) : invO (invO u) = u := by
 have lu := hu.len
 have hi := inv_isP h0 hu
 refine gI_ext (by rw [inv_len, inv_len]) fun k hk => ?_
 rw [inv_len, inv_len] at hk
 rw [gI_inv hi (by lia) (by lia)]
 have r := gI_rng hu hk
 have e := gI_inv hu r.1 r.2
 rw [idx_gI hu hk] at e
 have := idx_gI hi (j := (gI u k).toNat) (by rw [inv_len]; lia)
 rw [Int.toNat_of_nonneg r.1, e] at this
 rw [this]; lia
theorem inv_step {n : Int} (h0 : 0 ≤ n) {u : List Int} (hu : IsP n u) {l : Nat} (l1 : 1 ≤ l) (l2 : (l : Int) < n) : swapN (invO u) (l - 1) = invO (u.map (sw l)) := by
 have lu := hu.len
 rw [swapN_begL l1 (by rw [inv_len]; lia)]
 refine gI_ext (by rw [beg_len l1 (by rw [inv_len]; lia), inv_len, inv_len, List.length_map]) fun k hk => ?_
 rw [beg_len l1 (by rw [inv_len]; lia), inv_len] at hk
 rw [gI_beg l1 (by rw [inv_len]; lia)]
 have r := sw_rng (l := l) (k := k) (n := n) (by lia) l2 (by lia) (by lia)
 rw [gI_inv hu r.1 r.2]
 have hs : IsP n (u.map (sw l)) := sw_isP hu l1 l2
 rw [gI_inv hs (by lia) (by lia), idx_map']
theorem ds_inv {n : Int} {u : List Int} (hu : IsP n u) {l : Nat} (l1 : 1 ≤ l) (l2 : (l : Int) < n) : dsB (invO u) l = true ↔ u.idxOf (l : Int) < u.idxOf ((l : Int) - 1) := by
 unfold dsB
 rw [gI_inv hu (by lia) (by lia), gI_inv hu (by lia) l2, decide_eq_true_iff]
 lia
theorem mvC_ds {n : Int} {u v : List Int} (hu : IsP n u) {l : Nat} (l1 : 1 ≤ l) (l2 : (l : Int) < n) : mvC u v l = (dsB v l && !dsB (invO u) l) := by
 have hne : u.idxOf (l : Int) ≠ u.idxOf ((l : Int) - 1) := fun e => by
   have a := gI_idx hu (v := (l : Int)) (by lia) l2
   have b := gI_idx hu (v := (l : Int) - 1) (by lia) (by lia)
   rw [e] at a
   lia
 rw [Bool.eq_iff_iff, mvC_iff, Bool.and_eq_true, Bool.not_eq_true', Bool.eq_false_iff, ne_eq, ds_inv hu l1 l2]
 unfold dsB
 rw [decide_eq_true_iff]
 lia
noncomputable def noU (u v : List Int) (l : Nat) : Prop := ∀ k : Nat, 1 ≤ k → k < l → mvC u v k = false
theorem noU_one (u v : List Int) : noU u v 1 := fun k a b => absurd b (by lia)
theorem noU_on {u v : List Int} {l : Nat} (h : noU u v l) (hc : mvC u v l = false) : noU u v (l + 1) := fun k a b => by
 by_cases e : k = l
 · subst e; exact hc
 · exact h k a (by lia)
theorem noU_step {n : Int} {u v : List Int} (hu : IsP n u) (hv : IsP n v) {l : Nat} (l1 : 1 ≤ l) (l2 : (l : Int) < n) (h : noU u v l) : noU (u.map (sw l)) (begL v l) (max (l - 1) 1) := fun k a b => by
 have lv := hv.len
 have hk : k + 1 < l := by lia
 have := h k a (by lia)
 rw [Bool.eq_false_iff] at this ⊢
 intro z
 refine this (mvC_iff.mpr ?_)
 have z := mvC_iff.mp z
 rw [gI_beg' l1 (by lia) (by lia), gI_beg' l1 (by lia) (by lia), idx_map', idx_map'] at z
 have e1 : sw (l : Int) ((k : Int) - 1) = (k : Int) - 1 := by unfold sw; rw [if_neg (by lia), if_neg (by lia)]
 have e2 : sw (l : Int) (k : Int) = (k : Int) := by unfold sw; rw [if_neg (by lia), if_neg (by lia)]
 rw [e1, e2] at z
 exact z
theorem noU_end {n : Int} {u v : List Int} (hu : IsP n u) {l : Nat} (h : noU u v l) (hl : u.length ≤ l) : mvL u v = 0 := by
 rcases mvL_cases u v with z | ⟨z1, z2, z3⟩
 · exact z
 · rw [h _ z1 (by lia)] at z3
   exact absurd z3 (by decide)
theorem go_step2 {n : Int} {a b u v : List Int} {l : Nat} (g : Go n [a, b] [u, v]) (l1 : 1 ≤ l) (l2 : (l : Int) < n) (hc : mvC u v l = true) : Go n [a, b] [u.map (sw l), begL v l] :=
 g.trans (.one ⟨0, l, u, v, rfl, rfl, l1, l2, hc, rfl⟩)
theorem go_same {n : Int} {a b u : List Int} (ha : IsP n a) (hb : IsP n b) (h6 : n ≤ 6) (g : Go n [a, b] [u, b]) : u = a := by
 obtain ⟨u', v', e, _, _, h⟩ := go2 (n := n) (fun u v => IsP n u ∧ IsP n v ∧ ((u = a ∧ v = b) ∨ Sn 0 b < Sn 0 v)) (fun x y l ⟨hx, hy, h⟩ l1 l2 hc => by
   have ly := hy.len
   have hd : dsB y l = true := by
     unfold dsB; rw [decide_eq_true_iff]; exact (mvC_iff.mp hc).1
   have up := beg_up hy l1 (by lia) hd
   refine ⟨sw_isP hx l1 l2, beg_isP hy l1 (by lia), .inr ?_⟩
   rcases h with ⟨_, rfl⟩ | h
   · exact up
   · lia) g _ _ rfl ⟨ha, hb, .inl ⟨rfl, rfl⟩⟩
 have e1 : u' = u := (List.cons.inj e).1.symm
 have e2 : v' = b := (List.cons.inj (List.cons.inj e).2).1.symm
 subst e1; subst e2
 rcases h with ⟨h, _⟩ | h
 · exact h
 · lia
theorem half_still {n : Int} {v : List Int} : mvL (range0 n).reverse v = 0 := by
 rcases mvL_cases (range0 n).reverse v with z | ⟨z1, z2, z3⟩
 · exact z
 · exfalso
   rw [List.length_reverse, range0_length] at z2
   have hp : IsP n (range0 n).reverse := List.reverse_perm _
   have hl : (range0 n).reverse.length = n.toNat := hp.len
   have h2 := (mvC_iff.mp z3).2
   generalize mvL (range0 n).reverse v = l at z1 z2 h2
   have a := gI_half (n := n) (k := n.toNat - 1 - l) (by lia)
   have b := gI_half (n := n) (k := n.toNat - l) (by lia)
   have ia := idx_gI hp (j := n.toNat - 1 - l) (by lia)
   have ib := idx_gI hp (j := n.toNat - l) (by lia)
   rw [a, show n - 1 - ((n.toNat - 1 - l : Nat) : Int) = (l : Int) by lia] at ia
   rw [b, show n - 1 - ((n.toNat - l : Nat) : Int) = (l : Int) - 1 by lia] at ib
   lia
end L2
namespace L2
open PySem PySem.Spec PyProof.Rows LM
theorem turn_at {T : Nat → Prop} : ∀ {d p : Nat}, T p → ¬ T (p + d) → ∃ r, p ≤ r ∧ r < p + d ∧ T r ∧ ¬ T (r + 1)
 | 0, p, h, g => absurd h g
 | d + 1, p, h, g => by
   by_cases c : T (p + d)
   · exact ⟨p + d, by lia, by lia, c, g⟩
   · obtain ⟨r, a, b, e⟩ := turn_at h c
     exact ⟨r, a, by lia, e⟩
theorem both_begin {N : Nat} {f g e : Nat → Int} (hg : ∀ x y, x < y → y < N → g x > g y → f x > f y) (he : ∀ x y, x < y → y < N → e x > e y → f x > f y) {p q : Nat} (hpq : p < q) (hq : q < N) (hf : f p = f q + 1) (gp : g p > g q) (ep : e p > e q) :
   ∃ r, r + 1 < N ∧ g r > g (r + 1) ∧ e r > e (r + 1) := by
 obtain ⟨r, r1, r2, t1, t2⟩ := turn_at (T := fun r => f r > f q) (p := p) (d := q - p) (by show f p > f q; lia) (by rw [show p + (q - p) = q by lia]; exact Int.lt_irrefl _)
 have t1 : f r > f q := t1
 have t2 : ¬ f (r + 1) > f q := t2
 have up : ∀ (h : Nat → Int), (∀ x y, x < y → y < N → h x > h y → f x > f y) → h p > h q → h r > h (r + 1) := fun h hh hpq' => by
   have a : h r ≥ h p := by
     by_cases c : r = p
     · rw [c]; exact Int.le_refl _
     · refine Classical.byContradiction fun z => ?_
       have := hh p r (by lia) (by lia) (by lia)
       lia
   have b : h (r + 1) ≤ h q := by
     by_cases c : r + 1 = q
     · rw [c]; exact Int.le_refl _
     · refine Classical.byContradiction fun z => ?_
       have := hh (r + 1) q (by lia) hq (by lia)
       lia
   lia
 exact ⟨r, by lia, up g hg gp, up e he ep⟩
structure Word (n : Int) (a b a2 b2 u : List Int) : Prop where
 pa : IsP n a2
 pb : IsP n b2
 pu : IsP n u
 fst : ∀ j : Nat, (j : Int) < n → gI a2 j = gI u (gI a j)
 snd : ∀ k : Nat, (k : Int) < n → gI b k = gI b2 (gI u k)
 inU : ∀ x y : Nat, x < y → (y : Int) < n → gI u x > gI u y → gI b x > gI b y
 inA : ∀ x y : Nat, x < y → (y : Int) < n → gI a x > gI a y → gI a2 x > gI a2 y
theorem go_word {n : Int} {a b a2 b2 : List Int} (ha : IsP n a) (hb : IsP n b) (g : Go n [a, b] [a2, b2]) : ∃ u, Word n a b a2 b2 u := by
 obtain ⟨u', v', e, u, w⟩ := go2 (n := n) (fun a2 b2 => ∃ u, Word n a b a2 b2 u) (fun x y l ⟨u, w⟩ l1 l2 hc => by
   have lx := w.pa.len
   have ly := w.pb.len
   have lu := w.pu.len
   have hc := mvC_iff.mp hc
   refine ⟨u.map (sw l), sw_isP w.pa l1 l2, beg_isP w.pb l1 (by lia), sw_isP w.pu l1 l2, fun j hj => ?_, fun k hk => ?_, fun p q hpq hq hg => ?_, fun p q hpq hq hg => ?_⟩
   · rw [gI_map (by lia), w.fst j hj]
     have r := gI_rng ha (j := j) (by rw [ha.len]; lia)
     have := gI_map (u := u) (l := l) (j := (gI a j).toNat) (by lia)
     rw [Int.toNat_of_nonneg r.1] at this
     exact this.symm
   · rw [gI_map (by lia), w.snd k hk]
     have r := gI_rng w.pu (j := k) (by lia)
     have s := sw_rng (l := l) (k := gI u k) (n := n) (by lia) l2 r.1 r.2
     rw [gI_beg' l1 (by lia) s.1, sw_sw]
   · rw [gI_map (by lia), gI_map (by lia)] at hg
     rcases Int.lt_trichotomy (gI u p) (gI u q) with z | z | z
     · obtain ⟨z1, z2⟩ := sw_lt z hg
       rw [w.snd p (by lia), w.snd q hq, z1, z2]
       exact hc.1
     · exact absurd (gI_inj w.pu (by lia) (by lia) z) (by lia)
     · exact w.inU p q hpq hq z
   · have h1 := w.inA p q hpq hq hg
     rw [gI_map (by lia), gI_map (by lia)]
     refine Classical.byContradiction fun hs => ?_
     have hne : sw l (gI x p) ≠ sw l (gI x q) := fun z => by
       have := congrArg (sw l) z
       rw [sw_sw, sw_sw] at this
       lia
     obtain ⟨z1, z2⟩ := sw_gt h1 hs (by lia)
     have h2 := hc.2
     have e1 : (l : Int) - 1 = gI x q := z2.symm
     have e2 : (l : Int) = gI x p := z1.symm
     rw [e1, e2, idx_gI w.pa (by lia), idx_gI w.pa (by lia)] at h2
     lia) g _ _ rfl ⟨range0 n, ha, hb, .refl _, fun j hj => by
       have r := gI_rng ha (j := j) (by rw [ha.len]; lia)
       rw [gI_range0 r.1 r.2], fun k hk => by rw [gI_range0 (by lia) hk], fun x y hxy hy hg => by
       rw [gI_range0 (by lia) (by lia), gI_range0 (by lia) hy] at hg
       lia, fun x y _ _ h => h⟩
 have e1 : u' = a2 := (List.cons.inj e).1.symm
 have e2 : v' = b2 := (List.cons.inj (List.cons.inj e).2).1.symm
 subst e1; subst e2
 exact ⟨u, w⟩
theorem domino {n : Int} {a b c b1 c1 a2 b2 : List Int} (ha : IsP n a) (hb : IsP n b) (hc : IsP n c) (h1 : mvL a b = 0) (g1 : Go n [b, c] [b1, c1]) (h2 : mvL b1 c1 = 0) (g2 : Go n [a, b1] [a2, b2]) : mvL b2 c1 = 0 := by
 obtain ⟨w, W⟩ := go_word hb hc g1
 obtain ⟨u, U⟩ := go_word ha W.pa g2
 have lb1 := W.pa.len
 have lb2 := U.pb.len
 have lb := hb.len
 have la := ha.len
 have lu := U.pu.len
 rcases mvL_cases b2 c1 with z | ⟨s1, s2, hs⟩
 · exact z
 exfalso
 generalize mvL b2 c1 = s at s1 s2 hs
 have sn : (s : Int) < n := by lia
 have hno := mvL_no h2 s1 (by lia)
 have hs := mvC_iff.mp hs
 have hno : ¬ b1.idxOf ((s : Int) - 1) < b1.idxOf (s : Int) := fun z => by
   rw [mvC_iff.mpr ⟨hs.1, z⟩] at hno
   exact absurd hno (by decide)
 have p := gI_idx W.pa (v := (s : Int)) (by lia) sn
 have q := gI_idx W.pa (v := (s : Int) - 1) (by lia) (by lia)
 generalize b1.idxOf (s : Int) = P at p hno
 generalize b1.idxOf ((s : Int) - 1) = Q at q hno
 have hPQ : P < Q := by
   rcases Nat.lt_trichotomy P Q with z | z | z
   · exact z
   · subst z; lia
   · lia
 have up := U.snd P (by lia)
 have uq := U.snd Q (by lia)
 have rp := gI_rng U.pu (j := P) (by lia)
 have rq := gI_rng U.pu (j := Q) (by lia)
 have ip := idx_gI U.pb (j := (gI u P).toNat) (by lia)
 have iq := idx_gI U.pb (j := (gI u Q).toNat) (by lia)
 rw [Int.toNat_of_nonneg rp.1, ← up, p.1] at ip
 rw [Int.toNat_of_nonneg rq.1, ← uq, q.1] at iq
 have gp : gI u P > gI u Q := by
   have := hs.2
   lia
 have ep : gI b P > gI b Q := by
   refine Classical.byContradiction fun z => ?_
   have wp := W.fst P (by lia)
   have wq := W.fst Q (by lia)
   have bp := gI_rng hb (j := P) (by lia)
   have bq := gI_rng hb (j := Q) (by lia)
   have hne : gI b P ≠ gI b Q := fun e => absurd (gI_inj hb (by lia) (by lia) e) (by lia)
   have := W.inU (gI b P).toNat (gI b Q).toNat (by lia) (by lia)
   rw [Int.toNat_of_nonneg bp.1, Int.toNat_of_nonneg bq.1, ← wp, ← wq, p.1, q.1] at this
   have cP := W.snd (gI b P).toNat (by lia)
   have cQ := W.snd (gI b Q).toNat (by lia)
   rw [Int.toNat_of_nonneg bp.1, ← wp, p.1] at cP
   rw [Int.toNat_of_nonneg bq.1, ← wq, q.1] at cQ
   have t := this (by lia)
   rw [cP, cQ] at t
   have := hs.1
   lia
 obtain ⟨r, r1, r2, r3⟩ := both_begin (N := n.toNat) (f := fun k => gI b1 k) (g := fun k => gI u k) (e := fun k => gI b k) (fun x y hxy hy h => U.inU x y hxy (by lia) h) (fun x y hxy hy h => W.inA x y hxy (by lia) h) hPQ (by lia) (by show gI b1 P = gI b1 Q + 1; rw [p.1, q.1]; lia) gp ep
 have hn2 := mvL_no h1 (l := r + 1) (by lia) (by lia)
 rw [Bool.eq_false_iff] at hn2
 refine hn2 (mvC_iff.mpr ⟨?_, ?_⟩)
 · rw [show ((r + 1 : Nat) : Int) - 1 = (r : Nat) by lia]; exact r3
 · rw [show ((r + 1 : Nat) : Int) - 1 = (r : Nat) by lia]
   refine Classical.byContradiction fun z => ?_
   have x := gI_idx ha (v := (r : Int)) (by lia) (by lia)
   have y := gI_idx ha (v := ((r + 1 : Nat) : Int)) (by lia) (by lia)
   generalize a.idxOf (r : Int) = X at x z
   generalize a.idxOf ((r + 1 : Nat) : Int) = Y at y z
   have hXY : Y < X := by
     rcases Nat.lt_trichotomy X Y with t | t | t
     · exact absurd t z
     · subst t; lia
     · exact t
   have t := U.inA Y X hXY (by lia) (by rw [x.1, y.1]; lia)
   rw [U.fst Y (by lia), U.fst X (by lia), x.1, y.1] at t
   have r2 : gI u (r : Int) > gI u ((r + 1 : Nat) : Int) := r2
   lia
end L2
namespace L2
open PySem PySem.Spec PyProof.Rows LM
theorem np_has {n : Int} {v : List Int} (hv : IsP n v) (h : v ≠ range0 n) : ∃ l : Nat, 1 ≤ l ∧ (l : Int) < n ∧ gI v ((l : Int) - 1) > gI v l := by
 refine Classical.byContradiction fun z => h (sorted_plain hv fun l l1 l2 h => z ⟨l, l1, l2, h⟩)
theorem np_of {n : Int} {v : List Int} {l : Nat} (l1 : 1 ≤ l) (l2 : (l : Int) < n) (h : gI v ((l : Int) - 1) > gI v l) : v ≠ range0 n := fun e => by
 rw [e, gI_range0 (by lia) (by lia), gI_range0 (by lia) l2] at h
 lia
theorem pred_at {l : Nat} (l1 : 1 ≤ l) : ((l - 1 : Nat) : Int) = (l : Int) - 1 := by lia
theorem np_grow {n : Int} {a b a2 b2 : List Int} (ha : IsP n a) (hb : IsP n b) (g : Go n [a, b] [a2, b2]) (h : a ≠ range0 n) : a2 ≠ range0 n := by
 obtain ⟨u, U⟩ := go_word ha hb g
 obtain ⟨l, l1, l2, hl⟩ := np_has ha h
 have := U.inA (l - 1) l (by lia) l2 (by rw [pred_at l1]; exact hl)
 rw [pred_at l1] at this
 exact np_of l1 l2 this
theorem np_rest {n : Int} {a b c b1 c1 a2 b2 : List Int} (ha : IsP n a) (hb : IsP n b) (hc : IsP n c) (h1 : mvL a b = 0) (g1 : Go n [b, c] [b1, c1]) (g2 : Go n [a, b1] [a2, b2]) (h : b ≠ range0 n) : b2 ≠ range0 n := fun e => by
 obtain ⟨w, W⟩ := go_word hb hc g1
 obtain ⟨u, U⟩ := go_word ha W.pa g2
 have la := ha.len
 have lu := U.pu.len
 obtain ⟨l, l1, l2, hl⟩ := np_has hb h
 have t := W.inA (l - 1) l (by lia) l2 (by rw [pred_at l1]; exact hl)
 have r1 := gI_rng U.pu (j := l - 1) (by lia)
 have r2 := gI_rng U.pu (j := l) (by lia)
 rw [U.snd (l - 1) (by lia), U.snd l l2, e, gI_range0 r1.1 r1.2, gI_range0 r2.1 r2.2, pred_at l1] at t
 have hn2 := mvL_no h1 (l := l) l1 (by lia)
 rw [Bool.eq_false_iff] at hn2
 refine hn2 (mvC_iff.mpr ⟨hl, ?_⟩)
 refine Classical.byContradiction fun z => ?_
 have x := gI_idx ha (v := (l : Int) - 1) (by lia) (by lia)
 have y := gI_idx ha (v := (l : Int)) (by lia) (by lia)
 generalize a.idxOf ((l : Int) - 1) = X at x z
 generalize a.idxOf (l : Int) = Y at y z
 have hXY : Y < X := by
   rcases Nat.lt_trichotomy X Y with t | t | t
   · exact absurd t z
   · subst t; lia
   · exact t
 have s := U.inA Y X hXY (by lia) (by rw [x.1, y.1]; lia)
 rw [U.fst Y (by lia), U.fst X (by lia), x.1, y.1] at s
 lia
theorem two_cut {R : List (List Int)} {m : Nat} (h : m + 1 < R.length) : ∃ A B, R = A ++ [R.getD m [], R.getD (m + 1) []] ++ B ∧ A.length = m := by
 refine ⟨R.take m, R.drop (m + 2), ?_, by rw [List.length_take]; lia⟩
 have e1 := List.take_append_drop m R
 rw [List.drop_eq_getElem_cons (show m < R.length by lia), List.drop_eq_getElem_cons h] at e1
 rw [List.getD_eq_getElem?_getD, List.getElem?_eq_getElem (show m < R.length by lia), List.getD_eq_getElem?_getD, List.getElem?_eq_getElem h, List.append_assoc]
 exact e1.symm
theorem go_pair {n : Int} {R : List (List Int)} {m : Nat} {a b : List Int} (h : m + 1 < R.length) (g : Go n [R.getD m [], R.getD (m + 1) []] [a, b]) : Go n R (setp R m a b) := by
 obtain ⟨A, B, e, hA⟩ := two_cut h
 generalize R.getD m [] = x at e g
 generalize R.getD (m + 1) [] = y at e g
 subst e; subst hA
 have := setp_in (A := A) (R := [x, y]) (B := B) (i := 0) (a := a) (b := b) (by simp)
 rw [Nat.add_zero] at this
 rw [this]
 exact go_in A B g
theorem setp_getD {R : List (List Int)} {i : Nat} {a b : List Int} (h : i + 1 < R.length) (k : Nat) : (setp R i a b).getD k [] = if k = i then a else if k = i + 1 then b else R.getD k [] := by
 rw [List.getD_eq_getElem?_getD, setp_get h]
 by_cases c1 : k = i
 · rw [if_pos c1, if_pos c1]; rfl
 · rw [if_neg c1, if_neg c1]
   by_cases c2 : k = i + 1
   · rw [if_pos c2, if_pos c2]; rfl
   · rw [if_neg c2, if_neg c2, List.getD_eq_getElem?_getD]
structure PB (n : Int) (R : List (List Int)) (w : List Int) (R' : List (List Int)) (m : Nat) : Prop where
 go : Go n (R ++ [w]) R'
 len : R'.length = R.length + 1
 low : ∀ i, i < m → R'.getD i [] = R.getD i []
 stl : ∀ i, i + 1 < R'.length → i + 1 ≠ m → mvL (R'.getD i []) (R'.getD (i + 1) []) = 0
 dom : m < R.length → ∃ c, IsP n c ∧ Go n [R.getD m [], c] [R'.getD m [], R'.getD (m + 1) []]
 np : ∀ i, m ≤ i → i < R.length → R'.getD i [] ≠ range0 n
theorem PB.new {n : Int} {R : List (List Int)} {w : List Int} (h : stillB R = true) : PB n R w (R ++ [w]) R.length where
 go := .refl _
 len := by rw [List.length_append]; rfl
 low := fun i hi => by rw [List.getD_eq_getElem?_getD, List.getElem?_append_left hi, ← List.getD_eq_getElem?_getD]
 stl := fun i hi hm => by
   rw [List.length_append, List.length_singleton] at hi
   have e : ∀ k, k < R.length → (R ++ [w]).getD k [] = R.getD k [] := fun k hk => by rw [List.getD_eq_getElem?_getD, List.getElem?_append_left hk, ← List.getD_eq_getElem?_getD]
   rw [e i (by lia), e (i + 1) (by lia)]
   exact stillC_iff.mp h i (by lia)
 dom := fun h => absurd h (Nat.lt_irrefl _)
 np := fun i a b => absurd b (by lia)
theorem PB.step {n : Int} {R : List (List Int)} {w : List Int} {R' : List (List Int)} {m : Nat} (h6 : n ≤ 6) (hR : okR n R) (hw : IsP n w) (hs : stillB R = true) (hn : ∀ r ∈ R, r ≠ range0 n) (p : PB n R w R' (m + 1)) (hm : m < R.length) {a b : List Int} (g : Go n [R'.getD m [], R'.getD (m + 1) []] [a, b]) (hab : mvL a b = 0) : PB n R w (setp R' m a b) m := by
 have hl := p.len
 have ok0 : okR n (R ++ [w]) := fun r hr => by
   rcases List.mem_append.mp hr with hr | hr
   · exact hR r hr
   · obtain rfl := List.mem_singleton.mp hr; exact hw
 have ok1 := go_ok h6 p.go ok0
 have i0 : IsP n (R'.getD m []) := ok1 _ (getD_mem (by lia))
 have i1 : IsP n (R'.getD (m + 1) []) := ok1 _ (getD_mem (by lia))
 have j0 : IsP n (R.getD m []) := hR _ (getD_mem hm)
 have hlow := p.low m (by lia)
 refine ⟨p.go.trans (go_pair (by lia) g), by rw [setp_len]; exact hl, fun i hi => ?_, fun i hi hne => ?_, fun _ => ?_, fun i hi hi2 => ?_⟩
 · rw [setp_getD (by lia), if_neg (by lia), if_neg (by lia)]
   exact p.low i (by lia)
 · rw [setp_len] at hi
   rw [setp_getD (by lia), setp_getD (by lia)]
   by_cases c1 : i = m
   · subst c1
     rw [if_pos rfl, if_neg (by lia), if_pos rfl]
     exact hab
   by_cases c2 : i = m + 1
   · subst c2
     rw [if_neg c1, if_pos rfl, if_neg (by lia), if_neg (by lia)]
     obtain ⟨c, hc, gc⟩ := p.dom (by lia)
     have hst := stillC_iff.mp hs m (by lia)
     rw [← hlow] at hst
     exact domino i0 (hR _ (getD_mem (by lia))) hc hst gc (p.stl (m + 1) (by lia) (by lia)) g
   · rw [if_neg c1, if_neg c2, if_neg (by lia), if_neg (by lia)]
     exact p.stl i hi (by lia)
 · refine ⟨R'.getD (m + 1) [], i1, ?_⟩
   rw [setp_getD (by lia), if_pos rfl, setp_getD (by lia), if_neg (by lia), if_pos rfl, ← hlow]
   exact g
 · rw [setp_getD (by lia)]
   by_cases c1 : i = m
   · rw [if_pos c1]
     refine np_grow i0 i1 g ?_
     rw [hlow]
     exact hn _ (getD_mem hm)
   by_cases c2 : i = m + 1
   · subst c2
     rw [if_neg c1, if_pos rfl]
     obtain ⟨c, hc, gc⟩ := p.dom (by lia)
     have hst := stillC_iff.mp hs m (by lia)
     rw [← hlow] at hst
     exact np_rest i0 (hR _ (getD_mem (by lia))) hc hst gc g (hn _ (getD_mem (by lia)))
   · rw [if_neg c1, if_neg c2]
     exact p.np i (by lia) hi2
theorem PB.front {n : Int} {R : List (List Int)} {w : List Int} {R' : List (List Int)} (p : PB n R w R' 0) : stillB R' = true :=
 stillC_iff.mpr fun i hi => p.stl i hi (by lia)
theorem PB.stop {n : Int} {R : List (List Int)} {w : List Int} {R' : List (List Int)} {m : Nat} (p : PB n R w R' (m + 1)) (h : mvL (R'.getD m []) (R'.getD (m + 1) []) = 0) : stillB R' = true :=
 stillC_iff.mpr fun i hi => by
   by_cases c : i = m
   · subst c; exact h
   · exact p.stl i hi (by lia)
theorem PB.npl {n : Int} {R : List (List Int)} {w : List Int} {R' : List (List Int)} {m : Nat} (p : PB n R w R' m) (hn : ∀ r ∈ R, r ≠ range0 n) : ∀ i, i < R.length → R'.getD i [] ≠ range0 n := fun i hi => by
 by_cases c : m ≤ i
 · exact p.np i c hi
 · rw [p.low i (by lia)]
   exact hn _ (getD_mem hi)
end L2
namespace L2
open PySem PySem.Spec PyProof.Rows LM
noncomputable def ordF (n l : Int) : List Int := if l > 0 then swapN (range0 n) (l - 1).toNat else swapN (range0 n).reverse (n + l - 1).toNat
theorem ord_pos {n l : Int} (h1 : 0 < l) (h2 : l < n) : ordF n l = (range0 n).map (sw l) := by
 have hp : IsP n (range0 n) := .refl _
 have lr := hp.len
 obtain ⟨k, rfl⟩ : ∃ k : Nat, l = k := ⟨l.toNat, by lia⟩
 unfold ordF
 rw [if_pos h1, show ((k : Int) - 1).toNat = k - 1 by lia, swapN_begL (by lia) (by lia)]
 refine gI_ext (by rw [beg_len (by lia) (by lia), List.length_map]) fun j hj => ?_
 rw [beg_len (by lia) (by lia)] at hj
 have r := sw_rng (l := k) (k := j) (n := n) (by lia) h2 (by lia) (by lia)
 rw [gI_beg (by lia) (by lia), gI_map (by lia), gI_range0 r.1 r.2, gI_range0 (by lia) (by lia)]
theorem ord_neg {n l : Int} (h1 : l < 0) (h2 : -l < n) : ordF n l = (range0 n).reverse.map (sw (-l)) := by
 have hp : IsP n (range0 n).reverse := List.reverse_perm _
 have lr := hp.len
 obtain ⟨k, hk⟩ : ∃ k : Nat, n + l = k := ⟨(n + l).toNat, by lia⟩
 unfold ordF
 rw [if_neg (by lia), hk, show ((k : Int) - 1).toNat = k - 1 by lia, swapN_begL (by lia) (by lia)]
 refine gI_ext (by rw [beg_len (by lia) (by lia), List.length_map]) fun j hj => ?_
 rw [beg_len (by lia) (by lia)] at hj
 have r := sw_rng (l := k) (k := j) (n := n) (by lia) (by lia) (by lia) (by lia)
 have e := gI_half (n := n) (k := (sw (k : Int) (j : Int)).toNat) (by lia)
 rw [Int.toNat_of_nonneg r.1] at e
 rw [gI_beg (by lia) (by lia), gI_map (by lia), e, gI_half (by lia)]
 exact sw_fl (n := n) (l := k) (m := -l) (by lia) j
end L2
namespace L2
open PySem PySem.Spec PyProof.Rows LM
theorem fl_fl {n : Int} (r : List Int) : flO n (flO n r) = r := by
 unfold flO
 rw [← List.map_reverse, List.reverse_reverse, List.map_map]
 have : ((fun x => n - 1 - x) ∘ fun x => n - 1 - x : Int → Int) = id := by
   funext x; show n - 1 - (n - 1 - x) = x; lia
 rw [this, List.map_id]
noncomputable def rowsL (n : Int) (ws : List Int) : List (List Int) := ws.foldl (fun R l => if l > 0 then R ++ [ordF n l] else R.map (flO n) ++ [ordF n l]) []
noncomputable def flp (n : Int) (s : Nat) (r : List Int) : List Int := if s % 2 = 1 then flO n r else r
theorem rowsL_snoc (n : Int) (ws : List Int) (l : Int) : rowsL n (ws ++ [l]) = if l > 0 then rowsL n ws ++ [ordF n l] else (rowsL n ws).map (flO n) ++ [ordF n l] := by
 unfold rowsL
 rw [List.foldl_append]; rfl
theorem flp_succ (n : Int) (s : Nat) (r : List Int) : flp n (s + 1) r = flp n s (flO n r) := by
 unfold flp
 by_cases c : s % 2 = 1
 · rw [if_neg (by lia), if_pos c, fl_fl]
 · rw [if_pos (by lia), if_neg c]
theorem rows_pos (n : Int) (ws : List Int) {l : Int} (s : Nat) (h : l > 0) : (rowsL n (ws ++ [l])).map (flp n s) = (rowsL n ws).map (flp n s) ++ [flp n s (ordF n l)] := by
 rw [rowsL_snoc, if_pos h, List.map_append]; rfl
theorem rows_neg (n : Int) (ws : List Int) {l : Int} (s : Nat) (h : ¬ l > 0) : (rowsL n (ws ++ [l])).map (flp n s) = (rowsL n ws).map (flp n (s + 1)) ++ [flp n s (ordF n l)] := by
 rw [rowsL_snoc, if_neg h, List.map_append, List.map_map]
 have : (flp n s ∘ flO n) = flp n (s + 1) := by
   funext r; exact (flp_succ n s r).symm
 rw [this]; rfl
theorem flp_zero (n : Int) (R : List (List Int)) : R.map (flp n 0) = R := by
 have : flp n 0 = id := by funext r; unfold flp; rw [if_neg (by decide)]; rfl
 rw [this, List.map_id]
theorem plains_behind {n : Int} (h0 : 0 ≤ n) (h6 : n ≤ 6) {o : List Int} (ho : IsP n o) : ∀ k : Nat, Go n (List.replicate k (range0 n) ++ [o]) (o :: List.replicate k (range0 n))
 | 0 => .refl _
 | k + 1 => by
   have g1 := go_in [range0 n] [] (plains_behind h0 h6 ho k)
   rw [List.append_nil, List.append_nil] at g1
   have g2 := go_in [] (List.replicate k (range0 n)) (plain_back h0 h6 ho)
   exact Go.trans g1 g2
theorem go_more {n : Int} (h0 : 0 ≤ n) (h6 : n ≤ 6) {W R R' : List (List Int)} {o : List Int} {k : Nat} (ho : IsP n o) (g : Go n W (R ++ List.replicate k (range0 n))) (h : Go n (R ++ [o]) R' ∨ Go n (R ++ [o]) (R' ++ [range0 n])) : ∃ k', Go n (W ++ [o]) (R' ++ List.replicate k' (range0 n)) := by
 have g1 := go_in [] [o] g
 have g2 := go_in R [] (plains_behind h0 h6 ho k)
 rw [List.nil_append, List.nil_append, List.append_assoc] at g1
 rw [List.append_nil, List.append_nil] at g2
 have g3 := g1.trans g2
 have e : R ++ o :: List.replicate k (range0 n) = R ++ [o] ++ List.replicate k (range0 n) := by rw [List.append_assoc]; rfl
 rw [e] at g3
 rcases h with h | h
 · exact ⟨k, g3.trans (go_in [] (List.replicate k (range0 n)) h)⟩
 · have g4 := g3.trans (go_in [] (List.replicate k (range0 n)) h)
   refine ⟨k + 1, ?_⟩
   rw [List.nil_append, List.append_assoc] at g4
   exact g4
theorem mv_plain {n : Int} (h0 : 0 ≤ n) {a : List Int} (ha : IsP n a) : mvL a (range0 n) = 0 := by
 have la := ha.len
 rcases mvL_cases a (range0 n) with z | ⟨z1, z2, z3⟩
 · exact z
 · have := (mvC_iff.mp z3).1
   rw [gI_range0 (by lia) (by lia), gI_range0 (by lia) (by lia)] at this
   lia
end L2
namespace L2
open PySem PySem.Spec PyProof.Rows LM
theorem still_plains {n : Int} (h0 : 0 ≤ n) {S : List (List Int)} (k : Nat) (hS : okR n S) (h : stillB S = true) : stillB (S ++ List.replicate k (range0 n)) = true :=
 stillC_iff.mpr fun i hi => by
   have ok : okR n (S ++ List.replicate k (range0 n)) := fun r hr => by
     rcases List.mem_append.mp hr with hr | hr
     · exact hS r hr
     · obtain rfl := List.eq_of_mem_replicate hr; exact .refl _
   by_cases c : i + 1 < S.length
   · have e : ∀ j, j < S.length → (S ++ List.replicate k (range0 n)).getD j [] = S.getD j [] := fun j hj => by rw [List.getD_eq_getElem?_getD, List.getElem?_append_left hj, ← List.getD_eq_getElem?_getD]
     rw [e i (by lia), e (i + 1) c]
     exact stillC_iff.mp h i c
   · have e : (S ++ List.replicate k (range0 n)).getD (i + 1) [] = range0 n := by
       rw [List.length_append, List.length_replicate] at hi
       rw [List.getD_eq_getElem?_getD, List.getElem?_append_right (by lia), List.getElem?_replicate, if_pos (by lia)]; rfl
     rw [e]
     exact mv_plain h0 (ok _ (getD_mem (by lia)))
theorem form_end {n : Int} (h0 : 0 ≤ n) (h6 : n ≤ 6) {W S N : List (List Int)} {k : Nat} (hW : okR n W) (hS : okR n S) (hs : stillB S = true) (hn : ∀ r ∈ S, r ≠ range0 n) (g : Go n W (S ++ List.replicate k (range0 n))) (gN : Go n W N) (sN : stillB N = true) : N.filter (fun r => decide (r ≠ range0 n)) = S := by
 rw [settled_one h6 hW gN sN g (still_plains h0 k hS hs), List.filter_append]
 have e1 : S.filter (fun r => decide (r ≠ range0 n)) = S := List.filter_eq_self.mpr fun r hr => decide_eq_true (hn r hr)
 have e2 : (List.replicate k (range0 n)).filter (fun r => decide (r ≠ range0 n)) = [] := List.filter_eq_nil_iff.mpr fun r hr => by
   obtain rfl := List.eq_of_mem_replicate hr
   simp
 rw [e1, e2, List.append_nil]
theorem rowsL_ok {n : Int} (h1 : 1 ≤ n) {ws : List Int} (hw : ∀ l ∈ ws, IsP n (ordF n l)) : okR n (rowsL n ws) := by
 have key : ∀ (ws : List Int) (R : List (List Int)), (∀ l ∈ ws, IsP n (ordF n l)) → okR n R → okR n (ws.foldl (fun R l => if l > 0 then R ++ [ordF n l] else R.map (flO n) ++ [ordF n l]) R) := by
   intro ws
   induction ws with
   | nil => exact fun R _ h => h
   | cons l ws ih =>
     intro R hw hR
     refine ih _ (fun x hx => hw x (List.mem_cons_of_mem _ hx)) fun r hr => ?_
     have hl := hw l List.mem_cons_self
     dsimp only at hr
     by_cases c : l > 0
     · rw [if_pos c] at hr
       rcases List.mem_append.mp hr with hr | hr
       · exact hR r hr
       · obtain rfl := List.mem_singleton.mp hr; exact hl
     · rw [if_neg c] at hr
       rcases List.mem_append.mp hr with hr | hr
       · obtain ⟨x, hx, rfl⟩ := List.mem_map.mp hr
         exact fl_isP (hR x hx)
       · obtain rfl := List.mem_singleton.mp hr; exact hl
 exact key ws [] hw fun r hr => by cases hr
theorem halves_lead {n : Int} : ∀ {S : List (List Int)}, okR n S → stillB S = true → ∀ {r : List Int} {R : List (List Int)}, S = r :: R → r ≠ (range0 n).reverse → S.count (range0 n).reverse = 0
 | [], _, _, _, _, h, _ => by cases h
 | r :: R, ok, hs, _, _, rfl, hr => by
   rw [List.count_cons, beq_false_of_ne hr]
   cases R with
   | nil => rfl
   | cons s R =>
     have st := stillC_iff.mp hs
     have h2 := stillC_two st
     refine (Nat.add_zero _).trans (halves_lead (S := s :: R) (fun x hx => ok x (List.mem_cons_of_mem _ hx)) (stillC_iff.mpr (stillC_tail st)) rfl fun e => hr ?_)
     subst e
     exact half_ahead (ok r List.mem_cons_self) h2
end L2
namespace L2
open PySem PySem.Spec PyProof.Rows LM
theorem rowsL_len (n : Int) (ws : List Int) : (rowsL n ws).length = ws.length := by
 have g : ∀ (ws : List Int) (R : List (List Int)), (ws.foldl (fun R l => if l > 0 then R ++ [ordF n l] else R.map (flO n) ++ [ordF n l]) R).length = R.length + ws.length := by
   intro ws
   induction ws with
   | nil => intro R; rfl
   | cons l ws ih =>
     intro R
     rw [List.foldl_cons, ih]
     by_cases c : l > 0
     · rw [if_pos c, List.length_append, List.length_singleton, List.length_cons]; lia
     · rw [if_neg c, List.length_append, List.length_map, List.length_singleton, List.length_cons]; lia
 have := g ws []
 rw [List.length_nil, Nat.zero_add] at this
 exact this
theorem okR_fl {n : Int} {R : List (List Int)} (h : okR n R) : okR n (R.map (flO n)) := fun r hr => by
 obtain ⟨x, hx, rfl⟩ := List.mem_map.mp hr
 exact fl_isP (h x hx)
theorem ordF_isP {n l : Int} (h1 : 1 ≤ n) (h : LetOK n l) : IsP n (ordF n l) := by
 have hl := range0_length n
 unfold LetOK at h
 unfold ordF
 by_cases c : l > 0
 · rw [if_pos c]
   exact swap_isP (.refl _) (by lia)
 · rw [if_neg c]
   exact swap_isP (List.reverse_perm _) (by rw [List.length_reverse]; lia)
theorem stillB_tail {r : List Int} {R : List (List Int)} (h : stillB (r :: R) = true) : stillB R = true := stillC_iff.mpr (stillC_tail (stillC_iff.mp h))
theorem tupT_pure1 (r : List Int) : pureT (tupT r) = true := by unfold tupT; rw [pureT_tup, pureTs_ints]
theorem tupT_pures (R : List (List Int)) : pureTs (R.map tupT) = true := by
 induction R with
 | nil => rfl
 | cons r R ih => rw [List.map_cons, pureTs_cons, ih, tupT_pure1]; rfl
theorem go_len {n : Int} {R R' : List (List Int)} (g : Go n R R') : R'.length = R.length := by
 induction g with
 | refl => rfl
 | head s _ ih =>
   obtain ⟨i, l, a, b, _, _, _, _, _, rfl⟩ := s
   rw [ih, setp_len]
theorem form_len {n : Int} {ws : List Int} {S : List (List Int)} {k : Nat} (g : Go n (rowsL n ws) (S ++ List.replicate k (range0 n))) : S.length ≤ ws.length := by
 have := go_len g
 rw [rowsL_len, List.length_append] at this
 lia
theorem gI_ord {n l : Int} (h1 : 0 < l) (h2 : l < n) {k : Int} (h0 : 0 ≤ k) (hk : k < n) : gI (ordF n l) k = sw l k := by
 rw [ord_pos h1 h2]
 have e : k = ((k.toNat : Nat) : Int) := by lia
 rw [e, gI_map (by rw [range0_length]; lia), gI_range0 (by lia) (by lia)]
end L2
namespace L2
open PySem PySem.Spec PyProof.Rows LM
theorem fl_len {n : Int} (u : List Int) : (flO n u).length = u.length := by unfold flO; rw [List.length_map, List.length_reverse]
theorem idx_fl {n : Int} {u : List Int} (hu : IsP n u) {v : Int} (h0 : 0 ≤ v) (h1 : v < n) : (flO n u).idxOf v = u.length - 1 - u.idxOf (n - 1 - v) := by
 have hf := fl_isP hu
 have a := gI_idx hu (v := n - 1 - v) (by lia) (by lia)
 have e : gI (flO n u) ((u.length - 1 - u.idxOf (n - 1 - v) : Nat) : Int) = v := by
   rw [gI_fl hu (by lia), show u.length - 1 - (u.length - 1 - u.idxOf (n - 1 - v)) = u.idxOf (n - 1 - v) by lia, a.1]; lia
 have b := idx_gI hf (j := u.length - 1 - u.idxOf (n - 1 - v)) (by rw [fl_len]; lia)
 rw [e] at b
 exact b
theorem mvC_fl {n : Int} {a b : List Int} (ha : IsP n a) (hb : IsP n b) {l m : Nat} (l1 : 1 ≤ l) (l2 : (l : Int) < n) (e : (l : Int) + m = n) (h : mvC a b l = true) : mvC (flO n a) (flO n b) m = true := by
 have la := ha.len
 have lb := hb.len
 obtain ⟨h1, h2⟩ := mvC_iff.mp h
 refine mvC_iff.mpr ⟨?_, ?_⟩
 · have e1 : ((m : Int) - 1) = ((m - 1 : Nat) : Int) := by lia
   rw [e1, gI_fl hb (by lia), gI_fl hb (by lia), show b.length - 1 - (m - 1) = l by lia, show ((b.length - 1 - m : Nat) : Int) = (l : Int) - 1 by lia]
   lia
 · rw [idx_fl ha (by lia) (by lia), idx_fl ha (by lia) (by lia), show n - 1 - ((m : Int) - 1) = l by lia, show n - 1 - (m : Int) = (l : Int) - 1 by lia]
   have := (gI_idx ha (v := (l : Int)) (by lia) l2).2
   lia
theorem map_fl {n : Int} {l m : Nat} (e : (l : Int) + m = n) (a : List Int) : flO n (a.map (sw l)) = (flO n a).map (sw m) := by
 unfold flO
 rw [← List.map_reverse, List.map_map, List.map_map]
 exact List.map_congr_left fun x _ => sw_fl e x
theorem beg_fl {n : Int} {b : List Int} (hb : IsP n b) {l m : Nat} (l1 : 1 ≤ l) (l2 : (l : Int) < n) (e : (l : Int) + m = n) : flO n (begL b l) = begL (flO n b) m := by
 have lb := hb.len
 have hb2 := beg_isP hb l1 (by lia)
 have lb2 := hb2.len
 have lf := (fl_isP hb).len
 have lf2 := (fl_isP hb2).len
 refine gI_ext (by rw [beg_len (by lia) (by lia)]; lia) fun k hk => ?_
 have hk' : (k : Int) < n := by lia
 rw [gI_fl hb2 (by lia), gI_beg' l1 (by lia) (by lia), gI_beg' (by lia) (by lia) (by lia)]
 have r := sw_rng (l := m) (n := n) (k := k) (by lia) (by lia) (by lia) hk'
 have e3 : sw (m : Int) k = ((sw (m : Int) k).toNat : Nat) := by lia
 rw [e3, gI_fl hb (by lia)]
 congr 2
 have e4 := sw_fl (n := n) (l := m) (m := l) (by lia) (k : Int)
 have e5 : ((begL b l).length - 1 - k : Nat) = n - 1 - (k : Int) := by lia
 rw [e5, ← e4]
 lia
theorem step_fl {n : Int} {R R' : List (List Int)} (h : okR n R) (s : StepR n R R') : StepR n (R.map (flO n)) (R'.map (flO n)) := by
 obtain ⟨i, l, a, b, e1, e2, l1, l2, hc, rfl⟩ := s
 have ha := okR_at h e1
 have hb := okR_at h e2
 have e : (l : Int) + ((n - l).toNat : Nat) = n := by lia
 refine ⟨i, (n - l).toNat, flO n a, flO n b, by rw [List.getElem?_map, e1]; rfl, by rw [List.getElem?_map, e2]; rfl, by lia, by lia, mvC_fl ha hb l1 l2 e hc, ?_⟩
 unfold setp
 rw [List.map_set, List.map_set, map_fl e, beg_fl hb l1 l2 e]
theorem go_fl {n : Int} (h6 : n ≤ 6) {R R' : List (List Int)} (g : Go n R R') (h : okR n R) : Go n (R.map (flO n)) (R'.map (flO n)) := by
 induction g with
 | refl _ => exact .refl _
 | head s _ ih => exact .head (step_fl h s) (ih (step_ok h6 h s).1)
theorem fl_map_fl (n : Int) (R : List (List Int)) : (R.map (flO n)).map (flO n) = R := by
 rw [List.map_map]
 exact (List.map_congr_left fun x _ => fl_fl x).trans (List.map_id _)
theorem range_fl (n : Int) : flO n (range0 n) = range0 n := by
 unfold flO
 refine gI_ext (by rw [List.length_map, List.length_reverse]) fun k hk => ?_
 have hl := range0_length n
 rw [List.length_map, List.length_reverse] at hk
 have := gI_fl (n := n) (u := range0 n) (.refl _) (k := k) (by lia)
 unfold flO at this
 rw [this, gI_range0 (by lia) (by lia), gI_range0 (by lia) (by lia)]
 lia
theorem half_fl (n : Int) : flO n (range0 n).reverse = (range0 n).reverse := by
 have h : flO n (range0 n).reverse = (flO n (range0 n)).reverse := by
   unfold flO
   rw [List.reverse_reverse, ← List.map_reverse, List.reverse_reverse]
 rw [h, range_fl]
theorem go_some {n : Int} (h6 : n ≤ 6) {R : List (List Int)} (h : okR n R) : ∃ N, Go n R N ∧ stillB N = true ∧ okR n N := by
 obtain ⟨N, g, nf⟩ := nf_some h6 _ (Nat.le_refl _) h
 exact ⟨N, g, (still_nf (go_ok h6 g h)).mpr nf, go_ok h6 g h⟩
theorem plains_last {n : Int} : ∀ {N : List (List Int)}, okR n N → stillB N = true → ∃ (S : List (List Int)) (k : Nat), N = S ++ List.replicate k (range0 n) ∧ ∀ r ∈ S, r ≠ range0 n
 | [], _, _ => ⟨[], 0, rfl, fun r hr => by cases hr⟩
 | r :: N, ok, s => by
   have ok' : okR n N := fun x hx => ok x (List.mem_cons_of_mem _ hx)
   by_cases c : r = range0 n
   · subst c
     have key : ∀ {N : List (List Int)}, okR n N → stillB (range0 n :: N) = true → N = List.replicate N.length (range0 n) := by
       intro N
       induction N with
       | nil => intro _ _; rfl
       | cons q N ih =>
         intro ok s
         have e := plain_next (ok q List.mem_cons_self) (stillC_two (stillC_iff.mp s))
         subst e
         rw [List.length_cons, List.replicate_succ, ← ih (fun x hx => ok x (List.mem_cons_of_mem _ hx)) (stillB_tail s)]
     refine ⟨[], N.length + 1, ?_, fun r hr => by cases hr⟩
     rw [List.nil_append, List.replicate_succ, ← key ok' s]
   · obtain ⟨S, k, e, h⟩ := plains_last ok' (stillB_tail s)
     refine ⟨r :: S, k, by rw [e]; rfl, fun x hx => ?_⟩
     rcases List.mem_cons.mp hx with rfl | hx
     · exact c
     · exact h x hx
theorem stillB_left {S T : List (List Int)} (h : stillB (S ++ T) = true) : stillB S = true := stillC_iff.mpr fun i hi => by
 have := stillC_iff.mp h i (by rw [List.length_append]; lia)
 rwa [List.getD_eq_getElem?_getD, List.getD_eq_getElem?_getD, List.getElem?_append_left (by lia), List.getElem?_append_left hi, ← List.getD_eq_getElem?_getD, ← List.getD_eq_getElem?_getD] at this
structure FS (n : Int) (R S : List (List Int)) : Prop where
 ok : okR n S
 st : stillB S = true
 np : ∀ r ∈ S, r ≠ range0 n
 go : ∃ k, Go n R (S ++ List.replicate k (range0 n))
theorem FS.some {n : Int} (h6 : n ≤ 6) {R : List (List Int)} (h : okR n R) : ∃ S, FS n R S := by
 obtain ⟨N, g, s, ok⟩ := go_some h6 h
 obtain ⟨S, k, rfl, hn⟩ := plains_last ok s
 exact ⟨S, fun r hr => ok r (List.mem_append_left _ hr), stillB_left s, hn, k, g⟩
theorem FS.one {n : Int} (h0 : 0 ≤ n) (h6 : n ≤ 6) {R S S' : List (List Int)} (h : okR n R) (a : FS n R S) (b : FS n R S') : S = S' := by
 obtain ⟨k, g⟩ := a.go
 obtain ⟨k', g'⟩ := b.go
 have e1 := form_end h0 h6 h a.ok a.st a.np g g' (still_plains h0 k' b.ok b.st)
 have e2 := form_end h0 h6 h b.ok b.st b.np g' g' (still_plains h0 k' b.ok b.st)
 rw [← e1, e2]
theorem FS.pre {n : Int} {R R' S : List (List Int)} (g : Go n R R') (b : FS n R' S) : FS n R S := by
 obtain ⟨k, g'⟩ := b.go
 exact ⟨b.ok, b.st, b.np, k, g.trans g'⟩
theorem FS.post {n : Int} (h0 : 0 ≤ n) (h6 : n ≤ 6) {R R' S : List (List Int)} (h : okR n R) (g : Go n R R') (a : FS n R S) : FS n R' S := by
 obtain ⟨S', b⟩ := FS.some h6 (go_ok h6 g h)
 rw [FS.one h0 h6 h a (b.pre g)]
 exact b
theorem okR_app {n : Int} {A B : List (List Int)} (ha : okR n A) (hb : okR n B) : okR n (A ++ B) := fun r hr => by
 rcases List.mem_append.mp hr with hr | hr
 · exact ha r hr
 · exact hb r hr
theorem okR_one {n : Int} {a : List Int} (h : IsP n a) : okR n [a] := fun r hr => by rw [List.mem_singleton.mp hr]; exact h
theorem okR_cons {n : Int} {a : List Int} {R : List (List Int)} (h : IsP n a) (hr : okR n R) : okR n (a :: R) := okR_app (okR_one h) hr
theorem FS.plain {n : Int} (h0 : 0 ≤ n) (h6 : n ≤ 6) {A B S : List (List Int)} (hA : okR n A) (hB : okR n B) (a : FS n (A ++ B) S) : FS n (A ++ range0 n :: B) S := by
 obtain ⟨k, g⟩ := a.go
 refine ⟨a.ok, a.st, a.np, k + 1, ?_⟩
 have g1 := go_in A [] (plain_behind h0 h6 hB)
 rw [List.append_nil, List.append_nil] at g1
 have g2 := go_in [] [range0 n] g
 rw [List.nil_append, List.nil_append] at g2
 refine g1.trans ?_
 rw [List.replicate_succ', ← List.append_assoc, ← List.append_assoc]
 exact g2
theorem half_np {n : Int} (h2 : 2 ≤ n) : (range0 n).reverse ≠ range0 n := fun e => by
 have a := gI_half (n := n) (k := 0) (by lia)
 rw [e] at a
 rw [gI_range0 (by lia) (by lia)] at a
 lia
theorem FS.half {n : Int} (h2 : 2 ≤ n) (h6 : n ≤ 6) {A B S : List (List Int)} (hA : okR n A) (a : FS n (A.map (flO n) ++ B) S) : FS n (A ++ (range0 n).reverse :: B) ((range0 n).reverse :: S) := by
 obtain ⟨k, g⟩ := a.go
 refine ⟨okR_cons (List.reverse_perm _) a.ok, ?_, ?_, k, ?_⟩
 · cases S with
   | nil => rfl
   | cons s S => exact stillC_iff.mpr (stillC_cons half_still (stillC_iff.mp a.st))
 · intro r hr
   rcases List.mem_cons.mp hr with rfl | hr
   · exact half_np h2
   · exact a.np r hr
 · have g1 := go_in [] B (half_before (by lia) h6 hA)
   rw [List.nil_append, List.nil_append] at g1
   rw [show A ++ (range0 n).reverse :: B = A ++ [(range0 n).reverse] ++ B by rw [List.append_assoc]; rfl]
   refine g1.trans ?_
   have g2 := go_in [(range0 n).reverse] [] g
   rw [List.append_nil, List.append_nil] at g2
   exact g2
end L2
namespace L2
open PySem PySem.Spec PyProof.Rows LM
noncomputable def negs (ws : List Int) : Nat := (ws.filter fun l => decide (l < 0)).length
theorem negs_take {ws : List Int} {i : Nat} {l : Int} (h : ws[i]? = some l) : negs (ws.take (i + 1)) = negs (ws.take i) + if l < 0 then 1 else 0 := by
 unfold negs
 rw [List.take_succ, h, List.filter_append, List.length_append]
 by_cases c : l < 0
 · rw [if_pos c, show (some l).toList = [l] from rfl, List.filter_cons_of_pos (by simpa using c)]; rfl
 · rw [if_neg c, show (some l).toList = [l] from rfl, List.filter_cons_of_neg (by simpa using c)]; rfl
theorem negs_split (ws : List Int) (i : Nat) : negs ws = negs (ws.take i) + negs (ws.drop i) := by
 have := congrArg negs (List.take_append_drop i ws)
 unfold negs at this ⊢
 rw [← this, List.filter_append, List.length_append]
theorem negs_drop {ws : List Int} {i : Nat} {l : Int} (h : ws[i]? = some l) : negs (ws.drop i) = negs (ws.drop (i + 1)) + if l < 0 then 1 else 0 := by
 have a := negs_split ws i
 have b := negs_split ws (i + 1)
 rw [negs_take h] at b
 lia
theorem rows_next {n : Int} {ws : List Int} {i : Nat} {l : Int} (h : ws[i]? = some l) (hl : LetOK n l) : (rowsL n (ws.take (i + 1))).map (flp n (negs (ws.drop (i + 1)))) = (rowsL n (ws.take i)).map (flp n (negs (ws.drop i))) ++ [flp n (negs (ws.drop (i + 1))) (ordF n l)] := by
 have e : ws.take (i + 1) = ws.take i ++ [l] := by rw [List.take_add_one, h]; rfl
 have d := negs_drop h
 unfold LetOK at hl
 rw [e]
 by_cases c : l > 0
 · rw [if_neg (by lia), Nat.add_zero] at d
   rw [rows_pos n _ _ c, d]
 · rw [if_pos (by lia)] at d
   rw [rows_neg n _ _ c, d]
noncomputable abbrev PR := Int × List (List Int)
noncomputable def Fo (n : Int) (x f : PR) : Prop := ∃ S, FS n x.2 S ∧ f = (x.1 + (S.count (range0 n).reverse : Nat), S.drop (S.count (range0 n).reverse))
theorem Fo.some {n : Int} (h6 : n ≤ 6) {x : PR} (h : okR n x.2) : ∃ f, Fo n x f := by
 obtain ⟨S, a⟩ := FS.some h6 h
 exact ⟨_, S, a, rfl⟩
theorem Fo.one {n : Int} (h0 : 0 ≤ n) (h6 : n ≤ 6) {x f g : PR} (h : okR n x.2) (a : Fo n x f) (b : Fo n x g) : f = g := by
 obtain ⟨S, a, rfl⟩ := a
 obtain ⟨T, b, rfl⟩ := b
 rw [FS.one h0 h6 h a b]
theorem Fo.pre {n p : Int} {R R' : List (List Int)} {f : PR} (g : Go n R R') (b : Fo n (p, R') f) : Fo n (p, R) f := by
 obtain ⟨S, a, rfl⟩ := b
 exact ⟨S, a.pre g, rfl⟩
theorem Fo.plain {n p : Int} (h0 : 0 ≤ n) (h6 : n ≤ 6) {A B : List (List Int)} {f : PR} (hA : okR n A) (hB : okR n B) (b : Fo n (p, A ++ B) f) : Fo n (p, A ++ range0 n :: B) f := by
 obtain ⟨S, a, rfl⟩ := b
 exact ⟨S, a.plain h0 h6 hA hB, rfl⟩
theorem Fo.half {n p : Int} (h2 : 2 ≤ n) (h6 : n ≤ 6) {A B : List (List Int)} {f : PR} (hA : okR n A) (b : Fo n (p + 1, A.map (flO n) ++ B) f) : Fo n (p, A ++ (range0 n).reverse :: B) f := by
 obtain ⟨S, a, rfl⟩ := b
 refine ⟨_, a.half h2 h6 hA, ?_⟩
 rw [List.count_cons_self]
 show _ = (p + ((S.count (range0 n).reverse + 1 : Nat) : Int), S.drop _)
 rw [show p + ((S.count (range0 n).reverse + 1 : Nat) : Int) = p + 1 + (S.count (range0 n).reverse : Nat) by lia]
noncomputable def flz (n p : Int) (R : List (List Int)) : List (List Int) := if p % 2 = 0 then R else R.map (flO n)
theorem flz_app (n p : Int) (A B : List (List Int)) : flz n p (A ++ B) = flz n p A ++ flz n p B := by
 unfold flz
 split
 · rfl
 · rw [List.map_append]
theorem flz_flz (n p q : Int) (A : List (List Int)) : flz n p (flz n q A) = flz n (q + p) A := by
 unfold flz
 by_cases c : p % 2 = 0 <;> by_cases d : q % 2 = 0
 · rw [if_pos c, if_pos d, if_pos (by lia)]
 · rw [if_pos c, if_neg d, if_neg (by lia)]
 · rw [if_neg c, if_pos d, if_neg (by lia)]
 · rw [if_neg c, if_neg d, if_pos (by lia), fl_map_fl]
theorem flz_ok {n : Int} (p : Int) {A : List (List Int)} (h : okR n A) : okR n (flz n p A) := by
 unfold flz
 split
 · exact h
 · exact okR_fl h
theorem flz_go {n : Int} (h6 : n ≤ 6) (p : Int) {A B : List (List Int)} (h : okR n A) (g : Go n A B) : Go n (flz n p A) (flz n p B) := by
 unfold flz
 split
 · exact g
 · exact go_fl h6 g h
theorem flz_nil (n p : Int) : flz n p [] = [] := by unfold flz; split <;> rfl
theorem flz_plain (n p : Int) : flz n p [range0 n] = [range0 n] := by
 unfold flz
 split
 · rfl
 · rw [List.map_singleton, range_fl]
theorem flz_half (n p : Int) : flz n p [(range0 n).reverse] = [(range0 n).reverse] := by
 unfold flz
 split
 · rfl
 · rw [List.map_singleton, half_fl]
theorem flz_succ (n p : Int) (A : List (List Int)) : flz n (p + 1) A = (flz n p A).map (flO n) := by
 unfold flz
 by_cases c : p % 2 = 0
 · rw [if_pos c, if_neg (by lia)]
 · rw [if_neg c, if_pos (by lia), fl_map_fl]
theorem flz_zero (n : Int) (A : List (List Int)) : flz n 0 A = A := rfl
noncomputable def mulP (n : Int) (x y : PR) : PR := (x.1 + y.1, flz n y.1 x.2 ++ y.2)
theorem mulP_assoc (n : Int) (x y z : PR) : mulP n (mulP n x y) z = mulP n x (mulP n y z) := by
 unfold mulP
 dsimp only
 rw [flz_app, flz_flz, List.append_assoc, Int.add_assoc]
theorem mulP_one (n : Int) (x : PR) : mulP n x (0, []) = x := by
 unfold mulP
 dsimp only
 rw [flz_zero, List.append_nil, Int.add_zero]
theorem one_mulP (n : Int) (x : PR) : mulP n (0, []) x = x := by
 unfold mulP
 dsimp only
 rw [flz_nil, List.nil_append, Int.zero_add]
theorem mulP_ok {n : Int} {x y : PR} (a : okR n x.2) (b : okR n y.2) : okR n (mulP n x y).2 := okR_app (flz_ok _ a) b
noncomputable def EqP (n : Int) (x y : PR) : Prop := ∀ A B : PR, okR n A.2 → okR n B.2 → ∀ f, Fo n (mulP n (mulP n A x) B) f ↔ Fo n (mulP n (mulP n A y) B) f
theorem EqP.refl {n : Int} (x : PR) : EqP n x x := fun _ _ _ _ _ => Iff.rfl
theorem EqP.symm {n : Int} {x y : PR} (h : EqP n x y) : EqP n y x := fun A B a b f => (h A B a b f).symm
theorem EqP.trans {n : Int} {x y z : PR} (h : EqP n x y) (g : EqP n y z) : EqP n x z := fun A B a b f => (h A B a b f).trans (g A B a b f)
theorem EqP.left {n : Int} {x y : PR} (h : EqP n x y) {a : PR} (ha : okR n a.2) : EqP n (mulP n a x) (mulP n a y) := fun A B hA hB f => by
 have := h (mulP n A a) B (mulP_ok hA ha) hB f
 rwa [mulP_assoc n A a x, mulP_assoc n A a y] at this
theorem EqP.right {n : Int} {x y : PR} (h : EqP n x y) {b : PR} (hb : okR n b.2) : EqP n (mulP n x b) (mulP n y b) := fun A B hA hB f => by
 have := h A (mulP n b B) hA (mulP_ok hb hB) f
 rwa [← mulP_assoc, ← mulP_assoc, mulP_assoc n A x b, mulP_assoc n A y b] at this
theorem EqP.fo {n : Int} {x y f : PR} (h : EqP n x y) : Fo n x f ↔ Fo n y f := by
 have hn : okR n (((0, []) : PR).2) := fun r hr => by cases hr
 have := h (0, []) (0, []) hn hn f
 rwa [one_mulP, one_mulP, mulP_one, mulP_one] at this
theorem EqP.go {n : Int} (h0 : 0 ≤ n) (h6 : n ≤ 6) {p : Int} {R R' : List (List Int)} (h : okR n R) (g : Go n R R') : EqP n (p, R) (p, R') := fun A B hA hB f => by
 have e : ∀ X : List (List Int), mulP n (mulP n A (p, X)) B = (A.1 + p + B.1, flz n B.1 (flz n p A.2) ++ flz n B.1 X ++ B.2) := fun X => by
   unfold mulP
   dsimp only
   rw [flz_app]
 rw [e, e]
 have g2 := go_in (flz n B.1 (flz n p A.2)) B.2 (flz_go h6 B.1 h g)
 have hok : okR n (flz n B.1 (flz n p A.2) ++ flz n B.1 R ++ B.2) := okR_app (okR_app (flz_ok _ (flz_ok _ hA)) (flz_ok _ h)) hB
 constructor
 · rintro ⟨S, a, rfl⟩
   exact ⟨S, a.post h0 h6 hok g2, rfl⟩
 · exact Fo.pre g2
theorem EqP.of_imp {n : Int} (h0 : 0 ≤ n) (h6 : n ≤ 6) {x y : PR} (hx : okR n x.2) (hy : okR n y.2) (h : ∀ A B : PR, okR n A.2 → okR n B.2 → ∀ f, Fo n (mulP n (mulP n A y) B) f → Fo n (mulP n (mulP n A x) B) f) : EqP n x y := fun A B hA hB f => by
 refine ⟨fun a => ?_, h A B hA hB f⟩
 obtain ⟨g, b⟩ := Fo.some h6 (x := mulP n (mulP n A y) B) (mulP_ok (mulP_ok hA hy) hB)
 rw [Fo.one h0 h6 (mulP_ok (mulP_ok hA hx) hB) a (h A B hA hB g b)]
 exact b
theorem okR_nil (n : Int) : okR n [] := fun r hr => by cases hr
theorem EqP.plain {n : Int} (h0 : 0 ≤ n) (h6 : n ≤ 6) (p : Int) : EqP n (p, [range0 n]) (p, []) :=
 .of_imp h0 h6 (okR_one (.refl _)) (okR_nil n) fun A B hA hB f b => by
   unfold mulP at b ⊢
   dsimp only at b ⊢
   rw [flz_app, flz_plain, List.append_assoc]
   rw [List.append_nil] at b
   exact Fo.plain h0 h6 (flz_ok _ (flz_ok _ hA)) hB b
theorem EqP.half {n : Int} (h2 : 2 ≤ n) (h6 : n ≤ 6) (p : Int) : EqP n (p, [(range0 n).reverse]) (p + 1, []) :=
 .of_imp (by lia) h6 (okR_one (List.reverse_perm _)) (okR_nil n) fun A B hA hB f b => by
   unfold mulP at b ⊢
   dsimp only at b ⊢
   rw [flz_app, flz_half, List.append_assoc]
   rw [List.append_nil, flz_flz, show p + 1 + B.1 = p + B.1 + 1 by lia, flz_succ, ← flz_flz, show A.1 + (p + 1) + B.1 = A.1 + p + B.1 + 1 by lia] at b
   exact Fo.half h2 h6 (flz_ok _ (flz_ok _ hA)) b
noncomputable def wp (n : Int) (w : List Int) : PR := (-(negs w : Nat), rowsL n w)
theorem negs_app (w v : List Int) : negs (w ++ v) = negs w + negs v := by
 unfold negs
 rw [List.filter_append, List.length_append]
theorem wp_app (n : Int) (w : List Int) {v : List Int} (hz : ∀ l ∈ v, l ≠ 0) : wp n (w ++ v) = mulP n (wp n w) (wp n v) := by
 have key : ∀ k : Nat, ∀ v : List Int, (∀ l ∈ v, l ≠ 0) → v.length = k → wp n (w ++ v) = mulP n (wp n w) (wp n v) := by
   intro k
   induction k with
   | zero =>
     intro v hz hv
     rw [List.length_eq_zero_iff.mp hv, List.append_nil]
     exact (mulP_one n _).symm
   | succ k ih =>
     intro v hz hv
     obtain ⟨u, l, rfl⟩ : ∃ u l, v = u ++ [l] := ⟨v.dropLast, v.getLast (fun e => by rw [e] at hv; cases hv), (List.dropLast_concat_getLast _).symm⟩
     rw [List.length_append, List.length_singleton] at hv
     have i := ih u (fun x hx => hz x (List.mem_append_left _ hx)) (by lia)
     have hl0 := hz l (List.mem_append_right _ List.mem_cons_self)
     unfold wp mulP at i ⊢
     have i1 := congrArg Prod.snd i
     dsimp only at i1
     rw [← List.append_assoc, rowsL_snoc, rowsL_snoc, negs_app, negs_app, i1]
     have e1 : negs [l] = if l < 0 then 1 else 0 := by
       unfold negs
       by_cases c : l < 0
       · rw [if_pos c, List.filter_cons_of_pos (by simpa using c)]; rfl
       · rw [if_neg c, List.filter_cons_of_neg (by simpa using c)]; rfl
     by_cases c : l > 0
     · rw [if_pos c, if_pos c, negs_app, e1, if_neg (by lia), Nat.add_zero, List.append_assoc]
       refine Prod.ext ?_ rfl
       show (-((negs w + (negs u) : Nat) : Int)) = -(negs w : Nat) + -(negs u : Nat)
       lia
     · rw [if_neg c, if_neg c, negs_app, e1]
       by_cases c0 : l < 0
       · rw [if_pos c0, List.map_append]
         refine Prod.ext ?_ ?_
         · show (-((negs w + (negs u + 1) : Nat) : Int)) = -(negs w : Nat) + -((negs u + 1 : Nat) : Int)
           lia
         · dsimp only
           rw [← List.append_assoc]
           congr 2
           rw [← flz_succ]
           unfold flz
           by_cases d : (-((negs u : Nat) : Int) + 1) % 2 = 0
           · rw [if_pos d, if_pos (by lia)]
           · rw [if_neg d, if_neg (by lia)]
       · lia
 exact key _ v hz rfl
end L2
namespace L2
open PySem PySem.Spec PyProof.Rows LM
theorem mul_go (n p : Int) (a b : List Int) : mulP n (p, [a]) (0, [b]) = (p, [a, b]) := by
 unfold mulP
 dsimp only
 rw [flz_zero, Int.add_zero]; rfl
theorem okR_two {n : Int} {a b : List Int} (ha : IsP n a) (hb : IsP n b) : okR n [a, b] := okR_cons ha (okR_one hb)
theorem beg_ord {n : Int} {l : Nat} (l1 : 1 ≤ l) (l2 : (l : Int) < n) : begL (ordF n l) l = range0 n := by
 have lo := (ordF_isP (n := n) (l := l) (by lia) ⟨by lia, by lia⟩).len
 have lr := range0_length n
 refine gI_ext (by rw [beg_len l1 (by lia)]; lia) fun k hk => ?_
 rw [beg_len l1 (by lia)] at hk
 have r := sw_rng (l := (l : Int)) (n := n) (k := k) (by lia) l2 (by lia) (by lia)
 rw [gI_beg' l1 (by lia) (by lia), gI_ord (by lia) l2 r.1 r.2, sw_sw, gI_range0 (by lia) (by lia)]
theorem EqP.back {n p : Int} (h6 : n ≤ 6) {a : List Int} (ha : IsP n a) {l : Nat} (l1 : 1 ≤ l) (l2 : (l : Int) < n) (h : a.idxOf ((l : Int) - 1) < a.idxOf (l : Int)) : EqP n (p, [a, ordF n l]) (p, [a.map (sw l)]) := by
 have ho : IsP n (ordF n l) := ordF_isP (by lia) ⟨by lia, by lia⟩
 have g : Go n [a, ordF n l] [a.map (sw l), range0 n] := by
   refine .one ⟨0, l, a, ordF n l, rfl, rfl, l1, l2, mvC_iff.mpr ⟨?_, h⟩, ?_⟩
   · rw [gI_ord (by lia) l2 (by lia) (by lia), gI_ord (by lia) l2 (by lia) l2, sw_lo, sw_hi]; lia
   · rw [beg_ord l1 l2]; rfl
 refine (EqP.go (p := p) (by lia) h6 (okR_two ha ho) g).trans ?_
 have := (EqP.plain (n := n) (by lia) h6 0).left (a := (p, [a.map (sw l)])) (okR_one (sw_isP ha l1 l2))
 rwa [mul_go, mulP_one] at this
theorem EqP.front {n p : Int} (h6 : n ≤ 6) {r : List Int} (hr : IsP n r) {l : Nat} (l1 : 1 ≤ l) (l2 : (l : Int) < n) (h : gI r ((l : Int) - 1) > gI r l) : EqP n (p, [r]) (p, [ordF n l, begL r l]) := by
 have hp : IsP n (range0 n) := .refl _
 have g : Go n [range0 n, r] [ordF n l, begL r l] := by
   refine .one ⟨0, l, range0 n, r, rfl, rfl, l1, l2, mvC_iff.mpr ⟨h, ?_⟩, ?_⟩
   · rw [range0_idx (by lia) (by lia), range0_idx (by lia) l2]; lia
   · rw [← ord_pos (by lia) l2]; rfl
 have e := (EqP.plain (n := n) (by lia) h6 p).right (b := (0, [r])) (okR_one hr)
 rw [mul_go] at e
 have e2 : mulP n (p, []) (0, [r]) = (p, [r]) := by
   unfold mulP
   dsimp only
   rw [flz_nil, Int.add_zero]; rfl
 rw [e2] at e
 exact e.symm.trans (EqP.go (by lia) h6 (okR_two hp hr) g)
theorem wp_pos {n l : Int} (h : l > 0) : wp n [l] = (0, [ordF n l]) := by
 unfold wp rowsL negs
 rw [List.filter_cons_of_neg (by simpa using (show 0 ≤ l by lia)), List.foldl_cons, List.foldl_nil, if_pos h]; rfl
theorem wp_neg {n l : Int} (h : l < 0) : wp n [l] = (-1, [ordF n l]) := by
 unfold wp rowsL negs
 rw [List.filter_cons_of_pos (by simpa using h), List.foldl_cons, List.foldl_nil, if_neg (by lia)]; rfl
theorem wp_ok {n : Int} {w : List Int} (h1 : 1 ≤ n) (hw : WordOK n w) : okR n (wp n w).2 := rowsL_ok h1 fun l hl => ordF_isP h1 (hw l hl)
end L2
namespace LM
theorem WordOK.appl {n : Int} {w v : List Int} (h : WordOK n (w ++ v)) : WordOK n w := fun l hl => h l (List.mem_append_left _ hl)
theorem WordOK.appr {n : Int} {w v : List Int} (h : WordOK n (w ++ v)) : WordOK n v := fun l hl => h l (List.mem_append_right _ hl)
theorem WordOK.one {n l : Int} (h : LetOK n l) : WordOK n [l] := fun x hx => by rw [List.mem_singleton.mp hx]; exact h
theorem WordOK.two {n a b : Int} (h : LetOK n a) (g : LetOK n b) : WordOK n [a, b] := fun l hl => by
 rcases List.mem_cons.mp hl with rfl | hl
 · exact h
 · rw [List.mem_singleton.mp hl]; exact g
theorem WordOK.three {n a b c : Int} (h : LetOK n a) (g : LetOK n b) (k : LetOK n c) : WordOK n [a, b, c] := fun l hl => by
 rcases List.mem_cons.mp hl with rfl | hl
 · exact h
 · exact WordOK.two g k l hl
theorem LetOK.pos {n l : Int} (h1 : 0 < l) (h2 : l < n) : LetOK n l := ⟨by lia, by lia⟩
theorem LetOK.two {n a : Int} (h : LetOK n a) : 2 ≤ n := by unfold LetOK at h; lia
end LM
namespace L2
open PySem PySem.Spec PyProof.Rows LM
noncomputable def EqW (n : Int) (w v : List Int) : Prop := EqP n (wp n w) (wp n v)
theorem EqW.refl {n : Int} (w : List Int) : EqW n w w := EqP.refl _
theorem EqW.symm {n : Int} {w v : List Int} (h : EqW n w v) : EqW n v w := EqP.symm h
theorem EqW.trans {n : Int} {w v x : List Int} (h : EqW n w v) (g : EqW n v x) : EqW n w x := EqP.trans h g
theorem EqW.ctx {n : Int} (h1 : 1 ≤ n) {w v a b : List Int} (hw : WordOK n w) (hv : WordOK n v) (ha : WordOK n a) (hb : WordOK n b) (h : EqW n w v) : EqW n (a ++ w ++ b) (a ++ v ++ b) := by
 unfold EqW
 rw [wp_app n _ hb.nz, wp_app n _ hw.nz, wp_app n _ hb.nz, wp_app n _ hv.nz]
 exact (EqP.left h (wp_ok h1 ha)).right (wp_ok h1 hb)
theorem wp_two {n : Int} (a b : Int) (hb : b ≠ 0) : wp n [a, b] = mulP n (wp n [a]) (wp n [b]) := wp_app n [a] (v := [b]) fun l hl => by rw [List.mem_singleton.mp hl]; exact hb
theorem half_beg {n : Int} {l m : Nat} (l1 : 1 ≤ l) (m1 : 1 ≤ m) (e : (l : Int) + m = n) : begL (range0 n).reverse m = ordF n (-(l : Int)) := by
 have lh : (range0 n).reverse.length = n.toNat := by rw [List.length_reverse, range0_length]
 rw [ord_neg (by lia) (by lia), Int.neg_neg]
 refine gI_ext (by rw [beg_len m1 (by lia), List.length_map]) fun k hk => ?_
 rw [beg_len m1 (by lia)] at hk
 have r := sw_rng (l := (m : Int)) (n := n) (k := k) (by lia) (by lia) (by lia) (by lia)
 rw [gI_beg' m1 (by lia) (by lia), gI_map hk, gI_half (by lia), show sw (m : Int) k = ((sw (m : Int) k).toNat : Nat) by lia, gI_half (by lia)]
 have := sw_fl (n := n) (l := m) (m := l) (by lia) (k : Int)
 lia
theorem gI_halfI {n k : Int} (h0 : 0 ≤ k) (h : k < n) : gI (range0 n).reverse k = n - 1 - k := by
 have := gI_half (n := n) (k := k.toNat) (by lia)
 rwa [Int.toNat_of_nonneg h0] at this
noncomputable def c1B (n k : Nat) : Bool := decide (flO n (ordF n k) = ordF n ((n - k : Nat) : Int)) && decide (begL (range0 n).reverse (n - k) = ordF n (-(k : Int))) && decide (gI (range0 n).reverse (((n - k : Nat) : Int) - 1) > gI (range0 n).reverse ((n - k : Nat) : Int)) &&
 decide ((ordF n (-(k : Int))).idxOf ((k : Int) - 1) < (ordF n (-(k : Int))).idxOf (k : Int)) && decide ((ordF n (-(k : Int))).map (sw k) = (range0 n).reverse)
theorem c1_all : ∀ n, n < 7 → ∀ k, k < 6 → 1 ≤ k → k < n → c1B n k = true := by decide +kernel
noncomputable def c2B (n a b : Nat) : Bool := decide ((ordF n a).idxOf ((b : Int) - 1) < (ordF n a).idxOf (b : Int)) && decide ((ordF n b).idxOf ((a : Int) - 1) < (ordF n b).idxOf (a : Int)) && decide ((ordF n a).map (sw b) = (ordF n b).map (sw a))
theorem c2_one : ((List.range 7).all fun n => (List.range 6).all fun a => (List.range 6).all fun b => !(decide (1 ≤ a) && decide (a < n) && decide (1 ≤ b) && decide (b < n) && (decide (a + 2 ≤ b) || decide (b + 2 ≤ a))) || c2B n a b) = true := by decide +kernel
theorem c2_all {n a b : Nat} (hn : n < 7) (ha : a < 6) (hb : b < 6) (a1 : 1 ≤ a) (a2 : a < n) (b1 : 1 ≤ b) (b2 : b < n) (h : a + 2 ≤ b ∨ b + 2 ≤ a) : c2B n a b = true := by
 have := List.all_eq_true.mp (List.all_eq_true.mp (List.all_eq_true.mp c2_one n (List.mem_range.mpr hn)) a (List.mem_range.mpr ha)) b (List.mem_range.mpr hb)
 rw [decide_eq_true a1, decide_eq_true a2, decide_eq_true b1, decide_eq_true b2] at this
 rcases h with h | h
 · rw [decide_eq_true h] at this
   exact this
 · rw [decide_eq_true h, Bool.or_true] at this
   exact this
noncomputable def c3B (n a b : Nat) : Bool := decide ((ordF n a).idxOf ((b : Int) - 1) < (ordF n a).idxOf (b : Int)) && decide ((ordF n b).idxOf ((a : Int) - 1) < (ordF n b).idxOf (a : Int)) &&
 decide (((ordF n a).map (sw b)).idxOf ((a : Int) - 1) < ((ordF n a).map (sw b)).idxOf (a : Int)) && decide (((ordF n b).map (sw a)).idxOf ((b : Int) - 1) < ((ordF n b).map (sw a)).idxOf (b : Int)) && decide (((ordF n a).map (sw b)).map (sw a) = ((ordF n b).map (sw a)).map (sw b))
theorem c3_all : ∀ n, n < 7 → ∀ a, a < 6 → 1 ≤ a → a + 1 < n → c3B n a (a + 1) = true := by decide +kernel
theorem EqW.out {n l : Int} (h6 : n ≤ 6) (hl : LetOK n l) : EqW n [l, -l] [] := by
 obtain ⟨N, rfl⟩ : ∃ N : Nat, n = N := ⟨n.toNat, by have := hl.two; lia⟩
 unfold EqW
 show EqP N _ (0, [])
 have hz := hl.ne
 rw [wp_two _ _ (by lia)]
 unfold LetOK at hl
 obtain ⟨k, hk⟩ : ∃ k : Nat, l = k ∨ l = -(k : Int) := ⟨l.natAbs, by lia⟩
 have k1 : 1 ≤ k := by lia
 have k2 : k < N := by lia
 clear hl hz
 have c := c1_all N (by lia) k (by lia) k1 k2
 unfold c1B at c
 simp only [Bool.and_eq_true, decide_eq_true_eq] at c
 obtain ⟨⟨⟨⟨q1, q2⟩, q3⟩, q4⟩, q5⟩ := c
 have hh : IsP (N : Int) (range0 N).reverse := List.reverse_perm _
 rcases hk with rfl | rfl
 · rw [wp_pos (by lia), wp_neg (by lia)]
   have e3 : mulP N (0, [ordF N k]) (-1, [ordF N (-(k : Int))]) = (-1, [ordF N ((N - k : Nat) : Int), begL (range0 N).reverse (N - k)]) := by
     rw [← q1, q2]; rfl
   rw [e3]
   exact (EqP.front h6 hh (by lia) (by lia) q3).symm.trans (EqP.half (by lia) h6 (-1))
 · rw [Int.neg_neg, wp_neg (by lia), wp_pos (by lia), mul_go]
   have hP : IsP (N : Int) (ordF N (-(k : Int))) := ordF_isP (by lia) ⟨by lia, by lia⟩
   have hb := EqP.back (p := -1) h6 hP k1 (by lia) q4
   rw [q5] at hb
   exact hb.trans (EqP.half (by lia) h6 (-1))
theorem EqW.far_pos {n : Int} (h6 : n ≤ 6) {a b : Nat} (a1 : 1 ≤ a) (a2 : (a : Int) < n) (b1 : 1 ≤ b) (b2 : (b : Int) < n) (h : a + 2 ≤ b ∨ b + 2 ≤ a) : EqW n [(a : Int), b] [(b : Int), a] := by
 obtain ⟨N, rfl⟩ : ∃ N : Nat, n = N := ⟨n.toNat, by lia⟩
 have c := c2_all (n := N) (by lia) (by lia) (by lia) a1 (by lia) b1 (by lia) h
 clear h
 unfold c2B at c
 simp only [Bool.and_eq_true, decide_eq_true_eq] at c
 obtain ⟨⟨q1, q2⟩, q3⟩ := c
 have a3 : (0 : Int) < a := by lia
 have b3 : (0 : Int) < b := by lia
 unfold EqW
 rw [wp_two _ _ (Int.ne_of_gt b3), wp_two _ _ (Int.ne_of_gt a3), wp_pos a3, wp_pos b3, mul_go, mul_go]
 have n1 : (1 : Int) ≤ N := Int.le_trans a3 (Int.le_of_lt a2)
 have x := EqP.back (p := 0) h6 (ordF_isP n1 (LetOK.pos a3 a2)) b1 b2 q1
 have y := EqP.back (p := 0) h6 (ordF_isP n1 (LetOK.pos b3 b2)) a1 a2 q2
 rw [q3] at x
 exact x.trans y.symm
theorem wp_three {n : Int} (a b c : Int) (hb : b ≠ 0) (hc : c ≠ 0) : wp n [a, b, c] = mulP n (mulP n (wp n [a]) (wp n [b])) (wp n [c]) := by
 rw [← wp_two a b hb]
 exact wp_app n [a, b] (v := [c]) fun l hl => by rw [List.mem_singleton.mp hl]; exact hc
theorem EqW.three_pos {n : Int} (h6 : n ≤ 6) {a : Nat} (a1 : 1 ≤ a) (b2 : ((a + 1 : Nat) : Int) < n) : EqW n [(a : Int), (a + 1 : Nat), a] [((a + 1 : Nat) : Int), a, (a + 1 : Nat)] := by
 obtain ⟨N, rfl⟩ : ∃ N : Nat, n = N := ⟨n.toNat, by lia⟩
 have c := c3_all N (by lia) a (by lia) a1 (by lia)
 unfold c3B at c
 simp only [Bool.and_eq_true, decide_eq_true_eq] at c
 obtain ⟨⟨⟨⟨q1, q2⟩, q3⟩, q4⟩, q5⟩ := c
 have a3 : (0 : Int) < a := by lia
 have a2 : (a : Int) < N := by lia
 have b1 : 1 ≤ a + 1 := by lia
 generalize a + 1 = b at b1 b2 q1 q2 q3 q4 q5 ⊢
 have b3 : (0 : Int) < b := by lia
 have n1 : (1 : Int) ≤ N := Int.le_trans a3 (Int.le_of_lt a2)
 unfold EqW
 rw [wp_three _ _ _ (Int.ne_of_gt b3) (Int.ne_of_gt a3), wp_three _ _ _ (Int.ne_of_gt a3) (Int.ne_of_gt b3), wp_pos a3, wp_pos b3, mul_go, mul_go]
 have hA := ordF_isP n1 (LetOK.pos a3 a2)
 have hB := ordF_isP n1 (LetOK.pos b3 b2)
 have x1 := (EqP.back (p := 0) h6 hA b1 b2 q1).right (b := (0, [ordF N a])) (okR_one hA)
 have y1 := (EqP.back (p := 0) h6 hB a1 a2 q2).right (b := (0, [ordF N b])) (okR_one hB)
 refine x1.trans (EqP.symm (y1.trans ?_))
 rw [mul_go, mul_go]
 have x2 := EqP.back (p := 0) h6 (sw_isP hA b1 b2) a1 a2 q3
 have y2 := EqP.back (p := 0) h6 (sw_isP hB a1 a2) b1 b2 q4
 rw [q5] at x2
 exact y2.trans x2.symm
end L2
namespace LM
theorem LetOK.lim {n l : Int} (h : LetOK n l) (h6 : n ≤ 6) : -6 < l ∧ l < 6 ∧ l ≠ 0 := by unfold LetOK at h; lia
end LM
namespace L2
open PySem PySem.Spec PyProof.Rows LM
theorem of_eqT_int {a b : Int} (h : eqT (T.int a) (T.int b) = true) : a = b := by rw [eqT_int] at h; exact of_decide_eq_true h
inductive RelW (n : Int) : List Int → List Int → Prop where
 | refl (w : List Int) : RelW n w w
 | symm {w v : List Int} : RelW n w v → RelW n v w
 | trans {w v x : List Int} : RelW n w v → RelW n v x → RelW n w x
 | ctx {w v : List Int} (a b : List Int) : WordOK n a → WordOK n b → RelW n w v → RelW n (a ++ w ++ b) (a ++ v ++ b)
 | far {a b : Int} : LetOK n a → LetOK n b → (a.natAbs + 1 < b.natAbs ∨ b.natAbs + 1 < a.natAbs) → RelW n [a, b] [b, a]
 | three {p q : Int} : LetOK n p → LetOK n q → p * q > 0 → (p - q).natAbs = 1 → RelW n [p, q, p] [q, p, q]
 | out {l : Int} : LetOK n l → RelW n [l, -l] []
theorem RelW.ok {n : Int} {w v : List Int} (h : RelW n w v) : WordOK n w ↔ WordOK n v := by
 induction h with
 | refl => exact Iff.rfl
 | symm _ ih => exact ih.symm
 | trans _ _ a b => exact a.trans b
 | ctx a b ha hb _ ih => exact ⟨fun h => (ha.append (ih.mp h.appl.appr)).append hb, fun h => (ha.append (ih.mpr h.appl.appr)).append hb⟩
 | far a b _ => exact ⟨fun _ => .two b a, fun _ => .two a b⟩
 | three a b _ _ => exact ⟨fun _ => .three b a b, fun _ => .three a b a⟩
 | out a => exact ⟨fun _ => .nil, fun _ => .two a a.neg⟩
section
variable {n : Int} (h6 : n ≤ 6)
include h6
theorem EqW.comm_neg {a b : Int} (ha : LetOK n a) (hb : LetOK n b) (h : EqW n [a, b] [b, a]) : EqW n [a, -b] [-b, a] := by
 have h1 : 1 ≤ n := by have := ha.two; lia
 have x1 := EqW.ctx h1 (w := [-b, - -b]) (v := []) (a := []) (b := [a, -b]) (.two hb.neg hb.neg.neg) .nil .nil (.two ha hb.neg) (EqW.out h6 hb.neg)
 rw [Int.neg_neg] at x1
 have x2 := EqW.ctx h1 (w := [a, b]) (v := [b, a]) (a := [-b]) (b := [-b]) (.two ha hb) (.two hb ha) (.one hb.neg) (.one hb.neg) h
 have x3 := EqW.ctx h1 (w := [b, -b]) (v := []) (a := [-b, a]) (b := []) (.two hb hb.neg) .nil (.two hb.neg ha) .nil (EqW.out h6 hb)
 exact (EqW.symm x1).trans ((EqW.symm x2).trans x3)
theorem EqW.far {a b : Int} (ha : LetOK n a) (hb : LetOK n b) (h : a.natAbs + 1 < b.natAbs ∨ b.natAbs + 1 < a.natAbs) : EqW n [a, b] [b, a] := by
 have pos : ∀ {a b : Int}, LetOK n a → LetOK n b → (a.natAbs + 1 < b.natAbs ∨ b.natAbs + 1 < a.natAbs) → 0 < a → 0 < b → EqW n [a, b] [b, a] := by
   intro a b ha hb h pa pb
   have := EqW.far_pos (n := n) h6 (a := a.toNat) (b := b.toNat) (by lia) (by unfold LetOK at ha; lia) (by lia) (by unfold LetOK at hb; lia) (by lia)
   rwa [Int.toNat_of_nonneg (by lia), Int.toNat_of_nonneg (by lia)] at this
 have half : ∀ {a b : Int}, LetOK n a → LetOK n b → (a.natAbs + 1 < b.natAbs ∨ b.natAbs + 1 < a.natAbs) → 0 < a → EqW n [a, b] [b, a] := by
   intro a b ha hb h pa
   by_cases pb : 0 < b
   · exact pos ha hb h pa pb
   · have := EqW.comm_neg h6 ha hb.neg (pos ha hb.neg (by lia) pa (by unfold LetOK at hb; lia))
     rwa [Int.neg_neg] at this
 by_cases pa : 0 < a
 · exact half ha hb h pa
 · by_cases pb : 0 < b
   · exact EqW.symm (half hb ha (by lia) pb)
   · have := EqW.comm_neg h6 hb ha.neg (EqW.symm (half ha.neg hb (by lia) (by unfold LetOK at ha; lia)))
     rw [Int.neg_neg] at this
     exact EqW.symm this
theorem EqW.back_out (h1 : 1 ≤ n) : ∀ {w : List Int}, WordOK n w → EqW n (contrL w ++ w) []
 | [], _ => EqW.refl _
 | l :: w, hw => by
   have hl : LetOK n l := hw l List.mem_cons_self
   have hw' : WordOK n w := fun x hx => hw x (List.mem_cons_of_mem _ hx)
   rw [contrL_cons, List.append_assoc]
   have o := EqW.out h6 hl.neg
   rw [Int.neg_neg] at o
   have := EqW.ctx h1 (a := contrL w) (b := w) (.two hl.neg hl) .nil hw'.contr hw' o
   rw [List.append_nil, List.append_assoc] at this
   exact this.trans (EqW.back_out h1 hw')
theorem EqW.contr (h1 : 1 ≤ n) {w v : List Int} (hw : WordOK n w) (hv : WordOK n v) (h : EqW n w v) : EqW n (contrL w) (contrL v) := by
 have o := EqW.back_out h6 h1 hv.contr
 rw [contrL_contr] at o
 have x1 := EqW.ctx h1 (a := contrL w) (b := []) (hv.append hv.contr) .nil hw.contr .nil o
 rw [List.append_nil, List.append_nil, List.append_nil] at x1
 have x2 := EqW.ctx h1 (a := contrL w) (b := contrL v) hw hv hw.contr hv.contr h
 rw [List.append_assoc, List.append_assoc] at x2
 have x3 := EqW.ctx h1 (a := []) (b := contrL v) (hw.contr.append hw) .nil .nil hv.contr (EqW.back_out h6 h1 hw)
 rw [List.nil_append, List.nil_append, List.nil_append, List.append_assoc] at x3
 exact (EqW.symm x1).trans ((EqW.symm x2).trans x3)
theorem EqW.three {p q : Int} (hp : LetOK n p) (hq : LetOK n q) (h : p * q > 0) (hd : (p - q).natAbs = 1) : EqW n [p, q, p] [q, p, q] := by
 have h1 : 1 ≤ n := by have := hp.two; lia
 have pos : ∀ {p q : Int}, LetOK n p → LetOK n q → 0 < p → 0 < q → (p - q).natAbs = 1 → EqW n [p, q, p] [q, p, q] := by
   intro p q hp hq pp pq hd
   unfold LetOK at hp hq
   obtain ⟨k, rfl⟩ : ∃ k : Nat, p = k := ⟨p.toNat, by lia⟩
   obtain ⟨m, rfl⟩ : ∃ m : Nat, q = m := ⟨q.toNat, by lia⟩
   by_cases c : m = k + 1
   · subst c
     exact EqW.three_pos (n := n) h6 (by lia) (by lia)
   · obtain rfl : k = m + 1 := by lia
     exact EqW.symm (EqW.three_pos (n := n) h6 (by lia) (by lia))
 rcases Int.lt_or_le 0 p with c | c
 · exact pos hp hq c (Int.pos_of_mul_pos_right h c) hd
 · have hp0 : p < 0 := by unfold LetOK at hp; lia
   have hq0 : q < 0 := by
     rcases Int.lt_or_le q 0 with d | d
     · exact d
     · have := Int.mul_nonpos_of_nonpos_of_nonneg (Int.le_of_lt hp0) d
       lia
   have := EqW.contr h6 h1 (.three hp.neg hq.neg hp.neg) (.three hq.neg hp.neg hq.neg) (pos hp.neg hq.neg (by lia) (by lia) (by lia))
   simpa [contrL] using this
theorem RelW.eq {w v : List Int} (h1 : 1 ≤ n) (h : RelW n w v) : WordOK n w → WordOK n v → EqW n w v := by
 induction h with
 | refl w => exact fun _ _ => EqW.refl w
 | symm _ ih => exact fun a b => EqW.symm (ih b a)
 | trans g _ ia ib => exact fun a b => (ia a (g.ok.mp a)).trans (ib (g.ok.mp a) b)
 | ctx a b ha hb g ih => exact fun x y => EqW.ctx h1 x.appl.appr y.appl.appr ha hb (ih x.appl.appr y.appl.appr)
 | far a b h => exact fun _ _ => EqW.far h6 a b h
 | three a b h g => exact fun _ _ => EqW.three h6 a b h g
 | out a => exact fun _ _ => EqW.out h6 a
end
theorem RelW.fo {n : Int} (h6 : n ≤ 6) (h1 : 1 ≤ n) {w v : List Int} (h : RelW n w v) (hw : WordOK n w) {f : PR} : Fo n (wp n w) f ↔ Fo n (wp n v) f := EqP.fo (h.eq h6 h1 hw (h.ok.mp hw))
theorem RelW.same {n : Int} {w v : List Int} (h : RelW n w v) : SameW w v := by
 induction h with
 | refl w => exact SameW.refl
 | symm _ ih => exact ih.symm
 | trans _ _ a b => exact a.trans b
 | ctx a b ha hb _ ih => exact ih.mid a hb.nz
 | far a b h => exact same_far a.ne b.ne h
 | three a b h g => exact same_three h g
 | out a => exact same_pair a.ne
end L2
namespace L2
open PySem PySem.Spec PyProof.Rows LM
theorem cut_at {R : List (List Int)} {i : Nat} {a b : List Int} (e1 : R[i]? = some a) (e2 : R[i + 1]? = some b) : R = R.take i ++ [a, b] ++ R.drop (i + 2) := by
 have h2 := lt_get e2
 have x1 := List.getElem?_eq_getElem (show i < R.length by lia)
 have x2 := List.getElem?_eq_getElem h2
 have y1 : R[i] = a := Option.some.inj (x1.symm.trans e1)
 have y2 : R[i + 1] = b := Option.some.inj (x2.symm.trans e2)
 rw [List.append_assoc]
 show R = R.take i ++ (a :: b :: R.drop (i + 2))
 rw [← y1, ← y2, ← List.drop_eq_getElem_cons h2, ← List.drop_eq_getElem_cons, List.take_append_drop]
theorem setp_at {A B : List (List Int)} {a b a' b' : List Int} {i : Nat} (h : A.length = i) : setp (A ++ [a, b] ++ B) i a' b' = A ++ [a', b'] ++ B := by
 have := setp_in (A := A) (R := [a, b]) (B := B) (i := 0) (a := a') (b := b') (by simp)
 rw [Nat.add_zero, h] at this
 exact this
theorem gI_flI {n : Int} {u : List Int} (hu : IsP n u) {k : Int} (h0 : 0 ≤ k) (h1 : k < n) : gI (flO n u) k = n - 1 - gI u (n - 1 - k) := by
 have hl := hu.len
 have := gI_fl hu (k := k.toNat) (by lia)
 rwa [Int.toNat_of_nonneg h0, show ((u.length - 1 - k.toNat : Nat) : Int) = n - 1 - k by lia] at this
theorem halves_cut {n : Int} : ∀ {S : List (List Int)}, okR n S → stillB S = true → S = List.replicate (S.count (range0 n).reverse) (range0 n).reverse ++ S.drop (S.count (range0 n).reverse)
 | [], _, _ => rfl
 | r :: S, ok, st => by
   by_cases c : r = (range0 n).reverse
   · subst c
     rw [List.count_cons_self, List.replicate_succ, List.drop_succ_cons, List.cons_append, ← halves_cut (fun x hx => ok x (List.mem_cons_of_mem _ hx)) (stillB_tail st)]
   · rw [halves_lead ok st rfl c]; rfl
noncomputable def frT (f : PR) : T := .tup [.int f.1, .tup (f.2.map tupT)]
theorem frT_pure (f : PR) : pureT (frT f) = true := by
 unfold frT
 rw [pureT_tup, pureTs_cons, pureTs_cons, pureTs_nil, pureT_int, pureT_tup, tupT_pures]; rfl
theorem frT_dep (f : PR) : depT (frT f) ≤ 30 := by
 have : depTs (f.2.map tupT) ≤ 1 := depTs_tups f.2
 unfold frT
 rw [depT_tup, depTs_cons, depTs_cons, depTs_nil, depT_int, depT_tup]
 lia
theorem eqT_frT (f g : PR) : eqT (frT f) (frT g) = decide (f = g) := by
 have e : eqTs (f.2.map tupT) (g.2.map tupT) = decide (f.2 = g.2) := eqTs_tupI f.2 g.2
 unfold frT
 rw [eqT_tup, eqTs_cons, eqTs_cons, eqTs_nil, eqT_int, eqT_tup, e, Bool.and_true]
 obtain ⟨p, R⟩ := f
 obtain ⟨q, S⟩ := g
 simp only [Prod.mk.injEq]
 by_cases a : p = q <;> by_cases b : R = S <;> simp [a, b]
theorem word_none {n : Int} (h : n < 2) {w : List Int} (hw : WordOK n w) : w = [] := by
 cases w with
 | nil => rfl
 | cons l w =>
   have := (hw l List.mem_cons_self).two
   lia
end L2
namespace L2
open PySem PySem.Spec PyProof.Rows LM
end L2
namespace L2
open PySem PySem.Spec PyProof.Rows LM
end L2
namespace L2
open PySem PySem.Spec PyProof.Rows LM
theorem half_isP (n : Int) : IsP n (range0 n).reverse := List.reverse_perm _
theorem ltO_ind {n : Int} (h6 : n ≤ 6) {C : List Int → Prop} (h0 : ∀ r, IsP n r → fsD r = 0 → C r) (h1 : ∀ (r : List Int) (l : Nat), IsP n r → fsD r = l → 1 ≤ l → (l : Int) < n → dsB r l = true → C (begL r l) → C r) : ∀ (k : Nat) (r : List Int), IsP n r → 217 ≤ k + Sn 0 r → C r
 | 0, r, h, hk => by
   have := Sn_small h h6
   lia
 | k + 1, r, h, hk => by
   by_cases e : fsD r = 0
   · exact h0 r h e
   · obtain ⟨a, b, c⟩ := fsD_pos e
     have hl := h.len
     have up := beg_up h a b c
     exact h1 r _ h rfl a (by lia) c (ltO_ind h6 h0 h1 k _ (beg_isP h a b) (by lia))
theorem ltO_rec {n : Int} (h6 : n ≤ 6) {C : List Int → Prop} (h0 : ∀ r, IsP n r → fsD r = 0 → C r) (h1 : ∀ (r : List Int) (l : Nat), IsP n r → fsD r = l → 1 ≤ l → (l : Int) < n → dsB r l = true → C (begL r l) → C r) {r : List Int} (h : IsP n r) : C r := ltO_ind h6 h0 h1 217 r h (by lia)
end L2
namespace L2
open PySem PySem.Spec PyProof.Rows LM
noncomputable def relS (n : Int) : Setoid {w : List Int // WordOK n w} := ⟨fun a b => RelW n a.1 b.1, fun a => .refl _, fun h => h.symm, fun h g => h.trans g⟩
noncomputable def Gp (n : Int) : Type := Quotient (relS n)
noncomputable def gmk {n : Int} (w : List Int) (h : WordOK n w) : Gp n := Quotient.mk (relS n) ⟨w, h⟩
theorem RelW.lf {n : Int} {a w v : List Int} (ha : WordOK n a) (h : RelW n w v) : RelW n (a ++ w) (a ++ v) := by
 have := RelW.ctx a [] ha .nil h
 rwa [List.append_nil, List.append_nil] at this
theorem RelW.rt {n : Int} {b w v : List Int} (hb : WordOK n b) (h : RelW n w v) : RelW n (w ++ b) (v ++ b) := RelW.ctx [] b .nil hb h
theorem RelW.bk {n : Int} : ∀ {w : List Int}, WordOK n w → RelW n (contrL w ++ w) []
 | [], _ => .refl _
 | l :: w, hw => by
   have hl : LetOK n l := hw l List.mem_cons_self
   have hw' : WordOK n w := fun x hx => hw x (List.mem_cons_of_mem _ hx)
   rw [contrL_cons, List.append_assoc]
   have o := RelW.out hl.neg
   rw [Int.neg_neg] at o
   have := RelW.ctx (contrL w) w hw'.contr hw' o
   rw [List.append_nil, List.append_assoc] at this
   exact this.trans (RelW.bk hw')
theorem RelW.both {n : Int} {w v x y : List Int} (h : RelW n w v) (g : RelW n x y) (hv : WordOK n v) (hx : WordOK n x) : RelW n (w ++ x) (v ++ y) := (h.rt hx).trans (g.lf hv)
theorem RelW.contr {n : Int} {w v : List Int} (hw : WordOK n w) (hv : WordOK n v) (h : RelW n w v) : RelW n (contrL w) (contrL v) := by
 have o := RelW.bk hv.contr
 rw [contrL_contr] at o
 have x1 := o.lf hw.contr
 have x2 := (h.lf hw.contr).rt hv.contr
 have x3 := (RelW.bk hw).rt hv.contr
 rw [List.append_nil] at x1
 rw [List.append_assoc, List.append_assoc] at x2
 rw [List.append_assoc] at x3
 exact x1.symm.trans (x2.symm.trans x3)
section
variable {n : Int}
noncomputable def gmul : Gp n → Gp n → Gp n := Quotient.lift₂ (s₁ := relS n) (s₂ := relS n) (fun a b => gmk (a.1 ++ b.1) (a.2.append b.2)) fun a b c d h g => Quotient.sound (s := relS n) (RelW.both h g c.2 b.2)
noncomputable def ginv : Gp n → Gp n := Quotient.lift (s := relS n) (fun a => gmk (contrL a.1) a.2.contr) fun a b h => Quotient.sound (s := relS n) (RelW.contr a.2 b.2 h)
noncomputable def gone : Gp n := gmk [] WordOK.nil
noncomputable instance gpMul : Mul (Gp n) := ⟨gmul⟩
theorem gmul_assoc (a b c : Gp n) : a * b * c = a * (b * c) := by
 refine Quotient.inductionOn₃ a b c fun a b c => ?_
 show gmk (a.1 ++ b.1 ++ c.1) _ = gmk (a.1 ++ (b.1 ++ c.1)) _
 congr 1
 rw [List.append_assoc]
theorem gone_mul (a : Gp n) : gone * a = a := Quotient.inductionOn a fun a => rfl
theorem gmul_one (a : Gp n) : a * gone = a := by
 refine Quotient.inductionOn a fun a => ?_
 show gmk (a.1 ++ []) _ = gmk a.1 a.2
 congr 1
 rw [List.append_nil]
theorem ginv_mul (a : Gp n) : ginv a * a = gone := Quotient.inductionOn a fun a => Quotient.sound (s := relS n) (RelW.bk a.2)
theorem ginv_ginv (a : Gp n) : ginv (ginv a) = a := by
 refine Quotient.inductionOn a fun a => ?_
 show gmk (contrL (contrL a.1)) _ = gmk a.1 a.2
 congr 1
 rw [contrL_contr]
theorem gmul_inv (a : Gp n) : a * ginv a = gone := by
 have := ginv_mul (ginv a)
 rwa [ginv_ginv] at this
theorem ginv_mul_cl (a b : Gp n) : ginv a * (a * b) = b := by rw [← gmul_assoc, ginv_mul, gone_mul]
theorem gmul_inv_cl (a b : Gp n) : a * (ginv a * b) = b := by rw [← gmul_assoc, gmul_inv, gone_mul]
theorem gcl {a b c : Gp n} (h : a * b = a * c) : b = c := by rw [← ginv_mul_cl a b, h, ginv_mul_cl]
theorem gcr {a b c : Gp n} (h : b * a = c * a) : b = c := by
 have := congrArg (· * ginv a) h
 simp only [gmul_assoc, gmul_inv, gmul_one] at this
 exact this
theorem ginv_gmul (a b : Gp n) : ginv (a * b) = ginv b * ginv a := by
 refine gcl (a := a * b) ?_
 rw [gmul_inv, gmul_assoc, gmul_inv_cl, gmul_inv]
open Classical in
/-- a letter; what is none: nothing -/
noncomputable def gl (n l : Int) : Gp n := if h : LetOK n l then gmk [l] (.one h) else gone
noncomputable def gw (n : Int) : List Int → Gp n
 | [] => gone
 | l :: w => gl n l * gw n w
theorem gl_ok {l : Int} (h : LetOK n l) : gl n l = gmk [l] (.one h) := dif_pos h
theorem gl_neg (l : Int) : gl n (-l) = ginv (gl n l) := by
 unfold gl
 by_cases h : LetOK n l
 · rw [dif_pos h, dif_pos h.neg]; rfl
 · rw [dif_neg h, dif_neg (fun z => h (by have := z.neg; rwa [Int.neg_neg] at this))]; rfl
theorem gw_app (a b : List Int) : gw n (a ++ b) = gw n a * gw n b := by
 induction a with
 | nil => exact (gone_mul _).symm
 | cons l a ih =>
   show gl n l * gw n (a ++ b) = gl n l * gw n a * gw n b
   rw [ih, gmul_assoc]
theorem gw_one (l : Int) : gw n [l] = gl n l := gmul_one _
theorem gw_contr (a : List Int) : gw n (contrL a) = ginv (gw n a) := by
 induction a with
 | nil => rfl
 | cons l a ih =>
   rw [contrL_cons, gw_app, ih, gw_one, gl_neg]
   exact (ginv_gmul _ _).symm
theorem gw_mk {a : List Int} (h : WordOK n a) : gw n a = gmk a h := by
 induction a with
 | nil => rfl
 | cons l a ih =>
   have hl : LetOK n l := h l List.mem_cons_self
   have ha : WordOK n a := fun x hx => h x (List.mem_cons_of_mem _ hx)
   show gl n l * gw n a = _
   rw [ih ha, gl_ok hl]; rfl
theorem gw_rel {a b : List Int} (ha : WordOK n a) (hb : WordOK n b) : gw n a = gw n b ↔ RelW n a b := by
 rw [gw_mk ha, gw_mk hb]
 exact ⟨fun h => Quotient.exact (s := relS n) h, fun h => Quotient.sound (s := relS n) h⟩
theorem gl_far {a b : Int} (ha : LetOK n a) (hb : LetOK n b) (h : a.natAbs + 1 < b.natAbs ∨ b.natAbs + 1 < a.natAbs) : gl n a * gl n b = gl n b * gl n a := by
 rw [gl_ok ha, gl_ok hb]
 exact Quotient.sound (s := relS n) (RelW.far ha hb h)
theorem gl_three {a b : Int} (ha : LetOK n a) (hb : LetOK n b) (h : a * b > 0) (hd : (a - b).natAbs = 1) : gl n a * (gl n b * gl n a) = gl n b * (gl n a * gl n b) := by
 rw [gl_ok ha, gl_ok hb]
 exact Quotient.sound (s := relS n) (RelW.three ha hb h hd)
theorem gcomm_inv {a b c : Gp n} (h : a * b = c * a) : a * ginv b = ginv c * a := by
 refine gcl (a := c) ?_
 rw [gmul_inv_cl, ← gmul_assoc, ← h, gmul_assoc, gmul_inv, gmul_one]
theorem gcomm_inv' {a b c : Gp n} (h : a * b = c * a) : ginv a * c = b * ginv a := by
 refine gcl (a := a) ?_
 rw [gmul_inv_cl, ← gmul_assoc, h, gmul_assoc, gmul_inv, gmul_one]
end
end L2
namespace L2
open PySem PySem.Spec PyProof.Rows LM
section
variable {n : Int}
noncomputable def gM (n : Int) : Nat → Gp n
 | 0 => gone
 | t + 1 => gM n t * gl n (n - ((t + 1 : Nat) : Int))
theorem gM_far {i : Int} (h0 : i ≠ 0) : ∀ {t : Nat}, (i.natAbs : Int) + t + 1 < n → gl n i * gM n t = gM n t * gl n i
 | 0, _ => by show gl n i * gone = gone * gl n i; rw [gmul_one, gone_mul]
 | t + 1, h => by
   show gl n i * (gM n t * gl n _) = gM n t * gl n _ * gl n i
   have f := gl_far (n := n) (a := i) (b := n - ((t + 1 : Nat) : Int)) ⟨by lia, by lia⟩ (.pos (by lia) (by lia)) (by lia)
   rw [← gmul_assoc, gM_far h0 (t := t) (by lia), gmul_assoc, f, gmul_assoc]
theorem gM_near {i : Int} : ∀ {t : Nat}, n - t < i → i < n → (t : Int) < n → gM n t * gl n i = gl n (i - 1) * gM n t
 | 0, h, h1, _ => by lia
 | 1, h, h1, _ => by lia
 | t + 2, h, h1, h2 => by
   have d : gM n (t + 2) = gM n (t + 1) * gl n (n - ((t + 1 + 1 : Nat) : Int)) := rfl
   by_cases c : i = n - ((t + 1 + 1 : Nat) : Int) + 1
   · have d1 : gM n (t + 1) = gM n t * gl n (n - ((t + 1 : Nat) : Int)) := rfl
     have e1 : n - ((t + 1 : Nat) : Int) = i := by lia
     have e2 : n - ((t + 1 + 1 : Nat) : Int) = i - 1 := by lia
     rw [d, d1, e1, e2]
     have th := gl_three (n := n) (a := i) (b := i - 1) (.pos (by lia) (by lia)) (.pos (by lia) (by lia)) (Int.mul_pos (by lia) (by lia)) (by lia)
     have f := gM_far (n := n) (i := i - 1) (by lia) (t := t) (by lia)
     rw [gmul_assoc, gmul_assoc, th, ← gmul_assoc, ← f, gmul_assoc, gmul_assoc]
   · have ih := gM_near (t := t + 1) (i := i) (by lia) h1 (by lia)
     have f := gl_far (n := n) (a := n - ((t + 1 + 1 : Nat) : Int)) (b := i) (.pos (by lia) (by lia)) (.pos (by lia) (by lia)) (by lia)
     rw [d, gmul_assoc, f, ← gmul_assoc, ih, gmul_assoc]
noncomputable def gA (n j : Int) : Gp n := gM n (n - 1 - j).toNat * (gl n j * gl n j) * ginv (gM n (n - 1 - j).toNat)
theorem gA_far {i j : Int} (h1 : 1 ≤ i) (h2 : i ≤ n - 2) (j1 : 1 ≤ j) (j2 : j ≤ n - 1) (h : i + 2 ≤ j ∨ j + 1 ≤ i) : gA n j * gl n i = gl n i * gA n j := by
 unfold gA
 have lj : LetOK n j := .pos (by lia) (by lia)
 rcases h with h | h
 · have f := gM_far (n := n) (i := i) (by lia) (t := (n - 1 - j).toNat) (by lia)
   have g := gl_far (n := n) (a := i) (b := j) (.pos (by lia) (by lia)) lj (by lia)
   have f' := gcomm_inv' f.symm
   generalize gM n (n - 1 - j).toNat = m at f f' ⊢
   have g2 : ∀ z, gl n j * (gl n i * z) = gl n i * (gl n j * z) := fun z => by rw [← gmul_assoc, ← g, gmul_assoc]
   calc m * (gl n j * gl n j) * ginv m * gl n i = m * (gl n j * (gl n j * (ginv m * gl n i))) := by simp only [gmul_assoc]
     _ = (m * gl n i) * (gl n j * (gl n j * ginv m)) := by rw [f', g2, g2, gmul_assoc]
     _ = gl n i * (m * (gl n j * gl n j) * ginv m) := by rw [← f]; simp only [gmul_assoc]
 · have f := gM_near (n := n) (i := i + 1) (t := (n - 1 - j).toNat) (by lia) (by lia) (by lia)
   rw [show i + 1 - 1 = i by lia] at f
   have g := gl_far (n := n) (a := i + 1) (b := j) (.pos (by lia) (by lia)) lj (by lia)
   have f' := gcomm_inv' f
   generalize gM n (n - 1 - j).toNat = m at f f' ⊢
   have g2 : ∀ z, gl n j * (gl n (i + 1) * z) = gl n (i + 1) * (gl n j * z) := fun z => by rw [← gmul_assoc, ← g, gmul_assoc]
   calc m * (gl n j * gl n j) * ginv m * gl n i = m * (gl n j * (gl n j * (ginv m * gl n i))) := by simp only [gmul_assoc]
     _ = (m * gl n (i + 1)) * (gl n j * (gl n j * ginv m)) := by rw [f', g2, g2, gmul_assoc]
     _ = gl n i * (m * (gl n j * gl n j) * ginv m) := by rw [f]; simp only [gmul_assoc]
theorem gM_succ {i : Int} (h1 : 1 ≤ i) (h2 : i ≤ n - 2) : gM n (n - 1 - i).toNat = gM n (n - 1 - (i + 1)).toNat * gl n (i + 1) := by
 have e : (n - 1 - i).toNat = (n - 1 - (i + 1)).toNat + 1 := by lia
 rw [e]
 show _ * gl n _ = _
 rw [show n - (((n - 1 - (i + 1)).toNat + 1 : Nat) : Int) = i + 1 by lia]
theorem gA_down {i : Int} (h1 : 1 ≤ i) (h2 : i ≤ n - 2) : gA n (i + 1) * gl n i = gl n i * gA n i := by
 unfold gA
 have la : LetOK n i := .pos (by lia) (by lia)
 have lb : LetOK n (i + 1) := .pos (by lia) (by lia)
 rw [gM_succ h1 h2, ginv_gmul]
 have f := gM_far (n := n) (i := i) (by lia) (t := (n - 1 - (i + 1)).toNat) (by lia)
 have f' := gcomm_inv' f.symm
 have th := gl_three la lb (Int.mul_pos (by lia) (by lia)) (by lia)
 generalize gM n (n - 1 - (i + 1)).toNat = m at f f' ⊢
 generalize gl n i = a at f f' th ⊢
 generalize gl n (i + 1) = b at th ⊢
 have k : b * (b * a) = a * (b * (a * (a * ginv b))) := by
   refine gcr (a := b) ?_
   have t1 : b * (a * b) = a * (b * a) := th.symm
   calc b * (b * a) * b = b * (b * (a * b)) := by simp only [gmul_assoc]
     _ = b * (a * (b * a)) := by rw [t1]
     _ = (b * (a * b)) * a := by simp only [gmul_assoc]
     _ = a * (b * (a * a)) := by rw [t1]; simp only [gmul_assoc]
     _ = a * (b * (a * (a * ginv b))) * b := by simp only [gmul_assoc, ginv_mul, gmul_one]
 calc m * (b * b) * ginv m * a = m * (b * (b * (ginv m * a))) := by simp only [gmul_assoc]
   _ = m * ((b * (b * a)) * ginv m) := by rw [f']; simp only [gmul_assoc]
   _ = (m * a) * (b * (a * (a * (ginv b * ginv m)))) := by rw [k]; simp only [gmul_assoc]
   _ = a * (m * b * (a * a) * (ginv b * ginv m)) := by rw [← f]; simp only [gmul_assoc]
theorem gA_both {i : Int} (h1 : 1 ≤ i) (h2 : i ≤ n - 2) : gA n i * gA n (i + 1) * gl n i = gl n i * (gA n i * gA n (i + 1)) := by
 unfold gA
 have la : LetOK n i := .pos (by lia) (by lia)
 have lb : LetOK n (i + 1) := .pos (by lia) (by lia)
 rw [gM_succ h1 h2, ginv_gmul]
 have f := gM_far (n := n) (i := i) (by lia) (t := (n - 1 - (i + 1)).toNat) (by lia)
 have f' := gcomm_inv' f.symm
 have th := gl_three la lb (Int.mul_pos (by lia) (by lia)) (by lia)
 generalize gM n (n - 1 - (i + 1)).toNat = m at f f' ⊢
 generalize gl n i = a at f f' th ⊢
 generalize gl n (i + 1) = b at th ⊢
 have k : b * (a * (a * (b * a))) = a * (b * (a * (a * b))) := by
   have t1 : b * (a * b) = a * (b * a) := th.symm
   calc b * (a * (a * (b * a))) = b * (a * (b * (a * b))) := by rw [th]
     _ = (b * (a * b)) * (a * b) := by simp only [gmul_assoc]
     _ = a * (b * (a * (a * b))) := by rw [t1]; simp only [gmul_assoc]
 have e : m * b * (a * a) * (ginv b * ginv m) * (m * (b * b) * ginv m) = m * (b * (a * (a * (b * ginv m)))) := by
   simp only [gmul_assoc, ginv_mul_cl]
 rw [e]
 calc m * (b * (a * (a * (b * ginv m)))) * a = m * (b * (a * (a * (b * (ginv m * a))))) := by simp only [gmul_assoc]
   _ = m * ((b * (a * (a * (b * a)))) * ginv m) := by rw [f']; simp only [gmul_assoc]
   _ = (m * a) * (b * (a * (a * (b * ginv m)))) := by rw [k]; simp only [gmul_assoc]
   _ = a * (m * (b * (a * (a * (b * ginv m))))) := by rw [← f]; simp only [gmul_assoc]
theorem gA_at {i : Int} (h1 : 1 ≤ i) (h2 : i ≤ n - 2) : gA n i * gl n i = gl n i * (gA n i * (gA n (i + 1) * ginv (gA n i))) := by
 have hb := gA_down h1 h2
 have hc := gA_both h1 h2
 generalize gA n i = X at hb hc ⊢
 generalize gA n (i + 1) = Y at hb hc ⊢
 generalize gl n i = a at hb hc ⊢
 refine gcr (a := X) ?_
 calc X * a * X = X * (a * X) := gmul_assoc ..
   _ = X * Y * a := by rw [← hb]; simp only [gmul_assoc]
   _ = a * (X * Y) := hc
   _ = a * (X * (Y * ginv X)) * X := by simp only [gmul_assoc, ginv_mul, gmul_one]
theorem gA_up {i : Int} (h1 : 1 ≤ i) (h2 : i ≤ n - 2) : gA n i * gl n (-i) = gl n (-i) * gA n (i + 1) := by
 rw [gl_neg]
 exact (gcomm_inv' (gA_down h1 h2).symm).symm
theorem gA_back {i : Int} (h1 : 1 ≤ i) (h2 : i ≤ n - 2) : gA n (i + 1) * gl n (-i) = gl n (-i) * (ginv (gA n (i + 1)) * (gA n i * gA n (i + 1))) := by
 rw [gl_neg]
 have hb := gA_down h1 h2
 have hc := gA_both h1 h2
 generalize gA n i = X at hb hc ⊢
 generalize gA n (i + 1) = Y at hb hc ⊢
 generalize gl n i = a at hb hc ⊢
 refine gcl (a := a) (gcr (a := a) ?_)
 rw [gmul_inv_cl]
 simp only [gmul_assoc, ginv_mul, gmul_one]
 refine gcl (a := Y) ?_
 rw [gmul_inv_cl]
 calc Y * (a * Y) = (Y * a) * Y := (gmul_assoc ..).symm
   _ = a * (X * Y) := by rw [hb, gmul_assoc]
   _ = X * Y * a := hc.symm
   _ = X * (Y * a) := gmul_assoc ..
noncomputable def gx (n x : Int) : Gp n := if x < 0 then ginv (gA n (-x)) else gA n x
noncomputable def gvV (n : Int) : List Int → Gp n
 | [] => gone
 | x :: u => gx n x * gvV n u
theorem gV_app (a b : List Int) : gvV n (a ++ b) = gvV n a * gvV n b := by
 induction a with
 | nil => exact (gone_mul _).symm
 | cons x a ih =>
   show gx n x * gvV n (a ++ b) = gx n x * gvV n a * gvV n b
   rw [ih, gmul_assoc]
theorem gx_neg {x : Int} (h : x ≠ 0) : gx n (-x) = ginv (gx n x) := by
 unfold gx
 by_cases c : x < 0
 · rw [if_pos c, if_neg (by lia), ginv_ginv]
 · rw [if_neg c, if_pos (by lia), Int.neg_neg]
theorem gV_one (x : Int) : gvV n [x] = gx n x := gmul_one _
theorem gV_contr {u : List Int} (h : ∀ x ∈ u, x ≠ 0) : gvV n (contrL u) = ginv (gvV n u) := by
 induction u with
 | nil => rfl
 | cons x u ih =>
   rw [contrL_cons, gV_app, ih (fun y hy => h y (List.mem_cons_of_mem _ hy)), gV_one, gx_neg (h x List.mem_cons_self)]
   exact (ginv_gmul _ _).symm
theorem gx_pos {x : Int} (h : 0 ≤ x) : gx n x = gA n x := if_neg (by lia)
theorem gx_letter {l : Int} (hl : LetOK (n - 1) l) {x : Int} (h1 : 1 ≤ x) (h2 : x ≤ n - 1) : gA n x * gl n l = gl n l * gvV n (mkL l x) := by
 unfold LetOK at hl
 by_cases c : 0 < l
 · by_cases c1 : x = l
   · subst c1
     rw [mkp_at c]
     have e : gvV n [x, x + 1, -x] = gA n x * (gA n (x + 1) * ginv (gA n x)) := by
       show gx n x * (gx n (x + 1) * (gx n (-x) * gone)) = _
       rw [gmul_one, gx_neg (by lia), gx_pos (by lia), gx_pos (by lia)]
     rw [e]
     exact gA_at (by lia) (by lia)
   · by_cases c2 : x = l + 1
     · subst c2
       rw [mkp_at1 c, gV_one, gx_pos (by lia)]
       exact gA_down (by lia) (by lia)
     · rw [mkp_else c (by lia) c1 c2, gV_one, gx_pos (by lia)]
       exact gA_far (by lia) (by lia) h1 h2 (by lia)
 · obtain ⟨i, rfl⟩ : ∃ i, l = -i := ⟨-l, by lia⟩
   by_cases c1 : x = i
   · subst c1
     rw [mkn_at (by lia), gV_one, gx_pos (by lia)]
     exact gA_up (by lia) (by lia)
   · by_cases c2 : x = i + 1
     · subst c2
       rw [mkn_at1 (by lia)]
       have e : gvV n [-(i + 1), i, i + 1] = ginv (gA n (i + 1)) * (gA n i * gA n (i + 1)) := by
         show gx n (-(i + 1)) * (gx n i * (gx n (i + 1) * gone)) = _
         rw [gmul_one, gx_neg (by lia), gx_pos (by lia), gx_pos (by lia)]
       rw [e]
       exact gA_back (by lia) (by lia)
     · rw [mkn_else (by lia) (by lia) c1 c2, gV_one, gx_pos (by lia), gl_neg]
       exact gcomm_inv (gA_far (by lia) (by lia) h1 h2 (by lia))
theorem mkL_nz {l x : Int} (hl : l ≠ 0) (hx : x ≠ 0) : ∀ y ∈ mkL l x, y ≠ 0 := fun y hy => by
 rcases mkL_abs' hl y hy with e | ⟨_, e⟩
 · exact fun z => hx (by rw [z] at e; exact Int.natAbs_eq_zero.mp e.symm)
 · exact fun z => by rw [z] at e; lia
theorem gV_letter {l : Int} (hl : LetOK (n - 1) l) : ∀ {u : List Int}, InN (n - 1) u → gvV n u * gl n l = gl n l * gvV n (u.flatMap (mkL l))
 | [], _ => by show gone * _ = _ * gone; rw [gmul_one, gone_mul]
 | x :: u, h => by
   have hx := h x List.mem_cons_self
   have hu : InN (n - 1) u := fun y hy => h y (List.mem_cons_of_mem _ hy)
   have hl0 : l ≠ 0 := hl.ne
   have key : gx n x * gl n l = gl n l * gvV n (mkL l x) := by
     by_cases c : x < 0
     · have a := gx_letter hl (x := -x) (by lia) (by lia)
       have e : mkL l x = contrL (mkL l (-x)) := by
         have := (mkL_hom hl0).neg (-x)
         rwa [Int.neg_neg] at this
       have e2 : gx n x = ginv (gA n (-x)) := if_pos c
       rw [e, gV_contr (mkL_nz hl0 (by lia)), e2]
       refine gcr (a := gvV n (mkL l (-x))) ?_
       rw [gmul_assoc, ← a, ginv_mul_cl, gmul_assoc, ginv_mul, gmul_one]
     · rw [gx_pos (by lia)]
       exact gx_letter hl (by lia) (by lia)
   show gx n x * gvV n u * gl n l = _
   rw [List.flatMap_cons, gV_app, gmul_assoc, gV_letter hl hu, ← gmul_assoc, key, gmul_assoc]
structure Comb (n : Int) (w : List Int) (b u : List Int) (t : Nat) : Prop where
 ob : WordOK (n - 1) b
 ou : InN (n - 1) u
 ot : (t : Int) ≤ n - 1
 eq : gw n w = gw n b * (gvV n u * gM n t)
theorem comb_letter {w b u : List Int} {t : Nat} (c : Comb n w b u t) {l l' : Int} (hl' : LetOK (n - 1) l') (h : gM n t * gl n l = gl n l' * gM n t) : Comb n (w ++ [l]) (b ++ [l']) (u.flatMap (mkL l')) t := by
 refine ⟨c.ob.append (.one hl'), flat_in hl' c.ou, c.ot, ?_⟩
 rw [gw_app, gw_app, gw_one, gw_one, c.eq]
 calc gw n b * (gvV n u * gM n t) * gl n l = gw n b * (gvV n u * (gM n t * gl n l)) := by simp only [gmul_assoc]
   _ = gw n b * ((gvV n u * gl n l') * gM n t) := by rw [h]; simp only [gmul_assoc]
   _ = _ := by rw [gV_letter hl' c.ou]; simp only [gmul_assoc]
theorem comb_next (h1 : 1 ≤ n) {w b u : List Int} {t : Nat} (c : Comb n w b u t) {l : Int} (hl : LetOK n l) : ∃ b' u' t', Comb n (w ++ [l]) b' u' t' := by
 have hl' := hl
 unfold LetOK at hl'
 have ht := c.ot
 rcases (show (l.natAbs : Int) + t + 1 < n ∨ (l.natAbs : Int) + t + 1 = n ∨ (l.natAbs : Int) + t = n ∨ n < (l.natAbs : Int) + t by lia) with q | q | q | q
 · exact ⟨_, _, _, comb_letter c (l' := l) ⟨by lia, by lia⟩ (gM_far (by lia) q).symm⟩
 · by_cases p : 0 < l
   · refine ⟨b, u, t + 1, c.ob, c.ou, by lia, ?_⟩
     rw [gw_app, gw_one, c.eq]
     show _ = _ * (_ * (gM n t * gl n _))
     rw [show n - ((t + 1 : Nat) : Int) = l by lia]
     simp only [gmul_assoc]
   · refine ⟨b, u ++ [l], t + 1, c.ob, c.ou.app fun x hx => ?_, by lia, ?_⟩
     · rw [List.mem_singleton.mp hx]; lia
     · rw [gw_app, gw_one, c.eq, gV_app, gV_one]
       have e1 : gx n l = ginv (gA n (-l)) := if_pos (by lia)
       have e2 : gM n (t + 1) = gM n t * gl n (-l) := by show _ * gl n _ = _; rw [show n - ((t + 1 : Nat) : Int) = -l by lia]
       have e3 : gA n (-l) = gM n t * (gl n (-l) * gl n (-l)) * ginv (gM n t) := by unfold gA; rw [show (n - 1 - -l).toNat = t by lia]
       rw [e1, e2, e3, ginv_gmul, ginv_ginv, ginv_gmul, ginv_gmul, show gl n l = ginv (gl n (-l)) by rw [gl_neg, ginv_ginv]]
       simp only [gmul_assoc, ginv_mul_cl, ginv_mul, gmul_one]
 · obtain ⟨t', rfl⟩ : ∃ t', t = t' + 1 := ⟨t - 1, by lia⟩
   have e2 : gM n (t' + 1) = gM n t' * gl n (l.natAbs : Int) := by show _ * gl n _ = _; rw [show n - ((t' + 1 : Nat) : Int) = (l.natAbs : Int) by lia]
   by_cases p : 0 < l
   · refine ⟨b, u ++ [l], t', c.ob, c.ou.app fun x hx => ?_, by lia, ?_⟩
     · rw [List.mem_singleton.mp hx]; lia
     · rw [gw_app, gw_one, c.eq, gV_app, gV_one, e2, show (l.natAbs : Int) = l by lia, gx_pos (by lia)]
       have e3 : gA n l = gM n t' * (gl n l * gl n l) * ginv (gM n t') := by unfold gA; rw [show (n - 1 - l).toNat = t' by lia]
       rw [e3]
       simp only [gmul_assoc, ginv_mul, gmul_one]
   · refine ⟨b, u, t', c.ob, c.ou, by lia, ?_⟩
     rw [gw_app, gw_one, c.eq, e2, show gl n l = ginv (gl n (l.natAbs : Int)) by rw [← gl_neg]; congr 1; lia]
     simp only [gmul_assoc, gmul_inv, gmul_one]
 · by_cases p : 0 < l
   · have f := gM_near (n := n) (i := l) (t := t) (by lia) (by lia) (by lia)
     exact ⟨_, _, _, comb_letter c (l' := l - 1) ⟨by lia, by lia⟩ f⟩
   · have f := gM_near (n := n) (i := -l) (t := t) (by lia) (by lia) (by lia)
     have f2 := gcomm_inv f
     rw [← gl_neg, ← gl_neg, Int.neg_neg] at f2
     exact ⟨_, _, _, comb_letter c (l' := -(-l - 1)) ⟨by lia, by lia⟩ f2⟩
theorem comb_some (h1 : 1 ≤ n) {w : List Int} (hw : WordOK n w) : ∃ b u t, Comb n w b u t := by
 have key : ∀ k : Nat, k ≤ w.length → ∃ b u t, Comb n (w.take k) b u t := by
   intro k
   induction k with
   | zero => exact fun _ => ⟨[], [], 0, .nil, (fun x hx => by cases hx), by show (0 : Int) ≤ _; lia, by show gone = gone * (gone * gone); rw [gone_mul, gone_mul]⟩
   | succ k ih =>
     intro hk
     obtain ⟨b, u, t, c⟩ := ih (by lia)
     have e : w.take (k + 1) = w.take k ++ [w[k]] := by rw [List.take_add_one, List.getElem?_eq_getElem (by lia)]; rfl
     rw [e]
     exact comb_next h1 c (hw _ (List.getElem_mem (by lia)))
 have := key w.length (Nat.le_refl _)
 rwa [List.take_length] at this
end
end L2
namespace L2
open PySem PySem.Spec PyProof.Rows LM
noncomputable def gD (n x : Int) : List Int := if (x.natAbs : Int) = n then [] else [x]
theorem gD_hom (n : Int) : Hom (gD n) := ⟨fun j => by
 unfold gD
 by_cases c : (j.natAbs : Int) = n
 · rw [if_pos (by lia), if_pos c]; rfl
 · rw [if_neg (by lia), if_neg c]; rfl⟩
noncomputable def PD (n : Int) (w : List Int) : Prop := ∀ x, Eqv ((subW w [x]).flatMap (gD n)) (gD n x)
theorem PD.all {n : Int} {w : List Int} (hw : NZ w) (h : PD n w) (u : List Int) : Eqv ((subW w u).flatMap (gD n)) (u.flatMap (gD n)) := by
 rw [subW_flat, List.flatMap_assoc]
 exact Hom.of_eqv h u
theorem PD.app {n : Int} {w v : List Int} (hv : NZ v) (h : PD n w) (g : PD n v) : PD n (w ++ v) := fun x => by
 rw [subW_app]
 exact (g.all hv _).trans (h x)
theorem PD.same {n : Int} {w v : List Int} (s : SameW w v) (h : PD n v) : PD n w := fun x => ((s [x]).flat (gD_hom n)).trans (h x)
theorem PD.contr {n : Int} {w : List Int} (hw : NZ w) (h : PD n w) : PD n (contrL w) := fun x => by
 have a := h.all hw (subW (contrL w) [x])
 rw [← subW_app] at a
 exact a.symm.trans ((same_back hw [x]).flat (gD_hom n) |>.trans (by
   show Eqv ([x].flatMap (gD n)) _
   rw [List.flatMap_cons, List.flatMap_nil, List.append_nil]; exact Eqv.refl))
theorem gD_letter {n l : Int} (hl : LetOK (n - 1) l) (x : Int) : (mkL l x).flatMap (gD n) = (gD n x).flatMap (mkL l) := by
 unfold LetOK at hl
 by_cases c : (x.natAbs : Int) = n
 · have e : gD n x = [] := if_pos c
   rw [mkL_fix l (by lia) (by lia), List.flatMap_cons, List.flatMap_nil, e]; rfl
 · have e : gD n x = [x] := if_neg c
   rw [e, List.flatMap_cons, List.flatMap_nil, List.append_nil]
   have key : ∀ y ∈ mkL l x, gD n y = [y] := fun y hy => by
     refine if_neg ?_
     by_cases d : x.natAbs = l.natAbs ∨ x.natAbs = l.natAbs + 1
     · have := mkL_abs (by lia) d y hy
       lia
     · rw [mkL_fix l (by lia) (by lia)] at hy
       rw [List.mem_singleton.mp hy]; exact c
   generalize mkL l x = u at key
   induction u with
   | nil => rfl
   | cons y u ih =>
     rw [List.flatMap_cons, key y List.mem_cons_self, ih fun z hz => key z (List.mem_cons_of_mem _ hz)]; rfl
theorem gD_flat {n l : Int} (hl : LetOK (n - 1) l) (u : List Int) : (u.flatMap (mkL l)).flatMap (gD n) = (u.flatMap (gD n)).flatMap (mkL l) := by
 rw [List.flatMap_assoc, List.flatMap_assoc]
 congr 1
 funext x
 exact gD_letter hl x
noncomputable def mI (n : Int) : Nat → List Int
 | 0 => []
 | t + 1 => mI n t ++ [n - ((t + 1 : Nat) : Int)]
theorem mI_ok {n : Int} : ∀ {t : Nat}, (t : Int) < n → WordOK n (mI n t)
 | 0, _ => WordOK.nil
 | t + 1, h => (mI_ok (t := t) (by lia)).append (.one ⟨by lia, by lia⟩)
theorem mI_gw {n : Int} : ∀ t : Nat, gw n (mI n t) = gM n t
 | 0 => rfl
 | t + 1 => by
   show gw n (mI n t ++ [_]) = _
   rw [gw_app, gw_one, mI_gw t]; rfl
noncomputable def wA (n j : Int) : List Int := mI n (n - 1 - j).toNat ++ [j, j] ++ contrL (mI n (n - 1 - j).toNat)
theorem wA_ok {n j : Int} (h1 : 1 ≤ j) (h2 : j ≤ n - 1) : WordOK n (wA n j) := by
 have := mI_ok (n := n) (t := (n - 1 - j).toNat) (by lia)
 exact (this.append (.two ⟨by lia, by lia⟩ ⟨by lia, by lia⟩)).append this.contr
theorem wA_gw (n j : Int) : gw n (wA n j) = gA n j := by
 unfold wA gA
 rw [gw_app, gw_app, gw_contr, mI_gw]
 show _ * (gl n j * (gl n j * gone)) * _ = _
 rw [gmul_one]
theorem gw_same {n : Int} {w v : List Int} (hw : WordOK n w) (hv : WordOK n v) (h : gw n w = gw n v) : SameW w v := ((gw_rel hw hv).mp h).same
theorem pd_last {a : Int} (ha : 0 < a) : PD (a + 1) [a, a] ∧ Eqv (subW [a, a] [a + 1]) [a, a + 1, -a] := by
 have p1 := mkp_at ha
 have p2 := mkp_at1 ha
 have p3 := mkp_at' ha
 have hg : NZ [a, a] := fun l hl => by
   have : l = a := by simpa using hl
   lia
 have e2 : subW [a, a] [a + 1] = [a, a + 1, -a] := by
   show ([a + 1].flatMap (mkL a)).flatMap (mkL a) = _
   rw [List.flatMap_cons, List.flatMap_nil, List.append_nil, p2, List.flatMap_cons, List.flatMap_nil, List.append_nil, p1]
 refine ⟨hom_pos ((subW_hom hg).comp (gD_hom _)) (gD_hom _) fun x hx => ?_, Eqv.of e2⟩
 by_cases c1 : x = a
 · subst c1
   have e : subW [x, x] [x] = [x, x + 1, -x] ++ ([x] ++ [x, -(x + 1), -x]) := by
     show ([x].flatMap (mkL x)).flatMap (mkL x) = _
     rw [List.flatMap_cons, List.flatMap_nil, List.append_nil, p1, List.flatMap_cons, List.flatMap_cons, List.flatMap_cons, List.flatMap_nil, p1, p2, p3]; rfl
   have g1 : gD (x + 1) x = [x] := if_neg (by lia)
   have g2 : gD (x + 1) (x + 1) = [] := if_pos (by lia)
   have g3 : gD (x + 1) (-x) = [-x] := if_neg (by lia)
   have g4 : gD (x + 1) (-(x + 1)) = [] := if_pos (by lia)
   rw [e, g1]
   simp only [List.flatMap_append, List.flatMap_cons, List.flatMap_nil, g1, g2, g3, g4, List.append_nil, List.nil_append]
   have o : Eqv ([x] ++ contrL [x]) [] := eqv_contr [x]
   have o1 : Eqv (([x] ++ contrL [x]) ++ ([x] ++ ([x] ++ contrL [x]))) ([] ++ ([x] ++ [])) := o.app (Eqv.refl.app o)
   exact o1
 · by_cases c2 : x = a + 1
   · subst c2
     have g1 : gD (a + 1) a = [a] := if_neg (by lia)
     have g2 : gD (a + 1) (a + 1) = [] := if_pos (by lia)
     have g3 : gD (a + 1) (-a) = [-a] := if_neg (by lia)
     rw [e2, g2]
     simp only [List.flatMap_cons, List.flatMap_nil, g1, g2, g3, List.append_nil, List.nil_append]
     exact eqv_contr [a]
   · have e : subW [a, a] [x] = [x] := by
       show ([x].flatMap (mkL a)).flatMap (mkL a) = _
       rw [List.flatMap_cons, List.flatMap_nil, List.append_nil, mkp_else ha hx c1 c2, List.flatMap_cons, List.flatMap_nil, List.append_nil, mkp_else ha hx c1 c2]
     rw [e, List.flatMap_cons, List.flatMap_nil, List.append_nil]
     exact Eqv.refl
theorem pd_wA {n : Int} : ∀ (d : Nat) {j : Int}, 1 ≤ j → j + d = n - 1 → PD n (wA n j) ∧ Eqv (subW (wA n j) [n]) [j, n, -j]
 | 0, j, h1, h2 => by
   have e : wA n j = [j, j] := by unfold wA; rw [show (n - 1 - j).toNat = 0 by lia]; rfl
   have := pd_last (a := j) (by lia)
   rw [show j + 1 = n by lia] at this
   rw [e]
   exact this
 | d + 1, j, h1, h2 => by
   obtain ⟨p, q⟩ := pd_wA (n := n) d (j := j + 1) (by lia) (by lia)
   have hl : LetOK (n - 1) j := ⟨by lia, by lia⟩
   have hj : LetOK n j := ⟨by lia, by lia⟩
   have hA := wA_ok (n := n) (j := j + 1) (by lia) (by lia)
   have hC : WordOK n ([-j] ++ wA n (j + 1) ++ [j]) := ((WordOK.one hj.neg).append hA).append (.one hj)
   have s : SameW (wA n j) ([-j] ++ wA n (j + 1) ++ [j]) := gw_same (wA_ok h1 (by lia)) hC (by
     rw [gw_app, gw_app, gw_one, gw_one, wA_gw, wA_gw, gl_neg, gmul_assoc, gA_down (n := n) h1 (by lia), ginv_mul_cl])
   have e : ∀ u, subW ([-j] ++ wA n (j + 1) ++ [j]) u = (subW (wA n (j + 1)) (u.flatMap (mkL (-j)))).flatMap (mkL j) := fun u => by rw [subW_app, subW_app]; rfl
   refine ⟨PD.same s fun x => ?_, (s [n]).trans ?_⟩
   · rw [e, gD_flat hl]
     have a := (p.all hA.nz ([x].flatMap (mkL (-j)))).flat (mkL_hom (l := j) (by lia))
     rw [gD_flat hl.neg] at a
     refine a.trans ?_
     have b := same_pair' (l := j) (by lia) ([x].flatMap (gD n))
     rw [subW_cons, subW_cons] at b
     have c : [x].flatMap (gD n) = gD n x := by rw [List.flatMap_cons, List.flatMap_nil, List.append_nil]
     rw [c] at b ⊢
     exact b
   · rw [e]
     have f : [n].flatMap (mkL (-j)) = [n] := by rw [List.flatMap_cons, List.flatMap_nil, List.append_nil, mkL_fix (-j) (by lia) (by lia)]
     rw [f]
     refine (q.flat (mkL_hom (l := j) (by lia))).trans (Eqv.of ?_)
     rw [List.flatMap_cons, List.flatMap_cons, List.flatMap_cons, List.flatMap_nil, mkp_at1 (i := j) (by lia), mkp_at1' (i := j) (by lia), mkL_fix j (x := n) (by lia) (by lia)]; rfl
noncomputable def wX (n x : Int) : List Int := if x < 0 then contrL (wA n (-x)) else wA n x
theorem wX_ok {n x : Int} (h : 1 ≤ (x.natAbs : Int) ∧ (x.natAbs : Int) ≤ n - 1) : WordOK n (wX n x) := by
 unfold wX
 split
 · exact (wA_ok (by lia) (by lia)).contr
 · exact wA_ok (by lia) (by lia)
theorem wX_gw (n x : Int) : gw n (wX n x) = gx n x := by
 unfold wX gx
 split
 · rw [gw_contr, wA_gw]
 · exact wA_gw n x
theorem pd_wX {n x : Int} (h : 1 ≤ (x.natAbs : Int) ∧ (x.natAbs : Int) ≤ n - 1) : PD n (wX n x) ∧ ∃ k, Eqv (subW (wX n x) [n]) (k ++ [n] ++ contrL k) ∧ Eqv (k.flatMap (gD n)) [x] := by
 unfold wX
 by_cases c : x < 0
 · rw [if_pos c]
   obtain ⟨j, rfl⟩ : ∃ j, x = -j := ⟨-x, by lia⟩
   rw [Int.neg_neg]
   have hA := (wA_ok (n := n) (j := j) (by lia) (by lia))
   obtain ⟨p, q⟩ := pd_wA (n := n) (n - 1 - j).toNat (j := j) (by lia) (by lia)
   refine ⟨p.contr hA.nz, contrL (subW (contrL (wA n j)) [j]), ?_, ?_⟩
   · have a := q.sub hA.contr.nz
     rw [← subW_app] at a
     have b := (same_back' hA.nz [n]).symm.trans a
     rw [show [j, n, -j] = [j] ++ [n] ++ contrL [j] from rfl, subW_join, subW_join, subW_contr hA.contr.nz] at b
     generalize subW (contrL (wA n j)) [j] = k at b
     generalize subW (contrL (wA n j)) [n] = y at b ⊢
     rw [contrL_contr]
     have d : Eqv (contrL k ++ (k ++ y ++ contrL k) ++ k) (contrL k ++ [n] ++ k) := (Eqv.refl.app b.symm).app Eqv.refl
     refine Eqv.trans ?_ d
     have e1 : contrL k ++ (k ++ y ++ contrL k) ++ k = (contrL k ++ k) ++ y ++ (contrL k ++ k) := by simp only [List.append_assoc]
     rw [e1]
     have := ((eqv_contr' k).app (Eqv.refl (u := y))).app (eqv_contr' k)
     rw [List.nil_append, List.append_nil] at this
     exact this.symm
   · have a := p.contr hA.nz j
     have e1 : gD n j = [j] := if_neg (by lia)
     rw [e1] at a
     rw [contrL_flat _ (gD_hom n)]
     exact a.contr
 · rw [if_neg c]
   obtain ⟨p, q⟩ := pd_wA (n := n) (n - 1 - x).toNat (j := x) (by lia) (by lia)
   refine ⟨p, [x], q, ?_⟩
   have e1 : gD n x = [x] := if_neg (by lia)
   rw [List.flatMap_cons, List.flatMap_nil, e1]
   exact Eqv.refl
noncomputable def wV (n : Int) (u : List Int) : List Int := u.flatMap (wX n)
theorem wV_ok {n : Int} {u : List Int} (h : InN (n - 1) u) : WordOK n (wV n u) := fun l hl => by
 obtain ⟨x, hx, hl⟩ := List.mem_flatMap.mp hl
 exact wX_ok (h x hx) l hl
theorem wV_gw (n : Int) (u : List Int) : gw n (wV n u) = gvV n u := by
 induction u with
 | nil => rfl
 | cons x u ih =>
   show gw n (wX n x ++ wV n u) = gx n x * gvV n u
   rw [gw_app, wX_gw, ih]
theorem pd_wV {n : Int} : ∀ {u : List Int}, InN (n - 1) u → PD n (wV n u) ∧ ∃ g, Eqv (subW (wV n u) [n]) (g ++ [n] ++ contrL g) ∧ Eqv (g.flatMap (gD n)) u
 | [], _ => ⟨fun x => by
     show Eqv ([x].flatMap (gD n)) _
     rw [List.flatMap_cons, List.flatMap_nil, List.append_nil]; exact Eqv.refl, [], Eqv.refl, Eqv.refl⟩
 | x :: u, h => by
   have hu : InN (n - 1) u := fun y hy => h y (List.mem_cons_of_mem _ hy)
   obtain ⟨p, g, q1, q2⟩ := pd_wV hu
   obtain ⟨p', k, k1, k2⟩ := pd_wX (h x List.mem_cons_self)
   have nz := (wV_ok hu).nz
   have e : wV n (x :: u) = wX n x ++ wV n u := rfl
   rw [e]
   refine ⟨p'.app nz p, subW (wV n u) k ++ g, ?_, ?_⟩
   · rw [subW_app]
     refine (k1.sub nz).trans ?_
     rw [subW_join, subW_join, subW_contr nz]
     generalize subW (wV n u) k = S
     refine ((Eqv.refl.app q1).app Eqv.refl).trans (Eqv.of ?_)
     rw [contrL_append]
     simp only [List.append_assoc]
   · rw [List.flatMap_append]
     have a := (p.all nz k).trans k2
     exact a.app q2
theorem sum_step (st : List Int) (l : Int) : (stepL st l).sum = st.sum + l := by
 cases st with
 | nil => show l + 0 = 0 + l; lia
 | cons x t =>
   show (if x = -l then t else l :: x :: t).sum = _
   split
   · rename_i c
     rw [List.sum_cons, c]; lia
   · rw [List.sum_cons, List.sum_cons]; lia
theorem sum_redS (w : List Int) : ∀ st : List Int, (redS st w).sum = st.sum + w.sum := by
 induction w with
 | nil => intro st; show st.sum = st.sum + 0; lia
 | cons l w ih =>
   intro st
   show (redS (stepL st l) w).sum = _
   rw [ih, sum_step, List.sum_cons]; lia
theorem sum_rev (l : List Int) : l.reverse.sum = l.sum := by
 induction l with
 | nil => rfl
 | cons x l ih => rw [List.reverse_cons, List.sum_append, ih, List.sum_cons, List.sum_cons, List.sum_nil]; lia
theorem Eqv.sum {u v : List Int} (h : Eqv u v) : u.sum = v.sum := by
 have e : ∀ w : List Int, (redL w).sum = w.sum := fun w => by
   unfold redL
   rw [sum_rev, sum_redS]
   show 0 + _ = _; lia
 have := congrArg List.sum h
 rwa [e, e] at this
theorem sum_contr (l : List Int) : (contrL l).sum = -l.sum := by
 induction l with
 | nil => rfl
 | cons x l ih => rw [contrL_cons, List.sum_append, ih, List.sum_cons, List.sum_cons, List.sum_nil]; lia
theorem red_glue {x : Int} {v : List Int} : ∀ {u : List Int}, Red (u ++ [x]) → Red (x :: v) → Red (u ++ x :: v)
 | [], _, h => h
 | [a], h, g => ⟨h.1, g⟩
 | a :: b :: u, h, g => ⟨h.1, red_glue (u := b :: u) h.2 g⟩
theorem red_contr {u : List Int} (h : Red u) : Red (contrL u) := by
 unfold contrL
 have k : ∀ {s : List Int}, Red s → Red (s.map fun l => -l) := by
   intro s
   induction s with
   | nil => intro _; trivial
   | cons a s ih =>
     intro h
     cases s with
     | nil => trivial
     | cons b s =>
       refine ⟨?_, ih h.2⟩
       have := h.1
       show -a ≠ - -b
       lia
 exact k h.reverse
theorem red_conj {n : Int} (hn : 0 < n) : ∀ (k : Nat) {r : List Int}, r.length ≤ k → Red r → Eqv (r ++ [n] ++ contrL r) [n] → r.flatMap (gD n) = []
 | k, [], _, _, _ => rfl
 | 0, _ :: _, h, _, _ => by rw [List.length_cons] at h; lia
 | k + 1, a :: r0, hk, hr, he => by
   obtain ⟨r, x, e⟩ : ∃ r x, a :: r0 = r ++ [x] := ⟨(a :: r0).dropLast, (a :: r0).getLast (by simp), (List.dropLast_concat_getLast (by simp)).symm⟩
   have hl : r.length ≤ k := by
     have := congrArg List.length e
     rw [List.length_append, List.length_singleton] at this
     lia
   rw [e] at hr he ⊢
   have hr' : Red r := by
     have := hr.reverse
     rw [List.reverse_append] at this
     have := (Red.suffix (u := [x]) this).reverse
     rwa [List.reverse_reverse] at this
   rw [contrL_append] at he
   by_cases c : (x.natAbs : Int) = n
   · have e2 : Eqv ([x] ++ [n] ++ contrL [x]) [n] := by
       rcases (show x = n ∨ x = -n by lia) with rfl | rfl
       · have := (Eqv.refl (u := [x])).app (eqv_contr [x])
         rw [List.append_nil, ← List.append_assoc] at this
         exact this
       · have := (eqv_contr' [n]).app (Eqv.refl (u := contrL [-n]))
         have e3 : contrL [-n] = [n] := by show [- -n] = _; rw [Int.neg_neg]
         rw [e3, List.nil_append] at this
         rw [e3]
         exact this
     have e4 : Eqv (r ++ [n] ++ contrL r) [n] := by
       refine Eqv.trans ?_ he
       have := ((Eqv.refl (u := r)).app e2.symm).app (Eqv.refl (u := contrL r))
       refine this.trans (Eqv.of ?_)
       simp only [List.append_assoc]
     rw [List.flatMap_append, red_conj hn k hl hr' e4, List.flatMap_cons, List.flatMap_nil]
     have : gD n x = [] := if_pos c
     rw [this]; rfl
   · exfalso
     have hc := red_contr hr
     rw [contrL_append] at hc
     have hc' : Red (-x :: contrL r) := hc
     have x0 : x ≠ 0 ∨ x = 0 := by lia
     have g1 : Red (r ++ x :: ([n] ++ (-x :: contrL r))) := red_glue hr ⟨by lia, by lia, hc'⟩
     have e5 : r ++ [x] ++ [n] ++ (contrL [x] ++ contrL r) = r ++ x :: ([n] ++ (-x :: contrL r)) := by simp [contrL]
     rw [e5] at he
     have := congrArg List.length (show redL _ = redL _ from he)
     rw [redL_of g1, redL_one] at this
     simp only [List.length_append, List.length_cons, List.length_nil] at this
     lia
theorem conj_free {n : Int} (hn : 0 < n) {g : List Int} (h : Eqv (g ++ [n] ++ contrL g) [n]) : Eqv (g.flatMap (gD n)) [] := by
 have hr : Red (redL g) := (Red.redS (w := g) (st := []) trivial).reverse
 have e := Eqv.red g
 have k : Eqv (redL g ++ [n] ++ contrL (redL g)) [n] := ((e.app Eqv.refl).app e.contr).trans h
 have := red_conj hn _ (Nat.le_refl _) hr k
 refine (e.flat (gD_hom n)).symm.trans ?_
 rw [this]
 exact Eqv.refl
theorem gV_step {n : Int} (st : List Int) {l : Int} (h : ∀ x ∈ l :: st, x ≠ 0) : gvV n (stepL st l).reverse = gvV n (l :: st).reverse := by
 cases st with
 | nil => rfl
 | cons x t =>
   show gvV n (if x = -l then t else l :: x :: t).reverse = _
   split
   · rename_i c
     subst c
     rw [List.reverse_cons, List.reverse_cons, gV_app, gV_app, gV_one, gV_one, gx_neg (h l List.mem_cons_self), gmul_assoc, ginv_mul, gmul_one]
   · rfl
theorem step_nz {st : List Int} {l : Int} (h : ∀ x ∈ l :: st, x ≠ 0) : ∀ x ∈ stepL st l, x ≠ 0 := by
 cases st with
 | nil => exact h
 | cons y t =>
   show ∀ x ∈ (if y = -l then t else l :: y :: t), x ≠ 0
   split
   · exact fun x hx => h x (List.mem_cons_of_mem _ (List.mem_cons_of_mem _ hx))
   · exact h
theorem gV_redS {n : Int} : ∀ (w st : List Int), (∀ x ∈ st, x ≠ 0) → (∀ x ∈ w, x ≠ 0) → gvV n (redS st w).reverse = gvV n (st.reverse ++ w)
 | [], st, _, _ => by rw [List.append_nil]; rfl
 | l :: w, st, h, g => by
   have h' : ∀ x ∈ l :: st, x ≠ 0 := fun x hx => by
     rcases List.mem_cons.mp hx with rfl | hx
     · exact g _ List.mem_cons_self
     · exact h x hx
   show gvV n (redS (stepL st l) w).reverse = _
   rw [gV_redS w _ (step_nz h') (fun x hx => g x (List.mem_cons_of_mem _ hx)), gV_app, gV_step st h', List.reverse_cons, gV_app, gV_app]
   rw [gV_one, gmul_assoc]; rfl
theorem gV_eqv {n : Int} {u : List Int} (h : ∀ x ∈ u, x ≠ 0) (e : Eqv u []) : gvV n u = gone := by
 have a := gV_redS (n := n) u [] (fun x hx => by cases hx) h
 rw [show (redS [] u).reverse = redL u from rfl, show redL u = redL [] from e] at a
 exact a.symm
theorem subW_fix {n : Int} : ∀ {b : List Int}, WordOK (n - 1) b → subW b [n] = [n]
 | [], _ => rfl
 | l :: b, h => by
   have hl := h l List.mem_cons_self
   unfold LetOK at hl
   rw [subW_cons, List.flatMap_cons, List.flatMap_nil, List.append_nil, mkL_fix l (by lia) (by lia)]
   exact subW_fix fun x hx => h x (List.mem_cons_of_mem _ hx)
theorem subW_mI {n : Int} : ∀ {t : Nat}, (t : Int) < n → subW (mI n t) [n] = [n - t]
 | 0, _ => by show [n] = [n - ((0 : Nat) : Int)]; rw [Int.natCast_zero, Int.sub_zero]
 | t + 1, h => by
   show subW (mI n t ++ [n - ((t + 1 : Nat) : Int)]) [n] = _
   rw [subW_app, subW_mI (t := t) (by lia)]
   show [n - (t : Int)].flatMap (mkL _) = _
   rw [List.flatMap_cons, List.flatMap_nil, List.append_nil]
   have e : n - (t : Int) = n - ((t + 1 : Nat) : Int) + 1 := by lia
   rw [e, mkp_at1 (by lia)]
theorem WordOK.mono' {n m : Int} {w : List Int} (h : WordOK n w) (hm : n ≤ m) : WordOK m w := fun l hl => by
 have := h l hl
 unfold LetOK at this ⊢
 lia
theorem RelW.mono {n m : Int} (hm : n ≤ m) {w v : List Int} (h : RelW n w v) : RelW m w v := by
 have lm : ∀ {l : Int}, LetOK n l → LetOK m l := fun {l} h => by unfold LetOK at h ⊢; lia
 induction h with
 | refl w => exact .refl w
 | symm _ ih => exact ih.symm
 | trans _ _ a b => exact a.trans b
 | ctx a b ha hb _ ih => exact .ctx a b (WordOK.mono' ha hm) (WordOK.mono' hb hm) ih
 | far a b h => exact .far (lm a) (lm b) h
 | three a b h g => exact .three (lm a) (lm b) h g
 | out a => exact .out (lm a)
theorem faithful_one : ∀ (k : Nat) {n : Int}, n = k → ∀ {w : List Int}, WordOK n w → AL n w [] → RelW n w []
 | 0, n, e, w, hw, _ => by
   rw [word_none (by lia) hw]; exact .refl _
 | k + 1, n, e, w, hw, ha => by
   have h1 : 1 ≤ n := by lia
   obtain ⟨b, u, t, c⟩ := comb_some h1 hw
   have hb : WordOK n b := WordOK.mono' c.ob (by lia)
   have hv := wV_ok c.ou
   have ht := c.ot
   have hm := mI_ok (n := n) (t := t) (by lia)
   have hB : WordOK n (b ++ (wV n u ++ mI n t)) := hb.append (hv.append hm)
   have s : SameW w (b ++ (wV n u ++ mI n t)) := gw_same hw hB (by rw [gw_app, gw_app, wV_gw, mI_gw, c.eq])
   obtain ⟨p, g, q1, q2⟩ := pd_wV c.ou
   have a1 : Eqv (subW w [n]) [n] := ha n h1 (Int.le_refl n)
   have a2 : Eqv (subW (mI n t) g ++ [n - (t : Int)] ++ contrL (subW (mI n t) g)) [n] := by
     refine Eqv.trans ?_ ((s [n]).symm.trans a1)
     rw [subW_app, subW_app, subW_fix c.ob]
     have := q1.sub hm.nz
     rw [subW_join, subW_join, subW_contr hm.nz, subW_mI (by lia)] at this
     exact this.symm
   have t0 : t = 0 := by
     have := Eqv.sum a2
     rw [List.sum_append, List.sum_append, sum_contr, List.sum_cons, List.sum_nil, List.sum_cons, List.sum_nil] at this
     lia
   subst t0
   have e0 : mI n 0 = [] := rfl
   rw [e0, List.append_nil] at s
   have a3 : Eqv (g ++ [n] ++ contrL g) [n] := by
     have e1 : subW (mI n 0) g = g := rfl
     rw [e1, show n - ((0 : Nat) : Int) = n by lia] at a2
     exact a2
   have a4 : Eqv u [] := q2.symm.trans (conj_free (by lia) a3)
   have g0 : gvV n u = gone := gV_eqv (fun x hx => by have := c.ou x hx; lia) a4
   have gb : gw n w = gw n b := by
     rw [c.eq, g0]
     show gw n b * (gone * gone) = _
     rw [gone_mul, gmul_one]
   have sb : SameW w b := gw_same hw hb gb
   have ab : AL (n - 1) b [] := fun j j1 j2 => (sb.img j).symm.trans (ha j j1 (by lia))
   have ih := faithful_one k (n := n - 1) (by lia) c.ob ab
   have r1 := (gw_rel hw hb).mp gb
   exact r1.trans (ih.mono (by lia))
theorem faithful {n : Int} (h1 : 1 ≤ n) {w v : List Int} (hw : WordOK n w) (hv : WordOK n v) (h : AL n w v) : RelW n w v := by
 have a := (AL.back_iff hw hv).mpr h
 have r := faithful_one n.toNat (by lia) (hw.append hv.contr) a
 have x := r.rt hv
 rw [List.append_assoc] at x
 have y := (RelW.bk hv).lf hw
 rw [List.append_nil] at y
 exact y.symm.trans x
end L2
namespace L2
open PySem PySem.Spec PyProof.Rows LM
section
variable {n : Int}
theorem beg_beg_far {r : List Int} {l m : Nat} (hr : IsP n r) (l1 : 1 ≤ l) (l2 : (l : Int) < n) (m1 : 1 ≤ m) (m2 : (m : Int) < n) (h : l + 2 ≤ m ∨ m + 2 ≤ l) : begL (begL r l) m = begL (begL r m) l := by
 have hl := hr.len
 have e1 := beg_len (b := r) l1 (by lia)
 have e2 := beg_len (b := r) m1 (by lia)
 have e3 := beg_len (b := begL r l) m1 (by lia)
 have e4 := beg_len (b := begL r m) l1 (by lia)
 refine gI_ext (by lia) fun k hk => ?_
 have r1 := sw_rng (l := (m : Int)) (n := n) (k := k) (by lia) m2 (by lia) (by lia)
 have r2 := sw_rng (l := (l : Int)) (n := n) (k := k) (by lia) l2 (by lia) (by lia)
 rw [gI_beg' m1 (by lia) (by lia), gI_beg' l1 (by lia) r1.1, gI_beg' l1 (by lia) (by lia), gI_beg' m1 (by lia) r2.1]
 congr 1
 exact sw_far (by lia) _
theorem beg_three {r : List Int} {l : Nat} (hr : IsP n r) (l1 : 1 ≤ l) (l2 : (l : Int) + 1 < n) : begL (begL (begL r l) (l + 1)) l = begL (begL (begL r (l + 1)) l) (l + 1) := by
 have hl := hr.len
 have a1 := beg_len (b := r) l1 (by lia)
 have a2 := beg_len (b := begL r l) (l := l + 1) (by lia) (by lia)
 have b1 := beg_len (b := r) (l := l + 1) (by lia) (by lia)
 have b2 := beg_len (b := begL r (l + 1)) l1 (by lia)
 have a3 := beg_len (b := begL (begL r l) (l + 1)) l1 (by lia)
 have b3 := beg_len (b := begL (begL r (l + 1)) l) (l := l + 1) (by lia) (by lia)
 refine gI_ext (by lia) fun k hk => ?_
 have sr : ∀ {m : Int}, 1 ≤ m → m < n → ∀ {x : Int}, 0 ≤ x → x < n → 0 ≤ sw m x ∧ sw m x < n := fun {m} h1 h2 {x} h3 h4 => sw_rng h1 h2 h3 h4
 have c1 := sr (m := (l : Int)) (by lia) (by lia) (x := k) (by lia) (by lia)
 have c2 := sr (m := ((l + 1 : Nat) : Int)) (by lia) (by lia) c1.1 c1.2
 have d1 := sr (m := ((l + 1 : Nat) : Int)) (by lia) (by lia) (x := k) (by lia) (by lia)
 have d2 := sr (m := (l : Int)) (by lia) (by lia) d1.1 d1.2
 rw [gI_beg' l1 (by lia) (by lia), gI_beg' (by lia) (by lia) c1.1, gI_beg' l1 (by lia) c2.1, gI_beg' (by lia) (by lia) (by lia), gI_beg' l1 (by lia) d1.1, gI_beg' (by lia) (by lia) d2.1]
 congr 1
 have := sw_near (l : Int) k
 rwa [show ((l : Int) + 1) = ((l + 1 : Nat) : Int) by lia] at this
theorem fsD_least {r : List Int} : ∀ (l : Nat), 1 ≤ l → l < r.length → dsB r l = true → fsD r ≤ l := by
 have key : ∀ (k l : Nat), l ≤ k → 1 ≤ l → l < r.length → dsB r l = true → fsD r ≤ l := by
   intro k
   induction k with
   | zero => intro l _ _; lia
   | succ k ih =>
     intro l hk l1 l2 d
     by_cases c : ∃ m : Nat, 1 ≤ m ∧ m < l ∧ dsB r m = true
     · obtain ⟨m, m1, m2, m3⟩ := c
       have := ih m (by lia) m1 (by lia) m3
       lia
     · exact Nat.le_of_eq (fsD_first l1 l2 d fun m m1 m2 => Bool.eq_false_iff.mpr fun z => c ⟨m, m1, m2, z⟩)
 exact fun l => key l l (Nat.le_refl _)
theorem lt_front (h6 : n ≤ 6) : ∀ (k : Nat) {r : List Int}, IsP n r → 217 ≤ k + Sn 0 r → ∀ {l : Nat}, 1 ≤ l → (l : Int) < n → dsB r l = true → gw n (ltO r) = gl n l * gw n (ltO (begL r l))
 | 0, r, hr, hk, _, _, _, _ => by have := Sn_small hr h6; lia
 | k + 1, r, hr, hk, l, l1, l2, d => by
   have hl := hr.len
   have up : ∀ {r : List Int} {m : Nat}, IsP n r → 1 ≤ m → (m : Int) < n → dsB r m = true → IsP n (begL r m) ∧ Sn 0 r < Sn 0 (begL r m) := fun h a b c => ⟨beg_isP h a (by have := h.len; lia), beg_up h a (by have := h.len; lia) c⟩
   have dsv : ∀ {r : List Int} {m : Nat}, dsB r m = true ↔ gI r ((m : Int) - 1) > gI r m := fun {r m} => by unfold dsB; exact decide_eq_true_iff
   have f0 : fsD r ≠ 0 := fun z => by
     have := fsD_zero.mp z l l1 (by lia)
     rw [d] at this; cases this
   obtain ⟨f1, f2, fd⟩ := fsD_pos f0
   have fl : fsD r ≤ l := fsD_least l l1 (by lia) d
   have e0 := ltO_cons hr h6 (rfl : fsD r = fsD r) f1
   generalize fsD r = f at f0 f1 f2 fd fl e0
   rw [e0]
   show gl n f * gw n (ltO (begL r f)) = _
   by_cases c : l = f
   · rw [c]
   · have hf2 : (f : Int) < n := by lia
     obtain ⟨pF, sF⟩ := up hr f1 hf2 fd
     obtain ⟨pL, sL⟩ := up hr l1 l2 d
     by_cases c2 : l = f + 1
     · subst c2
       have v1 := dsv.mp fd
       have v2 := dsv.mp d
       have e1 : (((f + 1 : Nat) : Int) - 1) = f := by lia
       rw [e1] at v2
       have q : ∀ x : Int, 0 ≤ x → gI (begL r f) x = gI r (sw f x) := fun x hx => gI_beg' f1 (by lia) hx
       have q' : ∀ x : Int, 0 ≤ x → gI (begL r (f + 1)) x = gI r (sw ((f + 1 : Nat) : Int) x) := fun x hx => gI_beg' (by lia) (by lia) hx
       have s1 : sw (f : Int) f = f - 1 := sw_hi _
       have s2 : sw (f : Int) ((f : Int) - 1) = f := sw_lo _
       have s3 : sw (f : Int) ((f + 1 : Nat) : Int) = ((f + 1 : Nat) : Int) := sw_off (by lia) (by lia)
       have t1 : sw ((f + 1 : Nat) : Int) f = ((f + 1 : Nat) : Int) := by have := sw_lo ((f + 1 : Nat) : Int); rwa [e1] at this
       have t2 : sw ((f + 1 : Nat) : Int) ((f + 1 : Nat) : Int) = f := by have := sw_hi ((f + 1 : Nat) : Int); rwa [e1] at this
       have t3 : sw ((f + 1 : Nat) : Int) ((f : Int) - 1) = (f : Int) - 1 := sw_off (by lia) (by lia)
       have dA : dsB (begL r f) (f + 1) = true := dsv.mpr (by rw [e1, q _ (by lia), q _ (by lia), s1, s3]; lia)
       have dB : dsB (begL r (f + 1)) f = true := dsv.mpr (by rw [q' _ (by lia), q' _ (by lia), t3, t1]; lia)
       obtain ⟨pA, sA⟩ := up pF (by lia) l2 dA
       obtain ⟨pB, sB⟩ := up pL f1 hf2 dB
       have lF := pF.len
       have lL := pL.len
       have u1 : ∀ x : Int, 0 ≤ x → gI (begL (begL r f) (f + 1)) x = gI (begL r f) (sw ((f + 1 : Nat) : Int) x) := fun x hx => gI_beg' (by lia) (by lia) hx
       have u2 : ∀ x : Int, 0 ≤ x → gI (begL (begL r (f + 1)) f) x = gI (begL r (f + 1)) (sw f x) := fun x hx => gI_beg' f1 (by lia) hx
       have dC : dsB (begL (begL r f) (f + 1)) f = true := dsv.mpr (by rw [u1 _ (by lia), u1 _ (by lia), t3, t1, q _ (by lia), q _ (by lia), s2, s3]; lia)
       have dD : dsB (begL (begL r (f + 1)) f) (f + 1) = true := dsv.mpr (by rw [e1, u2 _ (by lia), u2 _ (by lia), s1, s3, q' _ (by lia), q' _ (by lia), t3, t2]; lia)
       have i1 := lt_front h6 k pF (by lia) (l := f + 1) (by lia) l2 dA
       have i2 := lt_front h6 k pA (by lia) f1 hf2 dC
       have j1 := lt_front h6 k pL (by lia) f1 hf2 dB
       have j2 := lt_front h6 k pB (by lia) (l := f + 1) (by lia) l2 dD
       have th := gl_three (n := n) (a := (f : Int)) (b := ((f + 1 : Nat) : Int)) (.pos (by lia) hf2) (.pos (by lia) l2) (Int.mul_pos (by lia) (by lia)) (by lia)
       rw [i1, i2, j1, j2, beg_three hr f1 (by lia)]
       generalize gw n (ltO (begL (begL (begL r (f + 1)) f) (f + 1))) = X
       calc gl n f * (gl n ((f + 1 : Nat) : Int) * (gl n f * X)) = gl n f * (gl n ((f + 1 : Nat) : Int) * gl n f) * X := by simp only [gmul_assoc]
         _ = _ := by rw [th]; simp only [gmul_assoc]
     · have q : ∀ x : Int, 0 ≤ x → gI (begL r f) x = gI r (sw f x) := fun x hx => gI_beg' f1 (by lia) hx
       have q' : ∀ x : Int, 0 ≤ x → gI (begL r l) x = gI r (sw l x) := fun x hx => gI_beg' l1 (by lia) hx
       have dA : dsB (begL r f) l = true := dsv.mpr (by rw [q _ (by lia), q _ (by lia), sw_off (by lia) (by lia), sw_off (by lia) (by lia)]; exact dsv.mp d)
       have dB : dsB (begL r l) f = true := dsv.mpr (by rw [q' _ (by lia), q' _ (by lia), sw_off (by lia) (by lia), sw_off (by lia) (by lia)]; exact dsv.mp fd)
       have i1 := lt_front h6 k pF (by lia) l1 l2 dA
       have j1 := lt_front h6 k pL (by lia) f1 hf2 dB
       have fr := gl_far (n := n) (a := (f : Int)) (b := (l : Int)) (.pos (by lia) hf2) (.pos (by lia) l2) (by lia)
       rw [i1, j1, beg_beg_far hr f1 hf2 l1 l2 (by lia), ← gmul_assoc, fr, gmul_assoc]
theorem lt_first (h6 : n ≤ 6) {r : List Int} (hr : IsP n r) {l : Nat} (l1 : 1 ≤ l) (l2 : (l : Int) < n) (h : gI r ((l : Int) - 1) > gI r l) : gw n (ltO r) = gl n l * gw n (ltO (begL r l)) :=
 lt_front h6 217 hr (by lia) l1 l2 (by unfold dsB; exact decide_eq_true h)
theorem gw_lt (h6 : n ≤ 6) {r : List Int} (hr : IsP n r) {l : Nat} (e : fsD r = l) (l1 : 1 ≤ l) : gw n (ltO r) = gl n l * gw n (ltO (begL r l)) := by
 rw [ltO_cons hr h6 e l1]; rfl
theorem ds_gt {r : List Int} {l : Nat} (d : dsB r l = true) : gI r ((l : Int) - 1) > gI r l := by
 unfold dsB at d
 exact of_decide_eq_true d
theorem plain_of_fs {r : List Int} (hr : IsP n r) (e : fsD r = 0) : r = range0 n := sorted_plain hr fun l l1 l2 hgt => by
 have hl := hr.len
 have := fsD_zero.mp e l l1 (by lia)
 unfold dsB at this
 exact of_decide_eq_false this hgt
theorem fs_plain (h6 : n ≤ 6) : ltO (range0 n) = [] := ltO_nil (n := n) (.refl _) h6 (fsD_zero.mpr fun l l1 l2 => by
 rw [range0_length] at l2
 unfold dsB
 rw [gI_range0 (by lia) (by lia), gI_range0 (by lia) (by lia)]
 exact decide_eq_false (by lia))
theorem ltO_ord (h6 : n ≤ 6) {l : Nat} (l1 : 1 ≤ l) (l2 : (l : Int) < n) : gw n (ltO (ordF n l)) = gl n l := by
 have ho : IsP n (ordF n l) := ordF_isP (by lia) ⟨by lia, by lia⟩
 rw [lt_first h6 ho l1 l2 (by rw [gI_ord (by lia) l2 (by lia) (by lia), gI_ord (by lia) l2 (by lia) l2, sw_lo, sw_hi]; lia), beg_ord l1 l2, fs_plain h6]
 exact gmul_one _
theorem lt_last (h6 : n ≤ 6) {a : List Int} (ha : IsP n a) {l : Nat} (l1 : 1 ≤ l) (l2 : (l : Int) < n) (h : a.idxOf ((l : Int) - 1) < a.idxOf (l : Int)) : gw n (ltO (a.map (sw l))) = gw n (ltO a) * gl n l := by
 refine ltO_rec (C := fun a => a.idxOf ((l : Int) - 1) < a.idxOf (l : Int) → gw n (ltO (a.map (sw l))) = gw n (ltO a) * gl n l) h6 (fun r hr e _ => ?_) (fun r f hr e f1 f2 d ih hi => ?_) ha h
 · rw [plain_of_fs hr e, ← ord_pos (by lia) l2, ltO_ord h6 l1 l2, fs_plain h6]
   exact (gone_mul _).symm
 · obtain ⟨k1, k2, k3⟩ := beg_keep hr f1 f2 (ds_gt d) hi
   rw [lt_first h6 (sw_isP hr l1 l2) f1 f2 k1, k3, ih k2, gw_lt h6 hr e f1, gmul_assoc]
noncomputable def gH (n : Int) : Gp n := gw n (ltO (range0 n).reverse)
theorem half_begs (h6 : n ≤ 6) {l m : Nat} (l1 : 1 ≤ l) (m1 : 1 ≤ m) (e : (l : Int) + m = n) : gH n = gl n m * gw n (ltO (ordF n (-(l : Int)))) := by
 unfold gH
 rw [lt_first h6 (half_isP n) m1 (by lia) (by rw [gI_halfI (by lia) (by lia), gI_halfI (by lia) (by lia)]; lia), half_beg l1 m1 e]
theorem idx_half {v : Int} (h0 : 0 ≤ v) (h1 : v < n) : (((range0 n).reverse.idxOf v : Nat) : Int) = n - 1 - v := by
 have a := idx_gI (half_isP n) (j := (n - 1 - v).toNat) (by rw [List.length_reverse, range0_length]; lia)
 rw [gI_half (by lia), show n - 1 - (((n - 1 - v).toNat : Nat) : Int) = v by lia] at a
 rw [a]; lia
theorem half_ends (h6 : n ≤ 6) {l : Nat} (l1 : 1 ≤ l) (l2 : (l : Int) < n) : gH n = gw n (ltO (ordF n (-(l : Int)))) * gl n l := by
 have e := ord_neg (n := n) (l := -(l : Int)) (by lia) (by lia)
 rw [Int.neg_neg] at e
 have hP : IsP n (ordF n (-(l : Int))) := ordF_isP (by lia) ⟨by lia, by lia⟩
 have b := lt_last h6 hP l1 l2 (by
   rw [e, idx_map', idx_map', sw_lo, sw_hi]
   have a1 := idx_half (n := n) (v := (l : Int)) (by lia) l2
   have a2 := idx_half (n := n) (v := (l : Int) - 1) (by lia) (by lia)
   lia)
 rw [← b, e, List.map_map]
 unfold gH
 congr 2
 exact ((List.map_congr_left fun x _ => sw_sw (l : Int) x).trans (List.map_id _)).symm
theorem half_letter (h6 : n ≤ 6) {l m : Nat} (l1 : 1 ≤ l) (m1 : 1 ≤ m) (e : (l : Int) + m = n) : gl n m * gH n = gH n * gl n l := by
 have a := half_begs h6 l1 m1 e
 have b := half_ends h6 (n := n) l1 (by lia)
 calc gl n m * gH n = gl n m * (gw n (ltO (ordF n (-(l : Int)))) * gl n l) := by rw [← b]
   _ = gH n * gl n l := by rw [← gmul_assoc, ← a]
theorem half_order (h6 : n ≤ 6) {r : List Int} (hr : IsP n r) : gw n (ltO r) * gH n = gH n * gw n (ltO (flO n r)) := by
 refine ltO_rec (C := fun r => gw n (ltO r) * gH n = gH n * gw n (ltO (flO n r))) h6 (fun r hr e => ?_) (fun r f hr e f1 f2 d ih => ?_) hr
 · rw [plain_of_fs hr e, range_fl, fs_plain h6]
   show gone * _ = _ * gone
   rw [gone_mul, gmul_one]
 · have em : (f : Int) + ((n - f).toNat : Nat) = n := by lia
   have hgt := ds_gt d
   have hl := hr.len
   rw [gw_lt h6 hr e f1, gmul_assoc, ih, beg_fl hr f1 f2 em]
   have hf := lt_first h6 (fl_isP hr) (l := (n - f).toNat) (by lia) (by lia) (by
     rw [gI_flI hr (by lia) (by lia), gI_flI hr (by lia) (by lia), show n - 1 - ((((n - f).toNat : Nat) : Int) - 1) = f by lia, show n - 1 - (((n - f).toNat : Nat) : Int) = (f : Int) - 1 by lia]
     lia)
   rw [hf, ← gmul_assoc, half_letter h6 (l := (n - f).toNat) (m := f) (by lia) f1 (by lia), gmul_assoc]
noncomputable def gnp (g : Gp n) : Nat → Gp n
 | 0 => gone
 | k + 1 => gnp g k * g
noncomputable def gpw (g : Gp n) (p : Int) : Gp n := if 0 ≤ p then gnp g p.toNat else ginv (gnp g (-p).toNat)
theorem gnp_comm (g : Gp n) : ∀ k : Nat, g * gnp g k = gnp g k * g
 | 0 => by show g * gone = gone * g; rw [gmul_one, gone_mul]
 | k + 1 => by show g * (gnp g k * g) = gnp g k * g * g; rw [← gmul_assoc, gnp_comm g k]
theorem gp_succ (g : Gp n) (p : Int) : gpw g (p + 1) = gpw g p * g := by
 unfold gpw
 by_cases c : 0 ≤ p
 · rw [if_pos c, if_pos (by lia), show (p + 1).toNat = p.toNat + 1 by lia]; rfl
 · by_cases d : p = -1
   · subst d
     rw [if_pos (by decide), if_neg (by decide)]
     show gone = ginv (gone * g) * g
     rw [gone_mul, ginv_mul]
   · rw [if_neg c, if_neg (by lia), show (-p).toNat = (-(p + 1)).toNat + 1 by lia]
     show _ = ginv (gnp g (-(p + 1)).toNat * g) * g
     rw [← gnp_comm, ginv_gmul, gmul_assoc, ginv_mul, gmul_one]
theorem gp_zero (g : Gp n) : gpw g 0 = gone := rfl
theorem gp_pred (g : Gp n) (p : Int) : gpw g (p - 1) = gpw g p * ginv g := by
 have := gp_succ g (p - 1)
 rw [show p - 1 + 1 = p by lia] at this
 rw [this, gmul_assoc, gmul_inv, gmul_one]
theorem gp_add (g : Gp n) (p : Int) : ∀ q : Int, gpw g (p + q) = gpw g p * gpw g q := by
 have up : ∀ k : Nat, gpw g (p + k) = gpw g p * gpw g k := by
   intro k
   induction k with
   | zero => rw [Int.natCast_zero, Int.add_zero, gp_zero, gmul_one]
   | succ k ih => rw [Int.natCast_succ, ← Int.add_assoc, gp_succ, gp_succ, ih, gmul_assoc]
 have dn : ∀ k : Nat, gpw g (p - k) = gpw g p * gpw g (-(k : Int)) := by
   intro k
   induction k with
   | zero => rw [Int.natCast_zero, Int.sub_zero, Int.neg_zero, gp_zero, gmul_one]
   | succ k ih => rw [Int.natCast_succ, show p - ((k : Int) + 1) = p - k - 1 by lia, show -((k : Int) + 1) = -(k : Int) - 1 by lia, gp_pred, gp_pred, ih, gmul_assoc]
 intro q
 rcases Int.le_total 0 q with h | h
 · have := up q.toNat
   rwa [Int.toNat_of_nonneg h] at this
 · have := dn (-q).toNat
   rwa [Int.toNat_of_nonneg (by lia), show p - -q = p + q by lia, Int.neg_neg] at this
noncomputable def gR (n : Int) : List (List Int) → Gp n
 | [] => gone
 | r :: R => gw n (ltO r) * gR n R
noncomputable def gv (n : Int) (x : PR) : Gp n := gpw (gH n) x.1 * gR n x.2
theorem gR_app (A B : List (List Int)) : gR n (A ++ B) = gR n A * gR n B := by
 induction A with
 | nil => exact (gone_mul _).symm
 | cons r A ih =>
   show gw n (ltO r) * gR n (A ++ B) = gw n (ltO r) * gR n A * gR n B
   rw [ih, gmul_assoc]
theorem gR_half (h6 : n ≤ 6) : ∀ {R : List (List Int)}, okR n R → gR n R * gH n = gH n * gR n (R.map (flO n))
 | [], _ => by show gone * _ = _ * gone; rw [gone_mul, gmul_one]
 | r :: R, h => by
   show gw n (ltO r) * gR n R * gH n = gH n * (gw n (ltO (flO n r)) * gR n (R.map (flO n)))
   rw [gmul_assoc, gR_half h6 (fun x hx => h x (List.mem_cons_of_mem _ hx)), ← gmul_assoc, half_order h6 (h r List.mem_cons_self), gmul_assoc]
theorem gR_pow (h6 : n ≤ 6) {R : List (List Int)} (h : okR n R) (q : Int) : gR n R * gpw (gH n) q = gpw (gH n) q * gR n (flz n q R) := by
 have up : ∀ k : Nat, gR n R * gpw (gH n) k = gpw (gH n) k * gR n (flz n k R) := by
   intro k
   induction k with
   | zero => rw [Int.natCast_zero, gp_zero, gmul_one, gone_mul]; rfl
   | succ k ih => rw [Int.natCast_succ, gp_succ, ← gmul_assoc, ih, gmul_assoc, gR_half h6 (flz_ok _ h), flz_succ, gmul_assoc]
 have dn : ∀ k : Nat, gR n R * gpw (gH n) (-(k : Int)) = gpw (gH n) (-(k : Int)) * gR n (flz n (-(k : Int)) R) := by
   intro k
   induction k with
   | zero => rw [Int.natCast_zero, Int.neg_zero, gp_zero, gmul_one, gone_mul]; rfl
   | succ k ih =>
     have e : -((k + 1 : Nat) : Int) = -(k : Int) - 1 := by lia
     have f := flz_succ n (-(k : Int) - 1) R
     rw [show -(k : Int) - 1 + 1 = -(k : Int) by lia] at f
     have c := gcomm_inv (gR_half h6 (flz_ok (n := n) (-(k : Int) - 1) h)).symm
     rw [← f] at c
     have c2 : gR n (flz n (-(k : Int)) R) * ginv (gH n) = ginv (gH n) * gR n (flz n (-(k : Int) - 1) R) := by
       have := gR_half h6 (flz_ok (n := n) (-(k : Int) - 1) h)
       rw [← f] at this
       refine gcl (a := gH n) (gcr (a := gH n) ?_)
       simp only [gmul_assoc, ginv_mul, gmul_one, gmul_inv_cl]
       exact this.symm
     rw [e, gp_pred, ← gmul_assoc, ih, gmul_assoc, c2, gmul_assoc]
 rcases Int.le_total 0 q with k | k
 · have := up q.toNat
   rwa [Int.toNat_of_nonneg k] at this
 · have := dn (-q).toNat
   rwa [Int.toNat_of_nonneg (by lia), Int.neg_neg] at this
theorem gv_mul (h6 : n ≤ 6) {x y : PR} (hx : okR n x.2) : gv n (mulP n x y) = gv n x * gv n y := by
 unfold gv mulP
 dsimp only
 rw [gp_add, gR_app]
 calc gpw (gH n) x.1 * gpw (gH n) y.1 * (gR n (flz n y.1 x.2) * gR n y.2) = gpw (gH n) x.1 * ((gpw (gH n) y.1 * gR n (flz n y.1 x.2)) * gR n y.2) := by simp only [gmul_assoc]
   _ = _ := by rw [← gR_pow h6 hx]; simp only [gmul_assoc]
theorem gv_letter (h6 : n ≤ 6) {l : Int} (hl : LetOK n l) : gv n (wp n [l]) = gl n l := by
 unfold LetOK at hl
 unfold gv
 by_cases c : l > 0
 · rw [wp_pos c]
   show gone * (gw n (ltO (ordF n l)) * gone) = _
   have := ltO_ord (n := n) h6 (l := l.toNat) (by lia) (by lia)
   rw [Int.toNat_of_nonneg (by lia)] at this
   rw [gone_mul, gmul_one, this]
 · rw [wp_neg (by lia)]
   show ginv (gone * gH n) * (gw n (ltO (ordF n l)) * gone) = _
   have := half_ends (n := n) h6 (l := (-l).toNat) (by lia) (by lia)
   rw [Int.toNat_of_nonneg (by lia), Int.neg_neg] at this
   rw [gone_mul, gmul_one, this, gl_neg, ginv_gmul, ginv_ginv, gmul_assoc, ginv_mul, gmul_one]
theorem gv_word (h1 : 1 ≤ n) (h6 : n ≤ 6) : ∀ {w : List Int}, WordOK n w → gv n (wp n w) = gw n w
 | [], _ => by show gone * gone = gone; rw [gmul_one]
 | l :: w, h => by
   have hl : LetOK n l := h l List.mem_cons_self
   have hw : WordOK n w := fun x hx => h x (List.mem_cons_of_mem _ hx)
   rw [show l :: w = [l] ++ w from rfl, wp_app n _ hw.nz, gv_mul h6 (wp_ok h1 (.one hl)), gv_letter h6 hl, gv_word h1 h6 hw]; rfl
theorem gR_step (h6 : n ≤ 6) {R R' : List (List Int)} (h : okR n R) (s : StepR n R R') : gR n R' = gR n R := by
 obtain ⟨i, l, a, b, e1, e2, l1, l2, hc, rfl⟩ := s
 have ha := okR_at h e1
 have hb := okR_at h e2
 have hlt := lt_get e2
 have e := cut_at e1 e2
 have hl : (R.take i).length = i := by rw [List.length_take]; lia
 generalize R.take i = A at e hl
 generalize R.drop (i + 2) = B at e
 obtain ⟨c1, c2⟩ := mvC_iff.mp hc
 rw [e, setp_at hl, gR_app, gR_app, gR_app, gR_app]
 congr 2
 show gw n (ltO (a.map (sw l))) * (gw n (ltO (begL b l)) * gone) = gw n (ltO a) * (gw n (ltO b) * gone)
 rw [lt_last h6 ha l1 l2 c2, lt_first h6 hb l1 l2 c1]
 simp only [gmul_assoc]
theorem gR_go (h6 : n ≤ 6) {R R' : List (List Int)} (g : Go n R R') (h : okR n R) : gR n R' = gR n R := by
 induction g with
 | refl _ => rfl
 | head s _ ih => rw [ih (step_ok h6 h s).1, gR_step h6 h s]
theorem gR_plains (h6 : n ≤ 6) (k : Nat) : gR n (List.replicate k (range0 n)) = gone := by
 induction k with
 | zero => rfl
 | succ k ih =>
   show gw n (ltO (range0 n)) * gR n (List.replicate k (range0 n)) = _
   rw [ih, fs_plain h6]
   exact gmul_one _
theorem gR_halves (k : Nat) : gR n (List.replicate k (range0 n).reverse) = gpw (gH n) k := by
 induction k with
 | zero => rfl
 | succ k ih =>
   show gH n * gR n (List.replicate k (range0 n).reverse) = _
   rw [ih]
   have a := gp_add (gH n) 1 (k : Int)
   rw [show gpw (gH n) 1 = gone * gH n from rfl, gone_mul] at a
   rw [← a, show (1 : Int) + (k : Nat) = ((k + 1 : Nat) : Int) by lia]
theorem gv_fo (h6 : n ≤ 6) {x f : PR} (ok : okR n x.2) (a : Fo n x f) : gv n f = gv n x := by
 obtain ⟨S, s, rfl⟩ := a
 obtain ⟨k, g⟩ := s.go
 have e := gR_go h6 g ok
 rw [gR_app, gR_plains h6, gmul_one] at e
 have hc := halves_cut s.ok s.st
 unfold gv
 dsimp only
 rw [← e, gp_add, gmul_assoc]
 congr 1
 conv => rhs; rw [hc]
 rw [gR_app, gR_halves]
theorem form_rel (h1 : 1 ≤ n) (h6 : n ≤ 6) {w v : List Int} (hw : WordOK n w) (hv : WordOK n v) {f : PR} (a : Fo n (wp n w) f) (b : Fo n (wp n v) f) : RelW n w v := by
 refine (gw_rel hw hv).mp ?_
 rw [← gv_word h1 h6 hw, ← gv_word h1 h6 hv, ← gv_fo h6 (wp_ok h1 hw) a, ← gv_fo h6 (wp_ok h1 hv) b]
theorem form_alike (h1 : 1 ≤ n) (h6 : n ≤ 6) {w v : List Int} (hw : WordOK n w) (hv : WordOK n v) {f g : PR} (a : Fo n (wp n w) f) (b : Fo n (wp n v) g) : f = g ↔ AL n w v := by
 constructor
 · rintro rfl
   exact (form_rel h1 h6 hw hv a b).same.al
 · intro h
   have r := faithful h1 hw hv h
   exact Fo.one (by lia) h6 (wp_ok h1 hv) ((r.fo h6 h1 hw).mp a) b
end
end L2
namespace L2
open PySem PySem.Spec PyProof.Rows
noncomputable def rangeD (hi : Int) (n : Nat) : List T := (List.range n).map fun i => T.int (hi - (i : Nat))
section
variable {X : Cx} {a b c : Expr} {t : TA3} {pos : Pos}
theorem vals3 : ∀ {x y z : V} {us : List Value}, Vals [x, y, z] us → ∃ u v w, us = [u, v, w] ∧ RelV x u ∧ RelV y v ∧ RelV z w
 | _, _, _, _, .cons r (.cons q (.cons k .nil)) => ⟨_, _, _, rfl, r, q, k⟩
theorem reps3 {K : PySem.W.Frag} {H : Hp} {vs : List V} {x y z : T} (r : Reps K H vs [x, y, z]) : ∃ u v w, vs = [u, v, w] ∧ Rep K H u x ∧ Rep K H v y ∧ Rep K H w z := by
 unfold Reps at r
 obtain ⟨v, r', rfl, h, r⟩ := r
 obtain ⟨u, w, rfl, h', h''⟩ := reps2 r
 exact ⟨v, u, w, rfl, h, h', h''⟩
noncomputable def iRng3_3 (t : TA3) : TI3 := fun ρ M R => t ρ M fun xs M1 => match xs with
 | [.int i, .int j, .int s] => (s = -1 ∧ -(2 ^ 62) ≤ i ∧ i < 2 ^ 62 ∧ -(2 ^ 62) ≤ j ∧ j < 2 ^ 62) ∧ R ⟨rangeD i (i - j).toNat, fun _ => True⟩ M1
 | _ => False
noncomputable def tTRng3 (t : TA3) : TE3 := fun ρ M Q => t ρ M fun xs M1 => match xs with
 | [.int i, .int j, .int s] => (s = -1 ∧ -(2 ^ 62) ≤ i ∧ i < 2 ^ 62 ∧ -(2 ^ 62) ≤ j ∧ j < 2 ^ 62 ∧ i - j < 2 ^ 24) ∧ Q (.tup (rangeD i (i - j).toNat)) M1
 | _ => False
noncomputable def rangeDV (hi : Int) (n : Nat) : List V := (List.range n).map fun i => V.int (hi - (i : Nat))
theorem rangeDV_reps {K : PySem.W.Frag} {H : Hp} (hi : Int) (n : Nat) : Reps K H (rangeDV hi n) (rangeD hi n) := by
 unfold rangeDV rangeD
 induction List.range n with
 | nil => unfold Reps; rfl
 | cons i l ih =>
   unfold Reps
   exact ⟨_, _, rfl, rep_int, ih⟩
theorem h_tupRange3 {t : TA3} {p p' pos' : Pos} (hm : X.mg "tuple" = none) (hm' : X.mg "range" = none) (ha : HA X [a, b, c] t) (hc : X.calm = true := by rfl) (hg : Gl X "tuple" := by rfl) (hg' : Gl X "range" := by rfl) (hs : starEach [a, b, c] X.env = [(false, eval a X.env), (false, eval b X.env), (false, eval c X.env)] := by rfl) (hs2 : starEach [b, c] X.env = [(false, eval b X.env), (false, eval c X.env)] := by rfl)
   (he : starEach [.Call (.Name "range" p') [a, b, c] [] pos'] X.env = (false, eval (.Call (.Name "range" p') [a, b, c] [] pos') X.env) :: starEach [] X.env := by rfl) :
   HE X (.Call (.Name "tuple" p) [.Call (.Name "range" p') [a, b, c] [] pos'] [] pos) (tTRng3 t) := by
 intro ρ M Q h pins s σ H Q2 I bb
 obtain ⟨hr, hh, en⟩ := bb
 refine wpAny_Call_Name_kw (ld_blt I hg hm boot_tuple ?_ (by decide) (by decide))
 refine PyProof.Rows.callWith_type1 ?_ he rfl
 rw [he]
 refine Calls.spliced_cons ?_
 refine Call_ (ld_blt I hg' hm' boot_range (PyProof.Rows.callWith_type1 (thn (ha ρ M _ h pos' pins s σ H (fun vs H1 => ∃ i j M1, vs = [V.int i, V.int j, V.int (-1)] ∧ HR X.K H1 M1 ∧ Kp X.K H H1 ∧ (-(2 ^ 62) ≤ i ∧ i < 2 ^ 62 ∧ -(2 ^ 62) ≤ j ∧ j < 2 ^ 62 ∧ i - j < 2 ^ 24) ∧ Q (.tup (rangeD i (i - j).toNat)) M1) I
   ⟨hr, hh, fun ts vs M1 H1 k1 h1 r1 q1 => by
     dsimp only at q1
     split at q1
     · rename_i i j s
       obtain ⟨v, w', z', rfl, rv, rw', rz⟩ := reps3 r1
       obtain rfl := inv_int rv
       obtain rfl := inv_int rw'
       obtain rfl := inv_int rz
       obtain ⟨⟨rfl, q2⟩, q3⟩ := q1
       exact ⟨i, j, M1, rfl, h1, k1, q2, q3⟩
     · exact q1.elim⟩) fun us s1 ⟨vs, H1, I1, rv, i, j, M1, e1, h1, k1, hj, q1⟩ => ?_) (by rw [hs, hs2]) (by rw [hs2]; rfl)))
 subst e1
 obtain ⟨u, u2, u3, rfl, ⟨t0, rfl⟩, ⟨t', rfl⟩, t'', rfl⟩ := vals3 rv
 refine call_range_3 (by decide) (Calls.spliced_nil ?_)
 have I2 : Inv X pins σ H1 { s1 with heap := s1.heap.push { cls := .type "range", data := .fields #[.int i t0, .int j t', .int (-1) t''] }, toks := s1.toks } := I1.kept fun b o e => Heap.get?_push_of_some _ e
 have hn : Builtin.Range.rangeSize i j (-1) = (((i - j).toNat : Nat) : Int) := PySem.W.rangeSize_downNat i j
 refine call_tuple_rangeL (I1.ok.hd hc) (IsRange.new ..) (PySem.W.small_down (by lia) (by lia) (by lia) (by lia)) hn (by lia) fun h' tk acc' kp ito => ?_
 have hz : (i - j).toNat ≤ sizeLine := by rw [sizeLine_eq]; lia
 have vr : Vals (rangeDV i (i - j).toNat) acc'.toList := by
   refine vals_of_get (by unfold rangeDV; simp [ito.1]) fun k x ex => ?_
   have hi : k < (i - j).toNat := by have := (List.getElem?_eq_some_iff.mp ex).1; simpa [rangeDV] using this
   have hi' : k < acc'.size := by rw [ito.1]; exact hi
   have ea : acc'[k]? = some acc'[k] := Array.getElem?_eq_getElem hi'
   obtain ⟨tt, et⟩ := ito.2 k _ ea
   refine ⟨acc'[k], by rw [Array.getElem?_toList]; exact ea, ?_⟩
   unfold rangeDV at ex
   rw [List.getElem?_map, List.getElem?_range hi] at ex
   have := Option.some.inj ex
   subst this
   exact ⟨tt, by rw [et]; congr 1; lia⟩
 have I2' : Inv X pins σ H1 { s1 with heap := h', toks := tk } := I2.kept (h' := h') (t' := tk) kp
 have eacc : acc'.toList.toArray = acc' := by simp
 have I3 : Inv X pins σ (upd H1 h'.objs.size (.tup (rangeDV i (i - j).toNat))) { s1 with heap := h'.push { cls := .type "tuple", data := .seq acc' }, toks := tk } :=
   I2'.laid (t' := tk) (fun b o e => Heap.get?_push_of_some _ e) (Nat.le_refl _) (show ObjOk X.prog X.w _ _ _ (.tup (rangeDV i (i - j).toNat)) from
     ⟨by unfold rangeDV; simpa using hz, acc'.toList, vr, by rw [eacc]; exact IsTup0.new _ _⟩)
 have hf := I2'.hok.fresh (Nat.le_refl _)
 have nw := Kp.new (K := X.K) (H := H1) (o := .tup (rangeDV i (i - j).toNat)) hf
 exact ⟨.ref h'.objs.size, _, I3, rfl, en _ _ _ _ (k1.trans nw) (h1.keep hf) (rep_tup (SqT.of upd_same) (rangeDV_reps i (i - j).toNat)) q1⟩
end
end L2
namespace L2
open PySem PySem.Spec PyProof.Rows
noncomputable def Itlr (K : PySem.W.Frag) (a : Addr) (n : Nat) : It :=
 ⟨fun i H => i < n ∧ ∃ xs, SqL K H a xs ∧ xs.length = n, fun i H x H' => H' = H ∧ ∀ xs, SqL K H a xs → xs.reverse[i]? = some x, fun i H => i = n⟩
theorem turn_revL {P : Program} {w : World} {K : PySem.W.Frag} {tg : Expr} (a it : Addr) (n : Nat) : Turn P w K tg (Itlr K a n) [it] it (fun i h => Heap.IsRevIter h it a ((n : Int) - 1 - (i : Int))) where
 mem := by simp
 obj := fun i h st b hb => by
   have e : b = it := by simpa using hb
   subst e
   obtain ⟨o, e, c, d⟩ := st
   exact ⟨o, e, fun v z => by rw [d] at z; cases z⟩
 keep := fun i h h' st k => st.at fun o e => k it (by simp) o e
 item := by
   intro X hP hw hK hc i pins s σ H E I hf st hg
   subst hP hw hK
   obtain ⟨hi, xs, hq, hxn⟩ := hg
   subst hxn
   obtain ⟨its, rv, p, hz⟩ := I.list hq
   have hl := rv.length
   obtain ⟨x, hx'⟩ : ∃ x, xs[xs.length - 1 - i]? = some x := ⟨_, List.getElem?_eq_getElem (by lia)⟩
   obtain ⟨u, hu, ru⟩ := rv.get hx'
   obtain ⟨f0, f1, f2, f3, f4, f5⟩ := hf it (by simp)
   have e1 : (xs.length : Int) - 1 - (i : Int) = ((xs.length - 1 - i : Nat) : Int) := by lia
   rw [e1] at st
   refine wpAny_pyNext_rev_item st p.isList (x := u) (by simpa using hu) fun h' st' sb => ?_
   have I1 : Inv X pins σ H { s with heap := h' } := I.turned (t' := s.toks) (fun b o hb e => (sb.2 b hb).trans e) f0 f1 f3 f4 f5
   have e2 : ((xs.length - 1 - i : Nat) : Int) - 1 = (xs.length : Int) - 1 - ((i + 1 : Nat) : Int) := by lia
   rw [e2] at st'
   obtain ⟨o, e, c, d⟩ := id st'
   exact ⟨u, rfl, go_of (s := { s with heap := h' }) e c d (by decide) ⟨x, H, I1, ru, ⟨rfl, fun ys hy => by rw [I.list_inj hy hq, List.getElem?_reverse hi]; exact hx'⟩, st', fun b hb => (hf b hb).1⟩⟩
 done := by
   intro X hP hw hK hc i pins s σ H E I hf st hg
   subst hP hw hK
   have hg' : i = n := hg
   subst hg'
   obtain ⟨f0, f1, f2, f3, f4, f5⟩ := hf it (by simp)
   have e1 : (i : Int) - 1 - (i : Int) = -1 := by lia
   rw [e1] at st
   exact wpAny_pyNext_rev_end (I.ok.hd hc) st fun h' eb => ⟨rfl, I.turned (t' := s.toks) (fun b o hb e => eb b o hb e) f0 f1 f3 f4 f5⟩
 self := fun _ _ _ _ _ st h => wpAny_pyIter_revIter st h
section
variable {X : Cx}
theorem itok_revL {K : PySem.W.Frag} {H : Hp} {a : Addr} {ts : List T} : ItOk K H (Itlr K a ts.length) ⟨ts.reverse, fun M' => M' a = some (.lst ts)⟩ := by
 refine ⟨fun H' M' k hh st => by show ts.reverse.length = _; rw [List.length_reverse], fun i x H' M' e k hh st => ?_⟩
 have e' : ts.reverse[i]? = some x := e
 have hi : i < ts.length := by have := (List.getElem?_eq_some_iff.mp e').1; simpa using this
 rw [List.getElem?_reverse hi] at e'
 obtain ⟨xs, g1, g2⟩ := hh _ _ st
 have hl := g2.length
 obtain ⟨v, e1, r1⟩ := g2.get e'
 refine ⟨⟨hi, xs, SqL.of g1, hl⟩, fun v' H'' y => ?_⟩
 obtain ⟨rfl, y⟩ := y
 have y2 := y xs (SqL.of g1)
 rw [List.getElem?_reverse (by lia), hl, e1] at y2
 cases y2
 exact ⟨Kp.refl, hh, r1⟩
noncomputable def iRevA (tl : TE3) : TI3 := fun ρ M R => tl ρ M fun x M1 => match x with
 | .tup ts => R ⟨ts.reverse, fun _ => True⟩ M1
 | .adr p => (match M1 p with | some (.lst ts) => R ⟨ts.reverse, fun M' => M' p = some (.lst ts)⟩ M1 | _ => False)
 | _ => False
theorem i_reversedA {tg l : Expr} {tl : TE3} {p : Pos} (hm : X.mg "reversed" = none) (hl : HE X l tl) (hg : Gl X "reversed" := by rfl) (hs : starEach [l] X.env = [(false, eval l X.env)] := by rfl) : HI X tg (.Call (.Name "reversed" p) [l] [] pos) (iRevA tl) := by
 intro ρ M R h pins s σ H R2 I b
 obtain ⟨hr, hh, en⟩ := b
 have pa := pa_cons (X := X) (hl.d (ρ := ρ)) pa_nil hs
 refine Call_ (ld_blt I hg hm PyProof.Rows.boot_reversed (PyProof.Rows.callWith_type1 (thn (pa pos pins s σ H (fun vs H1 => ∃ v t M1, vs = [v] ∧ Kp X.K H H1 ∧ HR X.K H1 M1 ∧ Rep X.K H1 v t ∧ (match t with
   | .tup ts => R ⟨ts.reverse, fun _ => True⟩ M1
   | .adr p => (match M1 p with | some (.lst ts) => R ⟨ts.reverse, fun M' => M' p = some (.lst ts)⟩ M1 | _ => False)
   | _ => False)) I ⟨M, _, h, hr, hh, fun t v M1 H1 k1 h1 r1 q1 => ⟨v, t, M1, rfl, k1, h1, r1, q1⟩⟩) fun us s1 ⟨vs, H1, I1, r1, v, t, M1, e, k1, h1, rt, q1⟩ => ?_) hs rfl))
 subst e
 cases r1 with
 | cons r rr =>
   cases rr
   split at q1
   · rename_i ts
     obtain ⟨a, xs, rfl, g1, g2⟩ := inv_tup rt
     cases r
     obtain ⟨its, rv, p, hz⟩ := I1.tuple g1
     have hlen := rv.length
     refine call_reversedT p (by simp; lia) fun h' tk kk e => ?_
     refine iter_rev (s := { s1 with heap := h', toks := tk }) e ?_
     refine ⟨s1.heap.objs.size, [s1.heap.objs.size], _, _, H1, rfl, I1.kept (t' := tk) kk, turn_rev a _ xs, ?_, fun b hb => ?_, en _ _ M1 H1 k1 h1 (itok_rev g1 g2) q1⟩
     · have e3 : ((its.toArray.size : Nat) : Int) - 1 = (xs.length : Int) - 1 - ((0 : Nat) : Int) := by
         have : its.toArray.size = its.length := by simp
         lia
       rw [e3] at e
       exact e
     · have e : b = s1.heap.objs.size := by simpa using hb
       subst e
       exact I1.fpOk (Nat.le_refl _) (I1.hok.fresh (Nat.le_refl _))
   · rename_i a
     obtain rfl := inv_adr rt
     cases r
     split at q1
     · rename_i ts e0
       obtain ⟨xs, g1, g2⟩ := h1 _ _ e0
       obtain ⟨its, rv, p, hz⟩ := I1.list (SqL.of g1)
       have hlen := rv.length
       have hl2 := g2.length
       refine call_reversed_list p.isList ?_
       have st0 : Heap.IsRevIter (s1.heap.push (revObj a ((its.toArray.size : Int) - 1))) s1.heap.objs.size a ((its.toArray.size : Int) - 1) := ⟨_, Heap.get?_push_size _ rfl, rfl, rfl⟩
       refine wpAny_pyIter_revIter (s := { s1 with heap := s1.heap.push (revObj a ((its.toArray.size : Int) - 1)) }) st0 ?_
       refine ⟨s1.heap.objs.size, [s1.heap.objs.size], _, _, H1, rfl, I1.kept (t' := s1.toks) fun b o e => Heap.get?_push_of_some _ e, turn_revL a _ ts.length, ?_, fun b hb => ?_, en _ _ M1 H1 k1 h1 itok_revL q1⟩
       · have e3 : ((its.toArray.size : Nat) : Int) - 1 = (ts.length : Int) - 1 - ((0 : Nat) : Int) := by
           have : its.toArray.size = its.length := by simp
           lia
         rw [e3] at st0 ⊢
         exact st0
       · have e : b = s1.heap.objs.size := by simpa using hb
         subst e
         exact I1.fpOk (Nat.le_refl _) (I1.hok.fresh (Nat.le_refl _))
     · exact q1.elim
   · exact q1.elim
end
end L2
namespace L2
open PySem PySem.Spec PyProof.Rows LM
end L2
namespace L2
open PySem PySem.Spec PyProof.Rows
theorem for_cut {i : TI3} {g : TG3} {b : TS3} {D : Ends3} {ρ : En} {M : MH} (h : ∀ B : TS3, B = b → tFor3 i g B D ρ M) : tFor3 i g b D ρ M := h _ rfl
section
variable {X : Cx}
end
end L2
namespace L2
open PySem PySem.Spec PyProof.Rows
section
variable {X : Cx} {pins : List (Addr × Obj)} {σ : St} {H : Hp} {s : Shared}
end
end L2
namespace L2
open PySem PySem.Spec PyProof.Rows
section
variable {X : Cx} {Ha : Hp} {a b c e : Expr} {es : List Expr} {st : Stmt} {rest ba bb body : List Stmt} {ta tb te : TE3} {tA : TT3} {t u : TS3} {pos : Pos}
end
section
variable {X : Cx} {Ha : Hp} {e : Expr} {es : List Expr} {t : TA3} {pos : Pos}
end
end L2
namespace L2
open PySem PySem.Spec PyProof.Rows
section
variable {X : Cx} {Ha : Hp} {e : Expr} {te : TE3} {pos : Pos}
end
section
variable {P : Program} {w : World} {K : PySem.W.Frag} {mg : Str → Option Value} {base : Heap}
end
end L2
namespace L2
open PySem PySem.Spec PyProof.Rows
section
variable {prog : Program} {w : World} {A : Around} {E : Value → Shared → Prop} {s : Shared} {h : Heap} {g : Array GenState} {d : Drawn} {t : Nat} {os : OsState} {a C : Addr} {o : Obj} {K : PySem.W.Frag}
local macro_rules | `(tactic| walk_at "xc") => `(tactic| (repeat any_goals (first | wp_step | assumption)))
end
end L2
namespace L2
open PySem PySem.Spec PyProof.Rows
end L2
namespace L2
open PySem PySem.Spec PyProof.Rows
section
variable {X : Cx} {pos : Pos}
end
end L2
namespace L2
open PySem PySem.Spec PyProof.Rows
section
variable {X : Cx} {pins : List (Addr × Obj)} {σ : St} {H : Hp} {s : Shared}
end
end L2
namespace L2
open PySem PySem.Spec PyProof.Rows
local macro_rules | `(tactic| walk_at "xc") => `(tactic| (repeat any_goals (first | wp_step | assumption)))
section
variable {X : Cx} {pos : Pos}
end
end L2
namespace L2
open PySem PySem.Spec PyProof.Rows
section
variable {X : Cx} {pins : List (Addr × Obj)} {σ σ' : St} {H : Hp} {s : Shared}
end
end L2
namespace L2
open PySem PySem.Spec PyProof.Rows
section
variable {X : Cx} {body : List Stmt}
end
end L2
namespace L2
open PySem PySem.Spec PyProof.Rows
section
variable {K : PySem.W.Frag} {mg : Str → Option Value} {P : Addr} {cs : List (Str × Addr)}
end
section
variable {X : Cx}
end
end L2
namespace L2
open PySem PySem.Spec PyProof.Rows
end L2
namespace L2
open PySem PySem.Spec PyProof.Rows
section
variable {X : Cx}
theorem rep2 {K : PySem.W.Frag} {H : Hp} {vs : List V} {x y : T} (r : Reps K H vs [x, y]) : ∃ v w, vs = [v, w] ∧ Rep K H v x ∧ Rep K H w y := by
 unfold Reps at r
 obtain ⟨v, w, rfl, h, r⟩ := r
 obtain ⟨v2, rfl, h2⟩ := reps1 r
 exact ⟨_, _, rfl, h, h2⟩
noncomputable def rMax3 : List T → MH → VK3 → Prop := fun xs M Q => match xs with
 | [.int i, .int j] => Q (.int (if j > i then j else i)) M
 | _ => False
theorem call3_max (hc : X.calm = true) : CallR3 X (.builtin "max") rMax3 := by
 intro pins s σ H vs us Q2 I r h
 obtain ⟨xs, M, Q, rr, hh, q, en⟩ := h
 unfold rMax3 at q
 split at q
 · rename_i i j
   obtain ⟨v, w, rfl, r1, r2⟩ := rep2 rr
   obtain rfl := inv_int r1
   obtain rfl := inv_int r2
   exact call_max2 hc pins s σ H _ us Q2 I r ⟨_, _, rfl, en _ _ M H Kp.refl hh rep_int q⟩
 · exact q.elim
end
end L2
namespace L2
open PySem PySem.Spec PyProof.Rows
noncomputable def tAugI3 (i : Nat) (te : TE3) (f : Int → Int → Int) : TS3 := fun D ρ M => match ρ[i]? with
 | some (some (.int a)) => te ρ M fun y M1 => match y with
   | .int b => D.nx (ρ.set i (some (.int (f a b)))) M1
   | _ => False
 | _ => False
theorem s_augI {X : Cx} {i : Nat} {x : Str} {e : Expr} {te : TE3} {op : Operator} {f : Int → Int → Int} {pos pos' : Pos} (ho : PIp X op (ipI f)) (he : HE X e te) (hN : X.N.Nodup) (hi : X.N[i]? = some x := by rfl) (hx : Loc X.env.scope x := by first | exact Or.inl rfl | exact Or.inr rfl)
   (hf : X.fn x = true ∨ X.env.scope.names.lookup x = some .local := by first | exact .inl rfl | exact .inr rfl | assumption) : HS X (.AugAssign (.Name x pos') op e pos) (tAugI3 i te f) := fun D ρ M h =>
 (ps_aug hN hi hx (he.d (ρ := ρ)) ho hf).imp fun D2 σ H ⟨hr, hh, en⟩ => by
   unfold tAugI3 at h
   split at h
   · rename_i a e
     obtain ⟨v, ev, rv⟩ := hr.2 i _ e
     obtain rfl := inv_int rv
     refine ⟨_, ev, M, _, h, hr, hh, fun t v M1 H1 k1 h1 r1 q1 => ?_⟩
     dsimp only at q1
     split at q1
     · obtain rfl := inv_int r1
       exact ⟨a, _, rfl, rfl, en.nx _ M1 _ H1 k1 ((hr.kp k1).set i rep_int) h1 q1⟩
     · exact q1.elim
   · exact h.elim
end L2
namespace L2
open PySem PySem.Spec PyProof.Rows
section
variable {X : Cx} {d : Addr} {ks : List (Str × Addr)}
end
section
variable {X : Cx} {d : Addr} {ks : List (Str × Addr)}
end
end L2
namespace L2
open PySem PySem.Spec PyProof.Rows
section
variable {X : Cx}
end
end L2
namespace L2
open PySem PySem.Spec PyProof.Rows
section
variable {X : Cx} {Ha : Hp} {body : List Stmt} {pos : Pos}
end
end L2
namespace L2
open PySem PySem.Spec PyProof.Rows
open AutoSeq1 (wpAny_loadPart')
section
variable {prog : Program} {w : World} {A : Around} {E : Value → Shared → Prop} {s : Shared}
end
section
variable {X : Cx}
end
theorem starEach_tup {es rest : List Expr} {x1} {pos : Pos} {env : Env} : starEach (.Tuple es x1 pos :: rest) env = (false, eval (.Tuple es x1 pos) env) :: starEach rest env := rfl
theorem a_consT {X : Cx} {es1 es : List Expr} {x1} {pos : Pos} {ta : TE3} {t : TA3} (ha : HE X (.Tuple es1 x1 pos) ta) (hr : HA X es t) : HA X (.Tuple es1 x1 pos :: es) (tCons3 ta t) := a_cons ha hr (hs := starEach_tup)
end L2
namespace L2
open PySem PySem.Spec PyProof.Rows
section
variable {prog : Program} {w : World} {A : Around} {E : Value → Shared → Prop} {s : Shared}
end
section
variable {X : Cx}
end
theorem len_1 {α : Type} {us : List α} {P : List α → Prop} (hl : us.length = 1) (h : ∀ a : α, P [a]) : P us := by
 obtain ⟨a, rfl⟩ := List.length_eq_one_iff.mp hl
 exact h a
theorem len_2 {α : Type} {us : List α} {P : List α → Prop} (hl : us.length = 2) (h : ∀ a b : α, P [a, b]) : P us := by
 obtain ⟨a, r, rfl⟩ := List.exists_cons_of_length_eq_add_one hl
 exact len_1 (P := fun r => P (a :: r)) (Nat.succ.inj hl) (h a)
theorem len_3 {α : Type} {us : List α} {P : List α → Prop} (hl : us.length = 3) (h : ∀ a b c : α, P [a, b, c]) : P us := by
 obtain ⟨a, r, rfl⟩ := List.exists_cons_of_length_eq_add_one hl
 exact len_2 (P := fun r => P (a :: r)) (Nat.succ.inj hl) (h a)
theorem len_4 {α : Type} {us : List α} {P : List α → Prop} (hl : us.length = 4) (h : ∀ a b c d : α, P [a, b, c, d]) : P us := by
 obtain ⟨a, r, rfl⟩ := List.exists_cons_of_length_eq_add_one hl
 exact len_3 (P := fun r => P (a :: r)) (Nat.succ.inj hl) (h a)
theorem len_5 {α : Type} {us : List α} {P : List α → Prop} (hl : us.length = 5) (h : ∀ a b c d e : α, P [a, b, c, d, e]) : P us := by
 obtain ⟨a, r, rfl⟩ := List.exists_cons_of_length_eq_add_one hl
 exact len_4 (P := fun r => P (a :: r)) (Nat.succ.inj hl) (h a)
end L2
namespace L2
open PySem PySem.Spec PyProof.Rows
section
variable {X : Cx}
noncomputable def rCount3 : RM3 := fun x xs M Q => match x, xs with
 | .adr p, [.tup us] => (match M p with | some (.lst ts) => ∃ (R : List (List Int)) (r : List Int), ts = R.map (fun r => T.tup (r.map .int)) ∧ us = r.map .int ∧ Q (.int ((R.count r : Nat) : Int)) M | _ => False)
 | _, _ => False
theorem mt3_count (hu : X.A.units + 64 < cLine) : MtR3 X "list.count" rCount3 := by
 classical
 intro pins s σ H v vs u us Q2 I rv rvs h
 obtain ⟨x, xs, M, Q, r1, r2, hh, q, en⟩ := h
 unfold rCount3 at q
 split at q
 · rename_i p us'
   split at q
   · rename_i ts e0
     obtain ⟨R, r, rfl, rfl, q⟩ := q
     obtain ⟨ys, g1, g2⟩ := hh _ _ e0
     obtain rfl := inv_adr r1
     obtain ⟨w, rfl, rw'⟩ := reps1 r2
     cases rv
     obtain ⟨w', rfl, rvw⟩ := vals1 rvs
     obtain ⟨its, r', pl, hz⟩ := I.list (SqL.of g1)
     obtain ⟨o, n, eo, ec, edd, ed⟩ := id pl
     obtain ⟨cls, dd, data, sl⟩ := o
     simp only at ec edd ed
     subst ec edd ed
     have pu : ∀ r : List Int, pureT (T.tup (r.map T.int)) = true := fun r => by rw [pureT_tup, pureTs_ints]
     have du : ∀ r : List Int, depT (T.tup (r.map T.int)) ≤ 30 := fun r => by rw [depT_tup, depTs_ints]; decide
     let e : Value → Bool := fun y => decide (∃ v, Rep X.K H v (T.tup (r.map .int)) ∧ RelV v y)
     have own : ∀ (a : List Int) (v : V) (y : Value), Rep X.K H v (T.tup (a.map .int)) → RelV v y → SeqAt.EqAt X.A.in1 s y w' (decide (a = r)) ∧ e y = decide (a = r) := by
       intro a v y q1 q2
       have h1 := (eqAt_T I 30 X.A.in1 (T.tup (a.map T.int)) (T.tup (r.map T.int)) v w y w' (du a) (by show X.A.units + 1 + 30 + 1 < cLine; lia) (pu a) (pu r) q1 rw' q2 rvw).1
       have h2 : eqT (T.tup (a.map T.int)) (T.tup (r.map T.int)) = decide (a = r) := by rw [eqT_tup, eqTs_ints]
       rw [h2] at h1
       refine ⟨h1, ?_⟩
       by_cases c : a = r
       · subst c
         rw [decide_eq_true rfl]
         exact decide_eq_true ⟨v, q1, q2⟩
       · rw [decide_eq_false c]
         refine decide_eq_false ?_
         rintro ⟨v', q3, q4⟩
         obtain rfl := RelV.inj q2 q4
         have := rep_det I _ _ _ (pu a) (pu r) q1 q3
         rw [h2] at this
         exact c (of_decide_eq_true this)
     have all : ∀ (R : List (List Int)) (ys : List V) (its : List Value), Reps X.K H ys (R.map fun r => T.tup (r.map .int)) → Vals ys its → (∀ y, y ∈ its → SeqAt.EqAt X.A.in1 s y w' (e y)) ∧ its.countP e = R.count r := by
       intro R
       induction R with
       | nil =>
         intro ys its a b
         rw [List.map_nil] at a
         unfold Reps at a
         subst a
         cases b
         exact ⟨fun y hy => (by cases hy), rfl⟩
       | cons a R ih =>
         intro ys its a1 b
         rw [List.map_cons] at a1
         unfold Reps at a1
         obtain ⟨v, vs, rfl, q1, q2⟩ := a1
         cases b with
         | cons c d =>
           obtain ⟨i1, i2⟩ := ih _ _ q2 d
           obtain ⟨o1, o2⟩ := own a v _ q1 c
           refine ⟨fun y hy => ?_, ?_⟩
           · rcases List.mem_cons.mp hy with rfl | hy
             · rw [o2]; exact o1
             · exact i1 y hy
           · rw [List.countP_cons, List.count_cons, i2, o2]
             by_cases c : a = r
             · simp [c]
             · simp [c]
     obtain ⟨k1, k2⟩ := all R ys its g2 r'
     refine call_meets PySem.F.slot_list_count ⟨_, eo, rfl⟩ PySem.F.entry_list_count (PySem.F.args_list_count_2 _ _) (SeqAt.list_countAt p its.toArray n none sl w' e) ⟨eo, fun y hy => k1 y (by simpa using hy), ?_⟩
     rw [show its.toArray.toList = its from rfl, k2]
     exact ⟨.int (R.count r : Nat), H, I.tok _, ⟨_, rfl⟩, en _ _ M H Kp.refl hh rep_int q⟩
   · exact q.elim
 · exact q.elim
theorem h_m_countU {o e : Expr} {es : List Expr} {to : TE3} {t : TA3} {apos cpos : Pos} (hu : X.A.units + 64 < cLine) (ho : HE X o to) (ha : HA X (e :: es) t)
   (hbase : attributeBase o "count" X.env (eval o X.env) = eval o X.env := by rfl)
   (hfew : ((backTo cpos (starEach (e :: es) X.env)).all (fun x => !x.1) && (backToKw cpos (keywordEach [] X.env)).all (fun x => x.1.isSome)
     && decide ((e :: es).length + ([] : List Keyword).length + (if ([] : List Keyword).isEmpty then 0 else 1) < 30)) = true := by rfl)
   (hline : (apos.endLine == cpos.line) = true := by rfl) (hs : starEach (e :: es) X.env = (false, eval e X.env) :: starEach es X.env := by rfl) (hplain : (backTo cpos (starEach es X.env)).any (·.1) = false := by rfl) :
   HE X (.Call (.Attribute o "count" apos) (e :: es) [] cpos) (tLM3 rCount3 to t) := h_lm PySem.F.slot_list_count PySem.F.type_list_count (mt3_count hu) ho ha hbase hfew hline hs hplain
end
end L2
namespace L2
open PySem PySem.Spec PyProof.Rows
section
variable {X : Cx}
end
end L2
namespace L2
open PySem PySem.Spec PyProof.Rows LM
section
variable {κ : Type} [DecidableEq κ]
end
section
variable {X : Cx}
end
end L2
namespace L2
open PySem PySem.Spec PyProof.Rows LM
noncomputable def g2 (tab : List (List Int)) (a b : Int) : Int := gI (tab.getD a.toNat []) b
end L2
namespace L2
open PySem PySem.Spec PyProof.Rows LM
local macro_rules | `(tactic| walk_at "rd") => `(tactic| (try simp only [ rCount3, tAugI3, rMax3, tRet3, tChain3, tCB3, tCons3, tNil3, tVar3, tK, tOp3, tUn3, tSeq3, tSet3, tNext3, tIfS3, tDrop3, tAsg3, tTest3, tTru3, tNot3, tAnd3, tOr3, tAndV3, tComp3, tTup3, tLst3, tCall3, tLM3, tLM0, tTRng1, tLMS, rIdxS, isSeq, rExt3, tP3, tDic3, tGet3, isDic, rIs3, isNonT, isBlT, tYes3,
 gName3, gCons3, gNil3, gTup3, gSub3, strsT_map, tSl3, tNo3, tPt3, iSeq3, iRevA, iRng1_3, iRng2_3, iRng3_3, tTRng3, rAdd3, rSub3, rMul3, rDiv3, rMod3, rPow3, rInt, rNeg3, rIx3, rLen3, rAbs3, rTuple3, rAll3, rApp3, rPop3, rIndex3, rLt3, rLe3, rGt3, rGe3, rCmp3, rEq3, rNe3, rEqv, truT, isLst,
 start3_cons, start3_none, start3_nil, pick3_none, pick3_some, pick3_nil, join_some, List.getElem?_cons_zero, List.getElem?_cons_succ, List.set_cons_zero, List.set_cons_succ, List.length_cons, List.length_nil, List.map_nil, List.isEmpty_cons, List.isEmpty_nil, updM_same, updM_updM, atI_0, atI_1, atI_2, ixN_0, bools_map, intsT_map,
 pureT_int, pureT_bl, pureT_tup, pureTs_cons, pureTs_nil, pureTs_ints, depT_int, depT_bl, depT_tup, depTs_cons, depTs_nil, depTs_ints, eqT_tup, eqT_int, eqTs_cons, eqTs_nil, eqTs_ints, id, Bool.not_true, Bool.not_false, Bool.and_true, Bool.true_and, Bool.or_false, Bool.false_or,
 decide_eq_true_eq, Bool.not_eq_true', decide_eq_false_iff_not, Bool.false_eq_true, ↓reduceIte, if_true, if_false, true_and, and_true, and_self, Nat.zero_le, not_true_eq_false, not_false_eq_true, List.length_map, List.length_append, List.length_singleton]))
noncomputable abbrev top (i : Nat) : Stmt := PySem.Challenge.pw_loopwright_k28_whole_the_same_just_where.main.body.getD i (.Pass ⟨0, 0, 0, 0⟩)
noncomputable abbrev s_is_letter : Stmt := top 7
noncomputable abbrev s_is_word : Stmt := top 8
noncomputable abbrev s_is_plait : Stmt := top 9
noncomputable abbrev s_looked : Stmt := top 10
noncomputable abbrev s_looked_both : Stmt := top 11
noncomputable abbrev s_contrary : Stmt := top 12
noncomputable abbrev s_without_pairs : Stmt := top 13
noncomputable abbrev s_exchanged : Stmt := top 14
noncomputable abbrev s_places_in : Stmt := top 15
noncomputable abbrev s_plain_order : Stmt := top 17
noncomputable abbrev s_half_twist : Stmt := top 18
noncomputable abbrev s_can_begin : Stmt := top 19
noncomputable abbrev s_flipped_order : Stmt := top 20
noncomputable abbrev s_order_for : Stmt := top 21
noncomputable abbrev s_moved_ahead : Stmt := top 22
noncomputable abbrev s_put_behind : Stmt := top 23
noncomputable abbrev s_form_by_letters : Stmt := top 24
noncomputable abbrev s_form_of : Stmt := top 25
noncomputable abbrev s_same_form : Stmt := top 26
noncomputable abbrev s_made_by_letter : Stmt := top 28
noncomputable abbrev s_made_by_word : Stmt := top 29
noncomputable abbrev s_unlike : Stmt := top 30
noncomputable abbrev s_alike : Stmt := top 31
noncomputable abbrev s__law_cell_at : Stmt := top 33
noncomputable abbrev s__law_state : Stmt := top 34
noncomputable abbrev s__law_choice : Stmt := top 35
noncomputable abbrev s__law_word : Stmt := top 36
noncomputable abbrev s__law_plait : Stmt := top 37
noncomputable abbrev s__law_stepped : Stmt := top 38
noncomputable abbrev s__law_led : Stmt := top 39
noncomputable abbrev s__law_two : Stmt := top 40
noncomputable abbrev s_law : Stmt := top 41
theorem sc_is_letter : FnScope ["strands", "letter"] ["strands", "letter"] (defScope s_is_letter) := ⟨rfl, rfl, rfl, by decide +kernel, rfl, by decide +kernel, by decide +kernel⟩
theorem sc_is_word : FnScope ["strands", "word", "most"] ["strands", "word", "most"] (defScope s_is_word) := ⟨rfl, rfl, rfl, by decide +kernel, rfl, by decide +kernel, by decide +kernel⟩
theorem sc_is_plait : FnScope ["plait"] ["plait"] (defScope s_is_plait) := ⟨rfl, rfl, rfl, by decide +kernel, rfl, by decide +kernel, by decide +kernel⟩
theorem sc_looked : FnScope ["plait"] ["plait"] (defScope s_looked) := ⟨rfl, rfl, rfl, by decide +kernel, rfl, by decide +kernel, by decide +kernel⟩
theorem sc_looked_both : FnScope ["one", "other", "letters"] ["one", "other"] (defScope s_looked_both) := ⟨rfl, rfl, rfl, by decide +kernel, rfl, by decide +kernel, by decide +kernel⟩
theorem sc_contrary : FnScope ["word"] ["word"] (defScope s_contrary) := ⟨rfl, rfl, rfl, by decide +kernel, rfl, by decide +kernel, by decide +kernel⟩
theorem sc_without_pairs : FnScope ["word", "kept", "letter"] ["word"] (defScope s_without_pairs) := ⟨rfl, rfl, rfl, by decide +kernel, rfl, by decide +kernel, by decide +kernel⟩
theorem sc_exchanged : FnScope ["row", "at"] ["row", "at"] (defScope s_exchanged) := ⟨rfl, rfl, rfl, by decide +kernel, rfl, by decide +kernel, by decide +kernel⟩
theorem sc_places_in : FnScope ["order"] ["order"] (defScope s_places_in) := ⟨rfl, rfl, rfl, by decide +kernel, rfl, by decide +kernel, by decide +kernel⟩
theorem sc_plain_order : FnScope ["strands"] ["strands"] (defScope s_plain_order) := ⟨rfl, rfl, rfl, by decide +kernel, rfl, by decide +kernel, by decide +kernel⟩
theorem sc_half_twist : FnScope ["strands"] ["strands"] (defScope s_half_twist) := ⟨rfl, rfl, rfl, by decide +kernel, rfl, by decide +kernel, by decide +kernel⟩
theorem sc_can_begin : FnScope ["order", "letter"] ["order", "letter"] (defScope s_can_begin) := ⟨rfl, rfl, rfl, by decide +kernel, rfl, by decide +kernel, by decide +kernel⟩
theorem sc_flipped_order : FnScope ["order"] ["order"] (defScope s_flipped_order) := ⟨rfl, rfl, rfl, by decide +kernel, rfl, by decide +kernel, by decide +kernel⟩
theorem sc_order_for : FnScope ["strands", "letter"] ["strands", "letter"] (defScope s_order_for) := ⟨rfl, rfl, rfl, by decide +kernel, rfl, by decide +kernel, by decide +kernel⟩
theorem sc_moved_ahead : FnScope ["one", "other", "ends", "letter"] ["one", "other"] (defScope s_moved_ahead) := ⟨rfl, rfl, rfl, by decide +kernel, rfl, by decide +kernel, by decide +kernel⟩
theorem sc_put_behind : FnScope ["orders", "order", "at", "pair"] ["orders", "order"] (defScope s_put_behind) := ⟨rfl, rfl, rfl, by decide +kernel, rfl, by decide +kernel, by decide +kernel⟩
theorem sc_form_by_letters : FnScope ["strands", "word", "still_to_pass", "power", "orders", "letter", "order", "twists"] ["strands", "word"] (defScope s_form_by_letters) := ⟨rfl, rfl, rfl, by decide +kernel, rfl, by decide +kernel, by decide +kernel⟩
theorem sc_form_of : FnScope ["plait"] ["plait"] (defScope s_form_of) := ⟨rfl, rfl, rfl, by decide +kernel, rfl, by decide +kernel, by decide +kernel⟩
theorem sc_same_form : FnScope ["one", "other"] ["one", "other"] (defScope s_same_form) := ⟨rfl, rfl, rfl, by decide +kernel, rfl, by decide +kernel, by decide +kernel⟩
theorem sc_made_by_letter : FnScope ["letter", "i", "first", "second"] ["letter"] (defScope s_made_by_letter) := ⟨rfl, rfl, rfl, by decide +kernel, rfl, by decide +kernel, by decide +kernel⟩
theorem sc_made_by_word : FnScope ["word", "j", "free", "letter", "made", "letters", "x"] ["word", "j"] (defScope s_made_by_word) := ⟨rfl, rfl, rfl, by decide +kernel, rfl, by decide +kernel, by decide +kernel⟩
theorem sc_unlike : FnScope ["one", "other", "j", "of_one", "of_other"] ["one", "other"] (defScope s_unlike) := ⟨rfl, rfl, rfl, by decide +kernel, rfl, by decide +kernel, by decide +kernel⟩
theorem sc_alike : FnScope ["one", "other"] ["one", "other"] (defScope s_alike) := ⟨rfl, rfl, rfl, by decide +kernel, rfl, by decide +kernel, by decide +kernel⟩
theorem sc__law_cell_at : FnScope ["script", "k"] ["script", "k"] (defScope s__law_cell_at) := ⟨rfl, rfl, rfl, by decide +kernel, rfl, by decide +kernel, by decide +kernel⟩
theorem sc__law_state : FnScope ["script", "k", "cell"] ["script", "k"] (defScope s__law_state) := ⟨rfl, rfl, rfl, by decide +kernel, rfl, by decide +kernel, by decide +kernel⟩
theorem sc__law_choice : FnScope ["state", "many", "found", "mixed"] ["state", "many"] (defScope s__law_choice) := ⟨rfl, rfl, rfl, by decide +kernel, rfl, by decide +kernel, by decide +kernel⟩
theorem sc__law_word : FnScope ["state", "strands", "count"] ["state", "strands", "count"] (defScope s__law_word) := ⟨rfl, rfl, rfl, by decide +kernel, rfl, by decide +kernel, by decide +kernel⟩
theorem sc__law_plait : FnScope ["state", "least", "most", "letters", "strands"] ["state", "least", "most", "letters"] (defScope s__law_plait) := ⟨rfl, rfl, rfl, by decide +kernel, rfl, by decide +kernel, by decide +kernel⟩
theorem sc__law_stepped : FnScope ["state", "strands", "word", "kind", "at", "letter", "places", "count", "row"] ["state", "strands", "word"] (defScope s__law_stepped) := ⟨rfl, rfl, rfl, by decide +kernel, rfl, by decide +kernel, by decide +kernel⟩
theorem sc__law_led : FnScope ["state", "strands", "word", "steps", "most", "k", "more"] ["state", "strands", "word", "steps", "most"] (defScope s__law_led) := ⟨rfl, rfl, rfl, by decide +kernel, rfl, by decide +kernel, by decide +kernel⟩
theorem sc__law_two : FnScope ["state", "letters", "one", "kind", "at"] ["state", "letters"] (defScope s__law_two) := ⟨rfl, rfl, rfl, by decide +kernel, rfl, by decide +kernel, by decide +kernel⟩
theorem sc_law : FnScope ["script", "one", "other", "due"] ["script"] (defScope s_law) := ⟨rfl, rfl, rfl, by decide +kernel, rfl, by decide +kernel, by decide +kernel⟩
structure Zs (mg : Str → Option Value) : Prop where
 b_abs : mg "abs" = none
 b_all : mg "all" = none
 b_len : mg "len" = none
 b_max : mg "max" = none
 b_range : mg "range" = none
 b_reversed : mg "reversed" = none
 b_tuple : mg "tuple" = none
 c_MOST_LETTERS : ∃ tk, mg "MOST_LETTERS" = some (.int 16 tk)
 c_MOST_STRANDS : ∃ tk, mg "MOST_STRANDS" = some (.int 6 tk)
noncomputable def sp_is_letter : Sp3 := fun ts M Q => match ts with
 | [.int n, .int l] => Q (.bl (isLet n l)) M
 | _ => False
theorem ok_is_letter {P : Program} {w : World} {K : PySem.W.Frag} {mg : Str → Option Value} {base : Heap} {f : Addr} {fd : FuncData} {n : Nat}  (F : Fun K "is_letter" "is_letter" s_is_letter f fd) (hm : mg "is_letter" = some (.ref f)) (hb : Binds K fd ["strands", "letter"] []) (Z : Zs mg)  : Df P w K mg base (n + 1) "is_letter" ["strands", "letter"] sp_is_letter := by
 refine F.dfn hm hb sc_is_letter (by intro ts M Q h; unfold sp_is_letter at h; first | (split at h <;> first | rfl | exact h.elim) | (obtain ⟨_, _, _, _, _, rfl, _⟩ := h; rfl) | (obtain ⟨_, _, _, _, rfl, _⟩ := h; rfl) | (obtain ⟨_, _, _, rfl, _⟩ := h; rfl) | (obtain ⟨_, _, rfl, _⟩ := h; rfl) | (obtain ⟨_, rfl, _⟩ := h; rfl)) ⟨_, fun cdv A outer s H E hr => (ss_one (s_ret (h_chain op3_le op3_lt h_int (h_callB call3_abs Z.b_abs PyProof.Rows.boot_abs (a_cons (hv 1) a_nil)) (hv 0)))), fun ts M Q h => ?_⟩
 unfold sp_is_letter isLet at h
 split at h
 · rename_i n l
   walk_at "rd"
   refine ite2 (fun c => rt3_here ?_) (fun c => rt3_here ?_)
   · simpa [show 1 ≤ l.natAbs by lia] using h
   · simpa [show ¬ 1 ≤ l.natAbs by lia] using h
 · exact h.elim
noncomputable def sp_is_word : Sp3 := fun ts M Q => match ts with
 | [.int n, .tup w, .int k] => ∃ ws : List Int, w = ws.map .int ∧ ws.length < 10000 ∧ Q (.bl (isWd n ws k)) M
 | _ => False
theorem ok_is_word {P : Program} {w : World} {K : PySem.W.Frag} {mg : Str → Option Value} {base : Heap} {f : Addr} {fd : FuncData} {n : Nat}  (F : Fun K "is_word" "is_word" s_is_word f fd) (hm : mg "is_word" = some (.ref f)) (hb : Binds K fd ["strands", "word", "most"] []) (Z : Zs mg) (D_is_letter : Df P w K mg base n "is_letter" ["strands", "letter"] sp_is_letter) : Df P w K mg base (n + 1) "is_word" ["strands", "word", "most"] sp_is_word := by
 obtain ⟨tk_MOST_STRANDS, c_MOST_STRANDS⟩ := Z.c_MOST_STRANDS
 refine F.dfn hm hb sc_is_word (by intro ts M Q h; unfold sp_is_word at h; first | (split at h <;> first | rfl | exact h.elim) | (obtain ⟨_, _, _, _, _, rfl, _⟩ := h; rfl) | (obtain ⟨_, _, _, _, rfl, _⟩ := h; rfl) | (obtain ⟨_, _, _, rfl, _⟩ := h; rfl) | (obtain ⟨_, _, rfl, _⟩ := h; rfl) | (obtain ⟨_, rfl, _⟩ := h; rfl)) ⟨_, fun cdv A outer s H E hr => (ss_cons (s_if (HW.ht (w_or (h_not (h_tchain op3_le op3_le h_int (hv 0) (h_globI c_MOST_STRANDS))) (w_or1 (h_tcmp op3_gt (h_callB call3_len Z.b_len PySem.boot_len (a_cons (hv 1) a_nil)) (hv 2) (nomark _))))) (ss_one (s_ret h_bl)) ss_nil) (ss_one (s_ret (h_callB (call3_all rfl) Z.b_all PyProof.Rows.boot_all (a_cons (h_comp rfl (i_seq (hv 1)) (blk_scope (outer := defScope s_is_word) (N := ["strands", "word", "most"]) (N' := ["letter", "strands"]) (ix := [none, some 0]) (by decide +kernel) rfl rfl) bt_name (fun _ _ _ _ _ => pg_name (i := 0) (show List.Nodup (["letter", "strands"] : List Str) by decide +kernel) rfl (Or.inl rfl) (Or.inr rfl)) (fun _ _ _ _ _ => ts_nil) (fun _ _ _ _ _ => (h_call D_is_letter hr (a_cons (hv 1) (a_cons (hv 0) a_nil))))) a_nil))))), fun ts M Q h => ?_⟩
 unfold sp_is_word at h
 split at h
 · rename_i n w k
   obtain ⟨ws, rfl, hl, h⟩ := h
   unfold isWd at h
   walk_at "rd"
   refine ite2 (fun c1 => ite2 (fun c2 => ?_) fun c2 => ite2 (fun c3 => ?_) fun c3 => ?_) fun c1 => ?_
   · rw [decide_eq_false c2, Bool.and_false, Bool.false_and] at h
     exact rt3_here h
   · rw [decide_eq_false (show ¬ (ws.length : Int) ≤ k by lia), Bool.and_false, Bool.false_and] at h
     exact rt3_here h
   · rw [decide_eq_true c1, decide_eq_true (show n ≤ 6 by lia), decide_eq_true (show (ws.length : Int) ≤ k by lia)] at h
     refine ⟨fun i ys M' => ys = ((ws.take i).map (isLet n)).map T.bl ∧ M' = M, ⟨rfl, rfl⟩, fun _ _ _ _ => trivial, Nat.lt_of_le_of_lt (by lia : ws.length ≤ 10000) (by decide), ?_, ?_⟩
     · rintro i x ys M' hx ⟨rfl, rfl⟩
       obtain ⟨l, hl', rfl⟩ := get_map_int hx
       unfold sp_is_letter
       refine ⟨?_, rfl⟩
       rw [← take_succ_map (isLet n) hl', List.map_append]; rfl
     · rintro ys M' ⟨rfl, rfl⟩ p hp
       rw [List.take_length, bools_map]
       refine rt3_sub (M0 := M') ?_ (Sub.new hp)
       rw [List.all_map]
       exact h
   · rw [decide_eq_false c1, Bool.false_and, Bool.false_and, Bool.false_and] at h
     exact rt3_here h
 · exact h.elim
noncomputable def sp_is_plait : Sp3 := fun ts M Q => match ts with
 | [.tup [.int n, .tup w]] => ∃ ws : List Int, w = ws.map .int ∧ ws.length < 10000 ∧ Q (.bl (isPl n ws)) M
 | _ => False
theorem ok_is_plait {P : Program} {w : World} {K : PySem.W.Frag} {mg : Str → Option Value} {base : Heap} {f : Addr} {fd : FuncData} {n : Nat}  (F : Fun K "is_plait" "is_plait" s_is_plait f fd) (hm : mg "is_plait" = some (.ref f)) (hb : Binds K fd ["plait"] []) (Z : Zs mg) (D_is_word : Df P w K mg base n "is_word" ["strands", "word", "most"] sp_is_word) : Df P w K mg base (n + 1) "is_plait" ["plait"] sp_is_plait := by
 obtain ⟨tk_MOST_LETTERS, c_MOST_LETTERS⟩ := Z.c_MOST_LETTERS
 refine F.dfn hm hb sc_is_plait (by intro ts M Q h; unfold sp_is_plait at h; first | (split at h <;> first | rfl | exact h.elim) | (obtain ⟨_, _, _, _, _, rfl, _⟩ := h; rfl) | (obtain ⟨_, _, _, _, rfl, _⟩ := h; rfl) | (obtain ⟨_, _, _, rfl, _⟩ := h; rfl) | (obtain ⟨_, _, rfl, _⟩ := h; rfl) | (obtain ⟨_, rfl, _⟩ := h; rfl)) ⟨_, fun cdv A outer s H E hr => (ss_one (s_ret (h_call D_is_word hr (a_cons (h_ix (hv 0) h_int) (a_cons (h_ix (hv 0) h_int) (a_cons (h_globI c_MOST_LETTERS) a_nil)))))), fun ts M Q h => ?_⟩
 unfold sp_is_plait at h
 split at h
 · rename_i n w
   obtain ⟨ws, rfl, hl, h⟩ := h
   walk_at "rd"
   refine ⟨ws, rfl, hl, ?_⟩
   rw [isWd_16]
   exact rt3_here h
 · exact h.elim
noncomputable def sp_looked : Sp3 := fun ts M Q => match ts with
 | [.tup [.int n, .tup w]] => ∃ ws : List Int, w = ws.map .int ∧ PlOK n ws ∧ Q (.int ws.length) M
 | _ => False
theorem ok_looked {P : Program} {w : World} {K : PySem.W.Frag} {mg : Str → Option Value} {base : Heap} {f : Addr} {fd : FuncData} {n : Nat}  (F : Fun K "looked" "looked" s_looked f fd) (hm : mg "looked" = some (.ref f)) (hb : Binds K fd ["plait"] []) (Z : Zs mg) (D_is_plait : Df P w K mg base n "is_plait" ["plait"] sp_is_plait) : Df P w K mg base (n + 1) "looked" ["plait"] sp_looked := by
 refine F.dfn hm hb sc_looked (by intro ts M Q h; unfold sp_looked at h; first | (split at h <;> first | rfl | exact h.elim) | (obtain ⟨_, _, _, _, _, rfl, _⟩ := h; rfl) | (obtain ⟨_, _, _, _, rfl, _⟩ := h; rfl) | (obtain ⟨_, _, _, rfl, _⟩ := h; rfl) | (obtain ⟨_, _, rfl, _⟩ := h; rfl) | (obtain ⟨_, rfl, _⟩ := h; rfl)) ⟨_, fun cdv A outer s H E hr => (ss_cons (s_if (h_not (h_truth (h_call D_is_plait hr (a_cons (hv 0) a_nil)))) (ss_one s_never) ss_nil) (ss_one (s_ret (h_callB call3_len Z.b_len PySem.boot_len (a_cons (h_ix (hv 0) h_int) a_nil))))), fun ts M Q h => ?_⟩
 unfold sp_looked at h
 split at h
 · rename_i n w
   obtain ⟨ws, rfl, ok, h⟩ := h
   walk_at "rd"
   refine ⟨ws, rfl, by have := ok.2.2.1; lia, ?_⟩
   rw [ok.is]
   walk_at "rd"
   exact rt3_here (M := M) h
 · exact h.elim
noncomputable def sp_looked_both : Sp3 := fun ts M Q => match ts with
 | [.tup [.int n, .tup w], .tup [.int m, .tup v]] => ∃ ws vs : List Int, w = ws.map .int ∧ v = vs.map .int ∧ n = m ∧ PlOK n ws ∧ PlOK n vs ∧ Q (.int (ws.length + vs.length)) M
 | _ => False
theorem ok_looked_both {P : Program} {w : World} {K : PySem.W.Frag} {mg : Str → Option Value} {base : Heap} {f : Addr} {fd : FuncData} {n : Nat}  (F : Fun K "looked_both" "looked_both" s_looked_both f fd) (hm : mg "looked_both" = some (.ref f)) (hb : Binds K fd ["one", "other"] []) (Z : Zs mg) (D_looked : Df P w K mg base n "looked" ["plait"] sp_looked) : Df P w K mg base (n + 1) "looked_both" ["one", "other"] sp_looked_both := by
 refine F.dfn hm hb sc_looked_both (by intro ts M Q h; unfold sp_looked_both at h; first | (split at h <;> first | rfl | exact h.elim) | (obtain ⟨_, _, _, _, _, rfl, _⟩ := h; rfl) | (obtain ⟨_, _, _, _, rfl, _⟩ := h; rfl) | (obtain ⟨_, _, _, rfl, _⟩ := h; rfl) | (obtain ⟨_, _, rfl, _⟩ := h; rfl) | (obtain ⟨_, rfl, _⟩ := h; rfl)) ⟨_, fun cdv A outer s H E hr => (ss_cons (s_set (i := 2) (h_bin op3_add (h_call D_looked hr (a_cons (hv 0) a_nil)) (h_call D_looked hr (a_cons (hv 1) a_nil))) sc_looked_both.nd) (ss_cons (s_if (h_tcmp (op3_ne hr.units) (h_ix (hv 0) h_int) (h_ix (hv 1) h_int) (nomark _)) (ss_one s_never) ss_nil) (ss_one (s_ret (hv 2))))), fun ts M Q h => ?_⟩
 unfold sp_looked_both at h
 split at h
 · rename_i n w m v
   obtain ⟨ws, vs, rfl, rfl, rfl, ok1, ok2, h⟩ := h
   walk_at "rd"
   refine ⟨ws, rfl, ok1, ?_⟩
   walk_at "rd"
   refine ⟨vs, rfl, ok2, ?_⟩
   walk_at "rd"
   exact rt3_here h
 · exact h.elim
noncomputable def sp_contrary : Sp3 := fun ts M Q => match ts with
 | [.tup w] => ∃ ws : List Int, w = ws.map .int ∧ ws.length < 10000 ∧ Q (.tup ((contrL ws).map .int)) M
 | _ => False
theorem ok_contrary {P : Program} {w : World} {K : PySem.W.Frag} {mg : Str → Option Value} {base : Heap} {f : Addr} {fd : FuncData} {n : Nat}  (F : Fun K "contrary" "contrary" s_contrary f fd) (hm : mg "contrary" = some (.ref f)) (hb : Binds K fd ["word"] []) (Z : Zs mg)  : Df P w K mg base (n + 1) "contrary" ["word"] sp_contrary := by
 refine F.dfn hm hb sc_contrary (by intro ts M Q h; unfold sp_contrary at h; first | (split at h <;> first | rfl | exact h.elim) | (obtain ⟨_, _, _, _, _, rfl, _⟩ := h; rfl) | (obtain ⟨_, _, _, _, rfl, _⟩ := h; rfl) | (obtain ⟨_, _, _, rfl, _⟩ := h; rfl) | (obtain ⟨_, _, rfl, _⟩ := h; rfl) | (obtain ⟨_, rfl, _⟩ := h; rfl)) ⟨_, fun cdv A outer s H E hr => (ss_one (s_ret (h_callT call3_tuple Z.b_tuple PyProof.Rows.boot_tuple (a_cons (h_comp rfl (i_reversedA Z.b_reversed (hv 0)) (blk_scope (outer := defScope s_contrary) (N := ["word"]) (N' := ["letter"]) (ix := [none]) (by decide +kernel) rfl rfl) bt_name (fun _ _ _ _ _ => pg_name (i := 0) (show List.Nodup (["letter"] : List Str) by decide +kernel) rfl (Or.inl rfl) (Or.inr rfl)) (fun _ _ _ _ _ => ts_nil) (fun _ _ _ _ _ => (h_un un3_neg (hv 0)))) a_nil)))), fun ts M Q h => ?_⟩
 unfold sp_contrary at h
 split at h
 · rename_i w
   obtain ⟨ws, rfl, hl, h⟩ := h
   walk_at "rd"
   refine ⟨fun i ys M' => ys = ((ws.reverse.take i).map (fun l => -l)).map T.int ∧ M' = M, ⟨rfl, rfl⟩, fun _ _ _ _ => trivial, ?_, ?_, ?_⟩
   · rw [List.length_reverse, List.length_map]; exact Nat.lt_of_le_of_lt (by lia : ws.length ≤ 10000) (by decide)
   · rintro i x ys M' hx ⟨rfl, rfl⟩
     rw [← List.map_reverse] at hx
     obtain ⟨l, hl', rfl⟩ := get_map_int hx
     walk_at "rd"
     rw [← take_succ_map (fun l : Int => -l) hl', List.map_append]; rfl
   · rintro ys M' ⟨rfl, rfl⟩ p hp
     rw [← List.map_reverse, List.length_map, List.take_length]
     exact rt3_sub (M0 := M') h (Sub.new hp)
 · exact h.elim
noncomputable def sp_without_pairs : Sp3 := fun ts M Q => match ts with
 | [.tup w] => ∃ ws : List Int, w = ws.map .int ∧ ws.length < 2 ^ 23 ∧ Q (.tup ((redL ws).map .int)) M
 | [.adr q] => ∃ ws : List Int, M q = some (.lst (ws.map .int)) ∧ ws.length < 2 ^ 23 ∧ Q (.tup ((redL ws).map .int)) M
 | _ => False
theorem ok_without_pairs {P : Program} {w : World} {K : PySem.W.Frag} {mg : Str → Option Value} {base : Heap} {f : Addr} {fd : FuncData} {n : Nat}  (F : Fun K "without_pairs" "without_pairs" s_without_pairs f fd) (hm : mg "without_pairs" = some (.ref f)) (hb : Binds K fd ["word"] []) (Z : Zs mg)  : Df P w K mg base (n + 1) "without_pairs" ["word"] sp_without_pairs := by
 refine F.dfn hm hb sc_without_pairs (by intro ts M Q h; unfold sp_without_pairs at h; first | (split at h <;> first | rfl | exact h.elim) | (obtain ⟨_, _, _, _, _, rfl, _⟩ := h; rfl) | (obtain ⟨_, _, _, _, rfl, _⟩ := h; rfl) | (obtain ⟨_, _, _, rfl, _⟩ := h; rfl) | (obtain ⟨_, _, rfl, _⟩ := h; rfl) | (obtain ⟨_, rfl, _⟩ := h; rfl)) ⟨_, fun cdv A outer s H E hr => (ss_cons (s_set (i := 1) (h_lst a_nil) sc_without_pairs.nd) (ss_cons (s_for PassesOwn.never rfl (i_seq (hv 0)) (g_name (i := 2) sc_without_pairs.nd) (ss_one (s_if (HW.ht (w_and (h_truth (hv 1)) (w_and1 (h_tcmp (op3_eq hr.units) (h_ix (hv 1) (h_un un3_neg h_int)) (h_un un3_neg (hv 2)) (nomark _))))) (ss_one (s_expr (h_m_pop (hv 1) a_nil))) (ss_one (s_expr (h_m_append (hv 1) (a_cons (hv 2) a_nil))))))) (ss_one (s_ret (h_callT call3_tuple Z.b_tuple PyProof.Rows.boot_tuple (a_cons (hv 1) a_nil)))))), fun ts M Q h => ?_⟩
 unfold sp_without_pairs at h
 split at h
 · rename_i w
   obtain ⟨ws, rfl, hl, h⟩ := h
   walk_at "rd"
   refine fun p hp => ⟨fun i ρ M' => ∃ c, ρ = [some (T.tup (ws.map T.int)), some (.adr p), c] ∧ M' p = some (.lst ((redS [] (ws.take i)).reverse.map T.int)) ∧ Sub M M', ⟨_, rfl, updM_same, Sub.new hp⟩, fun _ _ _ _ => trivial, ?_, ?_⟩
   · rintro i x ρ M' hx ⟨c, rfl, hM, hS⟩
     obtain ⟨l, hl', rfl⟩ := get_map_int hx
     have e := redS_succ (st := []) hl'
     have hlen : (redS [] (ws.take i)).length ≤ i := by
       have := redS_length (ws.take i) []
       rw [List.length_take] at this
       simp at this
       lia
     have hi := (List.getElem?_eq_some_iff.mp hl').1
     have hiw := (List.getElem?_eq_some_iff.mp hl').1
     walk_at "rd"
     simp only [e, hM]
     generalize redS [] (ws.take i) = st at hM hlen ⊢
     cases st with
     | nil =>
       have e0 : (List.map T.int ([] : List Int).reverse).isEmpty = true := rfl
       rw [if_neg (by rw [e0]; decide)]
       walk_at "rd"
       exact ⟨by decide, _, rfl, rfl, hS.updF hp⟩
     | cons x t =>
       have e0 : List.map T.int (x :: t).reverse = List.map T.int t.reverse ++ [T.int x] := by rw [List.reverse_cons, List.map_append]; rfl
       have e3 : (x :: t).reverse.length = t.length + 1 := by rw [List.length_reverse, List.length_cons]
       have e4 : t.length < 2 ^ 23 := by rw [List.length_cons] at hlen; lia
       rw [e0, e3] at *
       have e1 : (List.map T.int t.reverse ++ [T.int x]).isEmpty = false := by simp
       have e2 : (List.map T.int t.reverse ++ [T.int x])[t.reverse.length + (0 + 1) - 1]? = some (T.int x) := by
         rw [List.getElem?_append_right (by simp)]
         simp
       have e6 : (List.map T.int t.reverse ++ [T.int x]).dropLast = List.map T.int t.reverse := by simp
       simp only [e1, atI_last, e6]
       walk_at "rd"
       try simp only [e2]
       refine ite2 (fun c => ⟨_, rfl, ?_, hS.updF hp⟩) (fun c => ⟨line_big (by rw [List.length_reverse]; rw [List.length_cons] at hlen; lia), _, rfl, ?_, hS.updF hp⟩)
       · have e5 : stepL (x :: t) l = t := by show (if x = -l then t else _) = t; rw [if_pos c]
         rw [e5]
       · have e5 : stepL (x :: t) l = l :: x :: t := by show (if x = -l then t else _) = _; rw [if_neg c]
         rw [e5]
         simp
   · rintro ρ M' ⟨c, rfl, hM, hS⟩
     walk_at "rd"
     have e : (It3.mk (ws.map T.int) fun _ => True).items.length = ws.length := List.length_map ..
     rw [e, List.take_length] at hM
     simp only [hM]
     exact rt3_sub h hS
 · rename_i q
   obtain ⟨ws, hM0, hl, h⟩ := h
   walk_at "rd"
   refine fun p hp => ?_
   have hq : updM M p (.lst []) q = some (.lst (ws.map T.int)) := by rw [updM_ne (ne_of_M hM0 hp), hM0]
   unfold tFor3
   walk_at "rd"
   simp only [hq]
   refine ⟨fun i ρ M' => ∃ c, ρ = [some (T.adr q), some (.adr p), c] ∧ M' p = some (.lst ((redS [] (ws.take i)).reverse.map T.int)) ∧ Sub M M', ⟨_, rfl, updM_same, Sub.new hp⟩, fun _ _ _ ⟨_, _, _, hS⟩ => hS _ _ hM0, ?_, ?_⟩
   · rintro i x ρ M' hx ⟨c, rfl, hM, hS⟩
     obtain ⟨l, hl', rfl⟩ := get_map_int hx
     have e := redS_succ (st := []) hl'
     have hlen : (redS [] (ws.take i)).length ≤ i := by
       have := redS_length (ws.take i) []
       rw [List.length_take] at this
       simp at this
       lia
     have hi := (List.getElem?_eq_some_iff.mp hl').1
     have hiw := (List.getElem?_eq_some_iff.mp hl').1
     walk_at "rd"
     simp only [e, hM]
     generalize redS [] (ws.take i) = st at hM hlen ⊢
     cases st with
     | nil =>
       have e0 : (List.map T.int ([] : List Int).reverse).isEmpty = true := rfl
       rw [if_neg (by rw [e0]; decide)]
       walk_at "rd"
       exact ⟨by decide, _, rfl, rfl, hS.updF hp⟩
     | cons x t =>
       have e0 : List.map T.int (x :: t).reverse = List.map T.int t.reverse ++ [T.int x] := by rw [List.reverse_cons, List.map_append]; rfl
       have e3 : (x :: t).reverse.length = t.length + 1 := by rw [List.length_reverse, List.length_cons]
       have e4 : t.length < 2 ^ 23 := by rw [List.length_cons] at hlen; lia
       rw [e0, e3] at *
       have e1 : (List.map T.int t.reverse ++ [T.int x]).isEmpty = false := by simp
       have e2 : (List.map T.int t.reverse ++ [T.int x])[t.reverse.length + (0 + 1) - 1]? = some (T.int x) := by
         rw [List.getElem?_append_right (by simp)]
         simp
       have e6 : (List.map T.int t.reverse ++ [T.int x]).dropLast = List.map T.int t.reverse := by simp
       simp only [e1, atI_last, e6]
       walk_at "rd"
       try simp only [e2]
       refine ite2 (fun c => ⟨_, rfl, ?_, hS.updF hp⟩) (fun c => ⟨line_big (by rw [List.length_reverse]; rw [List.length_cons] at hlen; lia), _, rfl, ?_, hS.updF hp⟩)
       · have e5 : stepL (x :: t) l = t := by show (if x = -l then t else _) = t; rw [if_pos c]
         rw [e5]
       · have e5 : stepL (x :: t) l = l :: x :: t := by show (if x = -l then t else _) = _; rw [if_neg c]
         rw [e5]
         simp
   · rintro ρ M' ⟨c, rfl, hM, hS⟩
     walk_at "rd"
     have e : (It3.mk (ws.map T.int) fun _ => True).items.length = ws.length := List.length_map ..
     rw [e, List.take_length] at hM
     simp only [hM]
     exact rt3_sub h hS
 · exact h.elim
noncomputable def sp_exchanged : Sp3 := fun ts M Q => match ts with
 | [.tup w, .int k] => ∃ ws : List Int, w = ws.map .int ∧ 0 ≤ k ∧ k + 1 < ws.length ∧ ws.length < 10000 ∧ Q (.tup ((swapN ws k.toNat).map .int)) M
 | _ => False
theorem ok_exchanged {P : Program} {w : World} {K : PySem.W.Frag} {mg : Str → Option Value} {base : Heap} {f : Addr} {fd : FuncData} {n : Nat}  (F : Fun K "exchanged" "exchanged" s_exchanged f fd) (hm : mg "exchanged" = some (.ref f)) (hb : Binds K fd ["row", "at"] []) (Z : Zs mg)  : Df P w K mg base (n + 1) "exchanged" ["row", "at"] sp_exchanged := by
 refine F.dfn hm hb sc_exchanged (by intro ts M Q h; unfold sp_exchanged at h; first | (split at h <;> first | rfl | exact h.elim) | (obtain ⟨_, _, _, _, _, rfl, _⟩ := h; rfl) | (obtain ⟨_, _, _, _, rfl, _⟩ := h; rfl) | (obtain ⟨_, _, _, rfl, _⟩ := h; rfl) | (obtain ⟨_, _, rfl, _⟩ := h; rfl) | (obtain ⟨_, rfl, _⟩ := h; rfl)) ⟨_, fun cdv A outer s H E hr => (ss_one (s_ret (h_bin op3_add (h_bin op3_add (h_slice (hv 0) o_none (o_some (hv 1))) (h_tup (a_cons (h_ix (hv 0) (h_bin op3_add (hv 1) h_int)) (a_cons (h_ix (hv 0) (hv 1)) a_nil)))) (h_slice (hv 0) (o_some (h_bin op3_add (hv 1) h_int)) o_none)))), fun ts M Q h => ?_⟩
 unfold sp_exchanged at h
 split at h
 · rename_i w k
   obtain ⟨ws, rfl, k0, k1, hl, h⟩ := h
   obtain ⟨i, rfl⟩ := Int.eq_ofNat_of_zero_le k0
   walk_at "rd"
   have a1 : atI (ws.map T.int) ((i : Int) + 1) = some (.int (ws.getD (i + 1) 0)) := by
     have := atI_ints ws ((i : Int) + 1) (by lia) (by lia)
     rwa [show ((i : Int) + 1).toNat = i + 1 by lia] at this
   have a2 : atI (ws.map T.int) (i : Int) = some (.int (ws.getD i 0)) := by
     have := atI_ints ws (i : Int) (by lia) (by lia)
     rwa [Int.toNat_natCast] at this
   have c1 : cutT (ws.map T.int) none (some (i : Int)) = (ws.take i).map T.int := by
     rw [cutT_to _ _ (by lia) (by rw [List.length_map]; lia), Int.toNat_natCast, List.map_take]
   have c2 : cutT (ws.map T.int) (some ((i : Int) + 2)) none = (ws.drop (i + 2)).map T.int := by
     have k1' : i + 1 < ws.length := by lia
     rw [cutT_from _ _ (by lia) (by rw [List.length_map]; lia), show ((i : Int) + 2).toNat = i + 2 by lia, List.map_drop]
   have l1 : (ws.take i).length = i := by rw [List.length_take]; lia
   have l2 : (ws.drop (i + 2)).length = ws.length - (i + 2) := List.length_drop ..
   simp only [a1, a2, c1, c2]
   walk_at "rd"
   refine ⟨by decide, line_len' (by lia), line_len' (by lia), ?_⟩
   have e : List.map T.int (List.take i ws) ++ [T.int (ws.getD (i + 1) 0), T.int (ws.getD i 0)] ++ List.map T.int (List.drop (i + 2) ws) = List.map T.int (swapN ws i) := by
     rw [← swapN_cut ws i (by lia)]
     simp
   rw [e]
   exact rt3_here h
 · exact h.elim
noncomputable def sp_places_in : Sp3 := fun ts M Q => match ts with
 | [.tup w] => ∃ ws : List Int, w = ws.map .int ∧ ws.length < 10000 ∧ (∀ s : Int, 0 ≤ s → s < ws.length → s ∈ ws) ∧ Q (.tup (((range0 ws.length).map fun s => ((ws.idxOf s : Nat) : Int)).map .int)) M
 | _ => False
theorem ok_places_in {P : Program} {w : World} {K : PySem.W.Frag} {mg : Str → Option Value} {base : Heap} {f : Addr} {fd : FuncData} {n : Nat}  (F : Fun K "places_in" "places_in" s_places_in f fd) (hm : mg "places_in" = some (.ref f)) (hb : Binds K fd ["order"] []) (Z : Zs mg)  : Df P w K mg base (n + 1) "places_in" ["order"] sp_places_in := by
 refine F.dfn hm hb sc_places_in (by intro ts M Q h; unfold sp_places_in at h; first | (split at h <;> first | rfl | exact h.elim) | (obtain ⟨_, _, _, _, _, rfl, _⟩ := h; rfl) | (obtain ⟨_, _, _, _, rfl, _⟩ := h; rfl) | (obtain ⟨_, _, _, rfl, _⟩ := h; rfl) | (obtain ⟨_, _, rfl, _⟩ := h; rfl) | (obtain ⟨_, rfl, _⟩ := h; rfl)) ⟨_, fun cdv A outer s H E hr => (ss_one (s_ret (h_callT call3_tuple Z.b_tuple PyProof.Rows.boot_tuple (a_cons (h_comp rfl (i_range1 Z.b_range (a_cons (h_callB call3_len Z.b_len PySem.boot_len (a_cons (hv 0) a_nil)) a_nil)) (blk_scope (outer := defScope s_places_in) (N := ["order"]) (N' := ["number", "order"]) (ix := [none, some 0]) (by decide +kernel) rfl rfl) bt_name (fun _ _ _ _ _ => pg_name (i := 0) (show List.Nodup (["number", "order"] : List Str) by decide +kernel) rfl (Or.inl rfl) (Or.inr rfl)) (fun _ _ _ _ _ => ts_nil) (fun _ _ _ _ _ => (h_m_index (hv 1) (a_cons (hv 0) a_nil)))) a_nil)))), fun ts M Q h => ?_⟩
 unfold sp_places_in at h
 split at h
 · rename_i w
   obtain ⟨ws, rfl, hl, hmm, h⟩ := h
   walk_at "rd"
   have lm : (ws.map T.int).length = ws.length := List.length_map ..
   refine ⟨by lia, by lia, fun i ys M2 => ys = (((range0 ws.length).take i).map fun s => ((ws.idxOf s : Nat) : Int)).map T.int ∧ M2 = M, ⟨rfl, rfl⟩, fun _ _ _ _ => trivial, by rw [rangeT_length]; exact Nat.lt_of_le_of_lt (by lia : (ws.length : Int).toNat ≤ 10000) (by decide), ?_, ?_⟩
   · rintro i x ys M2 hx ⟨rfl, rfl⟩
     rw [rangeT0] at hx
     obtain ⟨s, hs, rfl⟩ := get_map_int hx
     obtain ⟨s0, s1⟩ := mem_range0 (List.mem_of_getElem? hs)
     walk_at "rd"
     refine ⟨hmm s s0 s1, ?_⟩
     rw [← take_succ_map (fun s => ((ws.idxOf s : Nat) : Int)) hs, List.map_append]; rfl
   · rintro ys M2 ⟨rfl, rfl⟩ q hq
     rw [rangeT_length, List.take_of_length_le (by rw [range0_length]; exact Nat.le_refl _)]
     exact rt3_sub (M0 := M2) h (Sub.new hq)
 · exact h.elim
noncomputable def sp_plain_order : Sp3 := fun ts M Q => match ts with
 | [.int n] => 0 ≤ n ∧ n ≤ 6 ∧ Q (.tup (rangeT 0 n.toNat)) M
 | _ => False
theorem ok_plain_order {P : Program} {w : World} {K : PySem.W.Frag} {mg : Str → Option Value} {base : Heap} {f : Addr} {fd : FuncData} {n : Nat}  (F : Fun K "plain_order" "plain_order" s_plain_order f fd) (hm : mg "plain_order" = some (.ref f)) (hb : Binds K fd ["strands"] []) (Z : Zs mg)  : Df P w K mg base (n + 1) "plain_order" ["strands"] sp_plain_order := by
 refine F.dfn hm hb sc_plain_order (by intro ts M Q h; unfold sp_plain_order at h; first | (split at h <;> first | rfl | exact h.elim) | (obtain ⟨_, _, _, _, _, rfl, _⟩ := h; rfl) | (obtain ⟨_, _, _, _, rfl, _⟩ := h; rfl) | (obtain ⟨_, _, _, rfl, _⟩ := h; rfl) | (obtain ⟨_, _, rfl, _⟩ := h; rfl) | (obtain ⟨_, rfl, _⟩ := h; rfl)) ⟨_, fun cdv A outer s H E hr => (ss_one (s_ret (h_tupRange1 Z.b_tuple Z.b_range (a_cons (hv 0) a_nil)))), fun ts M Q h => ?_⟩
 unfold sp_plain_order at h
 split at h
 · rename_i n
   obtain ⟨h0, h1, h⟩ := h
   walk_at "rd"
   exact ⟨⟨by lia, by lia⟩, rt3_here h⟩
 · exact h.elim
noncomputable def sp_half_twist : Sp3 := fun ts M Q => match ts with
 | [.int n] => 0 ≤ n ∧ n ≤ 6 ∧ Q (.tup ((range0 n).reverse.map .int)) M
 | _ => False
theorem ok_half_twist {P : Program} {w : World} {K : PySem.W.Frag} {mg : Str → Option Value} {base : Heap} {f : Addr} {fd : FuncData} {n : Nat}  (F : Fun K "half_twist" "half_twist" s_half_twist f fd) (hm : mg "half_twist" = some (.ref f)) (hb : Binds K fd ["strands"] []) (Z : Zs mg)  : Df P w K mg base (n + 1) "half_twist" ["strands"] sp_half_twist := by
 refine F.dfn hm hb sc_half_twist (by intro ts M Q h; unfold sp_half_twist at h; first | (split at h <;> first | rfl | exact h.elim) | (obtain ⟨_, _, _, _, _, rfl, _⟩ := h; rfl) | (obtain ⟨_, _, _, _, rfl, _⟩ := h; rfl) | (obtain ⟨_, _, _, rfl, _⟩ := h; rfl) | (obtain ⟨_, _, rfl, _⟩ := h; rfl) | (obtain ⟨_, rfl, _⟩ := h; rfl)) ⟨_, fun cdv A outer s H E hr => (ss_one (s_ret (h_tupRange3 Z.b_tuple Z.b_range (a_cons (h_bin op3_sub (hv 0) h_int) (a_cons (h_un un3_neg h_int) (a_cons (h_un un3_neg h_int) a_nil)))))), fun ts M Q h => ?_⟩
 unfold sp_half_twist at h
 split at h
 · rename_i n
   obtain ⟨h0, h1, h⟩ := h
   walk_at "rd"
   have e : rangeD (n - 1) (n - 1 - -1).toNat = (range0 n).reverse.map .int := by
     rcases (show n = 0 ∨ n = 1 ∨ n = 2 ∨ n = 3 ∨ n = 4 ∨ n = 5 ∨ n = 6 by lia) with rfl | rfl | rfl | rfl | rfl | rfl | rfl <;> rfl
   rw [e]
   exact ⟨⟨by lia, by lia, by lia, by lia, by lia⟩, rt3_here h⟩
 · exact h.elim
noncomputable def sp_can_begin : Sp3 := fun ts M Q => match ts with
 | [.tup r, .int l] => ∃ ws : List Int, r = ws.map .int ∧ 1 ≤ l ∧ l < ws.length ∧ Q (.bl (decide (gI ws (l - 1) > gI ws l))) M
 | _ => False
theorem ok_can_begin {P : Program} {w : World} {K : PySem.W.Frag} {mg : Str → Option Value} {base : Heap} {f : Addr} {fd : FuncData} {n : Nat}  (F : Fun K "can_begin" "can_begin" s_can_begin f fd) (hm : mg "can_begin" = some (.ref f)) (hb : Binds K fd ["order", "letter"] []) (Z : Zs mg)  : Df P w K mg base (n + 1) "can_begin" ["order", "letter"] sp_can_begin := by
 refine F.dfn hm hb sc_can_begin (by intro ts M Q h; unfold sp_can_begin at h; first | (split at h <;> first | rfl | exact h.elim) | (obtain ⟨_, _, _, _, _, rfl, _⟩ := h; rfl) | (obtain ⟨_, _, _, _, rfl, _⟩ := h; rfl) | (obtain ⟨_, _, _, rfl, _⟩ := h; rfl) | (obtain ⟨_, _, rfl, _⟩ := h; rfl) | (obtain ⟨_, rfl, _⟩ := h; rfl)) ⟨_, fun cdv A outer s H E hr => (ss_one (s_ret (h_cmp op3_gt (h_ix (hv 0) (h_bin op3_sub (hv 1) h_int)) (h_ix (hv 0) (hv 1)) (nomark _)))), fun ts M Q h => ?_⟩
 unfold sp_can_begin at h
 split at h
 · rename_i r l
   obtain ⟨ws, rfl, h0, h1, h⟩ := h
   walk_at "rd"
   rw [gI_at (by lia) (by lia), gI_at (by lia) h1]
   exact rt3_here h
 · exact h.elim
noncomputable def sp_flipped_order : Sp3 := fun ts M Q => match ts with
 | [.tup r] => ∃ (n : Int) (ws : List Int), r = ws.map .int ∧ 0 ≤ n ∧ n ≤ 6 ∧ IsP n ws ∧ Q (.tup ((flO n ws).map .int)) M
 | _ => False
theorem ok_flipped_order {P : Program} {w : World} {K : PySem.W.Frag} {mg : Str → Option Value} {base : Heap} {f : Addr} {fd : FuncData} {n : Nat}  (F : Fun K "flipped_order" "flipped_order" s_flipped_order f fd) (hm : mg "flipped_order" = some (.ref f)) (hb : Binds K fd ["order"] []) (Z : Zs mg)  : Df P w K mg base (n + 1) "flipped_order" ["order"] sp_flipped_order := by
 refine F.dfn hm hb sc_flipped_order (by intro ts M Q h; unfold sp_flipped_order at h; first | (split at h <;> first | rfl | exact h.elim) | (obtain ⟨_, _, _, _, _, rfl, _⟩ := h; rfl) | (obtain ⟨_, _, _, _, rfl, _⟩ := h; rfl) | (obtain ⟨_, _, _, rfl, _⟩ := h; rfl) | (obtain ⟨_, _, rfl, _⟩ := h; rfl) | (obtain ⟨_, rfl, _⟩ := h; rfl)) ⟨_, fun cdv A outer s H E hr => (ss_one (s_ret (h_callT call3_tuple Z.b_tuple PyProof.Rows.boot_tuple (a_cons (h_comp rfl (i_reversedA Z.b_reversed (hv 0)) (blk_scope (outer := defScope s_flipped_order) (N := ["order"]) (N' := ["place", "order"]) (ix := [none, some 0]) (by decide +kernel) rfl rfl) bt_name (fun _ _ _ _ _ => pg_name (i := 0) (show List.Nodup (["place", "order"] : List Str) by decide +kernel) rfl (Or.inl rfl) (Or.inr rfl)) (fun _ _ _ _ _ => ts_nil) (fun _ _ _ _ _ => (h_bin op3_sub (h_bin op3_sub (h_callB call3_len Z.b_len PySem.boot_len (a_cons (hv 1) a_nil)) h_int) (hv 0)))) a_nil)))), fun ts M Q h => ?_⟩
 unfold sp_flipped_order at h
 split at h
 · rename_i r
   obtain ⟨n, ws, rfl, h0, h6, hP, h⟩ := h
   have hl := hP.len
   walk_at "rd"
   rw [show (ws.map T.int).reverse = ws.reverse.map T.int from List.map_reverse.symm]
   refine ⟨fun i ys M' => ys = ((ws.reverse.take i).map fun x => n - 1 - x).map T.int ∧ M' = M, ⟨rfl, rfl⟩, fun _ _ _ _ => trivial, line_len (by rw [List.length_map, List.length_reverse]; lia), ?_, ?_⟩
   · rintro i x ys M' hx ⟨rfl, eM⟩
     obtain ⟨l, hl', rfl⟩ := get_map_int hx
     refine ⟨?_, eM⟩
     rw [← take_succ_map (fun x => n - 1 - x) hl', List.map_append, show ((ws.length : Nat) : Int) = n by lia]; rfl
   · rintro ys M' ⟨rfl, eM⟩ q hq
     rw [eM] at hq ⊢
     rw [List.length_map, List.take_length]
     exact rt3_sub h (Sub.new hq)
 · exact h.elim
noncomputable def sp_order_for : Sp3 := fun ts M Q => match ts with
 | [.int n, .int l] => 1 ≤ n ∧ n ≤ 6 ∧ LetOK n l ∧ (IsP n (ordF n l) → Q (.tup ((ordF n l).map .int)) M)
 | _ => False
theorem ok_order_for {P : Program} {w : World} {K : PySem.W.Frag} {mg : Str → Option Value} {base : Heap} {f : Addr} {fd : FuncData} {n : Nat}  (F : Fun K "order_for" "order_for" s_order_for f fd) (hm : mg "order_for" = some (.ref f)) (hb : Binds K fd ["strands", "letter"] []) (Z : Zs mg) (D_exchanged : Df P w K mg base n "exchanged" ["row", "at"] sp_exchanged) (D_plain_order : Df P w K mg base n "plain_order" ["strands"] sp_plain_order) (D_half_twist : Df P w K mg base n "half_twist" ["strands"] sp_half_twist) : Df P w K mg base (n + 1) "order_for" ["strands", "letter"] sp_order_for := by
 refine F.dfn hm hb sc_order_for (by intro ts M Q h; unfold sp_order_for at h; first | (split at h <;> first | rfl | exact h.elim) | (obtain ⟨_, _, _, _, _, rfl, _⟩ := h; rfl) | (obtain ⟨_, _, _, _, rfl, _⟩ := h; rfl) | (obtain ⟨_, _, _, rfl, _⟩ := h; rfl) | (obtain ⟨_, _, rfl, _⟩ := h; rfl) | (obtain ⟨_, rfl, _⟩ := h; rfl)) ⟨_, fun cdv A outer s H E hr => (ss_cons (s_if (h_tcmp op3_gt (hv 1) h_int (nomark _)) (ss_one (s_ret (h_call D_exchanged hr (a_cons (h_call D_plain_order hr (a_cons (hv 0) a_nil)) (a_cons (h_bin op3_sub (hv 1) h_int) a_nil))))) ss_nil) (ss_one (s_ret (h_call D_exchanged hr (a_cons (h_call D_half_twist hr (a_cons (hv 0) a_nil)) (a_cons (h_bin op3_sub (h_bin op3_add (hv 0) (hv 1)) h_int) a_nil)))))), fun ts M Q h => ?_⟩
 unfold sp_order_for at h
 split at h
 · rename_i n l
   obtain ⟨h1, h6, hl, h⟩ := h
   have hlen := range0_length n
   have hpl : IsP n (range0 n) := .refl _
   unfold LetOK at hl
   refine seq_cut fun K1 hK1 => ?_
   walk_at "rd"
   refine ite2 (fun c => ?_) (fun c => ?_)
   · refine ⟨by lia, h6, ?_⟩
     rw [rangeT_range0]
     refine ⟨range0 n, rfl, by lia, by lia, by lia, ?_⟩
     unfold ordF at h
     rw [if_pos c] at h
     exact rt3_here (h (swap_isP hpl (by lia)))
   · rw [hK1]
     walk_at "rd"
     refine ⟨by lia, h6, ?_⟩
     refine ⟨(range0 n).reverse, rfl, by lia, by rw [List.length_reverse]; lia, by rw [List.length_reverse]; lia, ?_⟩
     unfold ordF at h
     rw [if_neg c] at h
     exact rt3_here (h (swap_isP (List.reverse_perm _) (by rw [List.length_reverse]; lia)))
 · exact h.elim
noncomputable def sp_moved_ahead : Sp3 := fun ts M Q => match ts with
 | [.tup r, .tup r'] => ∃ (n : Int) (us vs : List Int), r = us.map .int ∧ r' = vs.map .int ∧ 1 ≤ n ∧ n ≤ 6 ∧ IsP n us ∧ IsP n vs ∧ ∀ us' vs', IsP n us' → IsP n vs' → Go n [us, vs] [us', vs'] → mvL us' vs' = 0 → Q (.tup [tupT us', tupT vs']) M
 | _ => False
theorem ms1 {a l : Nat} (h : l < 10) : (217 - a) * 10 + (10 - (l + 1)) < (217 - a) * 10 + (10 - l) := by lia
theorem ms2 {a b l k : Nat} (h : a < b) (hb : b ≤ 216) (hl : l < 10) : (217 - b) * 10 + (10 - k) < (217 - a) * 10 + (10 - l) := by lia
theorem mx1 {l : Nat} (h : 1 ≤ l) : (if (1 : Int) > (l : Int) - 1 then (1 : Int) else (l : Int) - 1) = ((max (l - 1) 1 : Nat) : Int) := by split <;> lia
theorem mx2 {l L : Nat} (h : l < L) : max (l - 1) 1 ≤ L := by lia
theorem mx3 {l : Nat} : 1 ≤ max (l - 1) 1 := by lia
theorem lt_of_i {l L : Nat} (h : (l : Int) < (L : Int)) : l < L := by lia
theorem ints_eq {a b : List Int} (c : eqT (.tup (a.map .int)) (.tup (b.map .int)) = true) : a = b := by
 rw [eqT_tup, eqTs_ints] at c
 exact of_decide_eq_true c
theorem ok_moved_ahead {P : Program} {w : World} {K : PySem.W.Frag} {mg : Str → Option Value} {base : Heap} {f : Addr} {fd : FuncData} {n : Nat}  (F : Fun K "moved_ahead" "moved_ahead" s_moved_ahead f fd) (hm : mg "moved_ahead" = some (.ref f)) (hb : Binds K fd ["one", "other"] []) (Z : Zs mg) (D_half_twist : Df P w K mg base n "half_twist" ["strands"] sp_half_twist) (D_flipped_order : Df P w K mg base n "flipped_order" ["order"] sp_flipped_order) (D_places_in : Df P w K mg base n "places_in" ["order"] sp_places_in) (D_can_begin : Df P w K mg base n "can_begin" ["order", "letter"] sp_can_begin) (D_exchanged : Df P w K mg base n "exchanged" ["row", "at"] sp_exchanged) : Df P w K mg base (n + 1) "moved_ahead" ["one", "other"] sp_moved_ahead := by
 refine F.dfn hm hb sc_moved_ahead (by intro ts M Q h; unfold sp_moved_ahead at h; first | (split at h <;> first | rfl | exact h.elim) | (obtain ⟨_, _, _, _, _, rfl, _⟩ := h; rfl) | (obtain ⟨_, _, _, _, rfl, _⟩ := h; rfl) | (obtain ⟨_, _, _, rfl, _⟩ := h; rfl) | (obtain ⟨_, _, rfl, _⟩ := h; rfl) | (obtain ⟨_, rfl, _⟩ := h; rfl)) ⟨_, fun cdv A outer s H E hr => (ss_cons (s_if (h_tcmp (op3_eq hr.units) (hv 1) (h_call D_half_twist hr (a_cons (h_callB call3_len Z.b_len PySem.boot_len (a_cons (hv 1) a_nil)) a_nil)) (nomark _)) (ss_one (s_ret (h_tup (a_cons (hv 1) (a_cons (h_call D_flipped_order hr (a_cons (hv 0) a_nil)) a_nil))))) ss_nil) (ss_cons (s_set (i := 2) (h_call D_places_in hr (a_cons (hv 0) a_nil)) sc_moved_ahead.nd) (ss_cons (s_set (i := 3) h_int sc_moved_ahead.nd) (ss_cons (s_while PassesOwn.never (h_tcmp op3_lt (hv 3) (h_callB call3_len Z.b_len PySem.boot_len (a_cons (hv 0) a_nil)) (nomark _)) (ss_one (s_if (HW.ht (w_and (h_truth (h_call D_can_begin hr (a_cons (hv 1) (a_cons (hv 3) a_nil)))) (w_and1 (h_not (h_truth (h_call D_can_begin hr (a_cons (hv 2) (a_cons (hv 3) a_nil)))))))) (ss_cons (s_set (i := 2) (h_call D_exchanged hr (a_cons (hv 2) (a_cons (h_bin op3_sub (hv 3) h_int) a_nil))) sc_moved_ahead.nd) (ss_cons (s_set (i := 1) (h_call D_exchanged hr (a_cons (hv 1) (a_cons (h_bin op3_sub (hv 3) h_int) a_nil))) sc_moved_ahead.nd) (ss_one (s_set (i := 3) (h_callB (call3_max rfl) Z.b_max PyProof.Rows.boot_max (a_cons (h_bin op3_sub (hv 3) h_int) (a_cons h_int a_nil))) sc_moved_ahead.nd)))) (ss_one (s_augI (i := 3) ip_add h_int sc_moved_ahead.nd))))) (ss_one (s_ret (h_tup (a_cons (h_call D_places_in hr (a_cons (hv 2) a_nil)) (a_cons (hv 1) a_nil))))))))), fun ts M Q h => ?_⟩
 unfold sp_moved_ahead at h
 split at h
 · rename_i r r'
   obtain ⟨n, us, vs, rfl, rfl, h1, h6, hu, hv, h⟩ := h
   have lu := hu.len
   have lv := hv.len
   refine seq_cut fun K1 hK1 => ?_
   walk_at "rd"
   refine ⟨by lia, by lia, ?_⟩
   rw [show ((vs.length : Nat) : Int) = n by lia]
   dsimp only
   refine ⟨by rw [pureT_tup, pureTs_ints], by decide, ite2 (fun c => ?_) (fun c => ?_)⟩
   · have ev : vs = (range0 n).reverse := ints_eq c
     refine ⟨n, us, rfl, by lia, h6, hu, by decide, ?_⟩
     refine rt3_here (h vs (flO n us) hv (fl_isP hu) ?_ ?_)
     · rw [ev]; exact half_front (by lia) h6 hu
     · rw [ev]; exact half_still
   · rw [hK1]
     clear hK1
     refine seq_cut2 fun K2 hK2 => ?_
     walk_at "rd"
     refine ⟨us, rfl, by lia, fun s a b => hu.mem.mpr (by lia), ?_⟩
     rw [hK2]
     clear hK2
     refine seq_cut fun K3 hK3 => ?_
     unfold tWhile3
     refine ⟨fun m ρ M' => ∃ (u vs' : List Int) (l : Nat), ρ = [some (.tup (us.map .int)), some (.tup (vs'.map .int)), some (.tup ((invO u).map .int)), some (.int (l : Nat))] ∧ M' = M ∧ IsP n u ∧ IsP n vs' ∧ 1 ≤ l ∧ l ≤ us.length ∧ m = (217 - Sn 0 vs') * 10 + (10 - l) ∧ Go n [us, vs] [u, vs'] ∧ noU u vs' l, ⟨_, us, vs, 1, rfl, rfl, hu, hv, Nat.le_refl _, by lia, rfl, .refl _, noU_one _ _⟩, ?_⟩
     rintro m ρ M' ⟨u, vs', l, rfl, rfl, huu, hvs, hl1, hll, rfl, hgo, hno⟩
     have hes := inv_isP (n := n) (by lia) huu
     have lu2 := huu.len
     have les := hes.len
     have lvs := hvs.len
     have hsn := Sn_small hvs h6
     walk_at "rd"
     refine ite2 (fun hlt => ?_) (fun hge => ?_)
     · have hlt' : l < us.length := lt_of_i hlt
       have hl10 : l < 7 := by clear hsn; lia
       refine ⟨vs', rfl, by lia, by lia, ?_⟩
       dsimp only
       have ln : (l : Int) < n := by clear hsn; lia
       have stay : mvC u vs' l = false → ∃ m', m' < (217 - Sn 0 vs') * 10 + (10 - l) ∧ ∃ (u1 vs1 : List Int) (l1 : Nat), [some (T.tup (us.map .int)), some (.tup (vs'.map .int)), some (.tup ((invO u).map .int)), some (.int ((l : Int) + 1))] = [some (T.tup (us.map .int)), some (.tup (vs1.map .int)), some (.tup ((invO u1).map .int)), some (.int (l1 : Nat))] ∧ M' = M' ∧ IsP n u1 ∧ IsP n vs1 ∧ 1 ≤ l1 ∧ l1 ≤ us.length ∧ m' = (217 - Sn 0 vs1) * 10 + (10 - l1) ∧ Go n [us, vs] [u1, vs1] ∧ noU u1 vs1 l1 := fun hc => ⟨_, ms1 (Nat.lt_of_lt_of_le hl10 (by decide)), u, vs', l + 1, rfl, rfl, huu, hvs, Nat.succ_le_succ (Nat.zero_le _), hlt', rfl, hgo, noU_on hno hc⟩
       refine ite2 (fun hd => ?_) (fun hd => stay (by rw [mvC_ds huu hl1 ln, show dsB vs' l = false from Bool.eq_false_iff.mpr hd]; rfl))
       have hdb : dsB vs' l = true := hd
       refine ⟨invO u, rfl, by lia, by lia, ?_⟩
       dsimp only
       refine ite2 (fun he => ?_) (fun he => stay (by
         have q : dsB (invO u) l = true := by simpa [dsB] using he
         rw [mvC_ds huu hl1 ln, q]; simp))
       have hcu : mvC u vs' l = true := by
         have q : dsB (invO u) l = false := by simpa [dsB] using he
         rw [mvC_ds huu hl1 ln, q, show dsB vs' l = true from hd]; rfl
       refine ⟨invO u, rfl, by lia, by lia, by lia, vs', rfl, by lia, by lia, by lia, ?_⟩
       rw [show ((l : Int) - 1).toNat = l - 1 by lia]
       have hP2 := sw_isP huu hl1 ln
       have hv2 := beg_isP hvs hl1 (by lia)
       have hup := beg_up hvs hl1 (by lia) hdb
       have hsn2 := Sn_small hv2 h6
       rw [swapN_begL (row := vs') hl1 (by lia), inv_step (by lia) huu hl1 ln]
       rw [mx1 hl1]
       exact ⟨_, ms2 hup hsn2 (Nat.lt_of_lt_of_le hl10 (by decide)), u.map (sw l), begL vs' l, max (l - 1) 1, rfl, rfl, hP2, hv2, mx3, mx2 hlt', rfl, go_step2 hgo hl1 ln hcu, noU_step huu hvs hl1 ln hno⟩
     · rw [hK3]
       walk_at "rd"
       refine ⟨invO u, rfl, by lia, fun s a b => hes.mem.mpr (by lia), by decide, ?_⟩
       have hf := h u vs' huu hvs hgo (noU_end huu hno (by lia))
       rw [← inv_inv (n := n) (by lia) huu] at hf
       exact rt3_here hf
 · exact h.elim
noncomputable def sp_put_behind : Sp3 := fun ts M Q => match ts with
 | [.adr q, .tup r] => ∃ (n : Int) (R : List (List Int)) (ws : List Int), M q = some (.lst (R.map tupT)) ∧ r = ws.map .int ∧ 1 ≤ n ∧ n ≤ 6 ∧ R.length ≤ 600 ∧ IsP n ws ∧ (∀ r ∈ R, IsP n r) ∧ stillB R = true ∧ (∀ r ∈ R, r ≠ range0 n) ∧ ∀ R' : List (List Int), R'.length ≤ R.length + 1 → (∀ r ∈ R', IsP n r) → stillB R' = true → (∀ r ∈ R', r ≠ range0 n) → (Go n (R ++ [ws]) R' ∨ Go n (R ++ [ws]) (R' ++ [range0 n])) → Q .non (updM M q (.lst (R'.map tupT)))
 | _ => False
theorem while_cut {c : TT3} {b : TS3} {D : Ends3} {ρ : En} {M : MH} (h : ∀ B : TS3, B = b → tWhile3 c B D ρ M) : tWhile3 c b D ρ M := h _ rfl
theorem front_at {n : Int} {R : List (List Int)} {w : List Int} {R' : List (List Int)} {m : Nat} (p : PB n R w R' m) (h : m = 0) : stillB R' = true := by
 subst h; exact p.front
theorem eq_ints (a : List Int) : eqT (.tup (a.map .int)) (.tup (a.map .int)) = true := by
 rw [eqT_tup, eqTs_ints]; exact decide_eq_true rfl
theorem init_getD {A : List (List Int)} {y : List Int} {k : Nat} (h : k < A.length) : (A ++ [y]).getD k [] = A.getD k [] := by
 rw [List.getD_eq_getElem?_getD, List.getElem?_append_left h, ← List.getD_eq_getElem?_getD]
theorem still_init {A : List (List Int)} {y : List Int} (h : stillB (A ++ [y]) = true) : stillB A = true :=
 stillC_iff.mpr fun i hi => by
   have := stillC_iff.mp h i (by rw [List.length_append]; lia)
   rwa [init_getD (by lia), init_getD hi] at this
theorem np_init {n : Int} {A : List (List Int)} {y : List Int} {L : Nat} (hl : A.length ≤ L) (h : ∀ i, i < L → (A ++ [y]).getD i [] ≠ range0 n) : ∀ r ∈ A, r ≠ range0 n := fun r hr => by
 obtain ⟨i, hi, rfl⟩ := List.mem_iff_getElem.mp hr
 have := h i (by lia)
 rwa [init_getD hi, List.getD_eq_getElem?_getD, List.getElem?_eq_getElem hi] at this
theorem np_all {n : Int} {A : List (List Int)} {y : List Int} (h : ∀ r ∈ A, r ≠ range0 n) (hy : y ≠ range0 n) : ∀ r ∈ A ++ [y], r ≠ range0 n := fun r hr => by
 rcases List.mem_append.mp hr with hr | hr
 · exact h r hr
 · obtain rfl := List.mem_singleton.mp hr; exact hy
theorem ok_put_behind {P : Program} {w : World} {K : PySem.W.Frag} {mg : Str → Option Value} {base : Heap} {f : Addr} {fd : FuncData} {n : Nat}  (F : Fun K "put_behind" "put_behind" s_put_behind f fd) (hm : mg "put_behind" = some (.ref f)) (hb : Binds K fd ["orders", "order"] []) (Z : Zs mg) (D_moved_ahead : Df P w K mg base n "moved_ahead" ["one", "other"] sp_moved_ahead) (D_plain_order : Df P w K mg base n "plain_order" ["strands"] sp_plain_order) : Df P w K mg base (n + 1) "put_behind" ["orders", "order"] sp_put_behind := by
 refine F.dfn hm hb sc_put_behind (by intro ts M Q h; unfold sp_put_behind at h; first | (split at h <;> first | rfl | exact h.elim) | (obtain ⟨_, _, _, _, _, rfl, _⟩ := h; rfl) | (obtain ⟨_, _, _, _, rfl, _⟩ := h; rfl) | (obtain ⟨_, _, _, rfl, _⟩ := h; rfl) | (obtain ⟨_, _, rfl, _⟩ := h; rfl) | (obtain ⟨_, rfl, _⟩ := h; rfl)) ⟨_, fun cdv A outer s H E hr => (ss_cons (s_expr (h_m_append (hv 0) (a_cons (hv 1) a_nil))) (ss_cons (s_set (i := 2) (h_bin op3_sub (h_callB call3_len Z.b_len PySem.boot_len (a_cons (hv 0) a_nil)) h_int) sc_put_behind.nd) (ss_cons (s_while PassesOwn.never (h_tcmp op3_gt (hv 2) h_int (nomark _)) (ss_cons (s_set (i := 3) (h_call D_moved_ahead hr (a_cons (h_ix (hv 0) (h_bin op3_sub (hv 2) h_int)) (a_cons (h_ix (hv 0) (hv 2)) a_nil))) sc_put_behind.nd) (ss_cons (s_if (h_tcmp (op3_eq hr.units) (h_ix (hv 3) h_int) (h_ix (hv 0) (hv 2)) (nomark _)) (ss_one s_break) ss_nil) (ss_cons (s_asg (h_ix (hv 3) h_int) (g_sub (hv 0) (h_bin op3_sub (hv 2) h_int))) (ss_cons (s_asg (h_ix (hv 3) h_int) (g_sub (hv 0) (hv 2))) (ss_one (s_augI (i := 2) ip_sub h_int sc_put_behind.nd))))))) (ss_one (s_if (h_tcmp (op3_eq hr.units) (h_ix (hv 0) (h_un un3_neg h_int)) (h_call D_plain_order hr (a_cons (h_callB call3_len Z.b_len PySem.boot_len (a_cons (hv 1) a_nil)) a_nil)) (nomark _)) (ss_one (s_expr (h_m_pop (hv 0) a_nil))) ss_nil))))), fun ts M Q h => ?_⟩
 unfold sp_put_behind at h
 split at h
 · rename_i q r
   obtain ⟨n, R, ws, hq, rfl, h1, h6, hRl, hw, hR, hst, hnp, h⟩ := h
   have hP0 : ∀ r ∈ R ++ [ws], IsP n r := fun x hx => by
     rcases List.mem_append.mp hx with hx | hx
     · exact hR x hx
     · obtain rfl := List.mem_singleton.mp hx
       exact hw
   have hwl := hw.len
   refine seq_cut2 fun K2 hK2 => ?_
   walk_at "rd"
   rw [hq]
   dsimp only
   have e0 : R.map tupT ++ [T.tup (ws.map T.int)] = (R ++ [ws]).map tupT := by rw [List.map_append]; rfl
   rw [e0]
   refine ⟨trivial, line_len (by rw [List.length_map]; lia), ?_⟩
   rw [hK2]
   clear hK2
   refine seq_cut fun K3 hK3 => ?_
   have hk : ∀ (R' : List (List Int)) (a b : Option T), R'.length = R.length + 1 → (∀ r ∈ R', IsP n r) → stillB R' = true → Go n (R ++ [ws]) R' → (∀ i, i < R.length → R'.getD i [] ≠ range0 n) → K3 [some (.adr q), some (.tup (ws.map .int)), a, b] (updM M q (.lst (R'.map tupT))) := by
     intro R' a b hl hR' hs' hg' hn'
     rw [hK3]
     clear hK3
     obtain ⟨A, y, rfl⟩ : ∃ A y, R' = A ++ [y] := by
       rcases List.eq_nil_or_concat R' with e | ⟨A, y, e⟩
       · rw [e] at hl; cases hl
       · exact ⟨A, y, by rw [e, List.concat_eq_append]⟩
     walk_at "rd"
     have e1 : (A ++ [y]).map tupT = A.map tupT ++ [tupT y] := by rw [List.map_append]; rfl
     rw [e1, atI_last, ← e1]
     dsimp only
     refine ⟨by lia, by lia, ?_⟩
     refine ⟨by unfold tupT; rw [pureT_tup, pureTs_ints], by rw [rangeT_range0, pureT_tup, pureTs_ints], by unfold tupT; rw [depT_tup, depTs_ints]; decide, ite2 (fun c => ?_) (fun c => ?_)⟩
     · rw [updM_same]
       dsimp only
       refine ⟨trivial, ?_⟩
       rw [e1, List.length_append, List.length_singleton, Nat.add_sub_cancel, List.getElem?_append_right (Nat.le_refl _), Nat.sub_self, List.dropLast_concat]
       dsimp only [List.getElem?_cons_zero]
       rw [updM_updM]
       rw [List.length_append, List.length_singleton] at hl
       have ey : y = range0 n := by
         rw [show ((ws.length : Nat) : Int) = n by lia, rangeT_range0] at c
         exact ints_eq c
       subst ey
       exact rt3_here (h A (by lia) (fun r hr => hR' r (List.mem_append_left _ hr)) (still_init hs') (np_init (by lia) hn') (.inr hg'))
     · have ey : y ≠ range0 n := fun e => c (by rw [e, show ((ws.length : Nat) : Int) = n by lia, rangeT_range0]; exact eq_ints _)
       have hl2 := hl
       rw [List.length_append, List.length_singleton] at hl2
       exact rt3_here (h (A ++ [y]) (by lia) hR' hs' (np_all (np_init (by lia) hn') ey) (.inl hg'))
   refine while_cut fun C hC => ?_
   unfold tWhile3
   refine ⟨fun m ρ M' => ∃ (R' : List (List Int)) (a : Nat) (b : Option T), ρ = [some (.adr q), some (.tup (ws.map .int)), some (.int (a : Nat)), b] ∧ M' = updM M q (.lst (R'.map tupT)) ∧ R'.length = R.length + 1 ∧ (∀ r ∈ R', IsP n r) ∧ a < R'.length ∧ m = a ∧ PB n R ws R' a, ⟨_, R ++ [ws], R.length, none, ?_, rfl, by rw [List.length_append]; rfl, hP0, by rw [List.length_append]; exact Nat.lt_succ_self _, rfl, PB.new hst⟩, ?_⟩
   · rw [List.length_map]
     show _ = [_, _, some (T.int ((R.length : Nat) : Int)), none]
     rw [show ((R.length + (0 + 1) : Nat) : Int) - 1 = (R.length : Nat) by lia]
   rintro m ρ M' ⟨R', a, b, rfl, rfl, hl, hR', ha, rfl, pb⟩
   walk_at "rd"
   refine ite2 (fun hlt => ?_) (fun hge => hk R' _ _ hl hR' (front_at pb (by lia)) pb.go (pb.npl hnp))
   rw [hC]
   clear hC
   refine seq_cut fun K4 hK4 => ?_
   walk_at "rd"
   have g1 := tupT_at (R := R') (i := m - 1) (by lia)
   rw [show ((m - 1 : Nat) : Int) = (m : Int) - 1 by lia] at g1
   have g2 := tupT_at (R := R') (i := m) ha
   rw [g1, g2]
   dsimp only
   refine ⟨n, _, _, rfl, rfl, h1, h6, hR' _ (getD_mem (by lia)), hR' _ (getD_mem ha), fun us' vs' hu' hv' hgo hmv => ?_⟩
   obtain ⟨k, rfl⟩ : ∃ k, m = k + 1 := ⟨m - 1, by lia⟩
   rw [show k + 1 - 1 = k by lia] at hgo
   rw [hK4]
   clear hK4
   refine seq_cut fun K5 hK5 => ?_
   walk_at "rd"
   rw [g2]
   dsimp only
   refine ⟨by unfold tupT; rw [pureT_tup, pureTs_ints], by unfold tupT; rw [pureT_tup, pureTs_ints], by unfold tupT; rw [depT_tup, depTs_ints]; decide, ite2 (fun c => hk R' _ _ hl hR' (pb.stop (by
     have ev := ints_eq c
     subst ev
     have eu := go_same (hR' _ (getD_mem (by lia))) hv' h6 hgo
     rw [eu] at hmv
     exact hmv)) pb.go (pb.npl hnp)) (fun c => ?_)⟩
   rw [hK5]
   clear hK5
   walk_at "rd"
   rw [ixN_nat (by lia) (by lia), show (((k + 1 : Nat) : Int) - 1).toNat = k by lia]
   dsimp only
   rw [List.length_set, List.length_map, ixN_nat (by lia) (by lia), Int.toNat_natCast]
   dsimp only
   have e9 : ((R'.map tupT).set k (tupT us')).set (k + 1) (tupT vs') = ((R'.set k us').set (k + 1) vs').map tupT := by rw [List.map_set, List.map_set]
   rw [e9]
   refine ⟨k, by lia, (R'.set k us').set (k + 1) vs', k, some (.tup [tupT us', tupT vs']), ?_, rfl, by rw [List.length_set, List.length_set]; exact hl, ?_, by rw [List.length_set, List.length_set]; lia, rfl, pb.step h6 hR hw hst hnp (by lia) hgo hmv⟩
   · rw [show ((k + 1 : Nat) : Int) - 1 = (k : Int) by lia]
   · intro r hr
     rcases List.mem_or_eq_of_mem_set hr with hr | rfl
     · rcases List.mem_or_eq_of_mem_set hr with hr | rfl
       · exact hR' r hr
       · exact hu'
     · exact hv'
 · exact h.elim
noncomputable def sp_form_by_letters : Sp3 := fun ts M Q => match ts with
 | [.int n, .tup w] => ∃ ws : List Int, w = ws.map .int ∧ 1 ≤ n ∧ n ≤ 6 ∧ ws.length ≤ 500 ∧ WordOK n ws ∧ ∀ (S : List (List Int)) (k : Nat), okR n S → stillB S = true → (∀ r ∈ S, r ≠ range0 n) → Go n (rowsL n ws) (S ++ List.replicate k (range0 n)) → Q (.tup [.int (-(negs ws : Nat) + (S.count (range0 n).reverse : Nat)), .tup ((S.drop (S.count (range0 n).reverse)).map tupT)]) M
 | _ => False
theorem ok_form_by_letters {P : Program} {w : World} {K : PySem.W.Frag} {mg : Str → Option Value} {base : Heap} {f : Addr} {fd : FuncData} {n : Nat}  (F : Fun K "form_by_letters" "form_by_letters" s_form_by_letters f fd) (hm : mg "form_by_letters" = some (.ref f)) (hb : Binds K fd ["strands", "word"] []) (Z : Zs mg) (D_order_for : Df P w K mg base n "order_for" ["strands", "letter"] sp_order_for) (D_flipped_order : Df P w K mg base n "flipped_order" ["order"] sp_flipped_order) (D_put_behind : Df P w K mg base n "put_behind" ["orders", "order"] sp_put_behind) (D_half_twist : Df P w K mg base n "half_twist" ["strands"] sp_half_twist) : Df P w K mg base (n + 1) "form_by_letters" ["strands", "word"] sp_form_by_letters := by
 refine F.dfn hm hb sc_form_by_letters (by intro ts M Q h; unfold sp_form_by_letters at h; first | (split at h <;> first | rfl | exact h.elim) | (obtain ⟨_, _, _, _, _, rfl, _⟩ := h; rfl) | (obtain ⟨_, _, _, _, rfl, _⟩ := h; rfl) | (obtain ⟨_, _, _, rfl, _⟩ := h; rfl) | (obtain ⟨_, _, rfl, _⟩ := h; rfl) | (obtain ⟨_, rfl, _⟩ := h; rfl)) ⟨_, fun cdv A outer s H E hr => (ss_cons (s_set (i := 2) (h_callB call3_len Z.b_len PySem.boot_len (a_cons (h_comp rfl (i_seq (hv 1)) (blk_scope (outer := defScope s_form_by_letters) (N := ["strands", "word", "still_to_pass", "power", "orders", "letter", "order", "twists"]) (N' := ["letter"]) (ix := [none]) (by decide +kernel) rfl rfl) bt_name (fun _ _ _ _ _ => pg_name (i := 0) (show List.Nodup (["letter"] : List Str) by decide +kernel) rfl (Or.inl rfl) (Or.inr rfl)) (fun _ _ _ _ _ => ts_one (h_tcmp op3_lt (hv 0) h_int (nomark _))) (fun _ _ _ _ _ => (hv 0))) a_nil)) sc_form_by_letters.nd) (ss_cons (s_set (i := 3) (h_un un3_neg (hv 2)) sc_form_by_letters.nd) (ss_cons (s_set (i := 4) (h_lst a_nil) sc_form_by_letters.nd) (ss_cons (s_for PassesOwn.never rfl (i_seq (hv 1)) (g_name (i := 5) sc_form_by_letters.nd) (ss_cons (s_if (h_tcmp op3_lt (hv 5) h_int (nomark _)) (ss_one (s_augI (i := 2) ip_sub h_int sc_form_by_letters.nd)) ss_nil) (ss_cons (s_set (i := 6) (h_call D_order_for hr (a_cons (hv 0) (a_cons (hv 5) a_nil))) sc_form_by_letters.nd) (ss_cons (s_if (h_tcmp (op3_eq hr.units) (h_bin op3_mod (hv 2) h_int) h_int (nomark _)) (ss_one (s_set (i := 6) (h_call D_flipped_order hr (a_cons (hv 6) a_nil)) sc_form_by_letters.nd)) ss_nil) (ss_one (s_expr (h_call D_put_behind hr (a_cons (hv 4) (a_cons (hv 6) a_nil))))))))) (ss_cons (s_set (i := 7) (h_m_countU hr.units (hv 4) (a_cons (h_call D_half_twist hr (a_cons (hv 0) a_nil)) a_nil)) sc_form_by_letters.nd) (ss_one (s_ret (h_tup (a_cons (h_bin op3_add (hv 3) (hv 7)) (a_cons (h_callT call3_tuple Z.b_tuple PyProof.Rows.boot_tuple (a_cons (h_slice (hv 4) (o_some (hv 7)) o_none) a_nil)) a_nil)))))))))), fun ts M Q h => ?_⟩
 unfold sp_form_by_letters at h
 split at h
 · rename_i n w
   obtain ⟨ws, rfl, h1, h6, hl, hw, h⟩ := h
   refine seq_cut fun K1 hK1 => ?_
   walk_at "rd"
   refine ⟨fun i ys M' => M' = M ∧ ys.length = negs (ws.take i), ⟨rfl, rfl⟩, fun _ _ _ _ => trivial, line_len (by lia), ?_, ?_⟩
   · rintro i x ys M' hx ⟨eM, hy⟩
     obtain ⟨l, hl', rfl⟩ := get_map_int hx
     exact ite2 (fun c => ⟨eM, by rw [List.length_append, List.length_singleton, negs_take hl', if_pos c, hy]⟩) (fun c => ⟨eM, by rw [negs_take hl', if_neg c, hy, Nat.add_zero]⟩)
   · rintro ys M' ⟨eM, hy⟩ p hp
     rw [List.take_length] at hy
     rw [eM] at hp ⊢
     rw [hK1]
     clear hK1
     have hS0 : Sub M (updM M p (.lst ys)) := Sub.new hp
     generalize updM M p (.lst ys) = M1 at hS0 ⊢
     refine seq_cut3 fun K3 hK3 => ?_
     refine seq_cut2 fun K2 hK2 => ?_
     walk_at "rd"
     intro q hq
     have hqM := none_of hS0 hq
     have hS1 := hS0.newr hq (o := MO.lst [])
     have hq1 : updM M1 q (.lst []) q = some (.lst (([] : List (List Int)).map tupT)) := updM_same
     generalize updM M1 q (.lst []) = M2 at hS1 hq1 ⊢
     rw [hK2]
     clear hK2
     refine for_cut fun C hC => ?_
     unfold tFor3
     walk_at "rd"
     refine ⟨fun i ρ M' => ∃ (R : List (List Int)) (s pw : Int) (a b : Option T), ρ = [some (.int n), some (.tup (ws.map .int)), some (.int s), some (.int pw), some (.adr q), a, b, none] ∧ M' q = some (.lst (R.map tupT)) ∧ R.length ≤ i ∧ (∀ r ∈ R, IsP n r) ∧ Sub M M' ∧ s = (negs (ws.drop i) : Nat) ∧ pw = -(negs ws : Nat) ∧ stillB R = true ∧ (∀ r ∈ R, r ≠ range0 n) ∧ ∃ k, Go n ((rowsL n (ws.take i)).map (flp n (negs (ws.drop i)))) (R ++ List.replicate k (range0 n)), ⟨[], _, _, none, none, rfl, hq1, Nat.le_refl _, (fun r hr => by cases hr), hS1, by rw [List.drop_zero]; lia, by lia, rfl, (fun r hr => by cases hr), 0, .refl _⟩, fun _ _ _ _ => trivial, ?_, ?_⟩
     · rintro i x ρ M' hx ⟨R, s, pw, a, b, rfl, hq', hRl, hR, hS, rfl, rfl, hst, hnp, k, hgo⟩
       obtain ⟨l, hl', rfl⟩ := get_map_int hx
       have hi := (List.getElem?_eq_some_iff.mp hl').1
       rw [hC]
       clear hC
       refine seq_cut fun K4 hK4 => ?_
       have hlo := hw l (List.mem_of_getElem? hl')
       have hdr := negs_drop hl'
       have hk4 : K4 [some (.int n), some (.tup (ws.map .int)), some (.int (negs (ws.drop (i + 1)) : Nat)), some (.int (-(negs ws : Nat))), some (.adr q), some (.int l), b, none] M' := by
         rw [hK4]
         clear hK4
         refine seq_cut fun K5 hK5 => ?_
         walk_at "rd"
         refine ⟨h1, h6, hlo, fun ho => ?_⟩
         rw [hK5]
         clear hK5
         refine seq_cut fun K6 hK6 => ?_
         have hk6 : IsP n (flp n (negs (ws.drop (i + 1))) (ordF n l)) → K6 [some (.int n), some (.tup (ws.map .int)), some (.int (negs (ws.drop (i + 1)) : Nat)), some (.int (-(negs ws : Nat))), some (.adr q), some (.int l), some (.tup ((flp n (negs (ws.drop (i + 1))) (ordF n l)).map .int)), none] M' := by
           intro ho'
           rw [hK6]
           clear hK6
           walk_at "rd"
           refine ⟨n, R, _, hq', rfl, h1, h6, by lia, ho', hR, hst, hnp, fun R' hl2 hR' hs' hn' hg' => ?_⟩
           obtain ⟨k', g'⟩ := go_more (by lia) h6 ho' hgo hg'
           rw [← rows_next hl' hlo] at g'
           exact ⟨R', _, _, _, _, rfl, updM_same, by lia, hR', hS.updF hqM, rfl, rfl, hs', hn', k', g'⟩
         walk_at "rd"
         refine ⟨by decide, ite2 (fun c => ?_) (fun c => ?_)⟩
         · have ef : flp n (negs (ws.drop (i + 1))) (ordF n l) = flO n (ordF n l) := by unfold flp; rw [if_pos (by lia)]
           rw [ef] at hk6
           exact ⟨n, _, rfl, by lia, h6, ho, hk6 (fl_isP ho)⟩
         · have ef : flp n (negs (ws.drop (i + 1))) (ordF n l) = ordF n l := by unfold flp; rw [if_neg (by lia)]
           rw [ef] at hk6
           exact hk6 ho
       walk_at "rd"
       refine ite2 (fun c => ?_) (fun c => ?_)
       · rw [if_pos c] at hdr
         rw [show ((negs (ws.drop i) : Nat) : Int) - 1 = (negs (ws.drop (i + 1)) : Nat) by lia]
         exact hk4
       · rw [if_neg c, Nat.add_zero] at hdr
         rw [hdr]
         exact hk4
     · rintro ρ M' ⟨R, s, pw, a, b, rfl, hq', hRl, hR, hS, rfl, rfl, hst, hnp, k, hgo⟩
       rw [hK3]
       clear hK3
       walk_at "rd"
       rw [hq']
       refine ⟨trivial, by lia, h6, ?_⟩
       dsimp only
       rw [hq']
       refine ⟨R, _, rfl, rfl, ?_⟩
       dsimp only
       intro r2 hr2
       rw [cutT_from' _ _ (by lia), ← List.map_drop]
       rw [List.take_length, List.drop_length, show negs [] = 0 from rfl, flp_zero] at hgo
       have hf := h R k hR hst hnp hgo
       exact ⟨by decide, rt3_sub hf (hS.newr hr2)⟩
 · exact h.elim
noncomputable def sp_form_of : Sp3 := fun ts M Q => ∃ (n : Int) (ws : List Int), ts = [.tup [.int n, .tup (ws.map .int)]] ∧ PlOK n ws ∧ ∀ f : PR, Fo n (wp n ws) f → okR n f.2 → f.2.length ≤ 16 → Q (frT f) M
theorem ok_form_of {P : Program} {w : World} {K : PySem.W.Frag} {mg : Str → Option Value} {base : Heap} {f : Addr} {fd : FuncData} {n : Nat}  (F : Fun K "form_of" "form_of" s_form_of f fd) (hm : mg "form_of" = some (.ref f)) (hb : Binds K fd ["plait"] []) (Z : Zs mg) (D_looked : Df P w K mg base n "looked" ["plait"] sp_looked) (D_form_by_letters : Df P w K mg base n "form_by_letters" ["strands", "word"] sp_form_by_letters) : Df P w K mg base (n + 1) "form_of" ["plait"] sp_form_of := by
 refine F.dfn hm hb sc_form_of (by intro ts M Q h; unfold sp_form_of at h; first | (split at h <;> first | rfl | exact h.elim) | (obtain ⟨_, _, _, _, _, rfl, _⟩ := h; rfl) | (obtain ⟨_, _, _, _, rfl, _⟩ := h; rfl) | (obtain ⟨_, _, _, rfl, _⟩ := h; rfl) | (obtain ⟨_, _, rfl, _⟩ := h; rfl) | (obtain ⟨_, rfl, _⟩ := h; rfl)) ⟨_, fun cdv A outer s H E hr => (ss_cons (s_expr (h_call D_looked hr (a_cons (hv 0) a_nil))) (ss_one (s_ret (h_call D_form_by_letters hr (a_cons (h_ix (hv 0) h_int) (a_cons (h_ix (hv 0) h_int) a_nil)))))), fun ts M Q h => ?_⟩
 unfold sp_form_of at h
 obtain ⟨n, ws, rfl, ok, h⟩ := h
 walk_at "rd"
 refine ⟨ws, rfl, ok, ?_⟩
 refine ⟨ws, rfl, ok.1, ok.2.1, by have := ok.2.2.1; lia, ok.2.2.2, fun S k a b c d => rt3_here (h _ ⟨S, ⟨a, b, c, k, d⟩, rfl⟩ (fun r hr => a r (List.mem_of_mem_drop hr)) ?_)⟩
 have := form_len d
 have := ok.2.2.1
 show (S.drop _).length ≤ 16
 rw [List.length_drop]
 lia
noncomputable def sp_same_form : Sp3 := fun ts M Q => ∃ (n : Int) (ws vs : List Int), ts = [.tup [.int n, .tup (ws.map .int)], .tup [.int n, .tup (vs.map .int)]] ∧ PlOK n ws ∧ PlOK n vs ∧ Q (.bl (alB n ws vs)) M
theorem ok_same_form {P : Program} {w : World} {K : PySem.W.Frag} {mg : Str → Option Value} {base : Heap} {f : Addr} {fd : FuncData} {n : Nat}  (F : Fun K "same_form" "same_form" s_same_form f fd) (hm : mg "same_form" = some (.ref f)) (hb : Binds K fd ["one", "other"] []) (Z : Zs mg) (D_looked_both : Df P w K mg base n "looked_both" ["one", "other"] sp_looked_both) (D_form_of : Df P w K mg base n "form_of" ["plait"] sp_form_of) : Df P w K mg base (n + 1) "same_form" ["one", "other"] sp_same_form := by
 refine F.dfn hm hb sc_same_form (by intro ts M Q h; unfold sp_same_form at h; first | (split at h <;> first | rfl | exact h.elim) | (obtain ⟨_, _, _, _, _, rfl, _⟩ := h; rfl) | (obtain ⟨_, _, _, _, rfl, _⟩ := h; rfl) | (obtain ⟨_, _, _, rfl, _⟩ := h; rfl) | (obtain ⟨_, _, rfl, _⟩ := h; rfl) | (obtain ⟨_, rfl, _⟩ := h; rfl)) ⟨_, fun cdv A outer s H E hr => (ss_cons (s_expr (h_call D_looked_both hr (a_cons (hv 0) (a_cons (hv 1) a_nil)))) (ss_one (s_ret (h_cmp (op3_eq hr.units) (h_call D_form_of hr (a_cons (hv 0) a_nil)) (h_call D_form_of hr (a_cons (hv 1) a_nil)) (nomark _))))), fun ts M Q h => ?_⟩
 unfold sp_same_form at h
 obtain ⟨n, ws, vs, rfl, ok, okv, h⟩ := h
 walk_at "rd"
 refine ⟨ws, vs, rfl, rfl, rfl, ok, okv, ?_⟩
 refine ⟨n, ws, rfl, ok, fun f hf _ _ => ?_⟩
 refine ⟨n, vs, rfl, okv, fun g hg _ _ => ?_⟩
 refine ⟨frT_pure f, frT_pure g, frT_dep f, ?_⟩
 rw [eqT_frT]
 have e : decide (f = g) = alB n ws vs := by
   have k := form_alike ok.1 ok.2.1 ok.2.2.2 okv.2.2.2 hf hg
   by_cases c : f = g
   · rw [decide_eq_true c, alB_true (k.mp c)]
   · rw [decide_eq_false c, alB_false.mpr (fun z => c (k.mpr z))]
 rw [e]
 exact rt3_here h
noncomputable def sp_made_by_letter : Sp3 := fun ts M Q => match ts with
 | [.int l] => l ≠ 0 ∧ l.natAbs < 1000 ∧ ∀ p, M p = none → Q (.adr p) (updM M p (.dk (mkKv l)))
 | _ => False
theorem mkKv_nodup (l : Int) (h : l ≠ 0) : ((mkKv l).map Prod.fst).Nodup := by
 have := mkKs_nodup l h
 unfold mkKs at this
 unfold mkKv
 simp only [List.map_cons, List.map_nil, List.nodup_cons, List.mem_cons, List.not_mem_nil, or_false, Sum.inl.injEq] at this ⊢
 exact ⟨this.1, this.2.1, this.2.2.1, this.2.2.2.1, List.nodup_nil⟩
theorem ok_made_by_letter {P : Program} {w : World} {K : PySem.W.Frag} {mg : Str → Option Value} {base : Heap} {f : Addr} {fd : FuncData} {n : Nat}  (F : Fun K "made_by_letter" "made_by_letter" s_made_by_letter f fd) (hm : mg "made_by_letter" = some (.ref f)) (hb : Binds K fd ["letter"] []) (Z : Zs mg) (D_contrary : Df P w K mg base n "contrary" ["word"] sp_contrary) : Df P w K mg base (n + 1) "made_by_letter" ["letter"] sp_made_by_letter := by
 refine F.dfn hm hb sc_made_by_letter (by intro ts M Q h; unfold sp_made_by_letter at h; first | (split at h <;> first | rfl | exact h.elim) | (obtain ⟨_, _, _, _, _, rfl, _⟩ := h; rfl) | (obtain ⟨_, _, _, _, rfl, _⟩ := h; rfl) | (obtain ⟨_, _, _, rfl, _⟩ := h; rfl) | (obtain ⟨_, _, rfl, _⟩ := h; rfl) | (obtain ⟨_, rfl, _⟩ := h; rfl)) ⟨_, fun cdv A outer s H E hr => (ss_cons (s_set (i := 1) (h_callB call3_abs Z.b_abs PyProof.Rows.boot_abs (a_cons (hv 0) a_nil)) sc_made_by_letter.nd) (ss_cons (s_if (h_tcmp op3_gt (hv 0) h_int (nomark _)) (ss_cons (s_set (i := 2) (h_tup (a_cons (hv 1) (a_cons (h_bin op3_add (hv 1) h_int) (a_cons (h_un un3_neg (hv 1)) a_nil)))) sc_made_by_letter.nd) (ss_one (s_set (i := 3) (h_tup (a_cons (hv 1) a_nil)) sc_made_by_letter.nd))) (ss_cons (s_set (i := 2) (h_tup (a_cons (h_bin op3_add (hv 1) h_int) a_nil)) sc_made_by_letter.nd) (ss_one (s_set (i := 3) (h_tup (a_cons (h_un un3_neg (h_bin op3_add (hv 1) h_int)) (a_cons (hv 1) (a_cons (h_bin op3_add (hv 1) h_int) a_nil)))) sc_made_by_letter.nd)))) (ss_one (s_ret (h_dic (hps_cons (hv 1) (hv 2) (hps_cons (h_bin op3_add (hv 1) h_int) (hv 3) (hps_cons (h_un un3_neg (hv 1)) (h_call D_contrary hr (a_cons (hv 2) a_nil)) (hps_cons (h_un un3_neg (h_bin op3_add (hv 1) h_int)) (h_call D_contrary hr (a_cons (hv 3) a_nil)) hps_nil))))))))), fun ts M Q h => ?_⟩
 unfold sp_made_by_letter at h
 split at h
 · rename_i l
   obtain ⟨h0, h1, h⟩ := h
   walk_at "rd"
   refine ite2 (fun hl => ?_) (fun hl => ?_)
   · walk_at "rd"
     have eA : mkA l = [(l.natAbs : Int), (l.natAbs : Int) + 1, -(l.natAbs : Int)] := if_pos hl
     have eB : mkB l = [(l.natAbs : Int)] := if_pos hl
     refine ⟨by decide, by decide, fun p hp => ⟨mkA l, by rw [eA]; rfl, by rw [eA]; exact (by decide : (3 : Nat) < 10000), mkB l, by rw [eB]; rfl, by rw [eB]; exact (by decide : (1 : Nat) < 10000), updM_same, mkKv l, rfl, ?_, mkKv_nodup l h0, ?_⟩⟩
     · unfold mkKv; rw [eA, eB]; rfl
     · rw [updM_updM]; exact rt3_here (h p hp)
   · walk_at "rd"
     have eA : mkA l = [(l.natAbs : Int) + 1] := if_neg hl
     have eB : mkB l = [-((l.natAbs : Int) + 1), (l.natAbs : Int), (l.natAbs : Int) + 1] := if_neg hl
     refine ⟨by decide, by decide, fun p hp => ⟨mkA l, by rw [eA]; rfl, by rw [eA]; exact (by decide : (1 : Nat) < 10000), mkB l, by rw [eB]; rfl, by rw [eB]; exact (by decide : (3 : Nat) < 10000), updM_same, mkKv l, rfl, ?_, mkKv_nodup l h0, ?_⟩⟩
     · unfold mkKv; rw [eA, eB]; rfl
     · rw [updM_updM]; exact rt3_here (h p hp)
 · exact h.elim
noncomputable def sp_made_by_word : Sp3 := fun ts M Q => match ts with
 | [.tup w, .int j] => ∃ ws : List Int, w = ws.map .int ∧ ws.length ≤ 16 ∧ (∀ l ∈ ws, l ≠ 0 ∧ l.natAbs < 1000) ∧ Q (.tup ((imgL ws j).map .int)) M
 | _ => False
theorem ok_made_by_word {P : Program} {w : World} {K : PySem.W.Frag} {mg : Str → Option Value} {base : Heap} {f : Addr} {fd : FuncData} {n : Nat}  (F : Fun K "made_by_word" "made_by_word" s_made_by_word f fd) (hm : mg "made_by_word" = some (.ref f)) (hb : Binds K fd ["word", "j"] []) (Z : Zs mg) (D_made_by_letter : Df P w K mg base n "made_by_letter" ["letter"] sp_made_by_letter) (D_without_pairs : Df P w K mg base n "without_pairs" ["word"] sp_without_pairs) : Df P w K mg base (n + 1) "made_by_word" ["word", "j"] sp_made_by_word := by
 refine F.dfn hm hb sc_made_by_word (by intro ts M Q h; unfold sp_made_by_word at h; first | (split at h <;> first | rfl | exact h.elim) | (obtain ⟨_, _, _, _, _, rfl, _⟩ := h; rfl) | (obtain ⟨_, _, _, _, rfl, _⟩ := h; rfl) | (obtain ⟨_, _, _, rfl, _⟩ := h; rfl) | (obtain ⟨_, _, rfl, _⟩ := h; rfl) | (obtain ⟨_, rfl, _⟩ := h; rfl)) ⟨_, fun cdv A outer s H E hr => (ss_cons (s_set (i := 2) (h_tup (a_cons (hv 1) a_nil)) sc_made_by_word.nd) (ss_cons (s_for PassesOwn.never rfl (i_seq (hv 0)) (g_name (i := 3) sc_made_by_word.nd) (ss_cons (s_set (i := 4) (h_call D_made_by_letter hr (a_cons (hv 3) a_nil)) sc_made_by_word.nd) (ss_cons (s_set (i := 5) (h_lst a_nil) sc_made_by_word.nd) (ss_cons (s_for PassesOwn.never rfl (i_seq (hv 2)) (g_name (i := 6) sc_made_by_word.nd) (ss_one (s_expr (h_m_extend (hv 5) (a_cons (h_get2 hr.units (hv 4) (hv 6) (h_tup (a_cons (hv 6) a_nil))) a_nil))))) (ss_one (s_set (i := 2) (h_call D_without_pairs hr (a_cons (hv 5) a_nil)) sc_made_by_word.nd)))))) (ss_one (s_ret (hv 2))))), fun ts M Q h => ?_⟩
 unfold sp_made_by_word at h
 split at h
 · rename_i w j
   obtain ⟨ws, rfl, hl, hz, h⟩ := h
   have nz : NZ ws := fun l hl => (hz l hl).1
   walk_at "rd"
   refine ⟨by decide, fun i ρ M' => ∃ a b c d, ρ = [some (T.tup (ws.map T.int)), some (T.int j), some (T.tup ((actW (ws.take i) [j]).map T.int)), a, b, c, d] ∧ Sub M M', ⟨_, _, _, _, rfl, Sub.refl⟩, fun _ _ _ _ => trivial, ?_, ?_⟩
   · rintro i x ρ M' hx ⟨a, b, c, d, rfl, hS⟩
     obtain ⟨l, hl', rfl⟩ := intL_get hx
     obtain ⟨z1, z2⟩ := hz l (List.mem_of_getElem? hl')
     have hi := (List.getElem?_eq_some_iff.mp hl').1
     have nzt : NZ (ws.take i) := fun y hy => nz y (List.mem_of_mem_take hy)
     have sz := Sized.act (ws.take i) nzt 0 [j] (Sized.one j)
     rw [List.length_take, Nat.min_eq_left (by lia), Nat.zero_add] at sz
     have sz2 := sz.flat z1
     have e := actW_succ hl' [j]
     generalize actW (ws.take i) [j] = u at sz sz2 e ⊢
     have b1 : u.length ≤ 1607521 := Nat.le_trans sz.1 (pell_16 (by lia))
     have b2 : (u.flatMap (mkL l)).length ≤ 1607521 := Nat.le_trans sz2.1 (pell_16 (by lia))
     walk_at "rd"
     refine ⟨z1, z2, fun pd hpd p hp => ?_⟩
     have hSd := hS.newr (o := .dk (mkKv l)) hpd
     have hdp : p ≠ pd := fun z => by rw [z, updM_same] at hp; cases hp
     have hS1 := hSd.newr (o := .lst []) hp
     have hd1 : updM (updM M' pd (.dk (mkKv l))) p (.lst []) pd = some (.dk (mkKv l)) := by rw [updM_ne hdp.symm, updM_same]
     have hp1 : updM (updM M' pd (.dk (mkKv l))) p (.lst []) p = some (.lst []) := updM_same
     have hpM : M p = none := none_of hSd hp
     generalize updM (updM M' pd (.dk (mkKv l))) p (.lst []) = M1' at hS1 hd1 hp1 ⊢
     refine ⟨fun k ρ2 M2 => ∃ y, ρ2 = [some (T.tup (ws.map T.int)), some (T.int j), some (T.tup (u.map T.int)), some (T.int l), some (T.adr pd), some (T.adr p), y] ∧ M2 p = some (.lst (((u.take k).flatMap (mkL l)).map T.int)) ∧ Sub M M2 ∧ M2 pd = some (.dk (mkKv l)),
       ⟨_, rfl, hp1, hS1, hd1⟩, fun _ _ _ _ => trivial, ?_, ?_⟩
     · rintro k x ρ2 M2 hx2 ⟨y, rfl, hM2, hS2, hd2⟩
       obtain ⟨v, hv, rfl⟩ := intL_get hx2
       have fs := flat_succ (g := mkL l) hv
       have bb : ((u.take k).flatMap (mkL l)).length + (mkL l v).length ≤ 1607521 := by
         rw [← List.length_append, ← fs]
         have hq : u = u.take (k + 1) ++ u.drop (k + 1) := (List.take_append_drop ..).symm
         rw [hq, List.flatMap_append, List.length_append] at b2
         lia
       walk_at "rd"
       have mg := mk_get l v
       simp only [List.map_cons, List.map_nil] at mg
       simp only [hd2, hM2]
       refine ⟨trivial, trivial, by decide, .inl v, rfl, ?_⟩
       rw [mg]
       dsimp only
       rw [hM2]
       dsimp only
       refine ⟨by simp only [List.length_map]; exact line_big' (by lia), _, rfl, by rw [updM_same, fs, List.map_append], hS2.updF hpM, by rw [updM_ne hdp.symm]; exact hd2⟩
     · rintro ρ2 M2 ⟨y, rfl, hM2, hS2, hd2⟩
       rw [List.length_map, List.take_length] at hM2
       walk_at "rd"
       refine ⟨_, hM2, by lia, ?_⟩
       rw [← e]
       exact ⟨_, _, _, _, rfl, hS2⟩
   · rintro ρ M' ⟨a, b, c, d, rfl, hS⟩
     rw [List.length_map, List.take_length, actW_img nz]
     walk_at "rd"
     exact rt3_sub h hS
 · exact h.elim
noncomputable def sp_unlike : Sp3 := fun ts M Q => match ts with
 | [.tup [.int n, .tup w], .tup [.int m, .tup v]] => ∃ ws vs : List Int, w = ws.map .int ∧ v = vs.map .int ∧ n = m ∧ PlOK n ws ∧ PlOK n vs ∧ Q (unlikeT n ws vs) M
 | _ => False
theorem ok_unlike {P : Program} {w : World} {K : PySem.W.Frag} {mg : Str → Option Value} {base : Heap} {f : Addr} {fd : FuncData} {n : Nat}  (F : Fun K "unlike" "unlike" s_unlike f fd) (hm : mg "unlike" = some (.ref f)) (hb : Binds K fd ["one", "other"] []) (Z : Zs mg) (D_looked_both : Df P w K mg base n "looked_both" ["one", "other"] sp_looked_both) (D_made_by_word : Df P w K mg base n "made_by_word" ["word", "j"] sp_made_by_word) : Df P w K mg base (n + 1) "unlike" ["one", "other"] sp_unlike := by
 refine F.dfn hm hb sc_unlike (by intro ts M Q h; unfold sp_unlike at h; first | (split at h <;> first | rfl | exact h.elim) | (obtain ⟨_, _, _, _, _, rfl, _⟩ := h; rfl) | (obtain ⟨_, _, _, _, rfl, _⟩ := h; rfl) | (obtain ⟨_, _, _, rfl, _⟩ := h; rfl) | (obtain ⟨_, _, rfl, _⟩ := h; rfl) | (obtain ⟨_, rfl, _⟩ := h; rfl)) ⟨_, fun cdv A outer s H E hr => (ss_cons (s_expr (h_call D_looked_both hr (a_cons (hv 0) (a_cons (hv 1) a_nil)))) (ss_cons (s_for PassesOwn.never rfl (i_range2 Z.b_range (a_cons h_int (a_cons (h_bin op3_add (h_ix (hv 0) h_int) h_int) a_nil))) (g_name (i := 2) sc_unlike.nd) (ss_cons (s_set (i := 3) (h_call D_made_by_word hr (a_cons (h_ix (hv 0) h_int) (a_cons (hv 2) a_nil))) sc_unlike.nd) (ss_cons (s_set (i := 4) (h_call D_made_by_word hr (a_cons (h_ix (hv 1) h_int) (a_cons (hv 2) a_nil))) sc_unlike.nd) (ss_one (s_if (h_tcmp (op3_ne hr.units) (hv 3) (hv 4) (nomark _)) (ss_one (s_ret (h_tup (a_cons (hv 2) (a_cons (hv 3) (a_cons (hv 4) a_nil)))))) ss_nil))))) (ss_one (s_ret h_non)))), fun ts M Q h => ?_⟩
 unfold sp_unlike at h
 split at h
 · rename_i n w m v
   obtain ⟨ws, vs, rfl, rfl, rfl, ok1, ok2, h⟩ := h
   obtain ⟨o1, o2, o3, o4⟩ := id ok1
   walk_at "rd"
   refine ⟨ws, vs, rfl, rfl, rfl, ok1, ok2, ?_⟩
   walk_at "rd"
   refine ⟨⟨by decide, by decide, by lia, by lia⟩, fun i ρ M' => ∃ a b c, ρ = [some (T.tup [T.int n, T.tup (ws.map T.int)]), some (T.tup [T.int n, T.tup (vs.map T.int)]), a, b, c] ∧ Sub M M' ∧ ∀ k ∈ (((List.range n.toNat).map fun i => ((i : Nat) : Int) + 1)).take i, imgL ws k = imgL vs k,
     ⟨_, _, _, rfl, Sub.refl, by intro k hk; simp at hk⟩, fun _ _ _ _ => trivial, ?_, ?_⟩
   · rintro i x ρ M' hx ⟨a, b, c, rfl, hS, hk⟩
     obtain ⟨hi, rfl⟩ := rangeT_get hx
     walk_at "rd"
     refine ⟨ws, rfl, o3, plNZ ok1, ?_⟩
     walk_at "rd"
     refine ⟨vs, rfl, ok2.2.2.1, plNZ ok2, ?_⟩
     walk_at "rd"
     have hi' : i < n.toNat := by lia
     have eg : (((List.range n.toNat).map fun i => ((i : Nat) : Int) + 1))[i]? = some (((i : Nat) : Int) + 1) := by
       rw [List.getElem?_map, List.getElem?_range hi']; rfl
     rw [show (1 : Int) + (i : Nat) = (i : Nat) + 1 by lia]
     refine ⟨by decide, ite2 (fun hc => ⟨by decide, ?_⟩) (fun hc => ⟨_, _, _, rfl, hS, fun k hk' => ?_⟩)⟩
     · unfold unlikeT unlikeL at h
       rw [unlikeFrom_some eg hk hc] at h
       exact rt3_sub h hS
     · rw [List.take_add_one, eg] at hk'
       rcases List.mem_append.mp hk' with z | z
       · exact hk k z
       · have : k = (i : Nat) + 1 := by simpa using z
         rw [this]
         exact Decidable.not_not.mp hc
   · rintro ρ M' ⟨a, b, c, rfl, hS, hk⟩
     walk_at "rd"
     have e : (rangeT 1 (n + 1 - 1).toNat).length = ((List.range n.toNat).map fun i => ((i : Nat) : Int) + 1).length := by rw [rangeT_length, List.length_map, List.length_range]; congr 1; lia
     rw [e, List.take_length] at hk
     unfold unlikeT unlikeL at h
     rw [unlikeFrom_none hk] at h
     exact rt3_sub h hS
 · exact h.elim
noncomputable def sp_alike : Sp3 := fun ts M Q => match ts with
 | [.tup [.int n, .tup w], .tup [.int m, .tup v]] => ∃ ws vs : List Int, w = ws.map .int ∧ v = vs.map .int ∧ n = m ∧ PlOK n ws ∧ PlOK n vs ∧ Q (.bl (unlikeL n ws vs).isNone) M
 | _ => False
theorem ok_alike {P : Program} {w : World} {K : PySem.W.Frag} {mg : Str → Option Value} {base : Heap} {f : Addr} {fd : FuncData} {n : Nat}  (F : Fun K "alike" "alike" s_alike f fd) (hm : mg "alike" = some (.ref f)) (hb : Binds K fd ["one", "other"] []) (Z : Zs mg) (D_unlike : Df P w K mg base n "unlike" ["one", "other"] sp_unlike) : Df P w K mg base (n + 1) "alike" ["one", "other"] sp_alike := by
 refine F.dfn hm hb sc_alike (by intro ts M Q h; unfold sp_alike at h; first | (split at h <;> first | rfl | exact h.elim) | (obtain ⟨_, _, _, _, _, rfl, _⟩ := h; rfl) | (obtain ⟨_, _, _, _, rfl, _⟩ := h; rfl) | (obtain ⟨_, _, _, rfl, _⟩ := h; rfl) | (obtain ⟨_, _, rfl, _⟩ := h; rfl) | (obtain ⟨_, rfl, _⟩ := h; rfl)) ⟨_, fun cdv A outer s H E hr => (ss_one (s_ret (h_cmp op3_is (h_call D_unlike hr (a_cons (hv 0) (a_cons (hv 1) a_nil))) h_non (nomark _)))), fun ts M Q h => ?_⟩
 unfold sp_alike at h
 split at h
 · rename_i n w m v
   obtain ⟨ws, vs, rfl, rfl, rfl, ok1, ok2, h⟩ := h
   walk_at "rd"
   refine ⟨ws, vs, rfl, rfl, rfl, ok1, ok2, ?_⟩
   have e : isNonT (unlikeT n ws vs) = (unlikeL n ws vs).isNone := by
     unfold unlikeT
     cases unlikeL n ws vs <;> rfl
   first | rw [← e] at h | skip
   walk_at "rd"
   exact rt3_here h
 · exact h.elim
noncomputable def sp__law_cell_at : Sp3 := fun ts M Q => match ts with
 | [.rd s, .int k] => ∃ ns : List Int, s = ns.map .int ∧ 0 ≤ k ∧ ∀ c, Q (.int c) M
 | _ => False
theorem ok__law_cell_at {P : Program} {w : World} {K : PySem.W.Frag} {mg : Str → Option Value} {base : Heap} {f : Addr} {fd : FuncData} {n : Nat}  (F : Fun K "_law_cell_at" "_law_cell_at" s__law_cell_at f fd) (hm : mg "_law_cell_at" = some (.ref f)) (hb : Binds K fd ["script", "k"] []) (Z : Zs mg)  : Df P w K mg base (n + 1) "_law_cell_at" ["script", "k"] sp__law_cell_at := by
 refine F.dfn hm hb sc__law_cell_at (by intro ts M Q h; unfold sp__law_cell_at at h; first | (split at h <;> first | rfl | exact h.elim) | (obtain ⟨_, _, _, _, _, rfl, _⟩ := h; rfl) | (obtain ⟨_, _, _, _, rfl, _⟩ := h; rfl) | (obtain ⟨_, _, _, rfl, _⟩ := h; rfl) | (obtain ⟨_, _, rfl, _⟩ := h; rfl) | (obtain ⟨_, rfl, _⟩ := h; rfl)) ⟨_, fun cdv A outer s H E hr => (ss_cons (s_if (h_tcmp op3_lt (hv 1) (h_callB call3_len Z.b_len PySem.boot_len (a_cons (hv 0) a_nil)) (nomark _)) (ss_one (s_ret (h_ix (hv 0) (hv 1)))) ss_nil) (ss_one (s_ret h_int))), fun ts M Q h => ?_⟩
 unfold sp__law_cell_at at h
 split at h
 · rename_i s k
   obtain ⟨ns, rfl, h0, h⟩ := h
   walk_at "rd"
   refine ite2 (fun c => ?_) (fun c => rt3_here (h _))
   rw [atI_ints ns k h0 c]
   exact rt3_here (h _)
 · exact h.elim
noncomputable def sp__law_state : Sp3 := fun ts M Q => match ts with
 | [.rd s, .int k] => ∃ ns : List Int, s = ns.map .int ∧ 0 ≤ k ∧ ∀ p n f, M p = none → Q (.adr p) (updM M p (.lst [.int n, .bl f]))
 | _ => False
theorem ok__law_state {P : Program} {w : World} {K : PySem.W.Frag} {mg : Str → Option Value} {base : Heap} {f : Addr} {fd : FuncData} {n : Nat}  (F : Fun K "_law_state" "_law_state" s__law_state f fd) (hm : mg "_law_state" = some (.ref f)) (hb : Binds K fd ["script", "k"] []) (Z : Zs mg) (D__law_cell_at : Df P w K mg base n "_law_cell_at" ["script", "k"] sp__law_cell_at) : Df P w K mg base (n + 1) "_law_state" ["script", "k"] sp__law_state := by
 refine F.dfn hm hb sc__law_state (by intro ts M Q h; unfold sp__law_state at h; first | (split at h <;> first | rfl | exact h.elim) | (obtain ⟨_, _, _, _, _, rfl, _⟩ := h; rfl) | (obtain ⟨_, _, _, _, rfl, _⟩ := h; rfl) | (obtain ⟨_, _, _, rfl, _⟩ := h; rfl) | (obtain ⟨_, _, rfl, _⟩ := h; rfl) | (obtain ⟨_, rfl, _⟩ := h; rfl)) ⟨_, fun cdv A outer s H E hr => (ss_cons (s_set (i := 2) (h_call D__law_cell_at hr (a_cons (hv 0) (a_cons (hv 1) a_nil))) sc__law_state.nd) (ss_cons (s_if (h_tcmp op3_ge (hv 2) (h_bin op3_pow h_int h_int) (nomark _)) (ss_one (s_ret (h_lst (a_cons (h_bin op3_sub (hv 2) (h_bin op3_pow h_int h_int)) (a_cons h_bl a_nil))))) ss_nil) (ss_one (s_ret (h_lst (a_cons (h_bin op3_mod (hv 2) h_int) (a_cons h_bl a_nil))))))), fun ts M Q h => ?_⟩
 unfold sp__law_state at h
 split at h
 · rename_i s k
   obtain ⟨ns, rfl, h0, h⟩ := h
   walk_at "rd"
   refine ⟨ns, rfl, h0, fun c => ?_⟩
   walk_at "rd"
   refine ⟨⟨by decide, by decide, by decide⟩, ?_⟩
   refine ite2 (fun _ => ⟨⟨by decide, by decide, by decide⟩, by decide, fun p hp => rt3_here (h _ _ _ hp)⟩) (fun _ => ⟨by decide, by decide, fun p hp => rt3_here (h _ _ _ hp)⟩)
 · exact h.elim
theorem cmul_mod {x y k : Int} (hk : 0 < k) (hk' : k ≤ 2 ^ 64) : CMul (x % k) y := by
 have h1 := Int.emod_nonneg x (Int.ne_of_gt hk)
 have h2 := Int.emod_lt_of_pos x hk
 exact .inl ⟨by lia, by lia⟩
theorem cdiv_ok {x m : Int} (h0 : 0 < m) (h1 : m < 2 ^ 100) : CDivB x m := by
 refine ⟨h0, ?_⟩
 have : m.natAbs.log2 < 100 := (Nat.log2_lt (by lia)).mpr (by lia)
 lia
noncomputable def sp__law_choice : Sp3 := fun ts M Q => match ts with
 | [.adr p, .int m] => ∃ s f, M p = some (.lst [.int s, .bl f]) ∧ 0 < m ∧ m < 2 ^ 100 ∧ ∀ c s', 0 ≤ c → c < m → Q (.int c) (updM M p (.lst [.int s', .bl f]))
 | _ => False
theorem ok__law_choice {P : Program} {w : World} {K : PySem.W.Frag} {mg : Str → Option Value} {base : Heap} {f : Addr} {fd : FuncData} {n : Nat}  (F : Fun K "_law_choice" "_law_choice" s__law_choice f fd) (hm : mg "_law_choice" = some (.ref f)) (hb : Binds K fd ["state", "many"] []) (Z : Zs mg)  : Df P w K mg base (n + 1) "_law_choice" ["state", "many"] sp__law_choice := by
 refine F.dfn hm hb sc__law_choice (by intro ts M Q h; unfold sp__law_choice at h; first | (split at h <;> first | rfl | exact h.elim) | (obtain ⟨_, _, _, _, _, rfl, _⟩ := h; rfl) | (obtain ⟨_, _, _, _, rfl, _⟩ := h; rfl) | (obtain ⟨_, _, _, rfl, _⟩ := h; rfl) | (obtain ⟨_, _, rfl, _⟩ := h; rfl) | (obtain ⟨_, rfl, _⟩ := h; rfl)) ⟨_, fun cdv A outer s H E hr => (ss_cons (s_if (h_truth (h_ix (hv 0) h_int)) (ss_cons (s_set (i := 2) (h_bin op3_mod (h_ix (hv 0) h_int) (hv 1)) sc__law_choice.nd) (ss_cons (s_asg (h_bin op3_div (h_ix (hv 0) h_int) (hv 1)) (g_sub (hv 0) h_int)) (ss_one (s_ret (hv 2))))) ss_nil) (ss_cons (s_asg (h_bin op3_mod (h_bin op3_add (h_bin op3_mul (h_ix (hv 0) h_int) h_int) h_int) h_int) (g_sub (hv 0) h_int)) (ss_cons (s_set (i := 3) (h_bin op3_mod (h_bin op3_add (h_bin op3_add (h_bin op3_mul (h_ix (hv 0) h_int) (h_ix (hv 0) h_int)) (h_bin op3_mul h_int (h_ix (hv 0) h_int))) h_int) h_int) sc__law_choice.nd) (ss_cons (s_set (i := 3) (h_bin op3_mod (h_bin op3_add (h_bin op3_mul (hv 3) (hv 3)) (h_bin op3_mul h_int (hv 3))) h_int) sc__law_choice.nd) (ss_one (s_ret (h_bin op3_mod (h_bin op3_div (hv 3) h_int) (hv 1)))))))), fun ts M Q h => ?_⟩
 unfold sp__law_choice at h
 split at h
 · rename_i p m
   obtain ⟨s, f, hM, h0, h1, h⟩ := h
   refine seq_cut fun K1 hK1 => ?_
   have hk : K1 [some (.adr p), some (.int m), none, none] M := by
     rw [hK1]
     clear hK1
     refine seq_cut fun K2 hK2 => ?_
     walk_at "rd"
     simp only [hM]
     walk_at "rd"
     refine ⟨.inr ⟨by decide, by decide⟩, by decide, ?_⟩
     have hM2 : updM M p (.lst [.int ((s * 48271 + 29) % 2147483647), .bl f]) p = some (.lst [.int ((s * 48271 + 29) % 2147483647), .bl f]) := updM_same
     have b0 : CMul ((s * 48271 + 29) % 2147483647) ((s * 48271 + 29) % 2147483647) := cmul_mod (by decide) (by decide)
     generalize (s * 48271 + 29) % 2147483647 = s1 at hM2 b0 ⊢
     rw [hK2]
     clear hK2
     refine seq_cut fun K3 hK3 => ?_
     walk_at "rd"
     refine ⟨b0, .inl ⟨by decide, by decide⟩, by decide, ?_⟩
     have b1 : ∀ y, CMul ((s1 * s1 + 39373 * s1 + 7) % 2147483629) y := fun y => cmul_mod (by decide) (by decide)
     generalize (s1 * s1 + 39373 * s1 + 7) % 2147483629 = mx at b1 ⊢
     rw [hK3]
     clear hK3
     walk_at "rd"
     refine ⟨b1 _, .inl ⟨by decide, by decide⟩, by decide, cdiv_ok (by decide) (by decide), h0, ?_⟩
     have hh := h (((mx * mx + 16807 * mx) % 2147483587) / 8 % m) s1 (Int.emod_nonneg _ (Int.ne_of_gt h0)) (Int.emod_lt_of_pos _ h0)
     refine rt3_sub hh ?_
     exact Sub.refl
   walk_at "rd"
   simp only [hM]
   walk_at "rd"
   exact ite2 (fun c => ⟨h0, cdiv_ok h0 h1, rt3_here (h _ _ (Int.emod_nonneg _ (Int.ne_of_gt h0)) (Int.emod_lt_of_pos _ h0))⟩) (fun c => hk)
 · exact h.elim
noncomputable def sp__law_word : Sp3 := fun ts M Q => match ts with
 | [.adr p, .int n, .int c] => ∃ s f, M p = some (.lst [.int s, .bl f]) ∧ n < 2 ^ 60 ∧ 0 ≤ c ∧ c ≤ 1000 ∧ ∀ (w : List Int) s', WordOK n w → (w.length : Int) ≤ c → (2 ≤ n → (w.length : Int) = c) → Q (.tup (w.map .int)) (updM M p (.lst [.int s', .bl f]))
 | _ => False
theorem ok__law_word {P : Program} {w : World} {K : PySem.W.Frag} {mg : Str → Option Value} {base : Heap} {f : Addr} {fd : FuncData} {n : Nat}  (F : Fun K "_law_word" "_law_word" s__law_word f fd) (hm : mg "_law_word" = some (.ref f)) (hb : Binds K fd ["state", "strands", "count"] []) (Z : Zs mg) (D__law_choice : Df P w K mg base n "_law_choice" ["state", "many"] sp__law_choice) : Df P w K mg base (n + 1) "_law_word" ["state", "strands", "count"] sp__law_word := by
 refine F.dfn hm hb sc__law_word (by intro ts M Q h; unfold sp__law_word at h; first | (split at h <;> first | rfl | exact h.elim) | (obtain ⟨_, _, _, _, _, rfl, _⟩ := h; rfl) | (obtain ⟨_, _, _, _, rfl, _⟩ := h; rfl) | (obtain ⟨_, _, _, rfl, _⟩ := h; rfl) | (obtain ⟨_, _, rfl, _⟩ := h; rfl) | (obtain ⟨_, rfl, _⟩ := h; rfl)) ⟨_, fun cdv A outer s H E hr => (ss_cons (s_if (h_tcmp op3_lt (hv 1) h_int (nomark _)) (ss_one (s_ret (h_tup a_nil))) ss_nil) (ss_one (s_ret (h_callT call3_tuple Z.b_tuple PyProof.Rows.boot_tuple (a_cons (h_comp rfl (i_range1 Z.b_range (a_cons (hv 2) a_nil)) (blk_scope (outer := defScope s__law_word) (N := ["state", "strands", "count"]) (N' := ["k", "state", "strands"]) (ix := [none, some 0, some 1]) (by decide +kernel) rfl rfl) bt_name (fun _ _ _ _ _ => pg_name (i := 0) (show List.Nodup (["k", "state", "strands"] : List Str) by decide +kernel) rfl (Or.inl rfl) (Or.inr rfl)) (fun _ _ _ _ _ => ts_nil) (fun _ _ _ _ _ => (h_bin op3_mul (h_ix (h_lst (a_cons h_int (a_cons (h_un un3_neg h_int) a_nil))) (h_call D__law_choice hr (a_cons (hv 1) (a_cons h_int a_nil)))) (h_bin op3_add h_int (h_call D__law_choice hr (a_cons (hv 1) (a_cons (h_bin op3_sub (hv 2) h_int) a_nil))))))) a_nil))))), fun ts M Q h => ?_⟩
 unfold sp__law_word at h
 split at h
 · rename_i p n c
   obtain ⟨s, f, hM, hn, h0, h1, h⟩ := h
   walk_at "rd"
   refine ite2 (fun hc => ?_) (fun hc => ⟨by lia, by lia, ?_⟩)
   · have := h [] s (fun _ z => nomatch z) (by simpa using h0) (by lia)
     rw [updM_self hM] at this
     exact rt3_here this
   · refine ⟨fun i ys M' => ∃ w s', ys = w.map T.int ∧ w.length = i ∧ WordOK n w ∧ Sub (updM M p (.lst [.int s', .bl f])) M', ⟨[], s, rfl, rfl, (fun _ z => nomatch z), by rw [updM_self hM]; exact Sub.refl⟩, fun _ _ _ _ => trivial, ?_, ?_, ?_⟩
     · unfold rangeT; rw [List.length_map, List.length_range]; exact Nat.lt_of_le_of_lt (by lia : c.toNat ≤ 1000) (by decide)
     · rintro i x ys M' hx ⟨w, s', rfl, rfl, hw, hS⟩
       walk_at "rd"
       refine ⟨by decide, fun r hr => ?_⟩
       have hM' := hS p _ updM_same
       have hpr : p ≠ r := ne_of_M hM' hr
       refine ⟨s', f, by rw [updM_ne hpr, hM'], by decide, by decide, fun c1 s1 hc0 hc1 => ?_⟩
       simp only [updM_ne hpr.symm, updM_same]
       have hcc : c1 = 0 ∨ c1 = 1 := by lia
       have fin : ∀ g : Int, (g = 1 ∨ g = -1) → ∀ c2 s2 : Int, 0 ≤ c2 → c2 < n - 1 → CMul g (1 + c2) ∧ ∃ w' s'', List.map T.int w ++ [T.int (g * (1 + c2))] = List.map T.int w' ∧ w'.length = w.length + 1 ∧ WordOK n w' ∧
           Sub (updM M p (.lst [.int s'', .bl f])) (updM (updM M' r (.lst [.int 1, .int (-1)])) p (.lst [.int s2, .bl f])) := by
         intro g hg c2 s2 h20 h21
         refine ⟨.inl ⟨by lia, by lia⟩, w ++ [g * (1 + c2)], s2, by simp, by simp, fun l hl => ?_, (hS.newr hr).set⟩
         rcases List.mem_append.mp hl with z | z
         · exact hw l z
         · have e : l = g * (1 + c2) := by simpa using z
           subst e
           unfold LetOK
           rcases hg with rfl | rfl
           · rw [Int.one_mul]; lia
           · rw [Int.neg_one_mul]; lia
       rcases hcc with rfl | rfl
       · walk_at "rd"
         exact ⟨s1, f, updM_same, by lia, by lia, fun c2 s2 h20 h21 => by walk_at "rd"; exact fin 1 (.inl rfl) c2 s2 h20 h21⟩
       · walk_at "rd"
         exact ⟨s1, f, updM_same, by lia, by lia, fun c2 s2 h20 h21 => by walk_at "rd"; exact fin (-1) (.inr rfl) c2 s2 h20 h21⟩
     · rintro ys M' ⟨w, s', rfl, hl, hw, hS⟩ q hq
       have hlen : (w.length : Int) = c := by
         rw [hl]; unfold rangeT; rw [List.length_map, List.length_range]; lia
       exact rt3_sub (h w s' hw (by lia) (fun _ => hlen)) (hS.newr hq)
 · exact h.elim
noncomputable def sp__law_plait : Sp3 := fun ts M Q => match ts with
 | [.adr p, .int a, .int b, .int c] => ∃ s f, M p = some (.lst [.int s, .bl f]) ∧ a ≤ b ∧ 0 ≤ a ∧ b ≤ 1000 ∧ 0 ≤ c ∧ c < 1000 ∧ ∀ (n : Int) (w : List Int) s', a ≤ n → n ≤ b → WordOK n w → (w.length : Int) ≤ c → Q (.tup [.int n, .tup (w.map .int)]) (updM M p (.lst [.int s', .bl f]))
 | _ => False
theorem ok__law_plait {P : Program} {w : World} {K : PySem.W.Frag} {mg : Str → Option Value} {base : Heap} {f : Addr} {fd : FuncData} {n : Nat}  (F : Fun K "_law_plait" "_law_plait" s__law_plait f fd) (hm : mg "_law_plait" = some (.ref f)) (hb : Binds K fd ["state", "least", "most", "letters"] []) (Z : Zs mg) (D__law_choice : Df P w K mg base n "_law_choice" ["state", "many"] sp__law_choice) (D__law_word : Df P w K mg base n "_law_word" ["state", "strands", "count"] sp__law_word) : Df P w K mg base (n + 1) "_law_plait" ["state", "least", "most", "letters"] sp__law_plait := by
 refine F.dfn hm hb sc__law_plait (by intro ts M Q h; unfold sp__law_plait at h; first | (split at h <;> first | rfl | exact h.elim) | (obtain ⟨_, _, _, _, _, rfl, _⟩ := h; rfl) | (obtain ⟨_, _, _, _, rfl, _⟩ := h; rfl) | (obtain ⟨_, _, _, rfl, _⟩ := h; rfl) | (obtain ⟨_, _, rfl, _⟩ := h; rfl) | (obtain ⟨_, rfl, _⟩ := h; rfl)) ⟨_, fun cdv A outer s H E hr => (ss_cons (s_set (i := 4) (h_bin op3_add (hv 1) (h_call D__law_choice hr (a_cons (hv 0) (a_cons (h_bin op3_add (h_bin op3_sub (hv 2) (hv 1)) h_int) a_nil)))) sc__law_plait.nd) (ss_one (s_ret (h_tup (a_cons (hv 4) (a_cons (h_call D__law_word hr (a_cons (hv 0) (a_cons (hv 4) (a_cons (h_call D__law_choice hr (a_cons (hv 0) (a_cons (h_bin op3_add (hv 3) h_int) a_nil))) a_nil)))) a_nil)))))), fun ts M Q h => ?_⟩
 unfold sp__law_plait at h
 split at h
 · rename_i p a b c
   obtain ⟨s, f, hM, h1, h2, h3, h4, h5, h⟩ := h
   walk_at "rd"
   refine ⟨s, f, hM, by lia, by lia, fun c1 s1 h10 h11 => ?_⟩
   walk_at "rd"
   refine ⟨s1, f, updM_same, by lia, by lia, fun c2 s2 h20 h21 => ?_⟩
   walk_at "rd"
   refine ⟨s2, f, by simp only [updM_same], by lia, by lia, by lia, fun w s3 hw hl _ => ?_⟩
   walk_at "rd"
   exact ⟨by decide, rt3_here (h _ _ _ (by lia) (by lia) hw (by lia))⟩
 · exact h.elim
noncomputable def GoodR (n : Int) (ws : List Int) (p : Nat × Nat × List Int) : Prop := p.1 + p.2.1 ≤ ws.length ∧ p.2.2.length ≤ p.2.1 ∧ WordOK n p.2.2 ∧ RelW n ((ws.drop p.1).take p.2.1) p.2.2
theorem goodR_end {n : Int} {ws : List Int} (hw : WordOK n ws) {p : Nat × Nat × List Int} (h : GoodR n ws p) : WordOK n (ws.take p.1 ++ p.2.2 ++ ws.drop (p.1 + p.2.1)) ∧
   (ws.take p.1 ++ p.2.2 ++ ws.drop (p.1 + p.2.1)).length ≤ ws.length ∧ RelW n ws (ws.take p.1 ++ p.2.2 ++ ws.drop (p.1 + p.2.1)) := by
 obtain ⟨h1, h2, h3, h4⟩ := h
 refine ⟨((WordOK.take hw _).append h3).append (WordOK.drop hw _), ?_, ?_⟩
 · rw [List.length_append, List.length_append, List.length_take, List.length_drop]; lia
 · have e : ws = ws.take p.1 ++ (ws.drop p.1).take p.2.1 ++ ws.drop (p.1 + p.2.1) := by
     rw [List.append_assoc, show ws.drop (p.1 + p.2.1) = (ws.drop p.1).drop p.2.1 by rw [List.drop_drop], List.take_append_drop, List.take_append_drop]
   have := RelW.ctx (ws.take p.1) (ws.drop (p.1 + p.2.1)) (WordOK.take hw p.1) (WordOK.drop hw (p.1 + p.2.1)) h4
   rwa [← e] at this
theorem goodR_snoc {n : Int} {ws : List Int} {pls : List (Nat × Nat × List Int)} {q : Nat × Nat × List Int} (h : ∀ q ∈ pls, GoodR n ws q) (g : GoodR n ws q) : ∀ x ∈ pls ++ [q], GoodR n ws x := fun x hx => by
 rcases List.mem_append.mp hx with hx | hx
 · exact h x hx
 · rw [List.mem_singleton.mp hx]; exact g
noncomputable def sp__law_stepped : Sp3 := fun ts M Q => ∃ (p : Addr) (n : Int) (s : Int) (f : Bool) (ws : List Int), ts = [.adr p, .int n, .tup (ws.map .int)] ∧ M p = some (.lst [.int s, .bl f]) ∧ 1 ≤ n ∧ n ≤ 6 ∧ WordOK n ws ∧ ws.length ≤ 100 ∧
     ∀ (v : List Int) (s' : Int), WordOK n v → v.length ≤ ws.length + 2 → RelW n ws v → Q (.tup (v.map .int)) (updM M p (.lst [.int s', .bl f]))
theorem ok__law_stepped {P : Program} {w : World} {K : PySem.W.Frag} {mg : Str → Option Value} {base : Heap} {f : Addr} {fd : FuncData} {n : Nat}  (F : Fun K "_law_stepped" "_law_stepped" s__law_stepped f fd) (hm : mg "_law_stepped" = some (.ref f)) (hb : Binds K fd ["state", "strands", "word"] []) (Z : Zs mg) (D__law_choice : Df P w K mg base n "_law_choice" ["state", "many"] sp__law_choice) (D__law_word : Df P w K mg base n "_law_word" ["state", "strands", "count"] sp__law_word) : Df P w K mg base (n + 1) "_law_stepped" ["state", "strands", "word"] sp__law_stepped := by
 refine F.dfn hm hb sc__law_stepped (by intro ts M Q h; unfold sp__law_stepped at h; first | (split at h <;> first | rfl | exact h.elim) | (obtain ⟨_, _, _, _, _, rfl, _⟩ := h; rfl) | (obtain ⟨_, _, _, _, rfl, _⟩ := h; rfl) | (obtain ⟨_, _, _, rfl, _⟩ := h; rfl) | (obtain ⟨_, _, rfl, _⟩ := h; rfl) | (obtain ⟨_, rfl, _⟩ := h; rfl)) ⟨_, fun cdv A outer s H E hr => (ss_cons (s_set (i := 3) (h_call D__law_choice hr (a_cons (hv 0) (a_cons h_int a_nil))) sc__law_stepped.nd) (ss_cons (s_if (HW.ht (w_and (h_tcmp (op3_eq hr.units) (hv 3) h_int (nomark _)) (w_and1 (h_tcmp op3_gt (hv 1) h_int (nomark _))))) (ss_cons (s_set (i := 4) (h_call D__law_choice hr (a_cons (hv 0) (a_cons (h_bin op3_add (h_callB call3_len Z.b_len PySem.boot_len (a_cons (hv 2) a_nil)) h_int) a_nil))) sc__law_stepped.nd) (ss_cons (s_set (i := 5) (h_ix (h_call D__law_word hr (a_cons (hv 0) (a_cons (hv 1) (a_cons h_int a_nil)))) h_int) sc__law_stepped.nd) (ss_one (s_ret (h_bin op3_add (h_bin op3_add (h_slice (hv 2) o_none (o_some (hv 4))) (h_tup (a_cons (hv 5) (a_cons (h_bin op3_sub h_int (hv 5)) a_nil)))) (h_slice (hv 2) (o_some (hv 4)) o_none)))))) ss_nil) (ss_cons (s_set (i := 6) (h_lst a_nil) sc__law_stepped.nd) (ss_cons (s_for PassesOwn.never rfl (i_range1 Z.b_range (a_cons (h_bin op3_sub (h_callB call3_len Z.b_len PySem.boot_len (a_cons (hv 2) a_nil)) h_int) a_nil)) (g_name (i := 4) sc__law_stepped.nd) (ss_cons (s_if (h_tcmp op3_gt (h_callB call3_abs Z.b_abs PyProof.Rows.boot_abs (a_cons (h_bin op3_sub (h_callB call3_abs Z.b_abs PyProof.Rows.boot_abs (a_cons (h_ix (hv 2) (hv 4)) a_nil)) (h_callB call3_abs Z.b_abs PyProof.Rows.boot_abs (a_cons (h_ix (hv 2) (h_bin op3_add (hv 4) h_int)) a_nil))) a_nil)) h_int (nomark _)) (ss_one (s_expr (h_m_append (hv 6) (@a_consT _ _ _ _ _ _ _ (h_tup (a_cons (hv 4) (a_cons h_int (@a_consT _ _ _ _ _ _ _ (h_tup (a_cons (h_ix (hv 2) (h_bin op3_add (hv 4) h_int)) (a_cons (h_ix (hv 2) (hv 4)) a_nil))) a_nil)))) a_nil)))) ss_nil) (ss_cons (s_if (HW.ht (w_and (h_tcmp op3_lt (hv 4) (h_bin op3_sub (h_callB call3_len Z.b_len PySem.boot_len (a_cons (hv 2) a_nil)) h_int) (nomark _)) (w_and (h_tcmp (op3_eq hr.units) (h_ix (hv 2) (hv 4)) (h_ix (hv 2) (h_bin op3_add (hv 4) h_int)) (nomark _)) (w_and1 (h_tcmp (op3_eq hr.units) (h_callB call3_abs Z.b_abs PyProof.Rows.boot_abs (a_cons (h_bin op3_sub (h_ix (hv 2) (hv 4)) (h_ix (hv 2) (h_bin op3_add (hv 4) h_int))) a_nil)) h_int (nomark _)))))) (ss_one (s_if (h_tcmp op3_gt (h_bin op3_mul (h_ix (hv 2) (hv 4)) (h_ix (hv 2) (h_bin op3_add (hv 4) h_int))) h_int (nomark _)) (ss_one (s_expr (h_m_append (hv 6) (@a_consT _ _ _ _ _ _ _ (h_tup (a_cons (hv 4) (a_cons h_int (@a_consT _ _ _ _ _ _ _ (h_tup (a_cons (h_ix (hv 2) (h_bin op3_add (hv 4) h_int)) (a_cons (h_ix (hv 2) (hv 4)) (a_cons (h_ix (hv 2) (h_bin op3_add (hv 4) h_int)) a_nil)))) a_nil)))) a_nil)))) ss_nil)) ss_nil) (ss_one (s_if (h_tcmp (op3_eq hr.units) (h_bin op3_add (h_ix (hv 2) (hv 4)) (h_ix (hv 2) (h_bin op3_add (hv 4) h_int))) h_int (nomark _)) (ss_one (s_expr (h_m_append (hv 6) (@a_consT _ _ _ _ _ _ _ (h_tup (a_cons (hv 4) (a_cons h_int (@a_consT _ _ _ _ _ _ _ (h_tup a_nil) a_nil)))) a_nil)))) ss_nil))))) (ss_cons (s_if (h_tcmp (op3_eq hr.units) (hv 6) (h_lst a_nil) (nomark _)) (ss_one (s_ret (hv 2))) ss_nil) (ss_cons (s_asg (h_ix (hv 6) (h_call D__law_choice hr (a_cons (hv 0) (a_cons (h_callB call3_len Z.b_len PySem.boot_len (a_cons (hv 6) a_nil)) a_nil)))) (g_tup (n := 3) rfl (gs_cons (g_name (i := 4) sc__law_stepped.nd) (gs_cons (g_name (i := 7) sc__law_stepped.nd) (gs_cons (g_name (i := 8) sc__law_stepped.nd) gs_nil))))) (ss_one (s_ret (h_bin op3_add (h_bin op3_add (h_slice (hv 2) o_none (o_some (hv 4))) (hv 8)) (h_slice (hv 2) (o_some (h_bin op3_add (hv 4) (hv 7))) o_none)))))))))), fun ts M Q h => ?_⟩
 unfold sp__law_stepped at h
 obtain ⟨p, n, s, f, ws, rfl, hM, n1, n6, hw, hl, h⟩ := h
 refine seq_cut2 fun K2 hK2 => ?_
 walk_at "rd"
 refine ⟨s, f, hM, by decide, by decide, fun c1 s1 c10 c11 => ?_⟩
 simp only [updM_updM]
 have hlm : (ws.map T.int).length = ws.length := List.length_map ..
 have hk2 : ∀ a b : Option T, K2 [some (.adr p), some (.int n), some (.tup (ws.map .int)), some (.int c1), a, b, none, none, none] (updM M p (.lst [.int s1, .bl f])) := by
   intro a b
   rw [hK2]
   clear hK2
   refine seq_cut2 fun K4 hK4 => ?_
   walk_at "rd"
   intro r hr
   have hpr : p ≠ r := fun e => by rw [← e, updM_same] at hr; cases hr
   have hrM : M r = none := by rwa [updM_ne (Ne.symm hpr)] at hr
   have hS0 : Sub (updM M p (.lst [.int s1, .bl f])) (updM (updM M p (.lst [.int s1, .bl f])) r (.lst [])) := Sub.new hr
   have hr0 : updM (updM M p (.lst [.int s1, .bl f])) r (.lst []) r = some (.lst (([] : List (Nat × Nat × List Int)).map plT)) := updM_same
   have hrM' := hr
   generalize updM (updM M p (.lst [.int s1, .bl f])) r (.lst []) = Mb at hS0 hr0 ⊢
   refine for_cut fun C hC => ?_
   unfold tFor3
   walk_at "rd"
   refine ⟨by lia, by lia, fun i ρ M' => ∃ (a b c d : Option T) (pls : List (Nat × Nat × List Int)), ρ = [some (.adr p), some (.int n), some (.tup (ws.map .int)), some (.int c1), a, b, some (.adr r), c, d] ∧ M' r = some (.lst (List.map plT pls)) ∧ (∀ q ∈ pls, GoodR n ws q) ∧ pls.length ≤ 3 * i ∧ Sub (updM M p (.lst [.int s1, .bl f])) M',
     ⟨_, _, _, _, [], rfl, hr0, (by intro q z; cases z), Nat.zero_le _, hS0⟩, fun _ _ _ _ => trivial, ?_, ?_⟩
   · rintro i x ρ M' hx ⟨a, b, c, d, pls, rfl, hr', hgd, hpl, hS⟩
     obtain ⟨hi, rfl⟩ := rangeT_get hx
     have hi2 : i + 1 < ws.length := by lia
     have a0 : atI (ws.map T.int) (i : Int) = some (.int (ws.getD i 0)) := by
       have := atI_ints ws (i : Int) (by lia) (by lia)
       rwa [Int.toNat_natCast] at this
     have a1 : atI (ws.map T.int) ((i : Int) + 1) = some (.int (ws.getD (i + 1) 0)) := by
       have := atI_ints ws ((i : Int) + 1) (by lia) (by lia)
       rwa [show ((i : Int) + 1).toNat = i + 1 by lia] at this
     have k0 := getD_ok hw (i := i) (by lia)
     have k1 := getD_ok hw hi2
     have d2 := drop_take2 hi2
     have a2 : (i : Int) < ws.length - 2 → atI (ws.map T.int) ((i : Int) + 2) = some (.int (ws.getD (i + 2) 0)) := fun hh => by
       have := atI_ints ws ((i : Int) + 2) (by lia) (by lia)
       rwa [show ((i : Int) + 2).toNat = i + 2 by lia] at this
     have d3 : (i : Int) < ws.length - 2 → (ws.drop i).take 3 = [ws.getD i 0, ws.getD (i + 1) 0, ws.getD (i + 2) 0] := fun hh => drop_take3 (by lia)
     generalize ws.getD i 0 = x0 at k0 a0 d2 d3
     generalize ws.getD (i + 1) 0 = x1 at k1 a1 d2 d3
     generalize ws.getD (i + 2) 0 = x2 at a2 d3
     have k0' := k0.lim n6
     have k1' := k1.lim n6
     have sz : ∀ L : List (Nat × Nat × List Int), L.length ≤ 3 * i + 3 → (List.map plT L).length < sizeLine := fun L hL => line_len (by rw [List.length_map]; lia)
     rw [hC, show (0 : Int) + (i : Nat) = (i : Nat) by lia]
     clear hC hK4
     refine seq_cut fun KA hA => ?_
     have goB : ∀ pls' M'', M'' r = some (.lst (List.map plT pls')) → (∀ q ∈ pls', GoodR n ws q) → pls'.length ≤ 3 * i + 1 → Sub (updM M p (.lst [.int s1, .bl f])) M'' → KA [some (.adr p), some (.int n), some (.tup (ws.map .int)), some (.int c1), some (.int (i : Nat)), b, some (.adr r), c, d] M'' := by
       intro pls' M'' hr'' hgd' hpl' hS'
       rw [hA]
       clear hA
       refine seq_cut fun KB hB => ?_
       have goC : ∀ pls' M'', M'' r = some (.lst (List.map plT pls')) → (∀ q ∈ pls', GoodR n ws q) → pls'.length ≤ 3 * i + 2 → Sub (updM M p (.lst [.int s1, .bl f])) M'' → KB [some (.adr p), some (.int n), some (.tup (ws.map .int)), some (.int c1), some (.int (i : Nat)), b, some (.adr r), c, d] M'' := by
         intro pls' M'' hr'' hgd' hpl' hS'
         rw [hB]
         clear hB
         walk_at "rd"
         rw [a0, a1]
         dsimp only
         refine ite2 (fun h1 => ?_) (fun h1 => ?_)
         · rw [hr'']
           dsimp only
           refine ⟨trivial, by decide, sz _ (by lia), _, _, _, _, pls' ++ [(i, 2, [])], rfl, ?_, goodR_snoc hgd' ⟨by show i + 2 ≤ _; lia, Nat.zero_le _, (by intro y z; cases z), ?_⟩, by rw [List.length_append, List.length_singleton]; lia, hS'.updF hrM'⟩
           · rw [List.map_append]; rfl
           · show RelW n ((ws.drop i).take 2) _
             rw [d2, show x1 = -x0 by lia]
             exact .out k0
         · exact ⟨_, _, _, _, pls', rfl, hr'', hgd', by lia, hS'⟩
       walk_at "rd"
       refine ite2 (fun h2 => ?_) (fun h2 => goC _ _ hr'' hgd' (by lia) hS')
       rw [a0, a2 h2, a1]
       dsimp only
       refine ⟨rfl, rfl, Nat.zero_le _, ite2 (fun h3 => ite2 (fun h4 => ?_) (fun h4 => goC _ _ hr'' hgd' (by lia) hS')) (fun h3 => goC _ _ hr'' hgd' (by lia) hS')⟩
       refine ⟨.inl ⟨by lia, by lia⟩, ite2 (fun h5 => ?_) (fun h5 => goC _ _ hr'' hgd' (by lia) hS')⟩
       rw [hr'']
       dsimp only
       refine ⟨trivial, by decide, by decide, sz _ (by lia), goC (pls' ++ [(i, 3, [x1, x0, x1])]) _ (by rw [updM_same, List.map_append]; rfl) (goodR_snoc hgd' ⟨by show i + 3 ≤ _; lia, Nat.le_refl _, .three k1 k0 k1, ?_⟩) (by rw [List.length_append, List.length_singleton]; lia) (hS'.updF hrM')⟩
       show RelW n ((ws.drop i).take 3) _
       have e3 : x0 = x2 := of_eqT_int h3
       rw [d3 h2, ← e3]
       exact .three k0 k1 h5 (by lia)
     walk_at "rd"
     rw [a0, a1]
     dsimp only
     refine ite2 (fun h1 => ?_) (fun h1 => goB _ _ hr' hgd (by lia) hS)
     rw [hr']
     dsimp only
     refine ⟨trivial, by decide, by decide, sz _ (by lia), goB (pls ++ [(i, 2, [x1, x0])]) _ (by rw [updM_same, List.map_append]; rfl) (goodR_snoc hgd ⟨by show i + 2 ≤ _; lia, Nat.le_refl _, .two k1 k0, ?_⟩) (by rw [List.length_append, List.length_singleton]; lia) (hS.updF hrM')⟩
     show RelW n ((ws.drop i).take 2) _
     rw [d2]
     exact .far k0 k1 (by lia)
   · rintro ρ M' ⟨a, b, c, d, pls, rfl, hr', hgd, hpl, hS⟩
     have hp' := hS _ _ updM_same
     rw [rangeT_length] at hpl
     rw [hK4]
     clear hK4
     refine seq_cut fun K5 hK5 => ?_
     walk_at "rd"
     intro r2 hr2
     have hr2' := (Sub.new hr2 (o := .lst [])) _ _ hr'
     have hp2 := (Sub.new hr2 (o := .lst [])) _ _ hp'
     have hS2 := hS.newr hr2 (o := .lst [])
     generalize updM M' r2 (.lst []) = M2 at hr2' hp2 hS2 ⊢
     rw [hr2']
     dsimp only
     refine ⟨plTs_pure pls, rfl, Nat.le_trans (plTs_dep pls) (by decide), ite2 (fun hE => ?_) (fun hE => ?_)⟩
     · exact rt3_sub (h ws s1 hw (by lia) (.refl ws)) hS2
     · rw [hK5]
       clear hK5
       refine seq_cut fun K6 hK6 => ?_
       have hpos : 0 < pls.length := by
         cases pls with
         | nil => exact absurd rfl hE
         | cons _ _ => rw [List.length_cons]; lia
       have hlm2 : (List.map plT pls).length = pls.length := List.length_map ..
       walk_at "rd"
       rw [hr2']
       dsimp only
       rw [hlm2]
       refine ⟨s1, f, hp2, by lia, by lia, fun c2 s2 c20 c21 => ?_⟩
       have hq : pls[c2.toNat]? = some (pls[c2.toNat]'(by lia)) := List.getElem?_eq_getElem (by lia)
       have hqg := hgd _ (List.mem_of_getElem? hq)
       generalize pls[c2.toNat]'(by lia) = q at hq hqg
       have hq2 : (List.map plT pls)[c2.toNat]? = some (plT q) := by rw [List.getElem?_map, hq]; rfl
       have ha := atI_nat hq2
       rw [show ((c2.toNat : Nat) : Int) = c2 by lia] at ha
       obtain ⟨g1, g2, g3⟩ := goodR_end hw hqg
       obtain ⟨g4, g5, _, _⟩ := hqg
       obtain ⟨qa, qc, qr⟩ := q
       dsimp only at g1 g2 g3 g4 g5
       have hrp : r ≠ p := Ne.symm hpr
       dsimp only
       rw [updM_ne hrp, hr2']
       dsimp only
       rw [ha]
       unfold plT
       walk_at "rd"
       rw [hK6]
       clear hK6
       have e1 : cutT (ws.map T.int) none (some (qa : Int)) = (ws.take qa).map T.int := by rw [cutT_to _ _ (by lia) (by rw [List.length_map]; lia), List.map_take, Int.toNat_natCast]
       have e2 : cutT (ws.map T.int) (some ((qa : Int) + (qc : Int))) none = (ws.drop (qa + qc)).map T.int := by
         rw [cutT_from _ _ (by lia) (by rw [List.length_map]; lia), List.map_drop, show ((qa : Int) + (qc : Int)).toNat = qa + qc by lia]
       have l1 : (ws.take qa).length ≤ ws.length := by rw [List.length_take]; lia
       have l2 : (ws.drop (qa + qc)).length ≤ ws.length := by rw [List.length_drop]; lia
       walk_at "rd"
       rw [e1, e2]
       refine ⟨line_len' (by rw [List.length_map]; lia), line_len' (by rw [List.length_map, List.length_map]; lia), ?_⟩
       rw [← List.map_append, ← List.map_append]
       exact rt3_sub (h _ s2 g1 (by lia) g3) hS2.set
 walk_at "rd"
 refine ite2 (fun hc => ite2 (fun hn => ?_) (fun _ => hk2 _ _)) (fun _ => hk2 _ _)
 refine ⟨s1, f, updM_same, by lia, by lia, fun c2 s2 c20 c21 => ?_⟩
 simp only [updM_updM]
 refine ⟨s2, f, updM_same, by lia, by decide, by decide, fun lw s3 hlw hl1 hl2 => ?_⟩
 simp only [updM_updM]
 have hl3 := hl2 (by lia)
 obtain ⟨l, rfl⟩ : ∃ l, lw = [l] := by
   match lw, hl3 with
   | [l], _ => exact ⟨l, rfl⟩
 have hlo := hlw l List.mem_cons_self
 have a0 : atI (List.map T.int [l]) 0 = some (.int l) := rfl
 have e1 : cutT (ws.map T.int) none (some c2) = (ws.take c2.toNat).map T.int := by rw [cutT_to _ _ (by lia) (by rw [List.length_map]; lia), List.map_take]
 have e2 : cutT (ws.map T.int) (some c2) none = (ws.drop c2.toNat).map T.int := by rw [cutT_from _ _ (by lia) (by rw [List.length_map]; lia), List.map_drop]
 have l1 : (ws.take c2.toNat).length ≤ ws.length := by rw [List.length_take]; lia
 have l2 : (ws.drop c2.toNat).length ≤ ws.length := by rw [List.length_drop]; lia
 rw [a0]
 dsimp only
 rw [e1, e2]
 have ev : List.map T.int (ws.take c2.toNat) ++ [T.int l, T.int (0 - l)] ++ List.map T.int (ws.drop c2.toNat) = List.map T.int (ws.take c2.toNat ++ [l, -l] ++ ws.drop c2.toNat) := by
   rw [List.map_append, List.map_append, show (0 : Int) - l = -l by lia]; rfl
 refine ⟨by decide, line_len' (by rw [List.length_map]; lia), line_len' (by rw [List.length_map, List.length_map]; lia), ?_⟩
 rw [ev]
 refine rt3_here (h _ s3 (((WordOK.take hw _).append (.two hlo hlo.neg)).append (WordOK.drop hw _)) ?_ ?_)
 · rw [List.length_append, List.length_append, List.length_take, List.length_drop]
   show _ + 2 + _ ≤ _
   lia
 · have := (RelW.ctx (ws.take c2.toNat) (ws.drop c2.toNat) (WordOK.take hw _) (WordOK.drop hw _) (.out hlo)).symm
   rwa [List.append_nil, List.take_append_drop] at this
noncomputable def sp__law_led : Sp3 := fun ts M Q => match ts with
 | [.adr p, .int n, .tup w, .int k, .int m] => ∃ (s : Int) (f : Bool) (ws : List Int), M p = some (.lst [.int s, .bl f]) ∧ w = ws.map .int ∧ 1 ≤ n ∧ n ≤ 6 ∧ WordOK n ws ∧ (ws.length : Int) ≤ m ∧ m ≤ 16 ∧ 0 ≤ k ∧ k ≤ 100 ∧
     ∀ (v : List Int) (s' : Int), WordOK n v → (v.length : Int) ≤ m → RelW n ws v → Q (.tup (v.map .int)) (updM M p (.lst [.int s', .bl f]))
 | _ => False
theorem ok__law_led {P : Program} {w : World} {K : PySem.W.Frag} {mg : Str → Option Value} {base : Heap} {f : Addr} {fd : FuncData} {n : Nat}  (F : Fun K "_law_led" "_law_led" s__law_led f fd) (hm : mg "_law_led" = some (.ref f)) (hb : Binds K fd ["state", "strands", "word", "steps", "most"] []) (Z : Zs mg) (D__law_stepped : Df P w K mg base n "_law_stepped" ["state", "strands", "word"] sp__law_stepped) : Df P w K mg base (n + 1) "_law_led" ["state", "strands", "word", "steps", "most"] sp__law_led := by
 refine F.dfn hm hb sc__law_led (by intro ts M Q h; unfold sp__law_led at h; first | (split at h <;> first | rfl | exact h.elim) | (obtain ⟨_, _, _, _, _, rfl, _⟩ := h; rfl) | (obtain ⟨_, _, _, _, rfl, _⟩ := h; rfl) | (obtain ⟨_, _, _, rfl, _⟩ := h; rfl) | (obtain ⟨_, _, rfl, _⟩ := h; rfl) | (obtain ⟨_, rfl, _⟩ := h; rfl)) ⟨_, fun cdv A outer s H E hr => (ss_cons (s_for PassesOwn.never rfl (i_range1 Z.b_range (a_cons (hv 3) a_nil)) (g_name (i := 5) sc__law_led.nd) (ss_cons (s_set (i := 6) (h_call D__law_stepped hr (a_cons (hv 0) (a_cons (hv 1) (a_cons (hv 2) a_nil)))) sc__law_led.nd) (ss_one (s_if (h_tcmp op3_le (h_callB call3_len Z.b_len PySem.boot_len (a_cons (hv 6) a_nil)) (hv 4) (nomark _)) (ss_one (s_set (i := 2) (hv 6) sc__law_led.nd)) ss_nil)))) (ss_one (s_ret (hv 2)))), fun ts M Q h => ?_⟩
 unfold sp__law_led at h
 split at h
 · rename_i p n w k m
   obtain ⟨s, f, ws, hM, rfl, n1, n6, hw, hl, hm, hk0, hk1, h⟩ := h
   walk_at "rd"
   refine ⟨by lia, by lia, fun i ρ M' => ∃ (a b : Option T) (v : List Int) (s1 : Int), ρ = [some (.adr p), some (.int n), some (.tup (v.map .int)), some (.int k), some (.int m), a, b] ∧ WordOK n v ∧ (v.length : Int) ≤ m ∧ RelW n ws v ∧ Sub (updM M p (.lst [.int s1, .bl f])) M',
     ⟨_, _, ws, s, rfl, hw, hl, .refl _, by rw [updM_self hM]; exact Sub.refl⟩, fun _ _ _ _ => trivial, ?_, ?_⟩
   · rintro i x ρ M' hx ⟨a, b, v, s1, rfl, hv, hvl, hs, hS⟩
     obtain ⟨hi, rfl⟩ := rangeT_get hx
     have hp' := hS _ _ updM_same
     walk_at "rd"
     refine ⟨_, _, s1, f, v, rfl, hp', n1, n6, hv, by lia, fun v2 s2 hv2 hvl2 hs2 => ?_⟩
     walk_at "rd"
     refine ite2 (fun hc => ?_) (fun hc => ?_)
     · exact ⟨_, _, v2, s2, rfl, hv2, hc, hs.trans hs2, hS.set⟩
     · exact ⟨_, _, v, s2, rfl, hv, hvl, hs, hS.set⟩
   · rintro ρ M' ⟨a, b, v, s1, rfl, hv, hvl, hs, hS⟩
     walk_at "rd"
     exact rt3_sub (h v s1 hv hvl hs) hS
 · exact h.elim
noncomputable def sp__law_two : Sp3 := fun ts M Q => match ts with
 | [.adr p, .int m] => ∃ (s : Int) (f : Bool), M p = some (.lst [.int s, .bl f]) ∧ 0 ≤ m ∧ m ≤ 8 ∧
     ∀ (n : Int) (w v : List Int) (s' : Int), PlOK n w → PlOK n v → n ≤ 5 → (w.length : Int) ≤ m → Q (.tup [.tup [.int n, .tup (w.map .int)], .tup [.int n, .tup (v.map .int)]]) (updM M p (.lst [.int s', .bl f]))
 | _ => False
theorem ok__law_two {P : Program} {w : World} {K : PySem.W.Frag} {mg : Str → Option Value} {base : Heap} {f : Addr} {fd : FuncData} {n : Nat}  (F : Fun K "_law_two" "_law_two" s__law_two f fd) (hm : mg "_law_two" = some (.ref f)) (hb : Binds K fd ["state", "letters"] []) (Z : Zs mg) (D__law_plait : Df P w K mg base n "_law_plait" ["state", "least", "most", "letters"] sp__law_plait) (D__law_choice : Df P w K mg base n "_law_choice" ["state", "many"] sp__law_choice) (D__law_word : Df P w K mg base n "_law_word" ["state", "strands", "count"] sp__law_word) (D__law_led : Df P w K mg base n "_law_led" ["state", "strands", "word", "steps", "most"] sp__law_led) : Df P w K mg base (n + 1) "_law_two" ["state", "letters"] sp__law_two := by
 refine F.dfn hm hb sc__law_two (by intro ts M Q h; unfold sp__law_two at h; first | (split at h <;> first | rfl | exact h.elim) | (obtain ⟨_, _, _, _, _, rfl, _⟩ := h; rfl) | (obtain ⟨_, _, _, _, rfl, _⟩ := h; rfl) | (obtain ⟨_, _, _, rfl, _⟩ := h; rfl) | (obtain ⟨_, _, rfl, _⟩ := h; rfl) | (obtain ⟨_, rfl, _⟩ := h; rfl)) ⟨_, fun cdv A outer s H E hr => (ss_cons (s_set (i := 2) (h_call D__law_plait hr (a_cons (hv 0) (a_cons h_int (a_cons h_int (a_cons (hv 1) a_nil))))) sc__law_two.nd) (ss_cons (s_set (i := 3) (h_call D__law_choice hr (a_cons (hv 0) (a_cons h_int a_nil))) sc__law_two.nd) (ss_cons (s_if (h_tcmp (op3_eq hr.units) (hv 3) h_int (nomark _)) (ss_one (s_ret (h_tup (a_cons (hv 2) (@a_consT _ _ _ _ _ _ _ (h_tup (a_cons (h_ix (hv 2) h_int) (a_cons (h_call D__law_word hr (a_cons (hv 0) (a_cons (h_ix (hv 2) h_int) (a_cons (h_call D__law_choice hr (a_cons (hv 0) (a_cons (h_bin op3_add (hv 1) h_int) a_nil))) a_nil)))) a_nil))) a_nil))))) ss_nil) (ss_cons (s_if (h_tcmp (op3_eq hr.units) (hv 3) h_int (nomark _)) (ss_cons (s_set (i := 4) (h_call D__law_choice hr (a_cons (hv 0) (a_cons (h_bin op3_add (h_callB call3_len Z.b_len PySem.boot_len (a_cons (h_ix (hv 2) h_int) a_nil)) h_int) a_nil))) sc__law_two.nd) (ss_one (s_ret (h_tup (a_cons (hv 2) (@a_consT _ _ _ _ _ _ _ (h_tup (a_cons (h_ix (hv 2) h_int) (a_cons (h_bin op3_add (h_bin op3_add (h_slice (h_ix (hv 2) h_int) o_none (o_some (hv 4))) (h_callT call3_tuple Z.b_tuple PyProof.Rows.boot_tuple (a_cons (h_comp rfl (i_seq (h_slice (h_ix (hv 2) h_int) (o_some (hv 4)) (o_some (h_bin op3_add (hv 4) h_int)))) (blk_scope (outer := defScope s__law_two) (N := ["state", "letters", "one", "kind", "at"]) (N' := ["letter"]) (ix := [none]) (by decide +kernel) rfl rfl) bt_name (fun _ _ _ _ _ => pg_name (i := 0) (show List.Nodup (["letter"] : List Str) by decide +kernel) rfl (Or.inl rfl) (Or.inr rfl)) (fun _ _ _ _ _ => ts_nil) (fun _ _ _ _ _ => (h_bin op3_sub h_int (hv 0)))) a_nil))) (h_slice (h_ix (hv 2) h_int) (o_some (h_bin op3_add (hv 4) h_int)) o_none)) a_nil))) a_nil)))))) ss_nil) (ss_one (s_ret (h_tup (a_cons (hv 2) (@a_consT _ _ _ _ _ _ _ (h_tup (a_cons (h_ix (hv 2) h_int) (a_cons (h_call D__law_led hr (a_cons (hv 0) (a_cons (h_ix (hv 2) h_int) (a_cons (h_ix (hv 2) h_int) (a_cons (h_bin op3_add h_int (h_call D__law_choice hr (a_cons (hv 0) (a_cons h_int a_nil)))) (a_cons h_int a_nil)))))) a_nil))) a_nil))))))))), fun ts M Q h => ?_⟩
 unfold sp__law_two at h
 split at h
 · rename_i p m
   obtain ⟨s, f, hM, hm0, hm1, h⟩ := h
   refine seq_cut2 fun K2 hK2 => ?_
   walk_at "rd"
   refine ⟨s, f, hM, by lia, by lia, by lia, by lia, by lia, fun n w k1 h1 h2 hw hl => ?_⟩
   have ok : PlOK n w := ⟨by lia, by lia, by lia, hw⟩
   walk_at "rd"
   refine ⟨k1, f, updM_same, by decide, by decide, fun c1 k2 c10 c11 => ?_⟩
   simp only [updM_updM]
   rw [hK2]
   refine seq_cut fun K3 hK3 => ?_
   walk_at "rd"
   refine ite2 (fun hc => ⟨k2, f, updM_same, by lia, by lia, fun c2 k3 c20 c21 => ?_⟩) (fun hc => ?_)
   · walk_at "rd"
     refine ⟨k3, f, updM_same, by lia, by lia, by lia, fun v k4 hv hvl1 hvl2 => ?_⟩
     walk_at "rd"
     exact ⟨by decide, by decide, rt3_here (h n w v k4 ok ⟨by lia, by lia, by lia, hv⟩ (by lia) (by lia))⟩
   · rw [hK3]
     refine seq_cut fun K4 hK4 => ?_
     walk_at "rd"
     refine ite2 (fun hd => ⟨k2, f, updM_same, by lia, by lia, fun c2 k3 c20 c21 => ?_⟩) (fun hd => ?_)
     · walk_at "rd"
       have e1 : cutT (w.map T.int) none (some c2) = (w.take c2.toNat).map T.int := by rw [cutT_to' _ _ (by lia), List.map_take]
       have e2 : cutT (w.map T.int) (some (c2 + 1)) none = (w.drop (c2 + 1).toNat).map T.int := by rw [cutT_from' _ _ (by lia), List.map_drop]
       have e3 : cutT (w.map T.int) (some c2) (some (c2 + 1)) = ((w.drop c2.toNat).take 1).map T.int := by
         rw [cutT_mid' _ _ _ (by lia) (by lia) (by rw [List.length_map]; lia), show (c2 + 1 - c2).toNat = 1 by lia, List.map_take, List.map_drop]
       rw [e1, e2, e3]
       have l1 : (w.take c2.toNat).length ≤ 16 := by rw [List.length_take]; lia
       have l2 : (w.drop (c2 + 1).toNat).length ≤ 16 := by rw [List.length_drop]; lia
       have l4 : (w.take c2.toNat).length + ((w.drop c2.toNat).take 1).length + (w.drop (c2 + 1).toNat).length ≤ w.length := by
         rw [List.length_take, List.length_take, List.length_drop, List.length_drop]; lia
       have hmo : WordOK n (((w.drop c2.toNat).take 1).map fun j => 0 - j) := fun y hy => by
         obtain ⟨x, hx, rfl⟩ := List.mem_map.mp hy
         have := hw x (List.mem_of_mem_drop (List.mem_of_mem_take hx))
         unfold LetOK at this ⊢
         lia
       have hto := WordOK.take hw c2.toNat
       have hdo := WordOK.drop hw (c2 + 1).toNat
       generalize w.take c2.toNat = A at l1 l4 hto ⊢
       generalize w.drop (c2 + 1).toNat = B at l2 l4 hdo ⊢
       generalize (w.drop c2.toNat).take 1 = C at l4 hmo ⊢
       refine ⟨fun i ys M' => ys = ((C.take i).map fun j => 0 - j).map T.int ∧ Sub (updM M p (.lst [.int k3, .bl f])) M', ⟨rfl, Sub.refl⟩, fun _ _ _ _ => trivial, by rw [List.length_map]; exact line_len (by lia), ?_, ?_⟩
       · rintro i x ys M' hx ⟨rfl, hS⟩
         obtain ⟨l, hl', rfl⟩ := get_map_int hx
         exact ⟨take_ys (fun j => 0 - j) hl', hS⟩
       · rintro ys M' ⟨rfl, hS⟩ r hr
         rw [show (C.map T.int).length = C.length from List.length_map .., List.take_length]
         have hz1 : (List.map T.int A).length + (List.map T.int (C.map fun j => 0 - j)).length ≤ sizeLine := by rw [List.length_map, List.length_map, List.length_map]; exact line_len' (by lia)
         have hz2 : (List.map T.int A).length + (List.map T.int (C.map fun j => 0 - j)).length + (List.map T.int B).length ≤ sizeLine := by rw [List.length_map, List.length_map, List.length_map, List.length_map]; exact line_len' (by lia)
         refine ⟨hz1, hz2, by decide, by decide, ?_⟩
         rw [show List.map T.int A ++ List.map T.int (C.map fun j => 0 - j) ++ List.map T.int B = List.map T.int (A ++ (C.map fun j => 0 - j) ++ B) by rw [List.map_append, List.map_append]]
         exact rt3_sub (h n w _ k3 ok ⟨ok.1, ok.2.1, by rw [List.length_append, List.length_append, List.length_map]; lia, (hto.append hmo).append hdo⟩ (by lia) (by lia)) (hS.newr hr)
     · rw [hK4]
       walk_at "rd"
       refine ⟨k2, f, updM_same, by decide, by decide, fun c2 k3 c20 c21 => ?_⟩
       walk_at "rd"
       refine ⟨k3, f, w, updM_same, rfl, by lia, by lia, hw, by lia, by lia, by lia, by lia, fun v k4 hv hvl _ => ?_⟩
       simp only [updM_updM]
       exact ⟨by decide, by decide, rt3_here (h n w v k4 ok ⟨by lia, by lia, by lia, hv⟩ (by lia) (by lia))⟩
 · exact h.elim
noncomputable def sp_law : Sp3 := fun ts M Q => match ts with
 | [.rd s] => ∃ ns : List Int, s = ns.map .int ∧ Q (.bl true) M
 | _ => False
theorem law_starts (ns : List Int) (M : MH) (Q : VK3) (_ : ns.length ≤ 63) (h : Q (.bl true) M) : sp_law [.rd (ns.map .int)] M Q := ⟨ns, rfl, h⟩
theorem alB_symm (n : Int) (w v : List Int) : alB n v w = alB n w v := alB_iff ⟨AL.symm, AL.symm⟩
theorem ok_law {P : Program} {w : World} {K : PySem.W.Frag} {mg : Str → Option Value} {base : Heap} {f : Addr} {fd : FuncData} {n : Nat}  (F : Fun K "law" "law" s_law f fd) (Z : Zs mg) (D__law_two : Df P w K mg base n "_law_two" ["state", "letters"] sp__law_two) (D__law_state : Df P w K mg base n "_law_state" ["script", "k"] sp__law_state) (D_alike : Df P w K mg base n "alike" ["one", "other"] sp_alike) (D_same_form : Df P w K mg base n "same_form" ["one", "other"] sp_same_form) (D_form_of : Df P w K mg base n "form_of" ["plait"] sp_form_of) : FnOk P w K mg base CX0 (n + 1) f fd ["script"] (dSp K sp_law) := by
 refine F.fnk sc_law (by intro ts M Q h; unfold sp_law at h; first | (split at h <;> first | rfl | exact h.elim) | (obtain ⟨_, _, _, _, _, rfl, _⟩ := h; rfl) | (obtain ⟨_, _, _, _, rfl, _⟩ := h; rfl) | (obtain ⟨_, _, _, rfl, _⟩ := h; rfl) | (obtain ⟨_, _, rfl, _⟩ := h; rfl) | (obtain ⟨_, rfl, _⟩ := h; rfl)) ⟨_, fun cdv A outer s H E hr => (ss_cons (s_asg (h_call D__law_two hr (a_cons (h_call D__law_state hr (a_cons (hv 0) (a_cons h_int a_nil))) (a_cons h_int a_nil))) (g_tup (n := 2) rfl (gs_cons (g_name (i := 1) sc_law.nd) (gs_cons (g_name (i := 2) sc_law.nd) gs_nil)))) (ss_cons (s_set (i := 3) (h_call D_alike hr (a_cons (hv 1) (a_cons (hv 2) a_nil))) sc_law.nd) (ss_cons (s_if (HW.ht (w_or (h_tcmp (op3_ne hr.units) (h_call D_same_form hr (a_cons (hv 1) (a_cons (hv 2) a_nil))) (hv 3) (nomark _)) (w_or1 (h_tcmp (op3_ne hr.units) (h_call D_same_form hr (a_cons (hv 2) (a_cons (hv 1) a_nil))) (hv 3) (nomark _))))) (ss_one (s_ret h_bl)) ss_nil) (ss_one (s_ret (h_and (h_cmp (op3_eq hr.units) (h_cmp (op3_eq hr.units) (h_call D_form_of hr (a_cons (hv 1) a_nil)) (h_call D_form_of hr (a_cons (hv 2) a_nil)) (nomark _)) (hv 3) (nomark _)) (h_one (h_call D_same_form hr (a_cons (hv 1) (a_cons (hv 1) a_nil)))))))))), fun ts M Q h => ?_⟩
 unfold sp_law at h
 split at h
 · rename_i s
   obtain ⟨ns, rfl, h⟩ := h
   refine seq_cut fun K1 hK1 => ?_
   walk_at "rd"
   refine ⟨ns, rfl, by decide, fun p k f hp => ?_⟩
   refine ⟨k, f, updM_same, by decide, by decide, fun n w v s1 ok okv h5 hl => ?_⟩
   simp only [updM_updM]
   have hS0 := Sub.new (o := .lst [.int s1, .bl f]) hp
   generalize updM M p (.lst [.int s1, .bl f]) = M1 at hS0 ⊢
   refine ⟨rfl, trivial, ?_⟩
   rw [hK1]
   clear hK1
   refine seq_cut fun K2 hK2 => ?_
   walk_at "rd"
   refine ⟨w, v, rfl, rfl, rfl, ok, okv, ?_⟩
   rw [hK2]
   clear hK2
   rw [alB_is]
   refine seq_cut fun K3 hK3 => ?_
   walk_at "rd"
   refine ⟨n, w, v, rfl, ok, okv, ?_⟩
   have eb : ∀ b : Bool, eqT (T.bl b) (T.bl b) = true := fun b => eqT_refl _ rfl
   dsimp only
   refine ⟨rfl, Nat.zero_le _, ?_⟩
   rw [eb, if_neg (by decide)]
   refine ⟨n, v, w, rfl, okv, ok, ?_⟩
   dsimp only
   refine ⟨rfl, Nat.zero_le _, ?_⟩
   rw [alB_symm, eb, if_neg (by decide), hK3]
   clear hK3
   walk_at "rd"
   refine ⟨n, w, rfl, ok, fun x hx _ _ => ?_⟩
   refine ⟨n, v, rfl, okv, fun y hy _ _ => ?_⟩
   dsimp only
   refine ⟨frT_pure x, frT_pure y, frT_dep x, ?_⟩
   have e : decide (x = y) = alB n w v := by
     have k := form_alike ok.1 ok.2.1 ok.2.2.2 okv.2.2.2 hx hy
     by_cases c : x = y
     · rw [decide_eq_true c, alB_true (k.mp c)]
     · rw [decide_eq_false c, alB_false.mpr (fun z => c (k.mpr z))]
   rw [eqT_frT, e]
   rw [if_pos (eb (alB n w v))]
   refine ⟨n, w, w, rfl, ok, ok, ?_⟩
   rw [alB_true AL.refl]
   exact rt3_sub h hS0
 · exact h.elim
theorem all_mk {l : PySem.W.OpenLaw} {w : World} {K : PySem.W.Frag} {h : Heap} {mg : Str → Option Value} {fa f1 f2 f3 f4 f5 f6 f7 f8 f9 f10 f11 f12 f13 f14 f15 f16 f17 f18 f19 f20 f21 f22 f23 f24 f25 f26 f27 f28 f29 f30 f31 f32 : Addr} (X : K.In h) (G : h.Ns mainGlobals mg) (hfa : mg "law" = some (.ref fa))
   {od1 od2 od3 od4 od5 od6 od7 od8 od9 od10 od11 od12 od13 od14 od15 od16 od17 od18 od19 od20 od21 od22 od23 od24 od25 od26 od27 od28 od29 od30 od31 od32 an1 an2 an3 an4 an5 an6 an7 an8 an9 an10 an11 an12 an13 an14 an15 an16 an17 an18 an19 an20 an21 an22 an23 an24 an25 an26 an27 an28 an29 an30 an31 an32 : Option Addr} {sl1 sl2 sl3 sl4 sl5 sl6 sl7 sl8 sl9 sl10 sl11 sl12 sl13 sl14 sl15 sl16 sl17 sl18 sl19 sl20 sl21 sl22 sl23 sl24 sl25 sl26 sl27 sl28 sl29 sl30 sl31 sl32 : Array (Option Value)} {oc1 oc2 oc3 oc4 oc5 oc6 oc7 oc8 oc9 oc10 oc11 oc12 oc13 oc14 oc15 oc16 oc17 oc18 oc19 oc20 oc21 oc22 oc23 oc24 oc25 oc26 oc27 oc28 oc29 oc30 oc31 oc32 kV1 kV2 kV3 kV4 kV5 kV6 kV7 kV8 kV9 kV10 kV11 kV12 kV13 kV14 kV15 kV16 kV17 kV18 kV19 kV20 kV21 kV22 kV23 kV24 kV25 kV26 kV27 kV28 kV29 kV30 kV31 kV32 dc1 dc2 dc3 dc4 dc5 dc6 dc7 dc8 dc9 dc10 dc11 dc12 dc13 dc14 dc15 dc16 dc17 dc18 dc19 dc20 dc21 dc22 dc23 dc24 dc25 dc26 dc27 dc28 dc29 dc30 dc31 dc32 pm1 pm2 pm3 pm4 pm5 pm6 pm7 pm8 pm9 pm10 pm11 pm12 pm13 pm14 pm15 pm16 pm17 pm18 pm19 pm20 pm21 pm22 pm23 pm24 pm25 pm26 pm27 pm28 pm29 pm30 pm31 pm32 cd1 cd2 cd3 cd4 cd5 cd6 cd7 cd8 cd9 cd10 cd11 cd12 cd13 cd14 cd15 cd16 cd17 cd18 cd19 cd20 cd21 cd22 cd23 cd24 cd25 cd26 cd27 cd28 cd29 cd30 cd31 cd32 ct1 ct2 ct3 ct4 ct5 ct6 ct7 ct8 ct9 ct10 ct11 ct12 ct13 ct14 ct15 ct16 ct17 ct18 ct19 ct20 ct21 ct22 ct23 ct24 ct25 ct26 ct27 ct28 ct29 ct30 ct31 ct32 : Value}
   (a1 : PySem.W.nsIn K mainGlobals "is_letter" = some (some (.ref f1))) (l1 : K.lookup f1 = some ⟨oc1, od1, .func (PySem.W.fnOf "is_letter" "is_letter" (defArgs s_is_letter) (defBody s_is_letter) (defScope s_is_letter) .none kV1 dc1 pm1 an1 cd1 ct1), sl1⟩) (c1 : PySem.W.codeIn K cd1 "is_letter" = true) (k1 : PySem.W.keepIn K (.ref f1) = true)
   (a2 : PySem.W.nsIn K mainGlobals "is_word" = some (some (.ref f2))) (l2 : K.lookup f2 = some ⟨oc2, od2, .func (PySem.W.fnOf "is_word" "is_word" (defArgs s_is_word) (defBody s_is_word) (defScope s_is_word) .none kV2 dc2 pm2 an2 cd2 ct2), sl2⟩) (c2 : PySem.W.codeIn K cd2 "is_word" = true) (k2 : PySem.W.keepIn K (.ref f2) = true)
   (a3 : PySem.W.nsIn K mainGlobals "is_plait" = some (some (.ref f3))) (l3 : K.lookup f3 = some ⟨oc3, od3, .func (PySem.W.fnOf "is_plait" "is_plait" (defArgs s_is_plait) (defBody s_is_plait) (defScope s_is_plait) .none kV3 dc3 pm3 an3 cd3 ct3), sl3⟩) (c3 : PySem.W.codeIn K cd3 "is_plait" = true) (k3 : PySem.W.keepIn K (.ref f3) = true)
   (a4 : PySem.W.nsIn K mainGlobals "looked" = some (some (.ref f4))) (l4 : K.lookup f4 = some ⟨oc4, od4, .func (PySem.W.fnOf "looked" "looked" (defArgs s_looked) (defBody s_looked) (defScope s_looked) .none kV4 dc4 pm4 an4 cd4 ct4), sl4⟩) (c4 : PySem.W.codeIn K cd4 "looked" = true) (k4 : PySem.W.keepIn K (.ref f4) = true)
   (a5 : PySem.W.nsIn K mainGlobals "looked_both" = some (some (.ref f5))) (l5 : K.lookup f5 = some ⟨oc5, od5, .func (PySem.W.fnOf "looked_both" "looked_both" (defArgs s_looked_both) (defBody s_looked_both) (defScope s_looked_both) .none kV5 dc5 pm5 an5 cd5 ct5), sl5⟩) (c5 : PySem.W.codeIn K cd5 "looked_both" = true) (k5 : PySem.W.keepIn K (.ref f5) = true)
   (a6 : PySem.W.nsIn K mainGlobals "contrary" = some (some (.ref f6))) (l6 : K.lookup f6 = some ⟨oc6, od6, .func (PySem.W.fnOf "contrary" "contrary" (defArgs s_contrary) (defBody s_contrary) (defScope s_contrary) .none kV6 dc6 pm6 an6 cd6 ct6), sl6⟩) (c6 : PySem.W.codeIn K cd6 "contrary" = true) (k6 : PySem.W.keepIn K (.ref f6) = true)
   (a7 : PySem.W.nsIn K mainGlobals "without_pairs" = some (some (.ref f7))) (l7 : K.lookup f7 = some ⟨oc7, od7, .func (PySem.W.fnOf "without_pairs" "without_pairs" (defArgs s_without_pairs) (defBody s_without_pairs) (defScope s_without_pairs) .none kV7 dc7 pm7 an7 cd7 ct7), sl7⟩) (c7 : PySem.W.codeIn K cd7 "without_pairs" = true) (k7 : PySem.W.keepIn K (.ref f7) = true)
   (a8 : PySem.W.nsIn K mainGlobals "exchanged" = some (some (.ref f8))) (l8 : K.lookup f8 = some ⟨oc8, od8, .func (PySem.W.fnOf "exchanged" "exchanged" (defArgs s_exchanged) (defBody s_exchanged) (defScope s_exchanged) .none kV8 dc8 pm8 an8 cd8 ct8), sl8⟩) (c8 : PySem.W.codeIn K cd8 "exchanged" = true) (k8 : PySem.W.keepIn K (.ref f8) = true)
   (a9 : PySem.W.nsIn K mainGlobals "places_in" = some (some (.ref f9))) (l9 : K.lookup f9 = some ⟨oc9, od9, .func (PySem.W.fnOf "places_in" "places_in" (defArgs s_places_in) (defBody s_places_in) (defScope s_places_in) .none kV9 dc9 pm9 an9 cd9 ct9), sl9⟩) (c9 : PySem.W.codeIn K cd9 "places_in" = true) (k9 : PySem.W.keepIn K (.ref f9) = true)
   (a10 : PySem.W.nsIn K mainGlobals "plain_order" = some (some (.ref f10))) (l10 : K.lookup f10 = some ⟨oc10, od10, .func (PySem.W.fnOf "plain_order" "plain_order" (defArgs s_plain_order) (defBody s_plain_order) (defScope s_plain_order) .none kV10 dc10 pm10 an10 cd10 ct10), sl10⟩) (c10 : PySem.W.codeIn K cd10 "plain_order" = true) (k10 : PySem.W.keepIn K (.ref f10) = true)
   (a11 : PySem.W.nsIn K mainGlobals "half_twist" = some (some (.ref f11))) (l11 : K.lookup f11 = some ⟨oc11, od11, .func (PySem.W.fnOf "half_twist" "half_twist" (defArgs s_half_twist) (defBody s_half_twist) (defScope s_half_twist) .none kV11 dc11 pm11 an11 cd11 ct11), sl11⟩) (c11 : PySem.W.codeIn K cd11 "half_twist" = true) (k11 : PySem.W.keepIn K (.ref f11) = true)
   (a12 : PySem.W.nsIn K mainGlobals "can_begin" = some (some (.ref f12))) (l12 : K.lookup f12 = some ⟨oc12, od12, .func (PySem.W.fnOf "can_begin" "can_begin" (defArgs s_can_begin) (defBody s_can_begin) (defScope s_can_begin) .none kV12 dc12 pm12 an12 cd12 ct12), sl12⟩) (c12 : PySem.W.codeIn K cd12 "can_begin" = true) (k12 : PySem.W.keepIn K (.ref f12) = true)
   (a13 : PySem.W.nsIn K mainGlobals "flipped_order" = some (some (.ref f13))) (l13 : K.lookup f13 = some ⟨oc13, od13, .func (PySem.W.fnOf "flipped_order" "flipped_order" (defArgs s_flipped_order) (defBody s_flipped_order) (defScope s_flipped_order) .none kV13 dc13 pm13 an13 cd13 ct13), sl13⟩) (c13 : PySem.W.codeIn K cd13 "flipped_order" = true) (k13 : PySem.W.keepIn K (.ref f13) = true)
   (a14 : PySem.W.nsIn K mainGlobals "order_for" = some (some (.ref f14))) (l14 : K.lookup f14 = some ⟨oc14, od14, .func (PySem.W.fnOf "order_for" "order_for" (defArgs s_order_for) (defBody s_order_for) (defScope s_order_for) .none kV14 dc14 pm14 an14 cd14 ct14), sl14⟩) (c14 : PySem.W.codeIn K cd14 "order_for" = true) (k14 : PySem.W.keepIn K (.ref f14) = true)
   (a15 : PySem.W.nsIn K mainGlobals "moved_ahead" = some (some (.ref f15))) (l15 : K.lookup f15 = some ⟨oc15, od15, .func (PySem.W.fnOf "moved_ahead" "moved_ahead" (defArgs s_moved_ahead) (defBody s_moved_ahead) (defScope s_moved_ahead) .none kV15 dc15 pm15 an15 cd15 ct15), sl15⟩) (c15 : PySem.W.codeIn K cd15 "moved_ahead" = true) (k15 : PySem.W.keepIn K (.ref f15) = true)
   (a16 : PySem.W.nsIn K mainGlobals "put_behind" = some (some (.ref f16))) (l16 : K.lookup f16 = some ⟨oc16, od16, .func (PySem.W.fnOf "put_behind" "put_behind" (defArgs s_put_behind) (defBody s_put_behind) (defScope s_put_behind) .none kV16 dc16 pm16 an16 cd16 ct16), sl16⟩) (c16 : PySem.W.codeIn K cd16 "put_behind" = true) (k16 : PySem.W.keepIn K (.ref f16) = true)
   (a17 : PySem.W.nsIn K mainGlobals "form_by_letters" = some (some (.ref f17))) (l17 : K.lookup f17 = some ⟨oc17, od17, .func (PySem.W.fnOf "form_by_letters" "form_by_letters" (defArgs s_form_by_letters) (defBody s_form_by_letters) (defScope s_form_by_letters) .none kV17 dc17 pm17 an17 cd17 ct17), sl17⟩) (c17 : PySem.W.codeIn K cd17 "form_by_letters" = true) (k17 : PySem.W.keepIn K (.ref f17) = true)
   (a18 : PySem.W.nsIn K mainGlobals "form_of" = some (some (.ref f18))) (l18 : K.lookup f18 = some ⟨oc18, od18, .func (PySem.W.fnOf "form_of" "form_of" (defArgs s_form_of) (defBody s_form_of) (defScope s_form_of) .none kV18 dc18 pm18 an18 cd18 ct18), sl18⟩) (c18 : PySem.W.codeIn K cd18 "form_of" = true) (k18 : PySem.W.keepIn K (.ref f18) = true)
   (a19 : PySem.W.nsIn K mainGlobals "same_form" = some (some (.ref f19))) (l19 : K.lookup f19 = some ⟨oc19, od19, .func (PySem.W.fnOf "same_form" "same_form" (defArgs s_same_form) (defBody s_same_form) (defScope s_same_form) .none kV19 dc19 pm19 an19 cd19 ct19), sl19⟩) (c19 : PySem.W.codeIn K cd19 "same_form" = true) (k19 : PySem.W.keepIn K (.ref f19) = true)
   (a20 : PySem.W.nsIn K mainGlobals "made_by_letter" = some (some (.ref f20))) (l20 : K.lookup f20 = some ⟨oc20, od20, .func (PySem.W.fnOf "made_by_letter" "made_by_letter" (defArgs s_made_by_letter) (defBody s_made_by_letter) (defScope s_made_by_letter) .none kV20 dc20 pm20 an20 cd20 ct20), sl20⟩) (c20 : PySem.W.codeIn K cd20 "made_by_letter" = true) (k20 : PySem.W.keepIn K (.ref f20) = true)
   (a21 : PySem.W.nsIn K mainGlobals "made_by_word" = some (some (.ref f21))) (l21 : K.lookup f21 = some ⟨oc21, od21, .func (PySem.W.fnOf "made_by_word" "made_by_word" (defArgs s_made_by_word) (defBody s_made_by_word) (defScope s_made_by_word) .none kV21 dc21 pm21 an21 cd21 ct21), sl21⟩) (c21 : PySem.W.codeIn K cd21 "made_by_word" = true) (k21 : PySem.W.keepIn K (.ref f21) = true)
   (a22 : PySem.W.nsIn K mainGlobals "unlike" = some (some (.ref f22))) (l22 : K.lookup f22 = some ⟨oc22, od22, .func (PySem.W.fnOf "unlike" "unlike" (defArgs s_unlike) (defBody s_unlike) (defScope s_unlike) .none kV22 dc22 pm22 an22 cd22 ct22), sl22⟩) (c22 : PySem.W.codeIn K cd22 "unlike" = true) (k22 : PySem.W.keepIn K (.ref f22) = true)
   (a23 : PySem.W.nsIn K mainGlobals "alike" = some (some (.ref f23))) (l23 : K.lookup f23 = some ⟨oc23, od23, .func (PySem.W.fnOf "alike" "alike" (defArgs s_alike) (defBody s_alike) (defScope s_alike) .none kV23 dc23 pm23 an23 cd23 ct23), sl23⟩) (c23 : PySem.W.codeIn K cd23 "alike" = true) (k23 : PySem.W.keepIn K (.ref f23) = true)
   (a24 : PySem.W.nsIn K mainGlobals "_law_cell_at" = some (some (.ref f24))) (l24 : K.lookup f24 = some ⟨oc24, od24, .func (PySem.W.fnOf "_law_cell_at" "_law_cell_at" (defArgs s__law_cell_at) (defBody s__law_cell_at) (defScope s__law_cell_at) .none kV24 dc24 pm24 an24 cd24 ct24), sl24⟩) (c24 : PySem.W.codeIn K cd24 "_law_cell_at" = true) (k24 : PySem.W.keepIn K (.ref f24) = true)
   (a25 : PySem.W.nsIn K mainGlobals "_law_state" = some (some (.ref f25))) (l25 : K.lookup f25 = some ⟨oc25, od25, .func (PySem.W.fnOf "_law_state" "_law_state" (defArgs s__law_state) (defBody s__law_state) (defScope s__law_state) .none kV25 dc25 pm25 an25 cd25 ct25), sl25⟩) (c25 : PySem.W.codeIn K cd25 "_law_state" = true) (k25 : PySem.W.keepIn K (.ref f25) = true)
   (a26 : PySem.W.nsIn K mainGlobals "_law_choice" = some (some (.ref f26))) (l26 : K.lookup f26 = some ⟨oc26, od26, .func (PySem.W.fnOf "_law_choice" "_law_choice" (defArgs s__law_choice) (defBody s__law_choice) (defScope s__law_choice) .none kV26 dc26 pm26 an26 cd26 ct26), sl26⟩) (c26 : PySem.W.codeIn K cd26 "_law_choice" = true) (k26 : PySem.W.keepIn K (.ref f26) = true)
   (a27 : PySem.W.nsIn K mainGlobals "_law_word" = some (some (.ref f27))) (l27 : K.lookup f27 = some ⟨oc27, od27, .func (PySem.W.fnOf "_law_word" "_law_word" (defArgs s__law_word) (defBody s__law_word) (defScope s__law_word) .none kV27 dc27 pm27 an27 cd27 ct27), sl27⟩) (c27 : PySem.W.codeIn K cd27 "_law_word" = true) (k27 : PySem.W.keepIn K (.ref f27) = true)
   (a28 : PySem.W.nsIn K mainGlobals "_law_plait" = some (some (.ref f28))) (l28 : K.lookup f28 = some ⟨oc28, od28, .func (PySem.W.fnOf "_law_plait" "_law_plait" (defArgs s__law_plait) (defBody s__law_plait) (defScope s__law_plait) .none kV28 dc28 pm28 an28 cd28 ct28), sl28⟩) (c28 : PySem.W.codeIn K cd28 "_law_plait" = true) (k28 : PySem.W.keepIn K (.ref f28) = true)
   (a29 : PySem.W.nsIn K mainGlobals "_law_stepped" = some (some (.ref f29))) (l29 : K.lookup f29 = some ⟨oc29, od29, .func (PySem.W.fnOf "_law_stepped" "_law_stepped" (defArgs s__law_stepped) (defBody s__law_stepped) (defScope s__law_stepped) .none kV29 dc29 pm29 an29 cd29 ct29), sl29⟩) (c29 : PySem.W.codeIn K cd29 "_law_stepped" = true) (k29 : PySem.W.keepIn K (.ref f29) = true)
   (a30 : PySem.W.nsIn K mainGlobals "_law_led" = some (some (.ref f30))) (l30 : K.lookup f30 = some ⟨oc30, od30, .func (PySem.W.fnOf "_law_led" "_law_led" (defArgs s__law_led) (defBody s__law_led) (defScope s__law_led) .none kV30 dc30 pm30 an30 cd30 ct30), sl30⟩) (c30 : PySem.W.codeIn K cd30 "_law_led" = true) (k30 : PySem.W.keepIn K (.ref f30) = true)
   (a31 : PySem.W.nsIn K mainGlobals "_law_two" = some (some (.ref f31))) (l31 : K.lookup f31 = some ⟨oc31, od31, .func (PySem.W.fnOf "_law_two" "_law_two" (defArgs s__law_two) (defBody s__law_two) (defScope s__law_two) .none kV31 dc31 pm31 an31 cd31 ct31), sl31⟩) (c31 : PySem.W.codeIn K cd31 "_law_two" = true) (k31 : PySem.W.keepIn K (.ref f31) = true)
   (a32 : PySem.W.nsIn K mainGlobals "law" = some (some (.ref f32))) (l32 : K.lookup f32 = some ⟨oc32, od32, .func (PySem.W.fnOf "law" "law" (defArgs s_law) (defBody s_law) (defScope s_law) .none kV32 dc32 pm32 an32 cd32 ct32), sl32⟩) (c32 : PySem.W.codeIn K cd32 "law" = true) (k32 : PySem.W.keepIn K (.ref f32) = true)
   (z_abs : PySem.W.nsIn K mainGlobals "abs" = some none)
   (z_all : PySem.W.nsIn K mainGlobals "all" = some none)
   (z_len : PySem.W.nsIn K mainGlobals "len" = some none)
   (z_max : PySem.W.nsIn K mainGlobals "max" = some none)
   (z_range : PySem.W.nsIn K mainGlobals "range" = some none)
   (z_reversed : PySem.W.nsIn K mainGlobals "reversed" = some none)
   (z_tuple : PySem.W.nsIn K mainGlobals "tuple" = some none)
   {tk_MOST_LETTERS : Tok} (g_MOST_LETTERS : PySem.W.nsIn K mainGlobals "MOST_LETTERS" = some (some (.int 16 tk_MOST_LETTERS)))
   {tk_MOST_STRANDS : Tok} (g_MOST_STRANDS : PySem.W.nsIn K mainGlobals "MOST_STRANDS" = some (some (.int 6 tk_MOST_STRANDS)))
   : ∃ fd : FuncData, (∀ (s : Shared) (v : Value), BindsTo s fd ⟨[v], []⟩ [("script", v)]) ∧ ∀ base : Heap, K.In base → base.Ns mainGlobals mg → FnOk l.prog w K mg base CX0 8 fa fd ["script"] (dSp K sp_law) := by
 have e := hfa.symm.trans (PySem.W.mg_of X G a32)
 cases e
 have Z : Zs mg := ⟨PySem.W.mg_none_of X G z_abs, PySem.W.mg_none_of X G z_all, PySem.W.mg_none_of X G z_len, PySem.W.mg_none_of X G z_max, PySem.W.mg_none_of X G z_range, PySem.W.mg_none_of X G z_reversed, PySem.W.mg_none_of X G z_tuple, ⟨tk_MOST_LETTERS, PySem.W.mg_of X G g_MOST_LETTERS⟩, ⟨tk_MOST_STRANDS, PySem.W.mg_of X G g_MOST_STRANDS⟩⟩
 have F1 := fun_mk (st := s_is_letter) l1 c1 k1
 have b1 := F1.binds (ps := ["strands", "letter"]) fun _ _ _ _ _ _ us hl => len_2 (P := fun us => bindArgs _ ⟨us, []⟩ = pure (List.zip _ us)) hl (fun _ _ => rfl)
 have F2 := fun_mk (st := s_is_word) l2 c2 k2
 have b2 := F2.binds (ps := ["strands", "word", "most"]) fun _ _ _ _ _ _ us hl => len_3 (P := fun us => bindArgs _ ⟨us, []⟩ = pure (List.zip _ us)) hl (fun _ _ _ => rfl)
 have F3 := fun_mk (st := s_is_plait) l3 c3 k3
 have b3 := F3.binds (ps := ["plait"]) fun _ _ _ _ _ _ us hl => len_1 (P := fun us => bindArgs _ ⟨us, []⟩ = pure (List.zip _ us)) hl (fun _ => rfl)
 have F4 := fun_mk (st := s_looked) l4 c4 k4
 have b4 := F4.binds (ps := ["plait"]) fun _ _ _ _ _ _ us hl => len_1 (P := fun us => bindArgs _ ⟨us, []⟩ = pure (List.zip _ us)) hl (fun _ => rfl)
 have F5 := fun_mk (st := s_looked_both) l5 c5 k5
 have b5 := F5.binds (ps := ["one", "other"]) fun _ _ _ _ _ _ us hl => len_2 (P := fun us => bindArgs _ ⟨us, []⟩ = pure (List.zip _ us)) hl (fun _ _ => rfl)
 have F6 := fun_mk (st := s_contrary) l6 c6 k6
 have b6 := F6.binds (ps := ["word"]) fun _ _ _ _ _ _ us hl => len_1 (P := fun us => bindArgs _ ⟨us, []⟩ = pure (List.zip _ us)) hl (fun _ => rfl)
 have F7 := fun_mk (st := s_without_pairs) l7 c7 k7
 have b7 := F7.binds (ps := ["word"]) fun _ _ _ _ _ _ us hl => len_1 (P := fun us => bindArgs _ ⟨us, []⟩ = pure (List.zip _ us)) hl (fun _ => rfl)
 have F8 := fun_mk (st := s_exchanged) l8 c8 k8
 have b8 := F8.binds (ps := ["row", "at"]) fun _ _ _ _ _ _ us hl => len_2 (P := fun us => bindArgs _ ⟨us, []⟩ = pure (List.zip _ us)) hl (fun _ _ => rfl)
 have F9 := fun_mk (st := s_places_in) l9 c9 k9
 have b9 := F9.binds (ps := ["order"]) fun _ _ _ _ _ _ us hl => len_1 (P := fun us => bindArgs _ ⟨us, []⟩ = pure (List.zip _ us)) hl (fun _ => rfl)
 have F10 := fun_mk (st := s_plain_order) l10 c10 k10
 have b10 := F10.binds (ps := ["strands"]) fun _ _ _ _ _ _ us hl => len_1 (P := fun us => bindArgs _ ⟨us, []⟩ = pure (List.zip _ us)) hl (fun _ => rfl)
 have F11 := fun_mk (st := s_half_twist) l11 c11 k11
 have b11 := F11.binds (ps := ["strands"]) fun _ _ _ _ _ _ us hl => len_1 (P := fun us => bindArgs _ ⟨us, []⟩ = pure (List.zip _ us)) hl (fun _ => rfl)
 have F12 := fun_mk (st := s_can_begin) l12 c12 k12
 have b12 := F12.binds (ps := ["order", "letter"]) fun _ _ _ _ _ _ us hl => len_2 (P := fun us => bindArgs _ ⟨us, []⟩ = pure (List.zip _ us)) hl (fun _ _ => rfl)
 have F13 := fun_mk (st := s_flipped_order) l13 c13 k13
 have b13 := F13.binds (ps := ["order"]) fun _ _ _ _ _ _ us hl => len_1 (P := fun us => bindArgs _ ⟨us, []⟩ = pure (List.zip _ us)) hl (fun _ => rfl)
 have F14 := fun_mk (st := s_order_for) l14 c14 k14
 have b14 := F14.binds (ps := ["strands", "letter"]) fun _ _ _ _ _ _ us hl => len_2 (P := fun us => bindArgs _ ⟨us, []⟩ = pure (List.zip _ us)) hl (fun _ _ => rfl)
 have F15 := fun_mk (st := s_moved_ahead) l15 c15 k15
 have b15 := F15.binds (ps := ["one", "other"]) fun _ _ _ _ _ _ us hl => len_2 (P := fun us => bindArgs _ ⟨us, []⟩ = pure (List.zip _ us)) hl (fun _ _ => rfl)
 have F16 := fun_mk (st := s_put_behind) l16 c16 k16
 have b16 := F16.binds (ps := ["orders", "order"]) fun _ _ _ _ _ _ us hl => len_2 (P := fun us => bindArgs _ ⟨us, []⟩ = pure (List.zip _ us)) hl (fun _ _ => rfl)
 have F17 := fun_mk (st := s_form_by_letters) l17 c17 k17
 have b17 := F17.binds (ps := ["strands", "word"]) fun _ _ _ _ _ _ us hl => len_2 (P := fun us => bindArgs _ ⟨us, []⟩ = pure (List.zip _ us)) hl (fun _ _ => rfl)
 have F18 := fun_mk (st := s_form_of) l18 c18 k18
 have b18 := F18.binds (ps := ["plait"]) fun _ _ _ _ _ _ us hl => len_1 (P := fun us => bindArgs _ ⟨us, []⟩ = pure (List.zip _ us)) hl (fun _ => rfl)
 have F19 := fun_mk (st := s_same_form) l19 c19 k19
 have b19 := F19.binds (ps := ["one", "other"]) fun _ _ _ _ _ _ us hl => len_2 (P := fun us => bindArgs _ ⟨us, []⟩ = pure (List.zip _ us)) hl (fun _ _ => rfl)
 have F20 := fun_mk (st := s_made_by_letter) l20 c20 k20
 have b20 := F20.binds (ps := ["letter"]) fun _ _ _ _ _ _ us hl => len_1 (P := fun us => bindArgs _ ⟨us, []⟩ = pure (List.zip _ us)) hl (fun _ => rfl)
 have F21 := fun_mk (st := s_made_by_word) l21 c21 k21
 have b21 := F21.binds (ps := ["word", "j"]) fun _ _ _ _ _ _ us hl => len_2 (P := fun us => bindArgs _ ⟨us, []⟩ = pure (List.zip _ us)) hl (fun _ _ => rfl)
 have F22 := fun_mk (st := s_unlike) l22 c22 k22
 have b22 := F22.binds (ps := ["one", "other"]) fun _ _ _ _ _ _ us hl => len_2 (P := fun us => bindArgs _ ⟨us, []⟩ = pure (List.zip _ us)) hl (fun _ _ => rfl)
 have F23 := fun_mk (st := s_alike) l23 c23 k23
 have b23 := F23.binds (ps := ["one", "other"]) fun _ _ _ _ _ _ us hl => len_2 (P := fun us => bindArgs _ ⟨us, []⟩ = pure (List.zip _ us)) hl (fun _ _ => rfl)
 have F24 := fun_mk (st := s__law_cell_at) l24 c24 k24
 have b24 := F24.binds (ps := ["script", "k"]) fun _ _ _ _ _ _ us hl => len_2 (P := fun us => bindArgs _ ⟨us, []⟩ = pure (List.zip _ us)) hl (fun _ _ => rfl)
 have F25 := fun_mk (st := s__law_state) l25 c25 k25
 have b25 := F25.binds (ps := ["script", "k"]) fun _ _ _ _ _ _ us hl => len_2 (P := fun us => bindArgs _ ⟨us, []⟩ = pure (List.zip _ us)) hl (fun _ _ => rfl)
 have F26 := fun_mk (st := s__law_choice) l26 c26 k26
 have b26 := F26.binds (ps := ["state", "many"]) fun _ _ _ _ _ _ us hl => len_2 (P := fun us => bindArgs _ ⟨us, []⟩ = pure (List.zip _ us)) hl (fun _ _ => rfl)
 have F27 := fun_mk (st := s__law_word) l27 c27 k27
 have b27 := F27.binds (ps := ["state", "strands", "count"]) fun _ _ _ _ _ _ us hl => len_3 (P := fun us => bindArgs _ ⟨us, []⟩ = pure (List.zip _ us)) hl (fun _ _ _ => rfl)
 have F28 := fun_mk (st := s__law_plait) l28 c28 k28
 have b28 := F28.binds (ps := ["state", "least", "most", "letters"]) fun _ _ _ _ _ _ us hl => len_4 (P := fun us => bindArgs _ ⟨us, []⟩ = pure (List.zip _ us)) hl (fun _ _ _ _ => rfl)
 have F29 := fun_mk (st := s__law_stepped) l29 c29 k29
 have b29 := F29.binds (ps := ["state", "strands", "word"]) fun _ _ _ _ _ _ us hl => len_3 (P := fun us => bindArgs _ ⟨us, []⟩ = pure (List.zip _ us)) hl (fun _ _ _ => rfl)
 have F30 := fun_mk (st := s__law_led) l30 c30 k30
 have b30 := F30.binds (ps := ["state", "strands", "word", "steps", "most"]) fun _ _ _ _ _ _ us hl => len_5 (P := fun us => bindArgs _ ⟨us, []⟩ = pure (List.zip _ us)) hl (fun _ _ _ _ _ => rfl)
 have F31 := fun_mk (st := s__law_two) l31 c31 k31
 have b31 := F31.binds (ps := ["state", "letters"]) fun _ _ _ _ _ _ us hl => len_2 (P := fun us => bindArgs _ ⟨us, []⟩ = pure (List.zip _ us)) hl (fun _ _ => rfl)
 have F32 := fun_mk (st := s_law) l32 c32 k32
 refine ⟨PySem.W.fnOf "law" "law" (defArgs s_law) (defBody s_law) (defScope s_law) .none kV32 dc32 pm32 an32 cd32 ct32, fun s v => .of_eq rfl, fun base _ _ => ?_⟩
 have D1 := ok_is_letter (P := l.prog) (w := w) (base := base) (n := 0) F1 (PySem.W.mg_of X G a1) b1 Z 
 have D2 := ok_is_word (P := l.prog) (w := w) (base := base) (n := 1) F2 (PySem.W.mg_of X G a2) b2 Z (D1.mono (by decide))
 have D3 := ok_is_plait (P := l.prog) (w := w) (base := base) (n := 2) F3 (PySem.W.mg_of X G a3) b3 Z (D2.mono (by decide))
 have D4 := ok_looked (P := l.prog) (w := w) (base := base) (n := 3) F4 (PySem.W.mg_of X G a4) b4 Z (D3.mono (by decide))
 have D5 := ok_looked_both (P := l.prog) (w := w) (base := base) (n := 4) F5 (PySem.W.mg_of X G a5) b5 Z (D4.mono (by decide))
 have D6 := ok_contrary (P := l.prog) (w := w) (base := base) (n := 0) F6 (PySem.W.mg_of X G a6) b6 Z 
 have D7 := ok_without_pairs (P := l.prog) (w := w) (base := base) (n := 0) F7 (PySem.W.mg_of X G a7) b7 Z 
 have D8 := ok_exchanged (P := l.prog) (w := w) (base := base) (n := 0) F8 (PySem.W.mg_of X G a8) b8 Z 
 have D9 := ok_places_in (P := l.prog) (w := w) (base := base) (n := 0) F9 (PySem.W.mg_of X G a9) b9 Z 
 have D10 := ok_plain_order (P := l.prog) (w := w) (base := base) (n := 0) F10 (PySem.W.mg_of X G a10) b10 Z 
 have D11 := ok_half_twist (P := l.prog) (w := w) (base := base) (n := 0) F11 (PySem.W.mg_of X G a11) b11 Z 
 have D12 := ok_can_begin (P := l.prog) (w := w) (base := base) (n := 0) F12 (PySem.W.mg_of X G a12) b12 Z 
 have D13 := ok_flipped_order (P := l.prog) (w := w) (base := base) (n := 0) F13 (PySem.W.mg_of X G a13) b13 Z 
 have D14 := ok_order_for (P := l.prog) (w := w) (base := base) (n := 1) F14 (PySem.W.mg_of X G a14) b14 Z (D8.mono (by decide)) (D10.mono (by decide)) (D11.mono (by decide))
 have D15 := ok_moved_ahead (P := l.prog) (w := w) (base := base) (n := 1) F15 (PySem.W.mg_of X G a15) b15 Z (D11.mono (by decide)) (D13.mono (by decide)) (D9.mono (by decide)) (D12.mono (by decide)) (D8.mono (by decide))
 have D16 := ok_put_behind (P := l.prog) (w := w) (base := base) (n := 2) F16 (PySem.W.mg_of X G a16) b16 Z (D15.mono (by decide)) (D10.mono (by decide))
 have D17 := ok_form_by_letters (P := l.prog) (w := w) (base := base) (n := 3) F17 (PySem.W.mg_of X G a17) b17 Z (D14.mono (by decide)) (D13.mono (by decide)) (D16.mono (by decide)) (D11.mono (by decide))
 have D18 := ok_form_of (P := l.prog) (w := w) (base := base) (n := 4) F18 (PySem.W.mg_of X G a18) b18 Z (D4.mono (by decide)) (D17.mono (by decide))
 have D19 := ok_same_form (P := l.prog) (w := w) (base := base) (n := 5) F19 (PySem.W.mg_of X G a19) b19 Z (D5.mono (by decide)) (D18.mono (by decide))
 have D20 := ok_made_by_letter (P := l.prog) (w := w) (base := base) (n := 1) F20 (PySem.W.mg_of X G a20) b20 Z (D6.mono (by decide))
 have D21 := ok_made_by_word (P := l.prog) (w := w) (base := base) (n := 2) F21 (PySem.W.mg_of X G a21) b21 Z (D20.mono (by decide)) (D7.mono (by decide))
 have D22 := ok_unlike (P := l.prog) (w := w) (base := base) (n := 5) F22 (PySem.W.mg_of X G a22) b22 Z (D5.mono (by decide)) (D21.mono (by decide))
 have D23 := ok_alike (P := l.prog) (w := w) (base := base) (n := 6) F23 (PySem.W.mg_of X G a23) b23 Z (D22.mono (by decide))
 have D24 := ok__law_cell_at (P := l.prog) (w := w) (base := base) (n := 0) F24 (PySem.W.mg_of X G a24) b24 Z 
 have D25 := ok__law_state (P := l.prog) (w := w) (base := base) (n := 1) F25 (PySem.W.mg_of X G a25) b25 Z (D24.mono (by decide))
 have D26 := ok__law_choice (P := l.prog) (w := w) (base := base) (n := 0) F26 (PySem.W.mg_of X G a26) b26 Z 
 have D27 := ok__law_word (P := l.prog) (w := w) (base := base) (n := 1) F27 (PySem.W.mg_of X G a27) b27 Z (D26.mono (by decide))
 have D28 := ok__law_plait (P := l.prog) (w := w) (base := base) (n := 2) F28 (PySem.W.mg_of X G a28) b28 Z (D26.mono (by decide)) (D27.mono (by decide))
 have D29 := ok__law_stepped (P := l.prog) (w := w) (base := base) (n := 2) F29 (PySem.W.mg_of X G a29) b29 Z (D26.mono (by decide)) (D27.mono (by decide))
 have D30 := ok__law_led (P := l.prog) (w := w) (base := base) (n := 3) F30 (PySem.W.mg_of X G a30) b30 Z (D29.mono (by decide))
 have D31 := ok__law_two (P := l.prog) (w := w) (base := base) (n := 4) F31 (PySem.W.mg_of X G a31) b31 Z (D28.mono (by decide)) (D26.mono (by decide)) (D27.mono (by decide)) (D30.mono (by decide))
 exact ok_law (n := 7) F32 Z (D31.mono (by decide)) (D25.mono (by decide)) (D23.mono (by decide)) (D19.mono (by decide)) (D18.mono (by decide))
end L2
namespace PySem.W.Fast
theorem tw6820284213935163520:True:=⟨⟩
theorem tw1639349615036345201:True:=⟨⟩
theorem tw6080015801474649078:True:=⟨⟩
theorem tw10587273522767325500:True:=⟨⟩
theorem tw17861003859574337427:True:=⟨⟩
theorem tw15636827256695509921:True:=⟨⟩
theorem tw2133232994949913681:True:=⟨⟩
theorem tw14737351042445731448:True:=⟨⟩
theorem tw14788831038694324070:True:=⟨⟩
theorem tw146162277818960560:True:=⟨⟩
theorem tw6061930003429912968:True:=⟨⟩
theorem tw6530947290622276165:True:=⟨⟩
theorem tw6834558102449932372:True:=⟨⟩
theorem tw1349014979599238765:True:=⟨⟩
theorem tw17064185316569679299:True:=⟨⟩
theorem tw3339768572372730244:True:=⟨⟩
theorem tw11824293297670753377:True:=⟨⟩
theorem tw4791309268740210160:True:=⟨⟩
theorem tw10868639333531221166:True:=⟨⟩
theorem tw13903743557631216743:True:=⟨⟩
theorem tw17867412968583049201:True:=⟨⟩
theorem tw10682494203375586411:True:=⟨⟩
theorem tw15154472702510586455:True:=⟨⟩
theorem tw12808078777906594005:True:=⟨⟩
theorem tw3062490098654599777:True:=⟨⟩
theorem tw14888312245779408473:True:=⟨⟩
theorem tw16629486550037536496:True:=⟨⟩
theorem tw7849359031139053471:True:=⟨⟩
theorem tw8426446040571730815:True:=⟨⟩
theorem tw2706089030395537735:True:=⟨⟩
theorem tw18049025694551765253:True:=⟨⟩
theorem tw215058401907434733:True:=⟨⟩
theorem tw13346413805511535542:True:=⟨⟩
theorem tw15183030715322980098:True:=⟨⟩
theorem tw17317093986326328025:True:=⟨⟩
theorem tw15458783198770879121:True:=⟨⟩
theorem tw11121176077399980505:True:=⟨⟩
theorem tw12649688710802138826:True:=⟨⟩
theorem tw8168955401018770677:True:=⟨⟩
theorem tw8806395922526897788:True:=⟨⟩
theorem tw4721981838069016061:True:=⟨⟩
theorem tw17532683670000104488:True:=⟨⟩
theorem tw3031435738153330285:True:=⟨⟩
theorem tw3718649789448009704:True:=⟨⟩
theorem tw3439066086480938542:True:=⟨⟩
theorem tw11553860558868702140:True:=⟨⟩
theorem tw2531755684665587757:True:=⟨⟩
theorem tw3436046137542102090:True:=⟨⟩
theorem tw9764845947373137858:True:=⟨⟩
theorem tw17424707160374586750:True:=⟨⟩
theorem tw1535135719019969048:True:=⟨⟩
theorem tw14406894923791464815:True:=⟨⟩
theorem tw16932455829069824480:True:=⟨⟩
theorem tw15199639238518159176:True:=⟨⟩
theorem tw10311916474407544305:True:=⟨⟩
theorem tw7364507052238178549:True:=⟨⟩
theorem tw795795870597073694:True:=⟨⟩
theorem tw3033070792492816929:True:=⟨⟩
theorem tw13322128415586125477:True:=⟨⟩
theorem tw10451216787084401506:True:=⟨⟩
theorem tw12589388093282371988:True:=⟨⟩
theorem tw3804331834059058877:True:=⟨⟩
theorem tw11616200412764158240:True:=⟨⟩
theorem tw8811883559033874443:True:=⟨⟩
theorem tw306884230397672975:True:=⟨⟩
theorem tw6865231247439233654:True:=⟨⟩
theorem tw15378261505546226136:True:=⟨⟩
theorem tw15252982896592393150:True:=⟨⟩
theorem tw3133949728901954343:True:=⟨⟩
theorem tw9727240314351691232:True:=⟨⟩
theorem tw13480491393564045118:True:=⟨⟩
theorem tw2282898789258194858:True:=⟨⟩
theorem tw10533935046640726526:True:=⟨⟩
theorem tw7296515899465151280:True:=⟨⟩
theorem tw6550386262789666808:True:=⟨⟩
theorem tw4239532953354633881:True:=⟨⟩
theorem tw5942676428861655197:True:=⟨⟩
theorem tw17921021975519435447:True:=⟨⟩
theorem tw433423052022749342:True:=⟨⟩
theorem tw16324085014473814159:True:=⟨⟩
theorem tw5399181747218773652:True:=⟨⟩
theorem tw8387967698055044793:True:=⟨⟩
theorem tw14273575078646914316:True:=⟨⟩
theorem tw10557663899268800560:True:=⟨⟩
theorem tw12590141003528411506:True:=⟨⟩
theorem tw8228984201784802695:True:=⟨⟩
theorem tw10914023186632915827:True:=⟨⟩
theorem tw942855827173183570:True:=⟨⟩
theorem tw5509231064510790006:True:=⟨⟩
theorem tw10725455456559812241:True:=⟨⟩
theorem tw3763301027010702595:True:=⟨⟩
theorem tw7687343092667144675:True:=⟨⟩
theorem tw2598393747953909191:True:=⟨⟩
theorem tw17242894338910087627:True:=⟨⟩
theorem tw14678271986232050619:True:=⟨⟩
theorem tw12517911523537455531:True:=⟨⟩
theorem tw14494874436955344124:True:=⟨⟩
theorem tw10039795005250108866:True:=⟨⟩
theorem tw3804609409166892991:True:=⟨⟩
theorem tw751812535451071733:True:=⟨⟩
theorem tw11949868170868313795:True:=⟨⟩
theorem tw15562844392662947741:True:=⟨⟩
theorem tw10150438792641984646:True:=⟨⟩
theorem tw3298872795154777544:True:=⟨⟩
theorem tw2775989511105260158:True:=⟨⟩
theorem tw5881374344660461659:True:=⟨⟩
theorem tw9392351941810000100:True:=⟨⟩
theorem tw14699223751130873904:True:=⟨⟩
theorem tw12778101250019494210:True:=⟨⟩
theorem tw7565529831220676784:True:=⟨⟩
theorem tw225043910576372256:True:=⟨⟩
theorem tw4638284464106834942:True:=⟨⟩
theorem tw15057109943319853821:True:=⟨⟩
theorem tw15712451706636669199:True:=⟨⟩
theorem tw8029491952809124743:True:=⟨⟩
theorem tw139050324038012602:True:=⟨⟩
theorem tw10865969635703739154:True:=⟨⟩
theorem tw17249096734395631120:True:=⟨⟩
theorem tw15033426530812343736:True:=⟨⟩
theorem tw14491057370804390897:True:=⟨⟩
theorem tw7558439286009886448:True:=⟨⟩
theorem tw2072305892339879629:True:=⟨⟩
theorem tw6536707328898441676:True:=⟨⟩
theorem tw12076552733122304676:True:=⟨⟩
theorem tw17098788960659472179:True:=⟨⟩
theorem tw1337794400060512855:True:=⟨⟩
theorem tw4206843794494267126:True:=⟨⟩
theorem tw843513717847099501:True:=⟨⟩
theorem tw2820410353765388399:True:=⟨⟩
theorem tw2264781257565325473:True:=⟨⟩
theorem tw8380220555683047571:True:=⟨⟩
theorem tw7203122989254080100:True:=⟨⟩
theorem tw935248194793296136:True:=⟨⟩
theorem tw9238962697335202183:True:=⟨⟩
theorem tw11910708754227520676:True:=⟨⟩
theorem tw12376167568602512378:True:=⟨⟩
theorem tw10647150921117548901:True:=⟨⟩
theorem tw6190860424406944170:True:=⟨⟩
theorem tw12641490545861198153:True:=⟨⟩
theorem tw1096463520671983181:True:=⟨⟩
theorem tw7332114346523353845:True:=⟨⟩
theorem tw10116181970243539365:True:=⟨⟩
theorem tw8179206936498685322:True:=⟨⟩
theorem tw3063859582896716351:True:=⟨⟩
theorem tw12084523043590632117:True:=⟨⟩
theorem tw13947315361667540110:True:=⟨⟩
theorem tw14726717539313028935:True:=⟨⟩
theorem tw14217568668368639029:True:=⟨⟩
theorem tw11938232969215851567:True:=⟨⟩
theorem tw8592764884885007462:True:=⟨⟩
theorem tw9727019171378836434:True:=⟨⟩
theorem tw11230160901874545214:True:=⟨⟩
theorem tw1967512120277859430:True:=⟨⟩
theorem tw12457677180800767168:True:=⟨⟩
theorem tw16903481144717599134:True:=⟨⟩
theorem tw14322930703765581594:True:=⟨⟩
theorem tw7463126767551259049:True:=⟨⟩
theorem tw4630799063103385212:True:=⟨⟩
theorem tw6166651286711219159:True:=⟨⟩
theorem tw2813615448755876645:True:=⟨⟩
theorem tw7792358264348556058:True:=⟨⟩
theorem tw7583624169976726046:True:=⟨⟩
theorem tw2172199087068387193:True:=⟨⟩
theorem tw3516777849479844049:True:=⟨⟩
theorem tw3304618282297100173:True:=⟨⟩
theorem tw16435041175576119486:True:=⟨⟩
theorem tw16027520054137911395:True:=⟨⟩
theorem tw11344198602904951492:True:=⟨⟩
theorem tw9653656929125660280:True:=⟨⟩
theorem tw4598314351819211408:True:=⟨⟩
theorem tw13061345534017917195:True:=⟨⟩
theorem tw11025104543518252587:True:=⟨⟩
theorem tw17808211601468215422:True:=⟨⟩
theorem tw14112359586552208705:True:=⟨⟩
theorem tw10501453106090603395:True:=⟨⟩
theorem tw12910847337637199327:True:=⟨⟩
theorem tw16239357272018469774:True:=⟨⟩
theorem tw15162114200302017205:True:=⟨⟩
theorem tw14200228386948811688:True:=⟨⟩
theorem tw6002554231845946057:True:=⟨⟩
theorem tw5990567057022222073:True:=⟨⟩
theorem tw16766808006378207628:True:=⟨⟩
theorem tw4537516064631933514:True:=⟨⟩
theorem tw11234317338993730514:True:=⟨⟩
theorem tw6249549696949722609:True:=⟨⟩
theorem tw6556696560863565418:True:=⟨⟩
theorem tw15428901567939408888:True:=⟨⟩
theorem tw6082941190906894337:True:=⟨⟩
theorem tw12652374573772174998:True:=⟨⟩
theorem tw11527392206609504409:True:=⟨⟩
theorem tw6037670927221176178:True:=⟨⟩
theorem tw440690589969095877:True:=⟨⟩
theorem tw9366208702112090854:True:=⟨⟩
theorem tw6479402261848473347:True:=⟨⟩
theorem tw8820183884012331191:True:=⟨⟩
theorem tw2332810748801120843:True:=⟨⟩
theorem tw15204775157110136489:True:=⟨⟩
theorem tw10612903830753291609:True:=⟨⟩
theorem tw12758949629870838819:True:=⟨⟩
theorem tw17876300836802075152:True:=⟨⟩
theorem tw7278196940970710801:True:=⟨⟩
theorem tw3533986210277790203:True:=⟨⟩
theorem tw16776853068121776164:True:=⟨⟩
theorem tw5031538105595179858:True:=⟨⟩
theorem tw10048239251657940628:True:=⟨⟩
theorem tw2559422771054261126:True:=⟨⟩
theorem tw9084141729920893368:True:=⟨⟩
theorem tw3785290467897492883:True:=⟨⟩
theorem tw881295288303891711:True:=⟨⟩
theorem tw1138390911255251558:True:=⟨⟩
theorem tw4938421151775586681:True:=⟨⟩
theorem tw16128826560224735890:True:=⟨⟩
theorem tw14778930284292148742:True:=⟨⟩
theorem tw4713363889544843009:True:=⟨⟩
theorem tw11720008478206771406:True:=⟨⟩
theorem tw10644519778749987242:True:=⟨⟩
theorem tw3456775327160525648:True:=⟨⟩
theorem tw8359513116142047829:True:=⟨⟩
theorem tw17992249613713639218:True:=⟨⟩
theorem tw14415697992015170847:True:=⟨⟩
theorem tw7374954774911702881:True:=⟨⟩
theorem tw11113384616361983317:True:=⟨⟩
theorem tw11293769134227549919:True:=⟨⟩
theorem tw9555190255420702619:True:=⟨⟩
theorem tw4001748160384467364:True:=⟨⟩
theorem tw17283992330139062513:True:=⟨⟩
theorem tw10960923637952619240:True:=⟨⟩
theorem tw2437031051470273207:True:=⟨⟩
theorem tw1734963994764075325:True:=⟨⟩
theorem tw14900527189236446357:True:=⟨⟩
theorem tw1339767579605564481:True:=⟨⟩
theorem tw10576604033768667489:True:=⟨⟩
theorem tw2289073989221569412:True:=⟨⟩
theorem tw13872614525796161699:True:=⟨⟩
theorem tw10146002682120120883:True:=⟨⟩
theorem tw10316344681736337751:True:=⟨⟩
theorem tw895270003905034096:True:=⟨⟩
theorem tw3347606196677893394:True:=⟨⟩
theorem tw13513766134752803683:True:=⟨⟩
theorem tw18855363656101157:True:=⟨⟩
theorem tw6598482917624619197:True:=⟨⟩
theorem tw9329888730770121208:True:=⟨⟩
theorem tw12960501690420634565:True:=⟨⟩
theorem tw4122251279932723140:True:=⟨⟩
theorem tw438975370134262285:True:=⟨⟩
theorem tw6400343505393077102:True:=⟨⟩
theorem tw12046455851570261136:True:=⟨⟩
theorem tw4148138839356273739:True:=⟨⟩
theorem tw7547858873724885739:True:=⟨⟩
theorem tw10856103808810055076:True:=⟨⟩
theorem tw18013170451726199879:True:=⟨⟩
theorem tw10958214019384267506:True:=⟨⟩
theorem tw4690958655763029322:True:=⟨⟩
theorem tw10471255419232493963:True:=⟨⟩
theorem tw17748088094345995235:True:=⟨⟩
theorem tw12834876631606352482:True:=⟨⟩
theorem tw1623786054782178704:True:=⟨⟩
theorem tw10055011308355860171:True:=⟨⟩
theorem tw16196910353257211425:True:=⟨⟩
theorem tw11708951524404044043:True:=⟨⟩
theorem tw2040856829485169296:True:=⟨⟩
theorem tw2281190573366444850:True:=⟨⟩
theorem tw6458392767312656792:True:=⟨⟩
theorem tw5923454467047372910:True:=⟨⟩
theorem tw4941422537866355171:True:=⟨⟩
theorem tw1144448980660650158:True:=⟨⟩
theorem tw13001068284233796495:True:=⟨⟩
theorem tw8958124096089606452:True:=⟨⟩
theorem tw2602895974212388296:True:=⟨⟩
theorem tw16137021046364126488:True:=⟨⟩
theorem tw1327715795087165680:True:=⟨⟩
theorem tw3326142883772438721:True:=⟨⟩
theorem tw9449177599099779469:True:=⟨⟩
theorem tw18009630115733677252:True:=⟨⟩
theorem tw12827341915143703907:True:=⟨⟩
theorem tw6742635269311219940:True:=⟨⟩
theorem tw5710093523589519936:True:=⟨⟩
theorem tw14131415943810532410:True:=⟨⟩
theorem tw9103639381049211106:True:=⟨⟩
theorem tw8642967298120434037:True:=⟨⟩
theorem tw17505254734106143955:True:=⟨⟩
theorem tw10043371638017536937:True:=⟨⟩
theorem tw15581145230033595369:True:=⟨⟩
theorem tw10420963744871998894:True:=⟨⟩
end PySem.W.Fast
open PySem PySem.W PyProof.Rows
set_option maxRecDepth 100000 in
set_option maxHeartbeats 0 in
theorem PySem.Challenge.cw_loopwright_k28_whole_the_same_just_where_holds : PySem.Challenge.rw_loopwright_k28_whole_the_same_just_where.Holds := by
 w_on; o_law; k_head; (case hw => w_witness2)
 k_fill
 refine L2.law_walk (l := PySem.Challenge.rw_loopwright_k28_whole_the_same_just_where) (k := 8) (sp := L2.sp_law) rfl rfl ⟨rfl, by decide, by decide⟩ (fun w h Y => PySem.W.kIn_of Y) L2.law_starts ?F
 case F =>
   intro w mg fa h KX G hmg
   refine' L2.all_mk KX G hmg ?a1 ?l1 ?c1 ?k1 ?a2 ?l2 ?c2 ?k2 ?a3 ?l3 ?c3 ?k3 ?a4 ?l4 ?c4 ?k4 ?a5 ?l5 ?c5 ?k5 ?a6 ?l6 ?c6 ?k6 ?a7 ?l7 ?c7 ?k7 ?a8 ?l8 ?c8 ?k8 ?a9 ?l9 ?c9 ?k9 ?a10 ?l10 ?c10 ?k10 ?a11 ?l11 ?c11 ?k11 ?a12 ?l12 ?c12 ?k12 ?a13 ?l13 ?c13 ?k13 ?a14 ?l14 ?c14 ?k14 ?a15 ?l15 ?c15 ?k15 ?a16 ?l16 ?c16 ?k16 ?a17 ?l17 ?c17 ?k17 ?a18 ?l18 ?c18 ?k18 ?a19 ?l19 ?c19 ?k19 ?a20 ?l20 ?c20 ?k20 ?a21 ?l21 ?c21 ?k21 ?a22 ?l22 ?c22 ?k22 ?a23 ?l23 ?c23 ?k23 ?a24 ?l24 ?c24 ?k24 ?a25 ?l25 ?c25 ?k25 ?a26 ?l26 ?c26 ?k26 ?a27 ?l27 ?c27 ?k27 ?a28 ?l28 ?c28 ?k28 ?a29 ?l29 ?c29 ?k29 ?a30 ?l30 ?c30 ?k30 ?a31 ?l31 ?c31 ?k31 ?a32 ?l32 ?c32 ?k32 ?z_abs ?z_all ?z_len ?z_max ?z_range ?z_reversed ?z_tuple ?g_MOST_LETTERS ?g_MOST_STRANDS
   (case a1 => k_is)
   (case l1 => k_is)
   (case c1 => k_is)
   (case k1 => k_is)
   (case a2 => k_is)
   (case l2 => k_is)
   (case c2 => k_is)
   (case k2 => k_is)
   (case a3 => k_is)
   (case l3 => k_is)
   (case c3 => k_is)
   (case k3 => k_is)
   (case a4 => k_is)
   (case l4 => k_is)
   (case c4 => k_is)
   (case k4 => k_is)
   (case a5 => k_is)
   (case l5 => k_is)
   (case c5 => k_is)
   (case k5 => k_is)
   (case a6 => k_is)
   (case l6 => k_is)
   (case c6 => k_is)
   (case k6 => k_is)
   (case a7 => k_is)
   (case l7 => k_is)
   (case c7 => k_is)
   (case k7 => k_is)
   (case a8 => k_is)
   (case l8 => k_is)
   (case c8 => k_is)
   (case k8 => k_is)
   (case a9 => k_is)
   (case l9 => k_is)
   (case c9 => k_is)
   (case k9 => k_is)
   (case a10 => k_is)
   (case l10 => k_is)
   (case c10 => k_is)
   (case k10 => k_is)
   (case a11 => k_is)
   (case l11 => k_is)
   (case c11 => k_is)
   (case k11 => k_is)
   (case a12 => k_is)
   (case l12 => k_is)
   (case c12 => k_is)
   (case k12 => k_is)
   (case a13 => k_is)
   (case l13 => k_is)
   (case c13 => k_is)
   (case k13 => k_is)
   (case a14 => k_is)
   (case l14 => k_is)
   (case c14 => k_is)
   (case k14 => k_is)
   (case a15 => k_is)
   (case l15 => k_is)
   (case c15 => k_is)
   (case k15 => k_is)
   (case a16 => k_is)
   (case l16 => k_is)
   (case c16 => k_is)
   (case k16 => k_is)
   (case a17 => k_is)
   (case l17 => k_is)
   (case c17 => k_is)
   (case k17 => k_is)
   (case a18 => k_is)
   (case l18 => k_is)
   (case c18 => k_is)
   (case k18 => k_is)
   (case a19 => k_is)
   (case l19 => k_is)
   (case c19 => k_is)
   (case k19 => k_is)
   (case a20 => k_is)
   (case l20 => k_is)
   (case c20 => k_is)
   (case k20 => k_is)
   (case a21 => k_is)
   (case l21 => k_is)
   (case c21 => k_is)
   (case k21 => k_is)
   (case a22 => k_is)
   (case l22 => k_is)
   (case c22 => k_is)
   (case k22 => k_is)
   (case a23 => k_is)
   (case l23 => k_is)
   (case c23 => k_is)
   (case k23 => k_is)
   (case a24 => k_is)
   (case l24 => k_is)
   (case c24 => k_is)
   (case k24 => k_is)
   (case a25 => k_is)
   (case l25 => k_is)
   (case c25 => k_is)
   (case k25 => k_is)
   (case a26 => k_is)
   (case l26 => k_is)
   (case c26 => k_is)
   (case k26 => k_is)
   (case a27 => k_is)
   (case l27 => k_is)
   (case c27 => k_is)
   (case k27 => k_is)
   (case a28 => k_is)
   (case l28 => k_is)
   (case c28 => k_is)
   (case k28 => k_is)
   (case a29 => k_is)
   (case l29 => k_is)
   (case c29 => k_is)
   (case k29 => k_is)
   (case a30 => k_is)
   (case l30 => k_is)
   (case c30 => k_is)
   (case k30 => k_is)
   (case a31 => k_is)
   (case l31 => k_is)
   (case c31 => k_is)
   (case k31 => k_is)
   (case a32 => k_is)
   (case l32 => k_is)
   (case c32 => k_is)
   (case k32 => k_is)
   (case z_abs => k_is)
   (case z_all => k_is)
   (case z_len => k_is)
   (case z_max => k_is)
   (case z_range => k_is)
   (case z_reversed => k_is)
   (case z_tuple => k_is)
   (case g_MOST_LETTERS => k_is)
   (case g_MOST_STRANDS => k_is)
