import PyProof.Rows.All
import Wide.All
import OpenK.AllK
import Wide.FinOn
import Lean
import PyProof.EqAt
import PyProof.EqKinds
import PyProof.TupleCall
import PySem.Challenge.RW_loopwright_k65_whole_free_colours
set_option Elab.async false
set_option linter.all false
set_option maxRecDepth 100000
namespace L2
open PySem PySem.Spec PyProof.Rows
noncomputable abbrev Key := Sum Int Str
noncomputable def keyIs : Key → Value → Bool
 | .inl k, v => Value.isInt k v
 | .inr x, v => Value.isStrOf x v
noncomputable def keyH (w : World) : Key → Int
 | .inl k => hashInt k
 | .inr x => hashStr w x
theorem keyIs_shape : ∀ {k : Key} {v : Value}, keyIs k v = true → (∃ i t, k = Sum.inl i ∧ v = Value.int i t) ∨ (∃ x t, k = Sum.inr x ∧ v = Value.str x t)
 | .inl i, v, h => by
   obtain ⟨t, e⟩ := Value.isInt_shape (k := i) (v := v) h
   exact .inl ⟨i, t, rfl, e⟩
 | .inr x, v, h => by
   obtain ⟨t, e⟩ := Value.isStrOf_shape (x := x) (v := v) h
   exact .inr ⟨x, t, rfl, e⟩
theorem keyIs_int (i : Int) (t : Tok) : keyIs (.inl i) (.int i t) = true := by simp [keyIs, Value.isInt]
theorem keyIs_str (x : Str) (t : Tok) : keyIs (.inr x) (.str x t) = true := by simp [keyIs, Value.isStrOf]
theorem key_ll (a b : Int) : decide ((Sum.inl a : Key) = Sum.inl b) = (a == b) := by
 by_cases e : a = b
 · subst e; simp
 · have h : ¬ (Sum.inl a : Key) = Sum.inl b := fun q => e (Sum.inl.inj q)
   rw [decide_eq_false h]
   exact (beq_eq_false_iff_ne.mpr e).symm
theorem key_rr (a b : Str) : decide ((Sum.inr a : Key) = Sum.inr b) = decide (a = b) := by
 by_cases e : a = b
 · subst e; simp
 · have h : ¬ (Sum.inr a : Key) = Sum.inr b := fun q => e (Sum.inr.inj q)
   rw [decide_eq_false h, decide_eq_false e]
theorem key_lr (a : Int) (b : Str) : decide ((Sum.inl a : Key) = Sum.inr b) = false := decide_eq_false (fun q => nomatch q)
theorem key_rl (a : Str) (b : Int) : decide ((Sum.inr a : Key) = Sum.inl b) = false := decide_eq_false (fun q => nomatch q)
noncomputable def mixKind (prog : Program) (w : World) : PySem.KeyKind prog w Key where
 is := keyIs
 hash := keyH w
 inj := fun v a b ha hb => by
   rcases keyIs_shape ha with ⟨i, t, rfl, rfl⟩ | ⟨x, t, rfl, rfl⟩
   · rcases keyIs_shape hb with ⟨j, u, rfl, e⟩ | ⟨y, u, rfl, e⟩
     · injection e with e1 _; rw [e1]
     · exact nomatch e
   · rcases keyIs_shape hb with ⟨j, u, rfl, e⟩ | ⟨y, u, rfl, e⟩
     · exact nomatch e
     · injection e with e1 _; rw [e1]
 byValue := fun k v h => by
   rcases keyIs_shape h with ⟨i, t, rfl, rfl⟩ | ⟨x, t, rfl, rfl⟩ <;> rfl
 pyHash := fun hv h => by
   rcases keyIs_shape hv with ⟨i, t, rfl, rfl⟩ | ⟨x, t, rfl, rfl⟩
   · exact wpAny_pyHash_int h
   · exact wpAny_pyHash_str h
 eqBool := fun hu hv h => by
   rcases keyIs_shape hu with ⟨i, t, rfl, rfl⟩ | ⟨x, t, rfl, rfl⟩
   · rcases keyIs_shape hv with ⟨j, u, rfl, rfl⟩ | ⟨y, u, rfl, rfl⟩
     · rw [key_ll] at h; exact wpAny_eqBool_int h
     · rw [key_lr] at h; exact SeqAt.EqAt.int_str i t y u _ _ _ _ h
   · rcases keyIs_shape hv with ⟨j, u, rfl, rfl⟩ | ⟨y, u, rfl, rfl⟩
     · rw [key_rl] at h; exact SeqAt.EqAt.str_int x t j u _ _ _ _ h
     · rw [key_rr] at h; exact wpAny_eqBool_str h
 «strs» := fun k x t v h => by
   rcases keyIs_shape h with ⟨i, u, rfl, e⟩ | ⟨y, u, rfl, e⟩
   · exact nomatch e
   · injection e with e1 _
     subst e1
     cases v <;> rfl
theorem mixKind_int (prog : Program) (w : World) (i : Int) (t : Tok) : (mixKind prog w).is (.inl i) (.int i t) = true := keyIs_int i t
theorem mixKind_str (prog : Program) (w : World) (x : Str) (t : Tok) : (mixKind prog w).is (.inr x) (.str x t) = true := keyIs_str x t
end L2
namespace L2
open PySem PySem.Spec PyProof.Rows
inductive V where
 | non | bl (b : Bool) | int (i : Int) | str (x : Str) | byt (b : Array UInt8) | flt (b : UInt64) | ref (a : Addr) | ty (n : String)
 deriving DecidableEq
noncomputable def RelV : V → Value → Prop
 | .non, u => u = Value.none
 | .bl b, u => u = Value.bool b
 | .int i, u => ∃ t, u = Value.int i t
 | .str x, u => ∃ t, u = Value.str x t
 | .byt b, u => ∃ t, u = Value.bytes b t
 | .flt b, u => ∃ t, u = Value.float b t
 | .ref a, u => u = Value.ref a
 | .ty n, u => u = Value.type n
noncomputable abbrev Vals : List V → List Value → Prop := Paired RelV
theorem Vals.length {xs : List V} {us : List Value} (r : Vals xs us) : xs.length = us.length := Paired.length r
theorem Vals.get : ∀ {xs : List V} {us : List Value} {i : Nat} {x : V}, Vals xs us → xs[i]? = some x → ∃ u, us[i]? = some u ∧ RelV x u
 | _, _, _, _, .nil, e => by simp at e
 | _, _, 0, _, .cons r _, e => by simp at e; subst e; exact ⟨_, rfl, r⟩
 | _, _, i + 1, x, .cons _ t, e => by
   obtain ⟨u, h1, h2⟩ := Vals.get (i := i) (x := x) t (by simpa using e)
   exact ⟨u, by simpa using h1, h2⟩
theorem Vals.set {x : V} {u : Value} (r : RelV x u) : ∀ {xs : List V} {us : List Value} (i : Nat), Vals xs us → Vals (xs.set i x) (us.set i u)
 | _, _, _, .nil => .nil
 | _, _, 0, .cons _ t => .cons r t
 | _, _, i + 1, .cons q t => .cons q (Vals.set r i t)
theorem Vals.append : ∀ {xs ys : List V} {us ws : List Value}, Vals xs us → Vals ys ws → Vals (xs ++ ys) (us ++ ws)
 | _, _, _, _, .nil, s => s
 | _, _, _, _, .cons r t, s => .cons r (Vals.append t s)
theorem Vals.take : ∀ {xs : List V} {us : List Value} (n : Nat), Vals xs us → Vals (xs.take n) (us.take n)
 | _, _, 0, _ => .nil
 | _, _, _ + 1, .nil => .nil
 | _, _, n + 1, .cons r t => .cons r (Vals.take n t)
theorem Vals.drop : ∀ {xs : List V} {us : List Value} (n : Nat), Vals xs us → Vals (xs.drop n) (us.drop n)
 | _, _, 0, r => r
 | _, _, _ + 1, .nil => .nil
 | _, _, n + 1, .cons _ t => Vals.drop n t
noncomputable def RelO : Option V → Option Value → Prop
 | some v, some u => RelV v u
 | none, none => True
 | _, _ => False
noncomputable def KV {κ : Type} : List (κ × V) → List (κ × Value) → Prop := Paired fun (p : κ × V) (q : κ × Value) => p.1 = q.1 ∧ RelV p.2 q.2
noncomputable def kV : Key → V
 | .inl i => .int i
 | .inr x => .str x
inductive HO where
 /-- a list -/
 | lst (xs : List V)
 /-- a tuple (never changes) -/
 | tup (xs : List V)
 /-- a dict whose keys are ints and texts; one whose keys are tuples of ints and texts (the empty one is both) -/
 | dK (kvs : List (Key × V)) | dT (kvs : List (List Key × V))
 /-- a set of ints: its members, its size -/
 | set (S : Int → Bool) (n : Nat)
 /-- an instance of the class at C, its dict at dx, its attributes -/
 | ins (C dx : Addr) (fs : List (Str × V))
 /-- the dict of the instance at x -/
 | own (x : Addr)
 /-- the dict of an exception -/
 | xd (fs : List (Str × V))
 /-- a bound method, f of x -/
 | met (f x : Addr)
 /-- a range object lo, lo + 1, .. below hi -/
 | rng (lo hi : Int)
 /-- a thing that is known to the object (the script; a dict while a loop walks it): read, never written while it is so -/
 | frz (o : Obj) (u : HO)
 /-- a code object's table -/
 | tbl (ps : Array Value)
 /-- any other thing, by what is true of its one object (a def of one's own: SetO a S n := HO.ext fun h => ..) -/
 | ext (φ : Heap → Prop)
noncomputable abbrev Hp := Addr → Option HO
noncomputable def IsTup0 (h : Heap) (a : Addr) (items : Array Value) : Prop := ∃ o, h.get? a = some o ∧ o.cls = .type "tuple" ∧ o.dict = none ∧ ∃ n, o.data = .seq items n
theorem IsTup0.t {h : Heap} {a : Addr} {items : Array Value} (x : IsTup0 h a items) : IsTup h a items := let ⟨o, e, c, _, n, d⟩ := x; ⟨o, e, c, n, d⟩
theorem IsTup0.lt {h : Heap} {a : Addr} {items : Array Value} (x : IsTup0 h a items) : a < h.objs.size := x.t.lt
theorem IsTup0.new (h : Heap) (items : Array Value) : IsTup0 (h.push { cls := .type "tuple", data := .seq items }) h.objs.size items := ⟨_, Heap.get?_push_size _ rfl, rfl, rfl, 0, rfl⟩
noncomputable def upd (H : Hp) (a : Addr) (o : HO) : Hp := fun b => if b = a then some o else H b
theorem upd_same {H : Hp} {a : Addr} {o : HO} : upd H a o a = some o := by unfold upd; rw [if_pos rfl]
theorem upd_ne {H : Hp} {a b : Addr} {o : HO} (h : b ≠ a) : upd H a o b = H b := by unfold upd; rw [if_neg h]
theorem ne_of {H : Hp} {a b : Addr} {o u : HO} (h : H a = some o) (h' : H b = some u) (d : o ≠ u) : a ≠ b := by
 intro e; subst e; rw [h] at h'; exact d (Option.some.inj h')
theorem ne_of_none {H : Hp} {a b : Addr} {o : HO} (h : H a = some o) (h' : H b = none) : a ≠ b := by
 intro e; subst e; rw [h] at h'; cases h'
section
variable (P : Program) (w : World)
noncomputable def ObjOk (H : Hp) (h : Heap) (a : Addr) : HO → Prop
 | .lst xs => xs.length ≤ sizeLine ∧ ∃ (its : List Value) (n : Nat), Vals xs its ∧ h.get? a = some { cls := .type "list", data := .seq its.toArray n }
 | .tup xs => xs.length ≤ sizeLine ∧ ∃ its : List Value, Vals xs its ∧ IsTup0 h a its.toArray
 | .dK kvs => kvs.length ≤ sizeLine ∧ (a == sysModules) = false ∧ ∃ vs, KV kvs vs ∧ h.DictOf (mixKind P w) a vs
 | .dT kvs => kvs.length ≤ sizeLine ∧ (a == sysModules) = false ∧ ∃ xs : List (List Key × Addr × Value),
     Paired (fun (p : List Key × V) (q : List Key × Addr × Value) => p.1 = q.1 ∧ H q.2.1 = some (.tup (p.1.map kV)) ∧ RelV p.2 q.2.2) kvs xs ∧
     ∃ o es ep, h.get? a = some o ∧ o.ExactDict ∧ o.data = .dict es ep ∧ es.toList = xs.map (entryOfKey (tupleKind (mixKind P w))) ∧ (xs.map (·.1)).Nodup
 | .set S n => h.SetOf (intKind P w) a S n
 | .ins C dx fs => H dx = some (.own a) ∧ fs.length ≤ 1000 ∧ dx ≠ a ∧ h.get? a = some (PySem.W.instObj C dx) ∧
     ∃ mA, h.Ns1 dx mA ∧ (∀ f, RelO (fs.lookup f) (mA f)) ∧ PySem.Within mA (fs.map (·.1))
 | .own _ => ∃ o, h.get? a = some o
 | .xd fs => ∃ mA, h.Ns1 a mA ∧ ∀ f, RelO (fs.lookup f) (mA f)
 | .rng lo hi => ∃ t u v, h.get? a = some { cls := .type "range", data := .fields #[.int lo t, .int hi u, .int 1 v] }
 | .frz o u => h.get? a = some o ∧ ObjOk H h a u
 | .tbl ps => h.get? a = some { cls := .none, data := .fields ps }
 | .met f x => h.get? a = some (PySem.W.methodObj (.ref f) (.ref x))
 | .ext φ => φ h ∧ (∃ o, h.get? a = some o) ∧ ∀ h1 h2 : Heap, φ h1 → (∀ o, h1.get? a = some o → h2.get? a = some o) → φ h2
noncomputable def HOk (H : Hp) (h : Heap) : Prop := ∀ a o, H a = some o → ObjOk P w H h a o
end
section
variable {P : Program} {w : World} {H H' : Hp} {h h' : Heap} {a : Addr} {o : HO}
theorem ObjOk.lt (x : ObjOk P w H h a o) : a < h.objs.size := by
 cases o with
 | lst xs => obtain ⟨_, _, _, _, e⟩ := x; exact Heap.lt_size e
 | tup xs => obtain ⟨_, _, _, p⟩ := x; exact p.lt
 | dK kvs => obtain ⟨_, _, _, _, o, _, _, e, _⟩ := x; exact Heap.lt_size e
 | dT kvs => obtain ⟨_, _, _, _, o, _, _, e, _⟩ := x; exact Heap.lt_size e
 | set S n => obtain ⟨o, _, _, _, e, _⟩ := x; exact Heap.lt_size e
 | ins C dx fs => obtain ⟨_, _, _, e, _⟩ := x; exact Heap.lt_size e
 | own y => obtain ⟨_, e⟩ := x; exact Heap.lt_size e
 | xd fs => obtain ⟨_, ⟨_, _, _, e, _⟩, _⟩ := x; exact Heap.lt_size e
 | rng lo hi => obtain ⟨_, _, _, e⟩ := x; exact Heap.lt_size e
 | frz ob u => obtain ⟨e, _⟩ := x; exact Heap.lt_size e
 | tbl ps => exact Heap.lt_size (show h.get? a = some _ from x)
 | met f y => exact Heap.lt_size (show h.get? a = some _ from x)
 | ext φ => obtain ⟨_, ⟨_, e⟩, _⟩ := x; exact Heap.lt_size e
theorem Paired.mapP {α β : Type} {F G : α → β → Prop} : ∀ {l₁ : List α} {l₂ : List β}, Paired F l₁ l₂ → (∀ a b, F a b → G a b) → Paired G l₁ l₂
 | _, _, .nil, _ => .nil
 | _, _, .cons r t, f => .cons (f _ _ r) (Paired.mapP t f)
theorem ObjOk.stay (x : ObjOk P w H h a o) (k : ∀ b u, (b = a ∨ H b = some (.own a)) → h.get? b = some u → h'.get? b = some u)
   (ho : ∀ b, H b = some (.own a) → H' b = some (.own a)) (ht : ∀ b xs, H b = some (.tup xs) → H' b = some (.tup xs)) : ObjOk P w H' h' a o := by
 induction o with
 | lst xs => obtain ⟨z, its, n, r, e⟩ := x; exact ⟨z, its, n, r, k _ _ (.inl rfl) e⟩
 | tup xs => obtain ⟨z, its, r, ob, e, c⟩ := x; exact ⟨z, its, r, ob, k _ _ (.inl rfl) e, c⟩
 | dK kvs => obtain ⟨z, y, vs, r, ob, es, ep, e, c⟩ := x; exact ⟨z, y, vs, r, ob, es, ep, k _ _ (.inl rfl) e, c⟩
 | dT kvs =>
   obtain ⟨z, y, xs, r, ob, es, ep, e, c⟩ := x
   exact ⟨z, y, xs, Paired.mapP r fun p q z => ⟨z.1, ht _ _ z.2.1, z.2.2⟩, ob, es, ep, k _ _ (.inl rfl) e, c⟩
 | set S n => obtain ⟨ob, es, ep, t, e, c⟩ := x; exact ⟨ob, es, ep, t, k _ _ (.inl rfl) e, c⟩
 | ins C dx fs =>
   obtain ⟨d, z, ne, e, mA, ⟨od, es, ep, e2, c⟩, r⟩ := x
   exact ⟨ho _ d, z, ne, k _ _ (.inl rfl) e, mA, ⟨od, es, ep, k _ _ (.inr d) e2, c⟩, r⟩
 | own y => obtain ⟨ob, e⟩ := x; exact ⟨ob, k _ _ (.inl rfl) e⟩
 | xd fs => obtain ⟨mA, ⟨od, es, ep, e, c⟩, r⟩ := x; exact ⟨mA, ⟨od, es, ep, k _ _ (.inl rfl) e, c⟩, r⟩
 | rng lo hi => obtain ⟨t, u, v, e⟩ := x; exact ⟨t, u, v, k _ _ (.inl rfl) e⟩
 | frz ob u ih => obtain ⟨e, q⟩ := x; exact ⟨k _ _ (.inl rfl) e, ih q⟩
 | tbl ps =>
   have e : h.get? a = some { cls := .none, data := .fields ps } := x
   show h'.get? a = some { cls := .none, data := .fields ps }
   exact k a _ (.inl rfl) e
 | met f y =>
   have e : h.get? a = some (PySem.W.methodObj (.ref f) (.ref y)) := x
   show h'.get? a = some (PySem.W.methodObj (.ref f) (.ref y))
   exact k a _ (.inl rfl) e
 | ext φ => obtain ⟨p, ⟨o, e⟩, st⟩ := x; exact ⟨st _ _ p fun o q => k _ _ (.inl rfl) q, ⟨o, k _ _ (.inl rfl) e⟩, st⟩
theorem HOk.lt (x : HOk P w H h) (e : H a = some o) : a < h.objs.size := (x a o e).lt
theorem HOk.fresh (x : HOk P w H h) (e : h.objs.size ≤ a) : H a = none := by
 cases q : H a with
 | none => rfl
 | some u => exact absurd (Nat.lt_of_lt_of_le (x.lt q) e) (Nat.lt_irrefl _)
theorem HOk.kept (x : HOk P w H h) (k : ∀ b u, h.get? b = some u → h'.get? b = some u) : HOk P w H h' := fun a o e =>
 (x a o e).stay (fun b u _ q => k b u q) (fun _ q => q) fun _ _ q => q
theorem HOk.laid (x : HOk P w H h) (k : ∀ b u, h.get? b = some u → h'.get? b = some u) (hp : h.objs.size ≤ a) (new : ObjOk P w (upd H a o) h' a o) : HOk P w (upd H a o) h' := fun b u e => by
 have hn := x.fresh hp
 by_cases hb : b = a
 · subst hb; rw [upd_same] at e; cases e; exact new
 · rw [upd_ne hb] at e
   exact (x b u e).stay (fun c v _ q => k c v q) (fun c q => by rw [upd_ne (ne_of_none q hn)]; exact q) fun c xs q => by rw [upd_ne (ne_of_none q hn)]; exact q
end
noncomputable def Rd (H : Hp) (a : Addr) (u : HO) : Prop := H a = some u ∨ ∃ o, H a = some (.frz o u)
theorem Rd.ok {P : Program} {w : World} {H : Hp} {h : Heap} {a : Addr} {u : HO} (r : Rd H a u) (x : HOk P w H h) : ObjOk P w H h a u := by
 rcases r with r | ⟨o, r⟩
 · exact x a u r
 · obtain ⟨_, q⟩ := x a _ r
   exact q
noncomputable def Mut : Option HO → Prop
 | some (.lst _) => True
 | some (.dK _) => True
 | some (.dT _) => True
 | some (.set _ _) => True
 | some (.ins _ _ _) => True
 | some (.ext _) => True
 | _ => False
section
variable {P : Program} {w : World} {H : Hp} {h h' : Heap} {x e : Addr} {o' : HO}
theorem HOk.write (ok : HOk P w H h) (mu : Mut (H x)) (he : e = x ∨ H e = some (.own x)) (k : ∀ b u, b ≠ e → h.get? b = some u → h'.get? b = some u) (heo : ∃ u, h'.get? e = some u)
   (new : ObjOk P w (upd H x o') h' x o') : HOk P w (upd H x o') h' := fun b u q => by
 have nown : ∀ c y, H c = some (.own y) → c ≠ x := fun c y r z => by subst z; rw [r] at mu; exact mu
 have ntup : ∀ c xs, H c = some (.tup xs) → c ≠ x := fun c xs r z => by subst z; rw [r] at mu; exact mu
 by_cases hb : b = x
 · subst hb; rw [upd_same] at q; cases q; exact new
 · rw [upd_ne hb] at q
   by_cases hbe : b = e
   · have q' : H b = some (.own x) := by
       rcases he with z | z
       · exact absurd (hbe.trans z) hb
       · rw [hbe]; exact z
     rw [q] at q'; cases q'
     obtain ⟨v, hv⟩ := heo
     exact ⟨v, by rw [hbe]; exact hv⟩
   · refine (ok b u q).stay (fun c v hc r => k c v ?_ r) (fun c r => by rw [upd_ne (nown c b r)]; exact r) fun c xs r => by rw [upd_ne (ntup c xs r)]; exact r
     rcases hc with rfl | hc
     · exact hbe
     · rintro rfl
       rcases he with z | z
       · exact nown c b hc z
       · rw [hc] at z; cases z; exact hb rfl
end
structure Un (fs ex : List Addr) (H H' : Hp) (h h' : Heap) : Prop where
 keep : ∀ b o, h.get? b = some o → H b = none → b ∉ fs → b ∉ ex → h'.get? b = some o
 slot : ∀ b o, h.get? b = some o → H b = none → b ∈ fs → b ∉ ex → ∃ sl, h'.get? b = some { o with slots := sl }
 free : ∀ b o, h.get? b = some o → H b = none → b ∉ ex → H' b = none
 there : ∀ b o, h.get? b = some o → b ∉ ex → ∃ o', h'.get? b = some o'
 tups : ∀ b xs, H b = some (.tup xs) → H' b = some (.tup xs)
 frzs : ∀ b o u, H b = some (.frz o u) → H' b = some (.frz o u)
 tbls : ∀ b ps, H b = some (.tbl ps) → ∃ more, H' b = some (.tbl (ps ++ more))
section
variable {fs fs' ex ex' : List Addr} {H H1 H2 : Hp} {h h1 h2 h' : Heap} {a x e : Addr} {o : HO}
theorem Un.any (u : Un fs ex H H1 h h1) {b : Addr} {ob : Obj} (q : h.get? b = some ob) (n : H b = none) (hx : b ∉ ex) : ∃ sl, h1.get? b = some { ob with slots := sl } := by
 by_cases hb : b ∈ fs
 · exact u.slot b ob q n hb hx
 · exact ⟨ob.slots, u.keep b ob q n hb hx⟩
theorem Un.trans (a : Un fs ex H H1 h h1) (b : Un fs ex H1 H2 h1 h2) : Un fs ex H H2 h h2 where
 keep := fun c ob q n hc hx => b.keep c ob (a.keep c ob q n hc hx) (a.free c ob q n hx) hc hx
 slot := fun c ob q n hc hx => by
   obtain ⟨sl, e1⟩ := a.slot c ob q n hc hx
   obtain ⟨sl', e2⟩ := b.slot c _ e1 (a.free c ob q n hx) hc hx
   exact ⟨sl', e2⟩
 free := fun c ob q n hx => by
   obtain ⟨o', e1⟩ := a.there c ob q hx
   exact b.free c o' e1 (a.free c ob q n hx) hx
 there := fun c ob q hx => by
   obtain ⟨o', e1⟩ := a.there c ob q hx
   exact b.there c o' e1 hx
 tups := fun c xs q => b.tups c xs (a.tups c xs q)
 frzs := fun c ob xs q => b.frzs c ob xs (a.frzs c ob xs q)
 tbls := fun c ps q => by
   obtain ⟨m1, e1⟩ := a.tbls c ps q
   obtain ⟨m2, e2⟩ := b.tbls c _ e1
   exact ⟨m1 ++ m2, by rw [e2, Array.append_assoc]⟩
theorem Un.kept (k : ∀ b u, h.get? b = some u → h'.get? b = some u) : Un fs ex H H h h' :=
 ⟨fun b ob q _ _ _ => k b ob q, fun b ob q _ _ _ => ⟨ob.slots, k b ob q⟩, fun _ _ _ n _ => n, fun b ob q _ => ⟨ob, k b ob q⟩, fun _ _ q => q, fun _ _ _ q => q, fun _ ps q => ⟨#[], by rw [q]; simp⟩⟩
theorem Un.refl : Un fs ex H H h h := Un.kept fun _ _ q => q
theorem Un.laid (k : ∀ b u, h.get? b = some u → h'.get? b = some u) (hp : h.objs.size ≤ a) (hn : H a = none) : Un fs ex H (upd H a o) h h' where
 keep := fun b u q _ _ _ => k b u q
 slot := fun b u q _ _ _ => ⟨u.slots, k b u q⟩
 free := fun b u q n _ => by rw [upd_ne (Nat.ne_of_lt (Nat.lt_of_lt_of_le (Heap.lt_size q) hp))]; exact n
 there := fun b u q _ => ⟨u, k b u q⟩
 tups := fun b xs q => by rw [upd_ne (ne_of_none q hn)]; exact q
 frzs := fun b u xs q => by rw [upd_ne (ne_of_none q hn)]; exact q
 tbls := fun b ps q => ⟨#[], by rw [upd_ne (ne_of_none q hn), q]; simp⟩
theorem Un.write (mu : Mut (H x)) (he : e = x ∨ H e = some (.own x)) (k : ∀ b u, b ≠ e → h.get? b = some u → h'.get? b = some u) (heo : ∃ u, h'.get? e = some u) : Un fs ex H (upd H x o) h h' := by
 have hx : ∀ b, H b = none → b ≠ x := fun b n z => by subst z; rw [n] at mu; exact mu
 have hb : ∀ b, H b = none → b ≠ e := fun b n z => by
   subst z
   rcases he with r | r
   · exact hx b n r
   · rw [n] at r; cases r
 have hm : ∀ b u, H b = some u → ¬ Mut (some u) → b ≠ x := fun b u q nm z => by subst z; rw [q] at mu; exact nm mu
 refine ⟨fun b u q n _ _ => k b u (hb b n) q, fun b u q n _ _ => ⟨u.slots, k b u (hb b n) q⟩, fun b u q n _ => by rw [upd_ne (hx b n)]; exact n, fun b u q _ => ?_,
   fun b xs q => by rw [upd_ne (hm b _ q fun z => z)]; exact q, fun b u xs q => by rw [upd_ne (hm b _ q fun z => z)]; exact q, fun b ps q => ⟨#[], by rw [upd_ne (hm b _ q fun z => z), q]; simp⟩⟩
 by_cases hbe : b = e
 · subst hbe; exact heo
 · exact ⟨u, k b u hbe q⟩
end
noncomputable def trk (h : Heap) (H : Hp) : List Addr := (List.range h.objs.size).filter fun a => (H a).isSome
noncomputable def hidT (h : Heap) (H : Hp) : Heap := PySem.W.hideAll h (trk h H)
theorem hidT_size (h : Heap) (H : Hp) : (hidT h H).objs.size = h.objs.size := PySem.W.hideAll_size _ _
theorem hidT_get {h : Heap} {H : Hp} {b : Addr} {o : Obj} (e : h.get? b = some o) (n : H b = none) : (hidT h H).get? b = some o :=
 PySem.W.hideAll_get _ e fun hm => by
   have q : (H b).isSome = true := (List.mem_filter.mp hm).2
   rw [n] at q; simp at q
theorem of_hidT {h : Heap} {H : Hp} {b : Addr} {o : Obj} (e : (hidT h H).get? b = some o) : h.get? b = some o ∧ H b = none := by
 have e' : h.get? b = some o := PySem.W.of_hideAll (trk h H) e
 refine ⟨e', ?_⟩
 cases q : H b with
 | none => rfl
 | some x =>
   have hm : b ∈ trk h H := List.mem_filter.mpr ⟨List.mem_range.mpr (Heap.lt_size e'), by simp [q]⟩
   have z : (hidT h H).get? b = none := PySem.W.hideAll_none (trk h H) hm
   rw [z] at e; cases e
end L2
namespace L2
open PySem PySem.Spec PyProof.Rows
structure Mod (K : PySem.W.Frag) (mg : Str → Option Value) (base : Heap) : Prop where
 kin : K.In base
 glob : base.Ns mainGlobals mg
 blt : ∃ mb, base.Ns builtinsNs mb ∧ ∀ x : Str, x ≠ "__name__" → mb x = bootBuiltins x
 nolimit : base.NoLimit
structure Cx where
 prog : Program
 w : World
 K : PySem.W.Frag
 mg : Str → Option Value
 base : Heap
 A : Around
 N : List Str
 s₀ : Shared
 H₀ : Hp
 env : Env
 outer : List Env
 stack : List Env
 ex : List Addr
 fn : Str → Bool
 calm : Bool
 pn : List (Addr × Obj)
 xe : Value → Shared → Prop
noncomputable def frs (l : List Env) : List Addr := l.filterMap (·.frame)
noncomputable abbrev Cx.fs (X : Cx) : List Addr := frs X.outer
noncomputable def Vis (sc : Scope) (x : Str) : Prop := sc.names.lookup x = some .local ∨ sc.names.lookup x = some .cell ∨ sc.names.lookup x = some .free
noncomputable def Loc (sc : Scope) (x : Str) : Prop := sc.names.lookup x = some .local ∨ sc.names.lookup x = some .cell
noncomputable def Look (env : Env) (h : Heap) (m : Str → Option Value) (x : Str) (u : Value) : Prop :=
 (env.kindOf x = some .local ∧ m x = some u) ∨ ((env.kindOf x = some .cell ∨ env.kindOf x = some .free) ∧ ∃ c, env.cells.lookup x = some c ∧ h.IsCell c (some u))
structure Cx.Ok (X : Cx) : Prop where
 mod : Mod X.K X.mg X.base
 kind : X.env.scope.kind = .function
 glob : X.env.globals = mainGlobals
 blt : X.env.builtins = builtinsNs
 above : X.s₀.heap.objs.size ≤ X.env.locals
 inj : ∀ x y c, X.env.cells.lookup x = some c → X.env.cells.lookup y = some c → x = y
 has : ∀ x, (X.env.kindOf x = some .cell ∨ X.env.kindOf x = some .free) → ∃ c, X.env.cells.lookup x = some c
 cab : ∀ x c, X.fn x = true → X.env.cells.lookup x = some c → X.s₀.heap.objs.size ≤ c
 hd : X.calm = true → X.A.handled = none
 frames : X.A.frames = some X.stack
 stk : X.stack = X.outer ∨ (X.stack = X.env :: X.outer ∧ X.env.frame = some X.env.locals)
 exf : ∀ b ∈ X.ex, b ≠ X.env.locals ∧ ∀ x c, X.env.cells.lookup x = some c → c ≠ b
 bs : ∀ b o, X.base.get? b = some o → X.s₀.heap.get? b = some o ∧ X.H₀ b = none
 bsz : X.base.objs.size ≤ X.s₀.heap.objs.size
 noex : ∀ b o, X.base.get? b = some o → b ∉ X.ex
 exfs : ∀ b ∈ X.ex, b ∉ X.fs
 funs : X.s₀.heap.FunFrames X.base X.outer
 frf : ∀ b ∈ X.fs, X.H₀ b = none
structure Inv (X : Cx) (pins : List (Addr × Obj)) (σ : List (Option V)) (H : Hp) (s : Shared) : Prop where
 ok : X.Ok
 os : s.os = X.s₀.os
 bare : AllBare s.gens
 base : Un X.fs X.ex X.H₀ H X.s₀.heap s.heap
 loc : ∃ m, s.heap.Ns X.env.locals m ∧ ∀ (i : Nat) (x : Str) (v : V), X.N[i]? = some x → σ[i]? = some (some v) → Vis X.env.scope x → ∃ u, RelV v u ∧ Look X.env s.heap m x u
 cell : ∀ x c, X.env.cells.lookup x = some c → ∃ v, s.heap.IsCell c v
 free : H X.env.locals = none
 freeC : ∀ x c, X.env.cells.lookup x = some c → H c = none
 pin : ∀ p ∈ X.pn ++ pins, s.heap.get? p.1 = some p.2 ∧ H p.1 = none ∧ p.1 ≠ X.env.locals ∧ p.1 ∉ X.fs ∧ ∀ v, p.2.data ≠ .cell v
 hok : HOk X.prog X.w H s.heap
 len : σ.length = X.N.length
section
variable {X : Cx} {pins : List (Addr × Obj)} {σ : List (Option V)} {H H' : Hp} {s : Shared} {h' : Heap}
theorem Cx.Ok.nofr (ok : X.Ok) {b : Addr} {o : Obj} (e : X.base.get? b = some o) : b ∉ X.fs := fun hb => by
 have := (ok.funs.mem hb).1
 rw [e] at this; cases this
theorem Inv.bs (I : Inv X pins σ H s) : ∀ b o, X.base.get? b = some o → s.heap.get? b = some o ∧ H b = none := fun b o e =>
 ⟨I.base.keep b o (I.ok.bs b o e).1 (I.ok.bs b o e).2 (I.ok.nofr e) (I.ok.noex b o e), I.base.free b o (I.ok.bs b o e).1 (I.ok.bs b o e).2 (I.ok.noex b o e)⟩
theorem Inv.bk (I : Inv X pins σ H s) : ∀ b o, X.base.get? b = some o → s.heap.get? b = some o := fun b o e => (I.bs b o e).1
theorem Inv.mod (I : Inv X pins σ H s) : Mod X.K X.mg X.base := I.ok.mod
theorem Inv.kIn (I : Inv X pins σ H s) : X.K.In s.heap := I.ok.mod.kin.keeps I.bk
theorem Inv.lt (I : Inv X pins σ H s) : X.env.locals < s.heap.objs.size := let ⟨_, hn, _⟩ := I.loc; hn.lt
theorem Inv.sz (I : Inv X pins σ H s) : X.s₀.heap.objs.size ≤ s.heap.objs.size := Nat.le_trans I.ok.above (Nat.le_of_lt I.lt)
theorem Inv.nofs (I : Inv X pins σ H s) {a : Addr} (h : s.heap.objs.size ≤ a) : a ∉ X.fs := fun hb => by
 obtain ⟨_, o, ho, _⟩ := I.ok.funs.mem hb
 exact absurd (Nat.lt_of_lt_of_le (Heap.lt_size ho) (Nat.le_trans I.sz h)) (Nat.lt_irrefl _)
theorem Inv.cne (I : Inv X pins σ H s) : ∀ x c, X.env.cells.lookup x = some c → c ≠ X.env.locals := fun x c e z => by
 obtain ⟨v, o, ho, hd⟩ := I.cell x c e
 obtain ⟨m, ⟨o', es, ep, ho', hd', _⟩, _⟩ := I.loc
 rw [z, ho'] at ho; cases ho; rw [hd'] at hd; cases hd
theorem Inv.funs (I : Inv X pins σ H s) : s.heap.FunFrames X.base X.outer := by
 have all : ∀ (l : List Env), (∀ b ∈ frs l, b ∈ X.fs) → X.s₀.heap.FunFrames X.base l → s.heap.FunFrames X.base l := by
   intro l
   induction l with
   | nil => intro _ _; trivial
   | cons env r ih =>
     intro hs hl
     obtain ⟨hk, ⟨L, o, hf, hn, ho, hd⟩, hr⟩ := hl
     have hL : L ∈ X.fs := hs L (by unfold frs; rw [List.filterMap_cons, hf]; exact List.mem_cons_self)
     obtain ⟨sl, e⟩ := I.base.slot L o ho (I.ok.frf L hL) hL fun z => I.ok.exfs L z hL
     exact ⟨hk, ⟨L, _, hf, hn, e, hd⟩, ih (fun b hb => hs b (by unfold frs; rw [List.filterMap_cons, hf]; exact List.mem_cons_of_mem _ hb)) hr⟩
 exact all X.outer (fun _ hb => hb) I.ok.funs
theorem Inv.stack (I : Inv X pins σ H s) : s.heap.FunFrames X.base X.stack := by
 rcases I.ok.stk with e | ⟨e, hf⟩
 · rw [e]; exact I.funs
 · rw [e]
   obtain ⟨m, hn, _⟩ := I.loc
   refine .cons (by rw [I.ok.kind]; decide) hf hn ?_ I.funs
   exact Heap.get?_none_of_le (Nat.le_trans I.ok.bsz I.ok.above)
theorem Inv.stkSub (I : Inv X pins σ H s) : ∀ b ∈ frs X.stack, b ∈ X.env.locals :: X.fs := fun b hb => by
 rcases I.ok.stk with e | ⟨e, hf⟩
 · rw [e] at hb; exact List.mem_cons_of_mem _ hb
 · rw [e] at hb
   unfold frs at hb
   rw [List.filterMap_cons, hf] at hb
   exact hb
theorem Inv.stkFree (I : Inv X pins σ H s) : ∀ b ∈ frs X.stack, H b = none := fun b hb => by
 rcases List.mem_cons.mp (I.stkSub b hb) with e | hb
 · rw [e]; exact I.free
 · obtain ⟨_, o, ho, _⟩ := I.ok.funs.mem hb
   exact I.base.free b o ho (I.ok.frf b hb) fun z => I.ok.exfs b z hb
theorem Inv.step {g' : Array GenState} {t' : Nat} {d' : Drawn} {ch : List Addr} (I : Inv X pins σ H s)
   (hch : ∀ b ∈ ch, (b ∈ X.ex ∨ X.s₀.heap.objs.size ≤ b) ∧ b ≠ X.env.locals ∧ (∀ x c, X.env.cells.lookup x = some c → c ≠ b) ∧ ∀ p ∈ X.pn ++ pins, p.1 ≠ b)
   (keep : ∀ b o, b ≠ X.env.locals → b ∉ X.fs → b ∉ ch → s.heap.get? b = some o → H b = none → h'.get? b = some o)
   (slot : ∀ b o, b ≠ X.env.locals → b ∈ X.fs → b ∉ ch → s.heap.get? b = some o → H b = none → ∃ sl, h'.get? b = some { o with slots := sl }) (free : ∀ b o, b ∉ ch → s.heap.get? b = some o → H b = none → H' b = none)
   (there : ∀ b o, b ∉ ch → s.heap.get? b = some o → ∃ o', h'.get? b = some o')
   (tups : ∀ b xs, H b = some (.tup xs) → H' b = some (.tup xs)) (frzs : ∀ b o u, H b = some (.frz o u) → H' b = some (.frz o u)) (tbls : ∀ b ps, H b = some (.tbl ps) → ∃ more, H' b = some (.tbl (ps ++ more)))
   (ns : ∀ m, s.heap.Ns X.env.locals m → h'.Ns X.env.locals m) (hok : HOk X.prog X.w H' h') (hg : AllBare g') :
   Inv X pins σ H' { s with heap := h', gens := g', drawn := d', toks := t' } := by
 have neL : ∀ b o, X.s₀.heap.get? b = some o → b ≠ X.env.locals := fun b o e => Nat.ne_of_lt (Nat.lt_of_lt_of_le (Heap.lt_size e) I.ok.above)
 have neC : ∀ b o, X.s₀.heap.get? b = some o → b ∉ X.ex → b ∉ ch := fun b o e hx hb => by
   rcases (hch b hb).1 with z | z
   · exact hx z
   · exact absurd (Nat.lt_of_lt_of_le (Heap.lt_size e) z) (Nat.lt_irrefl _)
 have cellK : ∀ x c, X.env.cells.lookup x = some c → ∀ v, s.heap.IsCell c v → h'.IsCell c v := fun x c e v ⟨o, ho, hd⟩ => by
   have nch : c ∉ ch := fun z => (hch c z).2.2.1 x c e rfl
   by_cases hc : c ∈ X.fs
   · obtain ⟨sl, q⟩ := slot c o (I.cne x c e) hc nch ho (I.freeC x c e)
     exact ⟨_, q, hd⟩
   · exact ⟨o, keep c o (I.cne x c e) hc nch ho (I.freeC x c e), hd⟩
 refine ⟨I.ok, I.os, hg, ⟨fun b o e n hb hx => ?_, fun b o e n hb hx => ?_, fun b o e n hx => ?_, fun b o e hx => ?_, fun b xs e => tups b xs (I.base.tups b xs e), fun b o xs e => frzs b o xs (I.base.frzs b o xs e), fun b ps e => ?_⟩, ?_, fun x c e => ?_, ?_, fun x c e => ?_, fun p hp => ?_, hok, I.len⟩
 · exact keep b o (neL b o e) hb (neC b o e hx) (I.base.keep b o e n hb hx) (I.base.free b o e n hx)
 · obtain ⟨sl, e1⟩ := I.base.slot b o e n hb hx
   obtain ⟨sl', e2⟩ := slot b _ (neL b o e) hb (neC b o e hx) e1 (I.base.free b o e n hx)
   exact ⟨sl', e2⟩
 · obtain ⟨o', e1⟩ := I.base.there b o e hx
   exact free b o' (neC b o e hx) e1 (I.base.free b o e n hx)
 · obtain ⟨o', e1⟩ := I.base.there b o e hx
   exact there b o' (neC b o e hx) e1
 · obtain ⟨m1, e1⟩ := I.base.tbls b ps e
   obtain ⟨m2, e2⟩ := tbls b _ e1
   exact ⟨m1 ++ m2, by rw [e2, Array.append_assoc]⟩
 · obtain ⟨m, hn, hl⟩ := I.loc
   refine ⟨m, ns m hn, fun i x v e1 e2 e3 => ?_⟩
   obtain ⟨u, r, l⟩ := hl i x v e1 e2 e3
   refine ⟨u, r, ?_⟩
   rcases l with l | ⟨k, c, e, z⟩
   · exact .inl l
   · exact .inr ⟨k, c, e, cellK x c e _ z⟩
 · obtain ⟨v, z⟩ := I.cell x c e
   exact ⟨v, cellK x c e v z⟩
 · obtain ⟨m, ⟨o, _, _, ho, _⟩, _⟩ := I.loc
   exact free _ o (fun z => (hch _ z).2.1 rfl) ho I.free
 · obtain ⟨v, o, ho, hd⟩ := I.cell x c e
   exact free c o (fun z => (hch c z).2.2.1 x c e rfl) ho (I.freeC x c e)
 · obtain ⟨e, n, ne, nf, d⟩ := I.pin p hp
   have nch : p.1 ∉ ch := fun z => (hch p.1 z).2.2.2 p hp rfl
   exact ⟨keep p.1 p.2 ne nf nch e n, free p.1 p.2 nch e n, ne, nf, d⟩
theorem Inv.un {t' : Nat} (I : Inv X pins σ H s) (u : Un X.fs [] H H' s.heap h') (hok : HOk X.prog X.w H' h') : Inv X pins σ H' { s with heap := h', toks := t' } := by
 obtain ⟨m, ⟨o, es, ep, ho, r⟩, _⟩ := id I.loc
 obtain ⟨sl, hL⟩ := u.any ho I.free (by simp)
 exact I.step (g' := s.gens) (d' := s.drawn) (ch := []) (fun _ z => nomatch z) (fun b o _ hb _ e n => u.keep b o e n hb (by simp)) (fun b o _ hb _ e n => u.slot b o e n hb (by simp)) (fun b o _ e n => u.free b o e n (by simp)) (fun b o _ e => u.there b o e (by simp)) u.tups u.frzs u.tbls (fun m' hm => by
   obtain ⟨o', es', ep', ho', r'⟩ := hm
   rw [ho] at ho'; cases ho'
   exact ⟨_, es', ep', hL, r'⟩) hok I.bare
theorem Inv.call {g' : Array GenState} {t' : Nat} {d' : Drawn} {ch : List Addr} (I : Inv X pins σ H s) (u : Un (frs X.stack) ch H H' s.heap h') (hok : HOk X.prog X.w H' h') (hg : AllBare g')
   (hch : ∀ b ∈ ch, (b ∈ X.ex ∨ X.s₀.heap.objs.size ≤ b) ∧ b ≠ X.env.locals ∧ (∀ x c, X.env.cells.lookup x = some c → c ≠ b) ∧ ∀ p ∈ X.pn ++ pins, p.1 ≠ b) :
   Inv X pins σ H' { s with heap := h', gens := g', drawn := d', toks := t' } := by
 obtain ⟨m, ⟨o, es, ep, ho, r⟩, _⟩ := id I.loc
 obtain ⟨sl, hL⟩ := u.any ho I.free fun z => (hch _ z).2.1 rfl
 exact I.step (ch := ch) hch (fun b o hL hb hc e n => u.keep b o e n (fun z => (List.mem_cons.mp (I.stkSub b z)).elim hL hb) hc) (fun b o _ _ hc e n => u.any e n hc) (fun b o hc e n => u.free b o e n hc) (fun b o hc e => u.there b o e hc) u.tups u.frzs u.tbls (fun m' hm => by
   obtain ⟨o', es', ep', ho', r'⟩ := hm
   rw [ho] at ho'; cases ho'
   exact ⟨_, es', ep', hL, r'⟩) hok hg
theorem Inv.turned {t' : Nat} {it : Addr} (I : Inv X pins σ H s) (k : ∀ b o, b ≠ it → s.heap.get? b = some o → h'.get? b = some o) (hn : H it = none) (hL : it ≠ X.env.locals)
   (h1 : it ∈ X.ex ∨ X.s₀.heap.objs.size ≤ it) (h2 : ∀ x c, X.env.cells.lookup x = some c → c ≠ it) (h3 : ∀ p ∈ X.pn ++ pins, p.1 ≠ it) : Inv X pins σ H { s with heap := h', toks := t' } := by
 have nit : ∀ b u, H b = some u → b ≠ it := fun b u e z => by rw [z, hn] at e; cases e
 refine I.step (g' := s.gens) (d' := s.drawn) (ch := [it]) (fun b hb => ?_) (fun b o _ _ hc e _ => k b o (fun z => hc (by simp [z])) e) (fun b o _ _ hc e _ => ⟨o.slots, k b o (fun z => hc (by simp [z])) e⟩) (fun _ _ _ _ n => n)
   (fun b o hc e => ⟨o, k b o (fun z => hc (by simp [z])) e⟩) (fun _ _ e => e) (fun _ _ _ e => e) (fun b ps e => ⟨#[], by rw [e]; simp⟩) (fun m hm => ?_) (fun b u e => ?_) I.bare
 · have e : b = it := by simpa using hb
   subst e
   exact ⟨h1, hL, h2, h3⟩
 · obtain ⟨o, es, ep, ho, r⟩ := hm
   exact ⟨o, es, ep, k _ o (Ne.symm hL) ho, r⟩
 · refine (I.hok b u e).stay (fun c v hc q => k c v ?_ q) (fun _ q => q) fun _ _ q => q
   rcases hc with z | z
   · rw [z]; exact nit b u e
   · exact nit c _ z
theorem Inv.tok (I : Inv X pins σ H s) (t : Nat) : Inv X pins σ H { s with toks := t } := I.un (h' := s.heap) (t' := t) Un.refl I.hok
theorem Inv.kept {t' : Nat} (I : Inv X pins σ H s) (k : ∀ b u, s.heap.get? b = some u → h'.get? b = some u) : Inv X pins σ H { s with heap := h', toks := t' } := I.un (Un.kept k) (I.hok.kept k)
theorem Inv.laid {a : Addr} {o : HO} {t' : Nat} (I : Inv X pins σ H s) (k : ∀ b u, s.heap.get? b = some u → h'.get? b = some u) (hp : s.heap.objs.size ≤ a) (new : ObjOk X.prog X.w (upd H a o) h' a o) :
   Inv X pins σ (upd H a o) { s with heap := h', toks := t' } := I.un (Un.laid k hp (I.hok.fresh hp)) (I.hok.laid k hp new)
theorem Inv.write {x e : Addr} {o : HO} {t' : Nat} (I : Inv X pins σ H s) (mu : Mut (H x)) (he : e = x ∨ H e = some (.own x)) (k : ∀ b u, b ≠ e → s.heap.get? b = some u → h'.get? b = some u) (heo : ∃ u, h'.get? e = some u)
   (new : ObjOk X.prog X.w (upd H x o) h' x o) : Inv X pins σ (upd H x o) { s with heap := h', toks := t' } := I.un (Un.write mu he k heo) (I.hok.write mu he k heo new)
theorem Inv.weak {σ' : List (Option V)} (I : Inv X pins σ H s) (hl : σ'.length = σ.length) (w : ∀ (i : Nat) v, σ'[i]? = some (some v) → σ[i]? = some (some v)) : Inv X pins σ' H s :=
 ⟨I.ok, I.os, I.bare, I.base, let ⟨m, hn, hl'⟩ := I.loc; ⟨m, hn, fun i x v e1 e2 e3 => hl' i x v e1 (w i v e2) e3⟩, I.cell, I.free, I.freeC, I.pin, I.hok, hl.trans I.len⟩
theorem Inv.pins_of {pins' : List (Addr × Obj)} (I : Inv X pins σ H s) (h : ∀ p ∈ pins', s.heap.get? p.1 = some p.2 ∧ H p.1 = none ∧ p.1 ≠ X.env.locals ∧ p.1 ∉ X.fs ∧ ∀ v, p.2.data ≠ .cell v) : Inv X pins' σ H s :=
 ⟨I.ok, I.os, I.bare, I.base, I.loc, I.cell, I.free, I.freeC, fun p hp => (List.mem_append.mp hp).elim (fun z => I.pin p (List.mem_append_left _ z)) (h p), I.hok, I.len⟩
theorem nodup_ix {N : List Str} (hN : N.Nodup) {i j : Nat} {x : Str} (a : N[i]? = some x) (b : N[j]? = some x) : i = j := by
 obtain ⟨h1, e1⟩ := List.getElem?_eq_some_iff.mp a
 obtain ⟨h2, e2⟩ := List.getElem?_eq_some_iff.mp b
 exact (List.getElem_inj hN).mp (e1.trans e2.symm)
theorem store_ok2 {M : Model} {A : Around} {E : Value → Shared → Prop} {i : Nat} {x : Str} {v : V} {u : Value} {Q : Unit → Shared → Prop} (I : Inv X pins σ H s) (hN : X.N.Nodup) (hi : X.N[i]? = some x) (hx : Loc X.env.scope x) (r : RelV v u)
   (h : ∀ s', Inv X pins (σ.set i (some v)) H s' → (∃ a, Heap.SameBut a s.heap s'.heap ∧ (a = X.env.locals ∨ X.env.cells.lookup x = some a)) → Q () s') (hf : X.fn x = true ∨ X.env.scope.names.lookup x = some .local := by first | exact .inl rfl | exact .inr rfl | assumption) : wpAny M A (storeName X.env x u) Q E s := by
 obtain ⟨m, hn, hl⟩ := id I.loc
 have hcls : (X.env.scope.kind == .class || (X.env.scope.kind == .module && X.env.locals != X.env.globals)) = false := by rw [I.ok.kind]; rfl
 have hiσ : i < σ.length := by rw [I.len]; exact (List.getElem?_eq_some_iff.mp hi).1
 have cne := I.cne
 have tracked : ∀ {a : Addr} {h' : Heap}, (∃ o, s.heap.get? a = some o ∧ H a = none) → Heap.SameBut a s.heap h' → HOk X.prog X.w H h' := fun {a h'} ha hs b ob e => by
   obtain ⟨_, _, hfree⟩ := ha
   refine (I.hok b ob e).stay (fun c w' hc q => (hs.2 c ?_).trans q) (fun _ q => q) fun _ _ q => q
   rintro rfl
   rcases hc with rfl | hc
   · rw [hfree] at e; cases e
   · rw [hfree] at hc; cases hc
 rcases hx with hk | hk
 · refine wpAny_storeName_local hk hn (fun h' hn' hs => ?_) hcls
   obtain ⟨oL, _, _, hoL, _⟩ := id hn
   refine h _ ⟨I.ok, I.os, I.bare, ⟨fun b o e n hb hx => ?_, fun b o e n hb hx => ?_, I.base.free, fun b o e hx => ?_, I.base.tups, I.base.frzs, I.base.tbls⟩, ⟨_, hn', fun j y v' e1 e2 e3 => ?_⟩, fun y c e => ?_, I.free, I.freeC, fun p hp => ?_, tracked ⟨oL, hoL, I.free⟩ hs, by simpa using I.len⟩ ⟨_, hs, .inl rfl⟩
   · exact (hs.2 b (Nat.ne_of_lt (Nat.lt_of_lt_of_le (Heap.lt_size e) I.ok.above))).trans (I.base.keep b o e n hb hx)
   · obtain ⟨sl, e1⟩ := I.base.slot b o e n hb hx
     exact ⟨sl, (hs.2 b (Nat.ne_of_lt (Nat.lt_of_lt_of_le (Heap.lt_size e) I.ok.above))).trans e1⟩
   · obtain ⟨o', e1⟩ := I.base.there b o e hx
     exact ⟨o', (hs.2 b (Nat.ne_of_lt (Nat.lt_of_lt_of_le (Heap.lt_size e) I.ok.above))).trans e1⟩
   · by_cases hj : j = i
     · subst hj
       rw [hi] at e1; cases e1
       rw [List.getElem?_set_self hiσ] at e2
       cases e2
       exact ⟨u, r, .inl ⟨hk, by simp⟩⟩
     · rw [List.getElem?_set_ne (Ne.symm hj)] at e2
       obtain ⟨u', r', q⟩ := hl j y v' e1 e2 e3
       refine ⟨u', r', ?_⟩
       rcases q with ⟨k, e⟩ | ⟨k, c, e, z⟩
       · refine .inl ⟨k, ?_⟩
         have : y ≠ x := fun e => hj (nodup_ix hN e1 (e ▸ hi))
         simp [this, e]
       · exact .inr ⟨k, c, e, z.sameBut hs (cne y c e)⟩
   · obtain ⟨w', z⟩ := I.cell y c e
     exact ⟨w', z.sameBut hs (cne y c e)⟩
   · obtain ⟨e, n, ne, nf, d⟩ := I.pin p hp
     exact ⟨(hs.2 p.1 ne).trans e, n, ne, nf, d⟩
 · have hfn : X.fn x = true := by
     rcases hf with z | z
     · exact z
     · rw [z] at hk; cases hk
   obtain ⟨c, hc⟩ := I.ok.has x (.inl hk)
   obtain ⟨w', z⟩ := I.cell x c hc
   refine wpAny_storeName_cell I.ok.kind hk hc z (fun h' hc' hs => ?_)
   obtain ⟨oc, hoc, hocd⟩ := id z
   refine h { s with heap := h' } ⟨I.ok, I.os, I.bare, ⟨fun b o e n hb hx => ?_, fun b o e n hb hx => ?_, I.base.free, fun b o e hx => ?_, I.base.tups, I.base.frzs, I.base.tbls⟩, ⟨m, hn.sameBut hs (Ne.symm (cne x c hc)), fun j y v' e1 e2 e3 => ?_⟩, fun y c' e => ?_, I.free, I.freeC, fun p hp => ?_, tracked ⟨oc, hoc, I.freeC x c hc⟩ hs, by simpa using I.len⟩ ⟨c, hs, .inr hc⟩
   · exact (hs.2 b (Nat.ne_of_lt (Nat.lt_of_lt_of_le (Heap.lt_size e) (I.ok.cab x c hfn hc)))).trans (I.base.keep b o e n hb hx)
   · obtain ⟨sl, e1⟩ := I.base.slot b o e n hb hx
     exact ⟨sl, (hs.2 b (Nat.ne_of_lt (Nat.lt_of_lt_of_le (Heap.lt_size e) (I.ok.cab x c hfn hc)))).trans e1⟩
   · obtain ⟨o', e1⟩ := I.base.there b o e hx
     exact ⟨o', (hs.2 b (Nat.ne_of_lt (Nat.lt_of_lt_of_le (Heap.lt_size e) (I.ok.cab x c hfn hc)))).trans e1⟩
   · by_cases hj : j = i
     · subst hj
       rw [hi] at e1; cases e1
       rw [List.getElem?_set_self hiσ] at e2
       cases e2
       exact ⟨u, r, .inr ⟨.inl hk, c, hc, hc'⟩⟩
     · rw [List.getElem?_set_ne (Ne.symm hj)] at e2
       obtain ⟨u', r', q⟩ := hl j y v' e1 e2 e3
       refine ⟨u', r', ?_⟩
       rcases q with q | ⟨k, c', e, z'⟩
       · exact .inl q
       · refine .inr ⟨k, c', e, z'.sameBut hs ?_⟩
         rintro rfl
         exact hj (nodup_ix hN e1 (I.ok.inj _ _ _ e hc ▸ hi))
   · by_cases hcc : c' = c
     · subst hcc; exact ⟨_, hc'⟩
     · obtain ⟨w2, z2⟩ := I.cell y c' e
       exact ⟨w2, z2.sameBut hs hcc⟩
   · obtain ⟨e, n, ne, nf, d⟩ := I.pin p hp
     refine ⟨(hs.2 p.1 ?_).trans e, n, ne, nf, d⟩
     intro q
     rw [q, hoc] at e
     have q' : oc = p.2 := Option.some.inj e
     exact d w' (by rw [← q']; exact hocd)
theorem store_ok {M : Model} {A : Around} {E : Value → Shared → Prop} {i : Nat} {x : Str} {v : V} {u : Value} {Q : Unit → Shared → Prop} (I : Inv X pins σ H s) (hN : X.N.Nodup) (hi : X.N[i]? = some x) (hx : Loc X.env.scope x) (r : RelV v u)
   (h : ∀ s', Inv X pins (σ.set i (some v)) H s' → Q () s') (hf : X.fn x = true ∨ X.env.scope.names.lookup x = some .local := by first | exact .inl rfl | exact .inr rfl | assumption) : wpAny M A (storeName X.env x u) Q E s :=
 store_ok2 I hN hi hx r (fun s' I' _ => h s' I') hf
theorem Inv.call' {s' : Shared} {ch : List Addr} (I : Inv X pins σ H s) (ho : s'.os = s.os) (u : Un (frs X.stack) ch H H' s.heap s'.heap) (hok : HOk X.prog X.w H' s'.heap) (hg : AllBare s'.gens)
   (hch : ∀ b ∈ ch, (b ∈ X.ex ∨ X.s₀.heap.objs.size ≤ b) ∧ b ≠ X.env.locals ∧ (∀ x c, X.env.cells.lookup x = some c → c ≠ b) ∧ ∀ p ∈ X.pn ++ pins, p.1 ≠ b) : Inv X pins σ H' s' := by
 obtain ⟨h', g', d', t', o'⟩ := s'
 have e : o' = s.os := ho
 subst e
 exact I.call (g' := g') (t' := t') (d' := d') u hok hg hch
end
noncomputable abbrev XK := Value → Option Addr → Hp → Prop
noncomputable abbrev St := List (Option V)
noncomputable abbrev VK := V → Hp → Prop
noncomputable abbrev TE := St → Hp → VK → Prop
noncomputable abbrev TT := St → Hp → (Bool → Hp → Prop) → Prop
noncomputable abbrev TA := St → Hp → (List V → Hp → Prop) → Prop
structure Ends where
 nx : St → Hp → Prop
 rt : VK
 bk : St → Hp → Prop := fun _ _ => False
 ct : St → Hp → Prop := fun _ _ => False
noncomputable abbrev TS := Ends → St → Hp → Prop
noncomputable def EP (X : Cx) (pins : List (Addr × Obj)) (σ : St) (Q : VK) (u : Value) (s' : Shared) : Prop := ∃ v H', Inv X pins σ H' s' ∧ RelV v u ∧ Q v H'
noncomputable def TP (X : Cx) (pins : List (Addr × Obj)) (σ : St) (Q : Bool → Hp → Prop) (b : Bool) (s' : Shared) : Prop := ∃ H', Inv X pins σ H' s' ∧ Q b H'
noncomputable def AP (X : Cx) (pins : List (Addr × Obj)) (σ : St) (Q : List V → Hp → Prop) (us : List Value) (s' : Shared) : Prop := ∃ vs H', Inv X pins σ H' s' ∧ Vals vs us ∧ Q vs H'
noncomputable def SP (X : Cx) (pins : List (Addr × Obj)) (D : Ends) (f : Flow) (s' : Shared) : Prop :=
 match f with
 | .next => ∃ σ' H', Inv X pins σ' H' s' ∧ D.nx σ' H'
 | .brk => ∃ σ' H', Inv X pins σ' H' s' ∧ D.bk σ' H'
 | .cont => ∃ σ' H', Inv X pins σ' H' s' ∧ D.ct σ' H'
 | .ret u => ∃ v σ' H', Inv X pins σ' H' s' ∧ RelV v u ∧ D.rt v H'
noncomputable def PE (X : Cx) (e : Expr) (t : TE) : Prop :=
 ∀ (pins : List (Addr × Obj)) (s : Shared) (σ : St) (H : Hp) (Q : VK), Inv X pins σ H s → t σ H Q → wpAny (model X.prog X.w) X.A (eval e X.env) (EP X pins σ Q) X.xe s
noncomputable def PT (X : Cx) (e : Expr) (t : TT) : Prop :=
 ∀ (pins : List (Addr × Obj)) (s : Shared) (σ : St) (H : Hp) (Q : Bool → Hp → Prop), Inv X pins σ H s → t σ H Q → wpAny (model X.prog X.w) X.A (isTrue e X.env (eval e X.env)) (TP X pins σ Q) X.xe s
noncomputable def PW (X : Cx) (e : Expr) (t : TT) : Prop :=
 ∀ (whole : Sem Value) (pins : List (Addr × Obj)) (s : Shared) (σ : St) (H : Hp) (Q : Bool → Hp → Prop), Inv X pins σ H s → t σ H Q → wpAny (model X.prog X.w) X.A (isTrue e X.env whole) (TP X pins σ Q) X.xe s
theorem PW.pt {X : Cx} {e : Expr} {t : TT} (h : PW X e t) : PT X e t := h _
noncomputable def PA (X : Cx) (es : List Expr) (t : TA) : Prop :=
 ∀ (pos : Pos) (pins : List (Addr × Obj)) (s : Shared) (σ : St) (H : Hp) (Q : List V → Hp → Prop), Inv X pins σ H s → t σ H Q → wpAny (model X.prog X.w) X.A (spliced (backTo pos (starEach es X.env))) (AP X pins σ Q) X.xe s
noncomputable def PS (X : Cx) (st : Stmt) (t : TS) : Prop :=
 ∀ (pins : List (Addr × Obj)) (s : Shared) (σ : St) (H : Hp) (D : Ends), Inv X pins σ H s → t D σ H → wpAny (model X.prog X.w) X.A (exec st X.env) (SP X pins D) X.xe s
noncomputable def PSs (X : Cx) (st : List Stmt) (t : TS) : Prop :=
 ∀ (pins : List (Addr × Obj)) (s : Shared) (σ : St) (H : Hp) (D : Ends), Inv X pins σ H s → t D σ H → wpAny (model X.prog X.w) X.A (execs st X.env) (SP X pins D) X.xe s
theorem thn {α : Type} {t : Sem α} {Q Q' : α → Shared → Prop} {M : Model} {A : Around} {E : Value → Shared → Prop} {s : Shared} (h : wpAny M A t Q E s) (hQ : ∀ a s, Q a s → Q' a s) : wpAny M A t Q' E s := wpAny_mono h hQ fun _ _ x => x
end L2
namespace L2
open PySem PySem.Spec PyProof.Rows
section
variable {X : Cx}
noncomputable def tVar (i : Nat) : TE := fun σ H Q => ∃ v, σ[i]? = some (some v) ∧ Q v H
noncomputable def tC (v : V) : TE := fun _ H Q => Q v H
theorem pe_var {i : Nat} {x : Str} {pos : Pos} (hN : X.N[i]? = some x) (hv : Vis X.env.scope x) (hd : (x == ("__debug__" : Str)) = false := by decide) (hcd : (x == ("__classdict__" : Str)) = false := by decide) : PE X (.Name x pos) (tVar i) := by
 intro pins s σ H Q I h
 obtain ⟨v, e, h⟩ := h
 obtain ⟨m, hn, hl⟩ := I.loc
 obtain ⟨u, r, l⟩ := hl i x v hN e hv
 have fin : EP X pins σ Q u s := ⟨v, H, I, r, h⟩
 rcases l with ⟨hk, hm⟩ | ⟨hk, c, hc, hcell⟩
 · exact wpAny_Name (wpAny_loadName_local I.ok.kind hk hn hm fin) hd
 · rcases hk with hk | hk
   · exact wpAny_Name (wpAny_loadName_cell I.ok.kind hk hc hcell fin) hd
   · exact wpAny_Name (wpAny_loadName_free I.ok.kind hk hc hcell fin hcd) hd
theorem pe_int {i j pos} : PE X (.Constant (.int i) j pos) (tC (.int i)) := fun _ _ _ H _ I h => wpAny_Constant_int ⟨.int i, H, I.tok _, ⟨_, rfl⟩, h⟩
theorem pe_bl {b j pos} : PE X (.Constant (.bool b) j pos) (tC (.bl b)) := fun _ _ _ H _ I h => Constant_bool ⟨.bl b, H, I, rfl, h⟩
noncomputable def Gl (X : Cx) (x : Str) : Prop := X.env.kindOf x = some .globalImplicit
theorem ld_glob {E : Value → Shared → Prop} {pins : List (Addr × Obj)} {s : Shared} {σ : St} {H : Hp} {x : Str} {u : Value} {pos : Pos} {Q : Value → Shared → Prop} (I : Inv X pins σ H s) (hg : Gl X x) (hm : X.mg x = some u) (h : Q u s)
   (hd : (x == ("__debug__" : Str)) = false := by decide) : wpAny (model X.prog X.w) X.A (eval (.Name x pos) X.env) Q E s :=
 Calls.Name_function_global I.ok.kind hg (Calls.loadGlobal_global (by rw [I.ok.glob]; exact I.mod.glob.keeps I.bk) hm h) hd
theorem ld_blt {E : Value → Shared → Prop} {pins : List (Addr × Obj)} {s : Shared} {σ : St} {H : Hp} {x : Str} {u : Value} {pos : Pos} {Q : Value → Shared → Prop} (I : Inv X pins σ H s) (hg : Gl X x) (hm : X.mg x = none) (hv : bootBuiltins x = some u) (h : Q u s)
   (hn : x ≠ "__name__" := by decide) (hd : (x == ("__debug__" : Str)) = false := by decide) : wpAny (model X.prog X.w) X.A (eval (.Name x pos) X.env) Q E s := by
 obtain ⟨mb, h1, h2⟩ := I.mod.blt
 exact Calls.Name_function_global I.ok.kind hg (Calls.loadGlobal_builtin (by rw [I.ok.glob]; exact I.mod.glob.keeps I.bk) hm (by rw [I.ok.blt]; exact h1.keeps I.bk) ((h2 x hn).trans hv) h) hd
theorem pe_glob {x : Str} {v : V} {u : Value} {pos : Pos} (hg : Gl X x) (hm : X.mg x = some u) (r : RelV v u) (hd : (x == ("__debug__" : Str)) = false := by decide) : PE X (.Name x pos) (tC v) :=
 fun _ _ _ H _ I h => ld_glob I hg hm ⟨v, H, I, r, h⟩ hd
theorem pe_bltn {x : Str} {v : V} {u : Value} {pos : Pos} (hg : Gl X x) (hm : X.mg x = none) (hv : bootBuiltins x = some u) (r : RelV v u) (hn : x ≠ "__name__" := by decide) (hd : (x == ("__debug__" : Str)) = false := by decide) : PE X (.Name x pos) (tC v) :=
 fun _ _ _ H _ I h => ld_blt I hg hm hv ⟨v, H, I, r, h⟩ hn hd
variable {a b : Expr} {ta tb : TE} {pos : Pos}
variable {tA tB' : TT} {rest : List Expr}
noncomputable def tAnd (t u : TT) : TT := fun σ H Q => t σ H fun c H1 => if c = true then u σ H1 Q else Q false H1
noncomputable def tOr (t u : TT) : TT := fun σ H Q => t σ H fun c H1 => if c = true then Q true H1 else u σ H1 Q
noncomputable def tNot (t : TT) : TT := fun σ H Q => t σ H fun c H1 => Q (!c) H1
theorem pw_and1 (ha : PT X a tA) : PW X (.BoolOp .And [a] pos) tA := by
 intro wh pins s σ H Q I h
 refine isTrue_and (thn (ha pins s σ H Q I h) fun c s1 e => ?_)
 cases c with
 | true => exact isTrue_and_nil e
 | false => exact e
theorem pw_or1 (ha : PT X a tA) : PW X (.BoolOp .Or [a] pos) tA := by
 intro wh pins s σ H Q I h
 refine isTrue_or (thn (ha pins s σ H Q I h) fun c s1 e => ?_)
 cases c with
 | false => exact isTrue_or_nil e
 | true => exact e
theorem pw_and (ha : PT X a tA) (hb : PW X (.BoolOp .And (b :: rest) pos) tB') : PW X (.BoolOp .And (a :: b :: rest) pos) (tAnd tA tB') := by
 intro wh pins s σ H Q I h
 refine isTrue_and (thn (ha pins s σ H _ I h) fun c s1 ⟨H1, I1, q1⟩ => ?_)
 cases c with
 | true => exact hb wh pins s1 σ H1 Q I1 q1
 | false => exact ⟨H1, I1, q1⟩
theorem pw_or (ha : PT X a tA) (hb : PW X (.BoolOp .Or (b :: rest) pos) tB') : PW X (.BoolOp .Or (a :: b :: rest) pos) (tOr tA tB') := by
 intro wh pins s σ H Q I h
 refine isTrue_or (thn (ha pins s σ H _ I h) fun c s1 ⟨H1, I1, q1⟩ => ?_)
 cases c with
 | true => exact ⟨H1, I1, q1⟩
 | false => exact hb wh pins s1 σ H1 Q I1 q1
theorem pt_not (ha : PT X a tA) : PT X (.UnaryOp .Not a pos) (tNot tA) := by
 intro pins s σ H Q I h
 exact isTrue_not (ha pins s σ H (fun c H1 => Q (!c) H1) I h)
noncomputable def tAndV (ta tb : TE) : TE := fun σ H Q => ta σ H fun x H1 => ∃ c, x = .bl c ∧ if c = true then tb σ H1 Q else Q (.bl false) H1
noncomputable def tNotV (ta : TE) : TE := fun σ H Q => ta σ H fun x H1 => ∃ c, x = .bl c ∧ Q (.bl (!c)) H1
theorem pe_one {op} {t : TE} (h : PE X a t) : PE X (.BoolOp op [a] pos) t := fun pins s σ H Q I hw => BoolOp_one (h pins s σ H Q I hw)
theorem pe_and (ha : PE X a ta) (hb : PE X (.BoolOp .And (b :: rest) pos) tb) : PE X (.BoolOp .And (a :: b :: rest) pos) (tAndV ta tb) := by
 intro pins s σ H Q I h
 refine BoolOp_and (thn (ha pins s σ H _ I h) fun v s1 ⟨x, H1, I1, r1, q1⟩ => ?_)
 obtain ⟨c, rfl, q1⟩ := q1
 cases r1
 refine wpAny_truthy_bool ?_
 cases c with
 | true => exact hb pins s1 σ H1 Q I1 q1
 | false => exact ⟨.bl false, H1, I1, rfl, q1⟩
theorem pe_not (ha : PE X a ta) : PE X (.UnaryOp .Not a pos) (tNotV ta) := by
 intro pins s σ H Q I h
 refine UnaryOp_ (thn (ha pins s σ H _ I h) fun v s1 ⟨x, H1, I1, r1, q1⟩ => ?_)
 obtain ⟨c, rfl, q1⟩ := q1
 cases r1
 exact not_of (wpAny_truthy_bool ⟨.bl (!c), H1, I1, rfl, q1⟩)
end
end L2
namespace L2
open PySem PySem.Spec PyProof.Rows
noncomputable def SqL (K : PySem.W.Frag) (H : Hp) (a : Addr) (xs : List V) : Prop :=
 Rd H a (.lst xs) ∨
   ∃ (o : Obj) (its : Array Value) (n : Nat), K.lookup a = some o ∧ o.cls = .type "list" ∧ o.dict = none ∧ o.data = .seq its n ∧ its.size ≤ sizeLine ∧ Vals xs its.toList
noncomputable def SqT (K : PySem.W.Frag) (H : Hp) (a : Addr) (xs : List V) : Prop :=
 Rd H a (.tup xs) ∨
   ∃ (o : Obj) (its : Array Value) (n : Nat), K.lookup a = some o ∧ o.cls = .type "tuple" ∧ o.dict = none ∧ o.data = .seq its n ∧ its.size ≤ sizeLine ∧ Vals xs its.toList
noncomputable def absV : Value → Option V
 | .none => some .non
 | .bool b => some (.bl b)
 | .int i _ => some (.int i)
 | .str x _ => some (.str x)
 | .bytes b _ => some (.byt b)
 | .float b _ => some (.flt b)
 | .ref a => some (.ref a)
 | .type n => some (.ty n)
 | _ => none
theorem RelV.abs {x : V} {u : Value} (r : RelV x u) : absV u = some x := by
 cases x with
 | non => cases r; rfl
 | bl _ => cases r; rfl
 | int _ => obtain ⟨t, rfl⟩ := r; rfl
 | str _ => obtain ⟨t, rfl⟩ := r; rfl
 | byt _ => obtain ⟨t, rfl⟩ := r; rfl
 | flt _ => obtain ⟨t, rfl⟩ := r; rfl
 | ref _ => cases r; rfl
 | ty _ => cases r; rfl
theorem RelV.inj {x y : V} {u : Value} (r : RelV x u) (q : RelV y u) : x = y := Option.some.inj (r.abs.symm.trans q.abs)
theorem Vals.inj : ∀ {xs ys : List V} {us : List Value}, Vals xs us → Vals ys us → xs = ys
 | _, _, _, .nil, .nil => rfl
 | _, _, _, .cons r t, .cons r' t' => by rw [r.inj r', Vals.inj t t']
section
variable {X : Cx} {pins : List (Addr × Obj)} {σ : St} {H : Hp} {s : Shared} {a : Addr} {xs ys : List V}
theorem SqL.of {K : PySem.W.Frag} (h : H a = some (.lst xs)) : SqL K H a xs := .inl (.inl h)
theorem SqT.of {K : PySem.W.Frag} (h : H a = some (.tup xs)) : SqT K H a xs := .inl (.inl h)
theorem Inv.list (I : Inv X pins σ H s) (h : SqL X.K H a xs) : ∃ its : List Value, Vals xs its ∧ PlainL s.heap a its.toArray ∧ xs.length ≤ sizeLine := by
 rcases h with h | ⟨o, its, n, hk, hc, hd, hs, hz, r⟩
 · obtain ⟨z, its, n, r, e⟩ := h.ok I.hok
   exact ⟨its, r, ⟨_, n, e, rfl, rfl, rfl⟩, z⟩
 · refine ⟨its.toList, r, ⟨o, n, I.kIn a o hk, hc, hd, by simpa using hs⟩, ?_⟩
   have e := r.length
   simp only [Array.length_toList] at e
   lia
theorem Inv.tuple (I : Inv X pins σ H s) (h : SqT X.K H a xs) : ∃ its : List Value, Vals xs its ∧ IsTup s.heap a its.toArray ∧ xs.length ≤ sizeLine := by
 rcases h with h | ⟨o, its, n, hk, hc, hd, hs, hz, r⟩
 · obtain ⟨z, its, r, p⟩ := h.ok I.hok
   exact ⟨its, r, p.t, z⟩
 · refine ⟨its.toList, r, ⟨o, I.kIn a o hk, hc, n, by simpa using hs⟩, ?_⟩
   have e := r.length
   simp only [Array.length_toList] at e
   lia
theorem Inv.tuple0 (I : Inv X pins σ H s) (h : SqT X.K H a xs) : ∃ its : List Value, Vals xs its ∧ IsTup0 s.heap a its.toArray ∧ xs.length ≤ sizeLine := by
 rcases h with h | ⟨o, its, n, hk, hc, hd, hs, hz, r⟩
 · obtain ⟨z, its, r, p⟩ := h.ok I.hok
   exact ⟨its, r, p, z⟩
 · refine ⟨its.toList, r, ⟨o, I.kIn a o hk, hc, hd, n, by simpa using hs⟩, ?_⟩
   have e := r.length
   simp only [Array.length_toList] at e
   lia
theorem Inv.list_inj (I : Inv X pins σ H s) (h : SqL X.K H a xs) (h' : SqL X.K H a ys) : xs = ys := by
 obtain ⟨its, r, ⟨o, n, e, _, _, d⟩, _⟩ := I.list h
 obtain ⟨its', r', ⟨o', n', e', _, _, d'⟩, _⟩ := I.list h'
 rw [e] at e'; cases e'
 rw [d] at d'
 injection d' with d1 _
 have : its = its' := by simpa using congrArg Array.toList d1
 subst this
 exact r.inj r'
theorem Inv.tuple_inj (I : Inv X pins σ H s) (h : SqT X.K H a xs) (h' : SqT X.K H a ys) : xs = ys := by
 obtain ⟨its, r, ⟨o, e, _, n, d⟩, _⟩ := I.tuple h
 obtain ⟨its', r', ⟨o', e', _, n', d'⟩, _⟩ := I.tuple h'
 rw [e] at e'; cases e'
 rw [d] at d'
 injection d' with d1 _
 have : its = its' := by simpa using congrArg Array.toList d1
 subst this
 exact r.inj r'
end
noncomputable abbrev Cx.wish (X : Cx) (E : Value → Shared → Prop) : Cx := { X with xe := E }
noncomputable abbrev Cx.nox (X : Cx) : Cx := X.wish fun _ _ => False
theorem Cx.Ok.wish {X : Cx} (ok : X.Ok) (E : Value → Shared → Prop) : (X.wish E).Ok :=
 ⟨ok.mod, ok.kind, ok.glob, ok.blt, ok.above, ok.inj, ok.has, ok.cab, ok.hd, ok.frames, ok.stk, ok.exf, ok.bs, ok.bsz, ok.noex, ok.exfs, ok.funs, ok.frf⟩
theorem Cx.Ok.unwish {X : Cx} {E : Value → Shared → Prop} (ok : (X.wish E).Ok) : X.Ok :=
 ⟨ok.mod, ok.kind, ok.glob, ok.blt, ok.above, ok.inj, ok.has, ok.cab, ok.hd, ok.frames, ok.stk, ok.exf, ok.bs, ok.bsz, ok.noex, ok.exfs, ok.funs, ok.frf⟩
section
variable {X : Cx} {pins : List (Addr × Obj)} {σ : St} {H : Hp} {s : Shared} {E : Value → Shared → Prop}
theorem Inv.wish (I : Inv X pins σ H s) (E : Value → Shared → Prop) : Inv (X.wish E) pins σ H s := ⟨I.ok.wish E, I.os, I.bare, I.base, I.loc, I.cell, I.free, I.freeC, I.pin, I.hok, I.len⟩
theorem Inv.unwish (I : Inv (X.wish E) pins σ H s) : Inv X pins σ H s := ⟨I.ok.unwish, I.os, I.bare, I.base, I.loc, I.cell, I.free, I.freeC, I.pin, I.hok, I.len⟩
theorem SP.unwish {D : Ends} {f : Flow} {s' : Shared} (h : SP (X.wish E) pins D f s') : SP X pins D f s' := by
 cases f with
 | next => obtain ⟨σ', H', I, q⟩ := h; exact ⟨σ', H', I.unwish, q⟩
 | brk => obtain ⟨σ', H', I, q⟩ := h; exact ⟨σ', H', I.unwish, q⟩
 | cont => obtain ⟨σ', H', I, q⟩ := h; exact ⟨σ', H', I.unwish, q⟩
 | ret u => obtain ⟨v, σ', H', I, r, q⟩ := h; exact ⟨v, σ', H', I.unwish, r, q⟩
theorem PSs.nox {st : List Stmt} {t : TS} (h : PSs X.nox st t) : PSs X st t := fun pins s σ H D I hw =>
 wpAny_mono (h pins s σ H D (I.wish _) hw) (fun _ _ q => q.unwish) fun _ _ z => False.elim z
end
section
variable {X : Cx} {st : Stmt} {rest : List Stmt} {t u : TS} {e : Expr} {te : TE} {pos : Pos}
noncomputable def tNext : TS := fun D σ H => D.nx σ H
noncomputable def tSeq (t u : TS) : TS := fun D σ H => t { D with nx := u D } σ H
theorem pss_nil : PSs X [] tNext := fun _ _ σ H _ I h => wpAny_execs_nil ⟨σ, H, I, h⟩
theorem pss_cons (h1 : PS X st t) (h2 : PSs X rest u) : PSs X (st :: rest) (tSeq t u) := by
 intro pins s σ H D I h
 refine wpAny_execs_cons (thn (h1 pins s σ H { D with nx := u D } I h) fun f s1 q => ?_)
 cases f with
 | next =>
   obtain ⟨σ', H', I', q⟩ := q
   exact h2 pins s1 σ' H' D I' q
 | ret v => exact q
 | brk => exact q
 | cont => exact q
theorem pss_one (h1 : PS X st t) : PSs X [st] t := by
 intro pins s σ H D I h
 refine wpAny_execs_cons (thn (h1 pins s σ H D I h) fun f s1 q => ?_)
 cases f with
 | next => exact wpAny_execs_nil q
 | ret v => exact q
 | brk => exact q
 | cont => exact q
theorem Inv.quiet {pins : List (Addr × Obj)} {σ : St} {H : Hp} {s : Shared} (I : Inv X pins σ H s) : interactive X.env = false := by simp [interactive, I.ok.kind]
noncomputable def tDrop (te : TE) : TS := fun D σ H => te σ H fun _ H1 => D.nx σ H1
theorem ps_expr (he : PE X e te) (hs : swapsWith e none pos.line X.env = pure false := by rfl) : PS X (.Expr e pos) (tDrop te) := by
 intro pins s σ H D I h
 exact wpAny_Expr_any (thn (he pins s σ H _ I h) fun v s1 ⟨x, H1, I1, r1, q1⟩ => ⟨σ, H1, I1, q1⟩) I.quiet hs
noncomputable def tRet (te : TE) : TS := fun D σ H => te σ H D.rt
theorem ps_ret (he : PE X e te) : PS X (.Return (some e) pos) (tRet te) := by
 intro pins s σ H D I h
 exact wpAny_Return_some (thn (he pins s σ H _ I h) fun v s1 ⟨x, H1, I1, r1, q1⟩ => ⟨x, σ, H1, I1, r1, q1⟩)
noncomputable def tIfS (c : TT) (t u : TS) : TS := fun D σ H => c σ H fun b H1 => if b = true then t D σ H1 else u D σ H1
theorem ps_if {c : Expr} {a b : List Stmt} {tc : TT} (hc : PT X c tc) (ha : PSs X a t) (hb : PSs X b u) : PS X (.If c a b pos) (tIfS tc t u) := by
 intro pins s σ H D I h
 refine wpAny_If (thn (hc pins s σ H _ I h) fun d s1 ⟨H1, I1, q1⟩ => ?_)
 cases d with
 | true => exact ha pins s1 σ H1 D I1 q1
 | false => exact hb pins s1 σ H1 D I1 q1
end
noncomputable abbrev TG := V → St → Hp → (St → Hp → Prop) → Prop
noncomputable abbrev TGs := List V → St → Hp → (St → Hp → Prop) → Prop
noncomputable def PG (X : Cx) (target : Expr) (t : TG) : Prop :=
 ∀ (pins : List (Addr × Obj)) (s : Shared) (σ : St) (H : Hp) (v : V) (u : Value) (Q : St → Hp → Prop), Inv X pins σ H s → RelV v u → t v σ H Q →
   wpAny (model X.prog X.w) X.A (assign target X.env u) (fun _ s' => ∃ σ' H', Inv X pins σ' H' s' ∧ Q σ' H') X.xe s
noncomputable def PGs (X : Cx) (ts : List Expr) (t : TGs) : Prop :=
 ∀ (pins : List (Addr × Obj)) (s : Shared) (σ : St) (H : Hp) (vs : List V) (us : List Value) (Q : St → Hp → Prop), Inv X pins σ H s → Vals vs us → t vs σ H Q →
   wpAny (model X.prog X.w) X.A (assignInOrder ((assignEach ts X.env).map (·.2)) us) (fun _ s' => ∃ σ' H', Inv X pins σ' H' s' ∧ Q σ' H') X.xe s
noncomputable abbrev TSet := V → V → V → Hp → (Hp → Prop) → Prop
noncomputable def PSet (X : Cx) (t : TSet) : Prop :=
 ∀ (pins : List (Addr × Obj)) (s : Shared) (σ : St) (H : Hp) (o i v : V) (ov iv u : Value) (Q : Hp → Prop), Inv X pins σ H s → RelV o ov → RelV i iv → RelV v u → t o i v H Q →
   wpAny (model X.prog X.w) X.A (setItem ov iv u) (fun _ s' => ∃ H', Inv X pins σ H' s' ∧ Q H') X.xe s
noncomputable abbrev TIp := V → V → Hp → VK → Prop
noncomputable def PIp (X : Cx) (op : Operator) (t : TIp) : Prop :=
 ∀ (pins : List (Addr × Obj)) (s : Shared) (σ : St) (H : Hp) (x y : V) (v u : Value) (Q : VK), Inv X pins σ H s → RelV x v → RelV y u → t x y H Q →
   wpAny (model X.prog X.w) X.A (inplaceOp op v u) (EP X pins σ Q) X.xe s
section
variable {X : Cx} {pos : Pos}
noncomputable def gName (i : Nat) : TG := fun v σ H Q => Q (σ.set i (some v)) H
theorem pg_name {i : Nat} {x : Str} (hN : X.N.Nodup) (hi : X.N[i]? = some x) (hx : Loc X.env.scope x) (hf : X.fn x = true ∨ X.env.scope.names.lookup x = some .local := by first | exact .inl rfl | exact .inr rfl | assumption) : PG X (.Name x pos) (gName i) := by
 intro pins s σ H v u Q I r h
 exact wpAny_assign_Name (store_ok I hN hi hx r (fun s' I' => ⟨_, H, I', h⟩) hf)
noncomputable def gNil : TGs := fun vs σ H Q => vs = [] ∧ Q σ H
noncomputable def gCons (t : TG) (u : TGs) : TGs := fun vs σ H Q => ∃ v r, vs = v :: r ∧ t v σ H fun σ' H' => u r σ' H' Q
theorem pgs_nil : PGs X [] gNil := by
 intro pins s σ H vs us Q I r h
 obtain ⟨e, h⟩ := h
 subst e
 cases r
 exact assignInOrder_nil ⟨σ, H, I, h⟩
theorem pgs_cons {e : Expr} {es : List Expr} {t : TG} {u : TGs} (h1 : PG X e t) (h2 : PGs X es u)
   (hs : (assignEach (e :: es) X.env).map (·.2) = assign e X.env :: (assignEach es X.env).map (·.2) := by rfl) : PGs X (e :: es) (gCons t u) := by
 intro pins s σ H vs us Q I r h
 obtain ⟨v, vr, e1, h⟩ := h
 subst e1
 cases r with
 | cons r rr =>
   rw [hs]
   refine assignInOrder_cons (thn (h1 pins s σ H _ _ _ I r h) fun _ s1 ⟨σ1, H1, I1, q1⟩ => ?_)
   exact h2 pins s1 σ1 H1 _ _ Q I1 rr q1
noncomputable def gTup (K : PySem.W.Frag) (n : Nat) (t : TGs) : TG := fun v σ H Q => ∃ a xs, v = .ref a ∧ SqT K H a xs ∧ xs.length = n ∧ t xs σ H Q
theorem pg_tup {es : List Expr} {k : Nat} {t : TGs} {n : Nat} (hc : X.calm = true) (h : PGs X es t)
   (hn : (assignEach es X.env).length = n := by rfl) (hst : (assignEach es X.env).findIdx? (·.1) = none := by rfl) : PG X (.Tuple es k pos) (gTup X.K n t) := by
 intro pins s σ H v u Q I r hw
 obtain ⟨a, xs, e1, hq, hl, hw⟩ := hw
 subst e1
 cases r
 obtain ⟨its, rv, ht, hz⟩ := I.tuple hq
 refine assign_Tuple_tuple (I.ok.hd hc) ht (by simp [hn, ← hl, rv.length]) hst fun h' hx => ?_
 have I1 : Inv X pins σ H { s with heap := h' } := I.kept (t' := s.toks) fun b o e => hx b o (Nat.ne_of_lt (Heap.lt_size e)) e
 exact h pins _ σ H xs _ Q I1 (by simpa using rv) hw
noncomputable def gSub (to ti : TE) (t : TSet) : TG := fun v σ H Q => to σ H fun o H1 => ti σ H1 fun i H2 => t o i v H2 fun H3 => Q σ H3
theorem pg_sub {o i : Expr} {to ti : TE} {t : TSet} (ho : PE X o to) (hi : PE X i ti) (hs : PSet X t)
   (ha : ∀ v, assign (.Subscript o i pos) X.env v = (do
     let ov ← holding [v] (eval o X.env)
     let iv ← holding [v, ov] (eval i X.env)
     standAt pos
     holding [v, ov, iv] (setItem ov iv v)
     release [v, ov, iv] []) := by intro _; rfl) : PG X (.Subscript o i pos) (gSub to ti t) := by
 intro pins s σ H v u Q I r h
 rw [ha]
 refine wpAny_bind (wpAny_holding (thn (ho pins s σ H _ I h) fun ov s1 ⟨x, H1, I1, r1, q1⟩ => ?_))
 refine wpAny_bind (wpAny_holding (thn (hi pins s1 σ H1 _ I1 q1) fun iv s2 ⟨y, H2, I2, r2, q2⟩ => ?_))
 refine wpAny_bind (wpAny_standAt (wpAny_bind (wpAny_holding (thn (hs pins s2 σ H2 x y v ov iv u _ I2 r1 r2 r q2) fun _ s3 ⟨H3, I3, q3⟩ => ?_))))
 exact wpAny_release ⟨σ, H3, I3, q3⟩
noncomputable def tAsg (te : TE) (g : TG) : TS := fun D σ H => te σ H fun x H1 => g x σ H1 D.nx
theorem ps_asg {tg e : Expr} {te : TE} {g : TG} (he : PE X e te) (hg : PG X tg g) (hs : swapsWithSole [tg] e pos.line X.env = pure false := by rfl) (hw : swappedStores [tg] e X.env = pure none := by rfl)
   (h1 : (assignEach [tg] X.env).map (·.2) = [assign tg X.env] := by rfl) : PS X (.Assign [tg] e pos) (tAsg te g) := by
 intro pins s σ H D I h
 refine wpAny_Assign_stores (thn (he pins s σ H _ I h) fun v s1 ⟨x, H1, I1, r1, q1⟩ => ?_) hs hw
 rw [h1]
 exact thn (hg pins s1 σ H1 x v _ I1 r1 q1) fun _ s2 q => q
theorem ps_set {i : Nat} {x : Str} {e : Expr} {te : TE} {pos' : Pos} (hN : X.N.Nodup) (hi : X.N[i]? = some x) (hx : Loc X.env.scope x) (he : PE X e te) (hs : swapsWith e (some (.Name x pos')) pos.line X.env = pure false := by rfl) (hf : X.fn x = true ∨ X.env.scope.names.lookup x = some .local := by first | exact .inl rfl | exact .inr rfl | assumption) :
   PS X (.Assign [.Name x pos'] e pos) (tAsg te (gName i)) := by
 intro pins s σ H D I h
 refine wpAny_Assign_Name (thn (he pins s σ H _ I h) fun v s1 ⟨y, H1, I1, r1, q1⟩ => ?_) hs
 exact store_ok I1 hN hi hx r1 (fun s2 I2 => ⟨_, H1, I2, q1⟩) hf
noncomputable def tAug (i : Nat) (te : TE) (ti : TIp) : TS := fun D σ H => ∃ x, σ[i]? = some (some x) ∧ te σ H fun y H1 => ti x y H1 fun z H2 => D.nx (σ.set i (some z)) H2
theorem ps_aug {i : Nat} {x : Str} {e : Expr} {te : TE} {op : Operator} {ti : TIp} {pos' : Pos} (hN : X.N.Nodup) (hi : X.N[i]? = some x) (hx : Loc X.env.scope x) (he : PE X e te) (ho : PIp X op ti) (hf : X.fn x = true ∨ X.env.scope.names.lookup x = some .local := by first | exact .inl rfl | exact .inr rfl | assumption) :
   PS X (.AugAssign (.Name x pos') op e pos) (tAug i te ti) := by
 intro pins s σ H D I h
 obtain ⟨v, e1, h⟩ := h
 obtain ⟨m, hn, hl⟩ := I.loc
 have vis : Vis X.env.scope x := by rcases hx with k | k; exact .inl k; exact .inr (.inl k)
 obtain ⟨u, r, l⟩ := hl i x v hi e1 vis
 refine wpAny_AugAssign_Name ?_
 have go : wpAny (model X.prog X.w) X.A (eval e X.env) (fun w s₂ => wpAny (model X.prog X.w) X.A (inplaceOp op u w) (fun r s₃ => wpAny (model X.prog X.w) X.A (storeName X.env x r) (fun _ => SP X pins D .next) X.xe s₃) X.xe s₂) X.xe s := by
   refine thn (he pins s σ H _ I h) fun w s1 ⟨y, H1, I1, r1, q1⟩ => ?_
   refine thn (ho pins s1 σ H1 v y u w _ I1 r r1 q1) fun z s2 ⟨zv, H2, I2, r2, q2⟩ => ?_
   exact store_ok I2 hN hi hx r2 (fun s3 I3 => ⟨_, H2, I3, q2⟩) hf
 rcases l with ⟨hk, hm⟩ | ⟨hk, c, hc, hcell⟩
 · exact wpAny_loadName_local I.ok.kind hk hn hm go
 · rcases hk with hk | hk
   · exact wpAny_loadName_cell I.ok.kind hk hc hcell go
   · rcases hx with k | k
     · have : X.env.scope.names.lookup x = some .free := hk
       rw [k] at this; cases this
     · have : X.env.scope.names.lookup x = some .free := hk
       rw [k] at this; cases this
noncomputable def tAugS (to ti te : TE) (tget : V → V → Hp → VK → Prop) (tip : TIp) (tset : TSet) : TS := fun D σ H => to σ H fun o H1 => ti σ H1 fun i H2 => tget o i H2 fun x H3 => te σ H3 fun y H4 => tip x y H4 fun z H5 => tset o i z H5 fun H6 => D.nx σ H6
noncomputable def PGet (X : Cx) (t : V → V → Hp → VK → Prop) : Prop :=
 ∀ (pins : List (Addr × Obj)) (s : Shared) (σ : St) (H : Hp) (o i : V) (ov iv : Value) (Q : VK), Inv X pins σ H s → RelV o ov → RelV i iv → t o i H Q →
   wpAny (model X.prog X.w) X.A (getItem ov iv) (EP X pins σ Q) X.xe s
theorem ps_augS {o i e : Expr} {to ti te : TE} {tget : V → V → Hp → VK → Prop} {tip : TIp} {tset : TSet} {op : Operator} {tpos : Pos} (ho : PE X o to) (hi : PE X i ti) (hg : PGet X tget) (he : PE X e te) (hp : PIp X op tip) (hs : PSet X tset)
   (ha : ∀ ov iv new, augStore i ov iv new = (do holding [new, ov, iv] (setItem ov iv new); release [new, ov, iv] []; pure .next) := by intros; rfl) : PS X (.AugAssign (.Subscript o i tpos) op e pos) (tAugS to ti te tget tip tset) := by
 intro pins s σ H D I h
 refine wpAny_AugAssign_SubscriptAny (thn (ho pins s σ H _ I h) fun ov s1 ⟨x1, H1, I1, r1, q1⟩ => ?_) ha
 refine thn (hi pins s1 σ H1 _ I1 q1) fun iv s2 ⟨x2, H2, I2, r2, q2⟩ => ?_
 refine thn (hg pins s2 σ H2 x1 x2 ov iv _ I2 r1 r2 q2) fun old s3 ⟨x3, H3, I3, r3, q3⟩ => ?_
 refine thn (he pins s3 σ H3 _ I3 q3) fun v s4 ⟨x4, H4, I4, r4, q4⟩ => ?_
 refine thn (hp pins s4 σ H4 x3 x4 old v _ I4 r3 r4 q4) fun new s5 ⟨x5, H5, I5, r5, q5⟩ => ?_
 exact thn (hs pins s5 σ H5 x1 x2 x5 ov iv new _ I5 r1 r2 r5 q5) fun _ s6 ⟨H6, I6, q6⟩ => ⟨σ, H6, I6, q6⟩
noncomputable def ipI (f : Int → Int → Int) : TIp := fun x y H Q => ∃ i j, x = .int i ∧ y = .int j ∧ Q (.int (f i j)) H
theorem ip_add : PIp X .Add (ipI fun i j => i + j) := by
 intro pins s σ H x y v u Q I r1 r2 h
 obtain ⟨i, j, e1, e2, q⟩ := h
 subst e1; subst e2
 obtain ⟨t, rfl⟩ := r1
 obtain ⟨t', rfl⟩ := r2
 exact iadd_int ⟨.int _, H, I.tok _, ⟨_, rfl⟩, q⟩
theorem ip_sub : PIp X .Sub (ipI fun i j => i - j) := by
 intro pins s σ H x y v u Q I r1 r2 h
 obtain ⟨i, j, e1, e2, q⟩ := h
 subst e1; subst e2
 obtain ⟨t, rfl⟩ := r1
 obtain ⟨t', rfl⟩ := r2
 exact isub_int ⟨.int _, H, I.tok _, ⟨_, rfl⟩, q⟩
end
section
variable {X : Cx} {pos : Pos}
end
structure It where
 go : Nat → Hp → Prop
 yld : Nat → Hp → V → Hp → Prop
 stop : Nat → Hp → Prop
noncomputable def FpOk (X : Cx) (pins : List (Addr × Obj)) (H : Hp) (b : Addr) : Prop :=
 H b = none ∧ b ≠ X.env.locals ∧ b ∉ X.fs ∧ (b ∈ X.ex ∨ X.s₀.heap.objs.size ≤ b) ∧ (∀ x c, X.env.cells.lookup x = some c → c ≠ b) ∧ ∀ p ∈ X.pn ++ pins, p.1 ≠ b
theorem Inv.fpOk {X : Cx} {pins : List (Addr × Obj)} {σ : St} {H H' : Hp} {s : Shared} {b : Addr} (I : Inv X pins σ H s) (hb : s.heap.objs.size ≤ b) (hn : H' b = none) : FpOk X pins H' b := by
 refine ⟨hn, Nat.ne_of_gt (Nat.lt_of_lt_of_le I.lt hb), I.nofs hb, .inr (Nat.le_trans I.sz hb), fun x c e z => ?_, fun p hp z => ?_⟩
 · obtain ⟨v, q⟩ := I.cell x c e
   exact absurd (Nat.lt_of_lt_of_le q.lt (by rw [z]; exact hb)) (Nat.lt_irrefl _)
 · exact absurd (Nat.lt_of_lt_of_le (Heap.lt_size (I.pin p hp).1) (by rw [z]; exact hb)) (Nat.lt_irrefl _)
structure Turn (P : Program) (w : World) (K : PySem.W.Frag) (tg : Expr) (J : It) (fp : List Addr) (it : Addr) (tn : Nat → Heap → Prop) : Prop where
 mem : it ∈ fp
 obj : ∀ i h, tn i h → ∀ b ∈ fp, ∃ o, h.get? b = some o ∧ ∀ v, o.data ≠ .cell v
 keep : ∀ i h h', tn i h → (∀ b ∈ fp, ∀ o, h.get? b = some o → h'.get? b = some o) → tn i h'
 item : ∀ (X : Cx), X.prog = P → X.w = w → X.K = K → X.calm = true → ∀ (i : Nat) (pins : List (Addr × Obj)) (s : Shared) (σ : St) (H : Hp) (E : Value → Shared → Prop), Inv X pins σ H s → (∀ b ∈ fp, FpOk X pins H b) → tn i s.heap → J.go i H →
   wpAny (model P w) X.A (pyNext (.ref it)) (fun r s1 => ∃ u, r = some u ∧
     wpAny (model P w) X.A (letOwnedTupleGo tg (.ref it) u) (fun _ s2 => ∃ x H', Inv X pins σ H' s2 ∧ RelV x u ∧ J.yld i H x H' ∧ tn (i + 1) s2.heap ∧ ∀ b ∈ fp, H' b = none) E s1) E s
 done : ∀ (X : Cx), X.prog = P → X.w = w → X.K = K → X.calm = true → ∀ (i : Nat) (pins : List (Addr × Obj)) (s : Shared) (σ : St) (H : Hp) (E : Value → Shared → Prop), Inv X pins σ H s → (∀ b ∈ fp, FpOk X pins H b) → tn i s.heap → J.stop i H →
   wpAny (model P w) X.A (pyNext (.ref it)) (fun r s1 => r = none ∧ Inv X pins σ H s1) E s
 self : ∀ (A : Around) (i : Nat) (s : Shared) (Q : Value → Shared → Prop) (E : Value → Shared → Prop), tn i s.heap → Q (.ref it) s → wpAny (model P w) A (pyIter (.ref it)) Q E s
noncomputable abbrev TI := St → Hp → (It → Hp → Prop) → Prop
noncomputable def PIE (X : Cx) (pins : List (Addr × Obj)) (σ : St) (tg : Expr) (R : It → Hp → Prop) (itv : Value) (s2 : Shared) : Prop :=
 ∃ (it : Addr) (fp : List Addr) (tn : Nat → Heap → Prop) (J : It) (H' : Hp), itv = .ref it ∧ Inv X pins σ H' s2 ∧ Turn X.prog X.w X.K tg J fp it tn ∧ tn 0 s2.heap ∧ (∀ b ∈ fp, FpOk X pins H' b) ∧ R J H'
noncomputable def PI (X : Cx) (tg iter : Expr) (wi : TI) : Prop :=
 ∀ (pins : List (Addr × Obj)) (s : Shared) (σ : St) (H : Hp) (R : It → Hp → Prop), Inv X pins σ H s → wi σ H R →
   wpAny (model X.prog X.w) X.A (eval iter X.env) (fun v s1 => wpAny (model X.prog X.w) X.A (pyIter v) (PIE X pins σ tg R) X.xe s1) X.xe s
theorem go_of {M : Model} {A : Around} {E : Value → Shared → Prop} {s : Shared} {tg : Expr} {it : Addr} {u : Value} {o : Obj} {n : String} {vs : Array Value} {Q : Unit → Shared → Prop} (ho : s.heap.get? it = some o) (hc : o.cls = .type n) (hd : o.data = .fields vs)
   (hn : ["enumerate", "zip", "dict_itemiterator", "dict_reverseitemiterator", "odict_iterator", "itertools.zip_longest", "itertools.pairwise"].contains n = false) (hQ : Q () s) : wpAny M A (letOwnedTupleGo tg (.ref it) u) Q E s := by
 unfold letOwnedTupleGo
 cases tg <;> first
   | exact wpAny_pure hQ
   | (cases u <;> first
       | exact wpAny_pure hQ
       | (refine wpAny_bind (wpAny_load ho ?_)
          rw [hc, hd]
          show wpAny M A (if (["enumerate", "zip", "dict_itemiterator", "dict_reverseitemiterator", "odict_iterator", "itertools.zip_longest", "itertools.pairwise"].contains n && vs[0]? == some (rawInt _)) = true then _ else _) Q E s
          rw [if_neg (by intro h; rw [hn, Bool.false_and] at h; cases h)]
          exact wpAny_pure hQ))
noncomputable def Itl (K : PySem.W.Frag) (a : Addr) : It :=
 ⟨fun i H => ∃ xs x, SqL K H a xs ∧ xs[i]? = some x, fun i H x H' => H' = H ∧ ∀ xs, SqL K H a xs → xs[i]? = some x, fun i H => ∃ xs, SqL K H a xs ∧ xs.length ≤ i⟩
noncomputable def Itt (K : PySem.W.Frag) (a : Addr) : It :=
 ⟨fun i H => ∃ xs x, SqT K H a xs ∧ xs[i]? = some x, fun i H x H' => H' = H ∧ ∀ xs, SqT K H a xs → xs[i]? = some x, fun i H => ∃ xs, SqT K H a xs ∧ xs.length ≤ i⟩
noncomputable def Itr (lo : Int) (n : Nat) : It := ⟨fun i _ => i < n, fun i H x H' => H' = H ∧ x = .int (lo + i), fun i _ => n ≤ i⟩
theorem turn_list {P : Program} {w : World} {K : PySem.W.Frag} {tg : Expr} (a it : Addr) : Turn P w K tg (Itl K a) [it] it (fun i h => h.IsListIter it a i) where
 mem := by simp
 obj := fun i h st b hb => by
   have e : b = it := by simpa using hb
   subst e
   obtain ⟨o, e, c, d⟩ := st
   exact ⟨o, e, fun v z => by rw [d] at z; cases z⟩
 keep := fun i h h' st k => st.at fun o e => k it (by simp) o e
 item := by
   intro X hP hw hK hc i pins s σ H E I hf st hg
   subst hP hw hK
   obtain ⟨xs, x, hq, hx⟩ := hg
   obtain ⟨its, rv, p, hz⟩ := I.list hq
   obtain ⟨u, hu, ru⟩ := rv.get hx
   obtain ⟨f0, f1, f2, f3, f4, f5⟩ := hf it (by simp)
   refine wpAny_pyNext_list_item st p.isList (x := u) (by simpa using hu) fun h' st' sb => ?_
   have I1 : Inv X pins σ H { s with heap := h' } := I.turned (t' := s.toks) (fun b o hb e => (sb.2 b hb).trans e) f0 f1 f3 f4 f5
   obtain ⟨o, e, c, d⟩ := id st'
   exact ⟨u, rfl, go_of (s := { s with heap := h' }) e c d (by decide) ⟨x, H, I1, ru, ⟨rfl, fun ys hy => by rw [I.list_inj hy hq]; exact hx⟩, st', fun b hb => (hf b hb).1⟩⟩
 done := by
   intro X hP hw hK hc i pins s σ H E I hf st hg
   subst hP hw hK
   obtain ⟨xs, hq, hx⟩ := hg
   obtain ⟨its, rv, p, hz⟩ := I.list hq
   obtain ⟨f0, f1, f2, f3, f4, f5⟩ := hf it (by simp)
   have hl := rv.length
   exact wpAny_pyNext_list_end (I.ok.hd hc) st p.isList (by simp; lia) fun h' eb => ⟨rfl, I.turned (t' := s.toks) (fun b o hb e => eb b o hb e) f0 f1 f3 f4 f5⟩
 self := fun _ _ _ _ _ st h => wpAny_pyIter_listiter st h
theorem turn_tuple {P : Program} {w : World} {K : PySem.W.Frag} {tg : Expr} (a it : Addr) : Turn P w K tg (Itt K a) [it] it (fun i h => h.IsTupleIter it a i) where
 mem := by simp
 obj := fun i h st b hb => by
   have e : b = it := by simpa using hb
   subst e
   obtain ⟨o, e, c, d⟩ := st
   exact ⟨o, e, fun v z => by rw [d] at z; cases z⟩
 keep := fun i h h' st k => st.at fun o e => k it (by simp) o e
 item := by
   intro X hP hw hK hc i pins s σ H E I hf st hg
   subst hP hw hK
   obtain ⟨xs, x, hq, hx⟩ := hg
   obtain ⟨its, rv, p, hz⟩ := I.tuple hq
   obtain ⟨u, hu, ru⟩ := rv.get hx
   obtain ⟨f0, f1, f2, f3, f4, f5⟩ := hf it (by simp)
   refine wpAny_pyNext_tuple_item st (show s.heap.IsTuple a its.toArray from p) (x := u) (by simpa using hu) fun h' st' sb => ?_
   have I1 : Inv X pins σ H { s with heap := h' } := I.turned (t' := s.toks) (fun b o hb e => (sb.2 b hb).trans e) f0 f1 f3 f4 f5
   obtain ⟨o, e, c, d⟩ := id st'
   exact ⟨u, rfl, go_of (s := { s with heap := h' }) e c d (by decide) ⟨x, H, I1, ru, ⟨rfl, fun ys hy => by rw [I.tuple_inj hy hq]; exact hx⟩, st', fun b hb => (hf b hb).1⟩⟩
 done := by
   intro X hP hw hK hc i pins s σ H E I hf st hg
   subst hP hw hK
   obtain ⟨xs, hq, hx⟩ := hg
   obtain ⟨its, rv, p, hz⟩ := I.tuple hq
   obtain ⟨f0, f1, f2, f3, f4, f5⟩ := hf it (by simp)
   have hl := rv.length
   exact wpAny_pyNext_tuple_end (I.ok.hd hc) st (show s.heap.IsTuple a its.toArray from p) (by simp; lia) fun h' eb => ⟨rfl, I.turned (t' := s.toks) (fun b o hb e => eb b o hb e) f0 f1 f3 f4 f5⟩
 self := fun _ _ _ _ _ st h => wpAny_pyIter_tupleiter st h
theorem turn_range {P : Program} {w : World} {K : PySem.W.Frag} {tg : Expr} (it : Addr) (lo : Int) (n : Nat) : Turn P w K tg (Itr lo n) [it] it (fun i h => IsRangeIter h it (lo + (i : Nat) * 1) ((n : Int) - (i : Nat)) 1) where
 mem := by simp
 obj := fun i h st b hb => by
   have e : b = it := by simpa using hb
   subst e
   exact ⟨_, st, fun v z => by
     have z' : Data.fields _ = Data.cell v := z
     cases z'⟩
 keep := fun i h h' st k => k it (by simp) _ st
 item := by
   intro X hP hw hK hc i pins s σ H E I hf st hg
   subst hP hw hK
   obtain ⟨f0, f1, f2, f3, f4, f5⟩ := hf it (by simp)
   have W := Walks.range (prog := X.prog) (w := X.w) (I.ok.hd hc) it lo 1 n
   refine W.item i s _ _ hg st fun v h' tk hv st' kk => ?_
   obtain ⟨t, rfl⟩ := hv
   have I1 : Inv X pins σ H { s with heap := h', toks := tk } := I.turned (fun b o hb e => kk b o (by simpa using hb) e) f0 f1 f3 f4 f5
   refine ⟨_, rfl, go_of (s := { s with heap := h', toks := tk }) (n := "range_iterator") st' rfl rfl (by decide) ⟨.int (lo + i), H, I1, ⟨t, ?_⟩, ⟨rfl, rfl⟩, st', fun b hb => (hf b hb).1⟩⟩
   rw [Int.mul_one]
 done := by
   intro X hP hw hK hc i pins s σ H E I hf st hg
   subst hP hw hK
   obtain ⟨f0, f1, f2, f3, f4, f5⟩ := hf it (by simp)
   exact wpAny_pyNext_range_end (I.ok.hd hc) st (by have : n ≤ i := hg; lia) fun h' eb => ⟨rfl, I.turned (t' := s.toks) (fun b o hb e => eb b o hb e) f0 f1 f3 f4 f5⟩
 self := fun _ _ _ _ _ st h => wpAny_pyIter_rangeiter st h
end L2
namespace L2
open PySem PySem.Spec PyProof.Rows
section
variable {X : Cx} {tg : Expr}
theorem range_it {pins : List (Addr × Obj)} {σ : St} {H : Hp} {s : Shared} {R : It → Hp → Prop} {E : Value → Shared → Prop} {lo hi : Int} {t u v : Tok} {tk : Nat} (I : Inv X pins σ H s) (h1 : -(2 ^ 62) ≤ lo) (h2 : lo < 2 ^ 62) (h3 : -(2 ^ 62) ≤ hi) (h4 : hi < 2 ^ 62)
   (q : R (Itr lo (hi - lo).toNat) H) : wpAny (model X.prog X.w) X.A (pyIter (.ref s.heap.objs.size)) (PIE X pins σ tg R) E { s with heap := s.heap.push { cls := .type "range", data := .fields #[.int lo t, .int hi u, .int 1 v] }, toks := tk } := by
 refine wpAny_pyIter_range (IsRange.new ..) (small_one h1 h2 h3 h4) ?_
 have I1 : Inv X pins σ H { s with heap := s.heap.push { cls := .type "range", data := .fields #[.int lo t, .int hi u, .int 1 v] }, toks := tk } := I.kept fun b o e => Heap.get?_push_of_some _ e
 refine ⟨(s.heap.push { cls := .type "range", data := .fields #[.int lo t, .int hi u, .int 1 v] }).objs.size, [(s.heap.push { cls := .type "range", data := .fields #[.int lo t, .int hi u, .int 1 v] }).objs.size], _, _, H, rfl,
   I1.kept (t' := tk) fun b o e => Heap.get?_push_of_some _ e, turn_range _ lo (hi - lo).toNat, ?_, fun b hb => ?_, q⟩
 · have e1 : lo + ((0 : Nat) : Int) * 1 = lo := by simp
   have e2 : (((hi - lo).toNat : Nat) : Int) - ((0 : Nat) : Int) = Builtin.Range.rangeSize lo hi 1 := by rw [rangeSize_one]; split <;> lia
   show IsRangeIter _ _ (lo + ((0 : Nat) : Int) * 1) ((((hi - lo).toNat : Nat) : Int) - ((0 : Nat) : Int)) 1
   rw [e1, e2]
   exact Heap.get?_push_size _ rfl
 · have e : b = (s.heap.push { cls := .type "range", data := .fields #[.int lo t, .int hi u, .int 1 v] }).objs.size := by simpa using hb
   subst e
   exact I1.fpOk (Nat.le_refl _) (I1.hok.fresh (Nat.le_refl _))
noncomputable def iRng1 (ta : TA) : TI := fun σ H R => ta σ H fun vs H1 => ∃ j : Int, vs = [.int j] ∧ -(2 ^ 62) ≤ j ∧ j < 2 ^ 62 ∧ R (Itr 0 j.toNat) H1
noncomputable def iRng2 (ta : TA) : TI := fun σ H R => ta σ H fun vs H1 => ∃ i j : Int, vs = [.int i, .int j] ∧ (-(2 ^ 62) ≤ i ∧ i < 2 ^ 62 ∧ -(2 ^ 62) ≤ j ∧ j < 2 ^ 62) ∧ R (Itr i (j - i).toNat) H1
theorem pi_range1 {a : Expr} {ta : TA} {p pos : Pos} (hg : Gl X "range") (hm : X.mg "range" = none) (ha : PA X [a] ta) (hs : starEach [a] X.env = [(false, eval a X.env)] := by rfl) : PI X tg (.Call (.Name "range" p) [a] [] pos) (iRng1 ta) := by
 intro pins s σ H R I h
 refine Call_ (ld_blt I hg hm boot_range (PyProof.Rows.callWith_type1 (thn (ha pos pins s σ H _ I h) fun us s1 ⟨vs, H1, I1, r1, q1⟩ => ?_) hs rfl))
 obtain ⟨j, e, q1, q2, q⟩ := q1
 subst e
 cases r1 with
 | cons r rr =>
   cases rr
   obtain ⟨t, rfl⟩ := r
   exact call_range_1 (range_it I1 (by lia) (by lia) q1 q2 (by simpa using q))
theorem pi_range2 {a b : Expr} {ta : TA} {p pos : Pos} (hg : Gl X "range") (hm : X.mg "range" = none) (ha : PA X [a, b] ta) (hs : starEach [a, b] X.env = [(false, eval a X.env), (false, eval b X.env)] := by rfl) (hs2 : starEach [b] X.env = [(false, eval b X.env)] := by rfl) :
   PI X tg (.Call (.Name "range" p) [a, b] [] pos) (iRng2 ta) := by
 intro pins s σ H R I h
 refine Call_ (ld_blt I hg hm boot_range (PyProof.Rows.callWith_type1 (thn (ha pos pins s σ H _ I h) fun us s1 ⟨vs, H1, I1, r1, q1⟩ => ?_) (by rw [hs, hs2]) (by rw [hs2]; rfl)))
 obtain ⟨i, j, e, ⟨q1, q2, q3, q4⟩, q⟩ := q1
 subst e
 cases r1 with
 | cons r rr =>
   cases rr with
   | cons r' rr =>
     cases rr
     obtain ⟨t, rfl⟩ := r
     obtain ⟨t', rfl⟩ := r'
     exact call_range_2 (range_it I1 q1 q2 q3 q4 q)
noncomputable def tFor (wi : TI) (g : TG) (tb : TS) : TS := fun D σ H => wi σ H fun J H1 => ∃ W : Nat → Nat → St → Hp → Prop, (∃ m, W 0 m σ H1) ∧ ∀ i m σ H, W i m σ H →
 (J.stop i H ∧ D.nx σ H) ∨ (J.go i H ∧ ∃ N : St → Hp → Prop, (∀ σ' H', N σ' H' → ∃ m', m' < m ∧ W (i + 1) m' σ' H') ∧ ∀ x H', J.yld i H x H' → g x σ H' fun σ2 H2 => tb { D with nx := N, ct := N, bk := D.nx } σ2 H2)
noncomputable def pinsAt (fp : List Addr) (h : Heap) : List (Addr × Obj) := fp.filterMap fun b => (h.get? b).map fun o => (b, o)
theorem mem_pinsAt {fp : List Addr} {h : Heap} {b : Addr} {o : Obj} (hb : b ∈ fp) (e : h.get? b = some o) : (b, o) ∈ pinsAt fp h := List.mem_filterMap.mpr ⟨b, hb, by rw [e]; rfl⟩
theorem of_pinsAt {fp : List Addr} {h : Heap} {p : Addr × Obj} (hp : p ∈ pinsAt fp h) : p.1 ∈ fp ∧ h.get? p.1 = some p.2 := by
 obtain ⟨b, hb, e⟩ := List.mem_filterMap.mp hp
 cases q : h.get? b with
 | none => rw [q] at e; cases e
 | some o =>
   rw [q] at e
   have e' : (b, o) = p := Option.some.inj e
   subst e'
   exact ⟨hb, q⟩
theorem Inv.pinned {pins : List (Addr × Obj)} {σ : St} {H : Hp} {s : Shared} {fp : List Addr} (I : Inv X pins σ H s) (hf : ∀ b ∈ fp, FpOk X pins H b) (ho : ∀ b ∈ fp, ∃ o, s.heap.get? b = some o ∧ ∀ v, o.data ≠ .cell v) : Inv X (pins ++ pinsAt fp s.heap) σ H s :=
 I.pins_of fun p hp => (List.mem_append.mp hp).elim (fun z => I.pin p (List.mem_append_right _ z)) fun z => by
   obtain ⟨hb, e⟩ := of_pinsAt z
   obtain ⟨f0, f1, f2, _⟩ := hf p.1 hb
   obtain ⟨o, e', d⟩ := ho p.1 hb
   rw [e] at e'; cases e'
   exact ⟨e, f0, f1, f2, d⟩
theorem Inv.unpinned {pins pl : List (Addr × Obj)} {σ : St} {H : Hp} {s : Shared} (I : Inv X (pins ++ pl) σ H s) : Inv X pins σ H s := I.pins_of fun p hp => I.pin p (List.mem_append_right _ (List.mem_append_left _ hp))
theorem ps_for {iter : Expr} {body : List Stmt} {wi : TI} {g : TG} {tb : TS} {pos : Pos} (hp : PassesOwn (model X.prog X.w) X.A X.env X.xe) (hc : X.calm = true) (hi : PI X tg iter wi) (hg : PG X tg g) (hb : PSs X body tb)
   (hs : ∀ x, foldedSetIterable iter X.env x = pure x := by intro _; rfl) : PS X (.For tg iter body [] pos) (tFor wi g tb) := by
 intro pins s σ H D I h
 refine wpAny_For (thn (hi pins s σ H _ I h) fun v s1 h1 => thn h1 fun itv s2 h2 => ?_) hs
 obtain ⟨it, fp, tn, J, H2, e, I2, T, st2, f2, W, ⟨m0, w0⟩, turn⟩ := h2
 subst e
 -- what stays true of the iterator's objects through the loop
 have stat : ∀ {H' : Hp}, (∀ b ∈ fp, H' b = none) → ∀ b ∈ fp, FpOk X pins H' b := fun hn b hb => ⟨hn b hb, (f2 b hb).2⟩
 refine codeAny_forLoop_any (fun n s' => ∃ i σ' H', Inv X pins σ' H' s' ∧ tn i s'.heap ∧ (∀ b ∈ fp, H' b = none) ∧ W i n σ' H') ?_ m0 ⟨0, σ, H2, I2, st2, fun b hb => (f2 b hb).1, w0⟩
 rintro n s3 ⟨i, σ3, H3, I3, st3, fr3, w3⟩
 rcases turn i n σ3 H3 w3 with ⟨stop, qn⟩ | ⟨go, N, hN, step⟩
 · refine wpAny_passesOwn hp (thn (T.done X rfl rfl rfl hc i pins s3 σ3 H3 X.xe I3 (stat fr3) st3 stop) fun r s4 ⟨hr, I4⟩ => ?_)
   subst hr
   exact wpAny_execs_nil ⟨σ3, H3, I4, qn⟩
 · refine wpAny_passesOwn hp (thn (T.item X rfl rfl rfl hc i pins s3 σ3 H3 X.xe I3 (stat fr3) st3 go) fun r s4 ⟨u, hr, h4⟩ => ?_)
   subst hr
   refine wpAny_passesOwn hp (thn h4 fun _ s5 ⟨x, H5, I5, r5, y5, st5, fr5⟩ => ?_)
   have I5' := I5.pinned (stat fr5) (T.obj _ _ st5)
   refine wpAny_passesOwn hp (thn (hg _ s5 σ3 H5 x u _ I5' r5 (step x H5 y5)) fun _ s6 ⟨σ6, H6, I6, q6⟩ => ?_)
   refine wpAny_passesOwn hp (thn (hb _ s6 σ6 H6 _ I6 q6) fun f s7 q7 => ?_)
   have again : ∀ {σ7 : St} {H7 : Hp}, Inv X (pins ++ pinsAt fp s5.heap) σ7 H7 s7 → N σ7 H7 → ∃ m, m < n ∧ ∃ i σ' H', Inv X pins σ' H' s7 ∧ tn i s7.heap ∧ (∀ b ∈ fp, H' b = none) ∧ W i m σ' H' := fun {σ7 H7} I7 n7 => by
     obtain ⟨m', hm, w7⟩ := hN σ7 H7 n7
     refine ⟨m', hm, i + 1, σ7, H7, I7.unpinned, T.keep _ _ _ st5 fun b hb o e => (I7.pin (b, o) (List.mem_append_right _ (List.mem_append_right _ (mem_pinsAt hb e)))).1, fun b hb => ?_, w7⟩
     obtain ⟨o, e, d⟩ := T.obj _ _ st5 b hb
     exact (I7.pin (b, o) (List.mem_append_right _ (List.mem_append_right _ (mem_pinsAt hb e)))).2.1
   cases f with
   | next => obtain ⟨σ7, H7, I7, n7⟩ := q7; exact again I7 n7
   | cont => obtain ⟨σ7, H7, I7, n7⟩ := q7; exact again I7 n7
   | brk => obtain ⟨σ7, H7, I7, q7⟩ := q7; exact ⟨σ7, H7, I7.unpinned, q7⟩
   | ret v => obtain ⟨x7, σ7, H7, I7, r7, q7⟩ := q7; exact ⟨x7, σ7, H7, I7.unpinned, r7, q7⟩
end
end L2
namespace L2
open PySem PySem.Spec PyProof.Rows
noncomputable abbrev R2 := V → V → Hp → VK → Prop
noncomputable def OpR (X : Cx) (f : Value → Value → Sem Value) (r : R2) : Prop :=
 ∀ (pins : List (Addr × Obj)) (s : Shared) (σ : St) (H : Hp) (x y : V) (v u : Value) (Q : VK), Inv X pins σ H s → RelV x v → RelV y u → r x y H Q →
   wpAny (model X.prog X.w) X.A (f v u) (EP X pins σ Q) X.xe s
noncomputable def UnR (X : Cx) (f : Value → Sem Value) (r : V → Hp → VK → Prop) : Prop :=
 ∀ (pins : List (Addr × Obj)) (s : Shared) (σ : St) (H : Hp) (x : V) (v : Value) (Q : VK), Inv X pins σ H s → RelV x v → r x H Q →
   wpAny (model X.prog X.w) X.A (f v) (EP X pins σ Q) X.xe s
noncomputable def CallR (X : Cx) (f : Value) (r : List V → Hp → VK → Prop) : Prop :=
 ∀ (pins : List (Addr × Obj)) (s : Shared) (σ : St) (H : Hp) (xs : List V) (us : List Value) (Q : VK), Inv X pins σ H s → Vals xs us → r xs H Q →
   wpAny (model X.prog X.w) X.A (call f us) (EP X pins σ Q) X.xe s
noncomputable def TruR (X : Cx) (r : V → Hp → (Bool → Hp → Prop) → Prop) : Prop :=
 ∀ (pins : List (Addr × Obj)) (s : Shared) (σ : St) (H : Hp) (x : V) (v : Value) (Q : Bool → Hp → Prop), Inv X pins σ H s → RelV x v → r x H Q →
   wpAny (model X.prog X.w) X.A (truthy v) (TP X pins σ Q) X.xe s
noncomputable def tOp (r : R2) (ta tb : TE) : TE := fun σ H Q => ta σ H fun x H1 => tb σ H1 fun y H2 => r x y H2 Q
noncomputable def tUn (r : V → Hp → VK → Prop) (ta : TE) : TE := fun σ H Q => ta σ H fun x H1 => r x H1 Q
noncomputable def rI (C : Int → Int → Prop) (g : Int → Int → V) : R2 := fun x y H Q => ∃ i j, x = .int i ∧ y = .int j ∧ C i j ∧ Q (g i j) H
noncomputable def rI0 (g : Int → Int → V) : R2 := fun x y H Q => ∃ i j, x = .int i ∧ y = .int j ∧ Q (g i j) H
noncomputable def rU (g : Int → V) : V → Hp → VK → Prop := fun x H Q => ∃ i, x = .int i ∧ Q (g i) H
section
variable {X : Cx} {a b c : Expr} {ta tb tc : TE} {pos : Pos}
theorem binT (ha : PE X a ta) (hb : PE X b tb) {pins : List (Addr × Obj)} {s : Shared} {σ : St} {H : Hp} {R : V → V → Hp → Prop} (I : Inv X pins σ H s)
   (h : ta σ H fun x H1 => tb σ H1 fun y H2 => R x y H2) {Q : Value → Shared → Prop} {f : Value → Value → Sem Value}
   (hf : ∀ v u s2 x y H2, Inv X pins σ H2 s2 → RelV x v → RelV y u → R x y H2 → wpAny (model X.prog X.w) X.A (f v u) Q X.xe s2) :
   wpAny (model X.prog X.w) X.A (eval a X.env) (fun v s₁ => wpAny (model X.prog X.w) X.A (eval b X.env) (fun u s₂ => wpAny (model X.prog X.w) X.A (f v u) Q X.xe s₂) X.xe s₁) X.xe s := by
 refine thn (ha pins s σ H _ I h) fun v s1 ⟨x, H1, I1, r1, q1⟩ => ?_
 refine thn (hb pins s1 σ H1 _ I1 q1) fun u s2 ⟨y, H2, I2, r2, q2⟩ => ?_
 exact hf v u s2 x y H2 I2 r1 r2 q2
theorem pe_op {op : Operator} {r : R2} (ho : OpR X (binaryOp op) r) (ha : PE X a ta) (hb : PE X b tb) : PE X (.BinOp a op b pos) (tOp r ta tb) := by
 intro pins s σ H Q I h
 exact wpAny_BinOp (binT ha hb I h fun v u s2 x y H2 I2 rx ry q => ho pins s2 σ H2 x y v u Q I2 rx ry q)
theorem pe_un {op : UnaryOp} {r : V → Hp → VK → Prop} (ho : UnR X (unaryOp op) r) (ha : PE X a ta) : PE X (.UnaryOp op a pos) (tUn r ta) := by
 intro pins s σ H Q I h
 exact UnaryOp_ (thn (ha pins s σ H _ I h) fun v s1 ⟨x, H1, I1, r1, q1⟩ => ho pins s1 σ H1 x v Q I1 r1 q1)
theorem opI {f : Value → Value → Sem Value} {C : Int → Int → Prop} {g : Int → Int → Int}
   (rule : ∀ (i j : Int) (t u : Tok) (s : Shared) (Q : Value → Shared → Prop) (E : Value → Shared → Prop), C i j → Q (.int (g i j) s.toks) { s with toks := s.toks + 1 } → wpAny (model X.prog X.w) X.A (f (.int i t) (.int j u)) Q E s) :
   OpR X f (rI C fun i j => .int (g i j)) := by
 intro pins s σ H x y v u Q I rx ry h
 obtain ⟨i, j, rfl, rfl, hc, q⟩ := h
 obtain ⟨t, rfl⟩ := rx
 obtain ⟨t', rfl⟩ := ry
 exact rule i j t t' s _ _ hc ⟨.int (g i j), H, I.tok _, ⟨_, rfl⟩, q⟩
theorem opI0 {f : Value → Value → Sem Value} {g : Int → Int → Int}
   (rule : ∀ (i j : Int) (t u : Tok) (s : Shared) (Q : Value → Shared → Prop) (E : Value → Shared → Prop), Q (.int (g i j) s.toks) { s with toks := s.toks + 1 } → wpAny (model X.prog X.w) X.A (f (.int i t) (.int j u)) Q E s) :
   OpR X f (rI0 fun i j => .int (g i j)) := by
 intro pins s σ H x y v u Q I rx ry h
 obtain ⟨i, j, rfl, rfl, q⟩ := h
 obtain ⟨t, rfl⟩ := rx
 obtain ⟨t', rfl⟩ := ry
 exact rule i j t t' s _ _ ⟨.int (g i j), H, I.tok _, ⟨_, rfl⟩, q⟩
theorem opB0 {f : Value → Value → Sem Value} {g : Int → Int → Bool}
   (rule : ∀ (i j : Int) (t u : Tok) (s : Shared) (Q : Value → Shared → Prop) (E : Value → Shared → Prop), Q (.bool (g i j)) s → wpAny (model X.prog X.w) X.A (f (.int i t) (.int j u)) Q E s) :
   OpR X f (rI0 fun i j => .bl (g i j)) := by
 intro pins s σ H x y v u Q I rx ry h
 obtain ⟨i, j, rfl, rfl, q⟩ := h
 obtain ⟨t, rfl⟩ := rx
 obtain ⟨t', rfl⟩ := ry
 exact rule i j t t' s _ _ ⟨.bl (g i j), H, I, rfl, q⟩
noncomputable def CPow (i j : Int) : Prop := 0 ≤ j ∧ j ≤ 1000000 ∧ i.natAbs < 2 ^ 64
noncomputable def CMul (i j : Int) : Prop := (-(2 ^ 64) < i ∧ i < 2 ^ 64) ∨ (-(2 ^ 64) < j ∧ j < 2 ^ 64)
theorem CMul.ok {i j : Int} (h : CMul i j) : IntMulOk i j := by
 rcases h with ⟨h1, h2⟩ | ⟨h1, h2⟩
 · exact .of_left (intBits_le_64 h1 h2)
 · exact .of_right (intBits_le_64 h1 h2)
theorem op_add : OpR X (binaryOp .Add) (rI0 fun i j => .int (i + j)) := opI0 fun _ _ _ _ _ _ _ q => add_int q
theorem op_sub : OpR X (binaryOp .Sub) (rI0 fun i j => .int (i - j)) := opI0 fun _ _ _ _ _ _ _ q => sub_int q
theorem op_mul : OpR X (binaryOp .Mult) (rI CMul fun i j => .int (i * j)) := opI fun _ _ _ _ _ _ _ hc q => mul_int q hc.ok
theorem op_mod : OpR X (binaryOp .Mod) (rI (fun _ j => 0 < j) fun i j => .int (i % j)) := opI fun i j _ _ _ _ _ hc q => by
 have h1 : (0 : Int) < j := hc
 exact mod_int' (by lia) (by rw [Int.fmod_eq_emod_of_nonneg i (by lia)]; exact q)
theorem op_pow : OpR X (binaryOp .Pow) (rI CPow fun i j => .int (i ^ j.toNat)) := opI fun _ _ _ _ _ _ _ hc q => pow_int_small hc.1 hc.2.1 hc.2.2 q
theorem unI {f : Value → Sem Value} {g : Int → Int}
   (rule : ∀ (i : Int) (t : Tok) (s : Shared) (Q : Value → Shared → Prop) (E : Value → Shared → Prop), Q (.int (g i) s.toks) { s with toks := s.toks + 1 } → wpAny (model X.prog X.w) X.A (f (.int i t)) Q E s) :
   UnR X f (rU fun i => .int (g i)) := by
 intro pins s σ H x v Q I rx h
 obtain ⟨i, rfl, q⟩ := h
 obtain ⟨t, rfl⟩ := rx
 exact rule i t s _ _ ⟨.int (g i), H, I.tok _, ⟨_, rfl⟩, q⟩
theorem un_neg : UnR X (unaryOp .USub) (rU fun i => .int (-i)) := unI fun _ _ _ _ _ q => neg_int q
end
section
variable {X : Cx} {a b c : Expr} {ta tb tc : TE} {pos : Pos}
theorem op_lt : OpR X (compareOp .Lt) (rI0 fun i j => .bl (decide (i < j))) := opB0 fun _ _ _ _ _ _ _ q => lt_int q
theorem op_le : OpR X (compareOp .LtE) (rI0 fun i j => .bl (decide (i ≤ j))) := opB0 fun _ _ _ _ _ _ _ q => le_int q
theorem op_gt : OpR X (compareOp .Gt) (rI0 fun i j => .bl (decide (j < i))) := opB0 fun _ _ _ _ _ _ _ q => gt_int q
theorem op_ge : OpR X (compareOp .GtE) (rI0 fun i j => .bl (decide (j ≤ i))) := opB0 fun _ _ _ _ _ _ _ q => ge_int q
theorem nomark (b : Expr) {op : CmpOp} (h : op ≠ .In := by decide) (h2 : op ≠ .NotIn := by decide) : behindInMarks op b = false := by
 have e1 : (op == CmpOp.In) = false := by cases op <;> first | rfl | exact absurd rfl h
 have e2 : (op == CmpOp.NotIn) = false := by cases op <;> first | rfl | exact absurd rfl h2
 cases b <;> simp [behindInMarks, e1, e2]
theorem pe_cmpR {op : CmpOp} {r : R2} (ho : OpR X (compareOp op) r) (ha : PE X a ta) (hb : PE X b tb) (hm : behindInMarks op b = false) : PE X (.Compare a [op] [b] pos) (tOp r ta tb) := by
 intro pins s σ H Q I h
 exact wpAny_Compare1 (binT ha hb I h fun v u s2 x y H2 I2 rx ry q => ho pins s2 σ H2 x y v u Q I2 rx ry q) hm
noncomputable def tTest (t : TE) : TT := fun σ H Q => t σ H fun x H' => ∃ k, x = .bl k ∧ Q k H'
theorem pt_cmpR {op : CmpOp} {r : R2} (ho : OpR X (compareOp op) r) (ha : PE X a ta) (hb : PE X b tb) (hm : behindInMarks op b = false) : PT X (.Compare a [op] [b] pos) (tTest (tOp r ta tb)) := by
 intro pins s σ H Q I h
 refine wpAny_isTrue_Compare1 (thn (ha pins s σ H _ I h) fun v s1 ⟨x, H1, I1, r1, q1⟩ => thn (hb pins s1 σ H1 _ I1 q1) fun u s2 ⟨y, H2, I2, r2, q2⟩ =>
   thn (ho pins s2 σ H2 x y v u _ I2 r1 r2 q2) fun c s3 ⟨z, H3, I3, r3, k, e, q3⟩ => ?_) hm
 subst e
 cases r3
 exact wpAny_truthy_bool ⟨H3, I3, q3⟩
noncomputable def tChain (r r' : R2) (ta tb tc : TE) : TE := fun σ H Q => ta σ H fun x H1 => tb σ H1 fun y H2 => r x y H2 fun z H3 => ∃ k, z = .bl k ∧
 (if k = true then tc σ H3 fun w' H4 => r' y w' H4 Q else Q (.bl false) H3)
theorem pe_chain {op op' : CmpOp} {r r' : R2} (ho : OpR X (compareOp op) r) (ho' : OpR X (compareOp op') r') (ha : PE X a ta) (hb : PE X b tb) (hc : PE X c tc)
   (hm : lastMarks [op, op'] [b, c] = false := by with_unfolding_all rfl) : PE X (.Compare a [op, op'] [b, c] pos) (tChain r r' ta tb tc) := by
 intro pins s σ H Q I h
 refine Compare_chain (thn (ha pins s σ H _ I h) fun v s1 ⟨x, H1, I1, r1, q1⟩ => chain_link (thn (hb pins s1 σ H1 _ I1 q1) fun u s2 ⟨y, H2, I2, r2, q2⟩ =>
   thn (ho pins s2 σ H2 x y v u _ I2 r1 r2 q2) fun d s3 ⟨z, H3, I3, r3, k, e, q3⟩ => ?_)) hm
 subst e
 cases r3
 refine wpAny_truthy_bool ?_
 cases k with
 | false => exact ite_ff ⟨.bl false, H3, I3, rfl, q3⟩
 | true => exact ite_tt (chain_last (thn (hc pins s3 σ H3 _ I3 q3) fun w' s4 ⟨z', H4, I4, r4, q4⟩ => ho' pins s4 σ H4 y z' u w' Q I4 r2 r4 q4))
theorem pt_chain {op op' : CmpOp} {r r' : R2} (ho : OpR X (compareOp op) r) (ho' : OpR X (compareOp op') r') (ha : PE X a ta) (hb : PE X b tb) (hc : PE X c tc)
   (hm : lastMarks [op, op'] [b, c] = false := by with_unfolding_all rfl) : PT X (.Compare a [op, op'] [b, c] pos) (tTest (tChain r r' ta tb tc)) := by
 intro pins s σ H Q I h
 refine isTrue_chain (thn (ha pins s σ H _ I h) fun v s1 ⟨x, H1, I1, r1, q1⟩ => test_link (thn (hb pins s1 σ H1 _ I1 q1) fun u s2 ⟨y, H2, I2, r2, q2⟩ =>
   thn (ho pins s2 σ H2 x y v u _ I2 r1 r2 q2) fun d s3 ⟨z, H3, I3, r3, k, e, q3⟩ => ?_)) hm
 subst e
 cases r3
 refine wpAny_truthy_bool ?_
 cases k with
 | false =>
   obtain ⟨k', e', q'⟩ := q3
   cases e'
   exact ite_ff ⟨H3, I3, q'⟩
 | true =>
   refine ite_tt (test_last (thn (hc pins s3 σ H3 _ I3 q3) fun w' s4 ⟨z', H4, I4, r4, q4⟩ => thn (ho' pins s4 σ H4 y z' u w' _ I4 r2 r4 q4) fun d' s5 ⟨z2, H5, I5, r5, k2, e2, q5⟩ => ?_))
   subst e2
   cases r5
   exact wpAny_truthy_bool ⟨H5, I5, q5⟩
noncomputable def TruV (K : PySem.W.Frag) (x : V) (H : Hp) (k : Bool) : Prop :=
 match x with
 | .non => k = false
 | .bl b => k = b
 | .int i => k = (i != 0)
 | .str y => y.length ≤ sizeLine ∧ k = ((y.length : Int) != 0)
 | .byt y => y.size ≤ sizeLine ∧ k = ((y.size : Int) != 0)
 | .ref p => (∃ xs, SqL K H p xs ∧ k = !xs.isEmpty) ∨ (∃ xs, SqT K H p xs ∧ k = !xs.isEmpty) ∨ ∃ kvs, H p = some (.dK kvs) ∧ k = !kvs.isEmpty
 | _ => False
theorem isEmpty_kv {κ : Type} {kvs : List (κ × V)} {vs : List (κ × Value)} (r : KV kvs vs) : (!vs.isEmpty) = !kvs.isEmpty := by
 cases r <;> rfl
theorem isEmpty_of {xs : List V} {its : List Value} (r : Vals xs its) : (!its.toArray.isEmpty) = !xs.isEmpty := by
 cases r <;> simp
theorem line63 : (sizeLine : Nat) < 2 ^ 63 := by rw [sizeLine_eq]; decide
theorem tru_ok : TruR X (fun x H Q => ∃ k, TruV X.K x H k ∧ Q k H) := by
 intro pins s σ H x v Q I rx h
 obtain ⟨k, e, q⟩ := h
 have hl := line63
 have hs : sizeLine = 16777216 := sizeLine_eq
 cases x with
 | non =>
   cases rx
   have e' : k = false := e
   subst e'
   exact truthy_none ⟨H, I, q⟩
 | bl b =>
   cases rx
   have e' : k = b := e
   subst e'
   exact wpAny_truthy_bool ⟨H, I, q⟩
 | int i =>
   obtain ⟨t, rfl⟩ := rx
   have e' : k = (i != 0) := e
   subst e'
   exact PySem.P.truthy_int ⟨H, I, q⟩
 | str y =>
   obtain ⟨t, rfl⟩ := rx
   obtain ⟨hy, e'⟩ : y.length ≤ sizeLine ∧ k = ((y.length : Int) != 0) := e
   subst e'
   exact PySem.P.truthy_str (by lia) ⟨H, I.tok _, q⟩
 | byt y =>
   obtain ⟨t, rfl⟩ := rx
   obtain ⟨hy, e'⟩ : y.size ≤ sizeLine ∧ k = ((y.size : Int) != 0) := e
   subst e'
   exact PySem.W.truthy_bytes (by lia) ⟨H, I.tok _, q⟩
 | ref p =>
   cases rx
   have e' : (∃ xs, SqL X.K H p xs ∧ k = !xs.isEmpty) ∨ (∃ xs, SqT X.K H p xs ∧ k = !xs.isEmpty) ∨ ∃ kvs, H p = some (.dK kvs) ∧ k = !kvs.isEmpty := e
   rcases e' with ⟨xs, hx, e'⟩ | ⟨xs, hx, e'⟩ | ⟨kvs, hx, e'⟩
   · subst e'
     obtain ⟨its, r, pl, hz⟩ := I.list hx
     have hlen := r.length
     exact wpAny_truthy_list pl.isList (by simp only [List.size_toArray]; lia) ⟨H, I.tok _, by rw [isEmpty_of r]; exact q⟩
   · subst e'
     obtain ⟨its, r, pl, hz⟩ := I.tuple hx
     have hlen := r.length
     exact truthy_tuple pl (by simp only [List.size_toArray]; lia) ⟨H, I.tok _, by rw [isEmpty_of r]; exact q⟩
   · subst e'
     obtain ⟨hz, hS, vs, r, m⟩ : kvs.length ≤ sizeLine ∧ (p == sysModules) = false ∧ ∃ vs, KV kvs vs ∧ s.heap.DictOf (mixKind X.prog X.w) p vs := I.hok p _ hx
     have hlen : kvs.length = vs.length := Paired.length r
     exact wpAny_truthy_dict hS m (by lia) ⟨H, I.tok _, by rw [isEmpty_kv r]; exact q⟩
 | _ => exact (show False from e).elim
theorem pt_truth (ha : PE X a ta) (he : ∀ whole, isTrue a X.env whole = (do let v ← whole; standAt a.pos; holding [v] (truthy v))) :
   PT X a (fun σ H Q => ta σ H fun x H' => ∃ k, TruV X.K x H' k ∧ Q k H') := by
 intro pins s σ H Q I h
 exact isTrue_plain (thn (ha pins s σ H _ I h) fun v s1 ⟨x, H1, I1, r1, q1⟩ => tru_ok pins s1 σ H1 x v Q I1 r1 q1) (he _)
theorem op_add_str : OpR X (binaryOp .Add) (fun x y H Q => ∃ i j, x = .str i ∧ y = .str j ∧ i.length + j.length ≤ sizeLine ∧ Q (.str (i ++ j)) H) := by
 intro pins s σ H x y v u Q I rx ry h
 obtain ⟨i, j, rfl, rfl, hz, q⟩ := h
 obtain ⟨t, rfl⟩ := rx
 obtain ⟨t', rfl⟩ := ry
 exact add_str (fun t' tk => ⟨.str (i ++ j), H, I.tok _, ⟨_, rfl⟩, q⟩) hz
theorem vals1 {x : V} {us : List Value} (r : Vals [x] us) : ∃ u, us = [u] ∧ RelV x u := by
 cases r with
 | cons r1 r2 => cases r2; exact ⟨_, rfl, r1⟩
theorem vals2 {x y : V} {us : List Value} (r : Vals [x, y] us) : ∃ u w', us = [u, w'] ∧ RelV x u ∧ RelV y w' := by
 cases r with
 | cons r1 r2 =>
   cases r2 with
   | cons r3 r4 => cases r4; exact ⟨_, _, rfl, r1, r3⟩
theorem call_abs : CallR X (.builtin "abs") (fun xs H Q => ∃ i, xs = [.int i] ∧ Q (.int (if i < 0 then -i else i)) H) := by
 intro pins s σ H xs us Q I r h
 obtain ⟨i, rfl, q⟩ := h
 obtain ⟨u, rfl, t, rfl⟩ := vals1 r
 exact call_abs_int fun u tk => ⟨.int (if i < 0 then -i else i), H, I.tok _, ⟨_, rfl⟩, q⟩
theorem call_int1 : CallR X (.type "int") (fun xs H Q => (∃ i, xs = [.int i] ∧ Q (.int i) H) ∨ ∃ k, xs = [.bl k] ∧ Q (.int (if k then 1 else 0)) H) := by
 intro pins s σ H xs us Q I r h
 rcases h with ⟨i, rfl, q⟩ | ⟨k, rfl, q⟩
 · obtain ⟨u, rfl, t, rfl⟩ := vals1 r
   exact call_int_int ⟨.int i, H, I, ⟨_, rfl⟩, q⟩
 · obtain ⟨u, rfl, r1⟩ := vals1 r
   cases r1
   exact call_int_bool ⟨.int (if k then 1 else 0), H, I.tok _, ⟨_, rfl⟩, q⟩
end
end L2
namespace L2
open PySem PySem.Spec PyProof.Rows
structure ObjM (h : Heap) (x dx C : Addr) (mA : Str → Option Value) : Prop where
 obj : h.get? x = some (PySem.W.instObj C dx)
 ns : h.Ns1 dx mA
 ne : dx ≠ x
theorem lookIn_ns {h : Heap} {dx : Addr} {mA : Str → Option Value} (n : h.Ns1 dx mA) : ∃ od, h.get? dx = some od ∧ ∀ name, PySem.W.lookIn name od = some (mA name) := by
 obtain ⟨o, es, ep, ho, hd, hk, _, hm⟩ := n
 refine ⟨o, ho, fun name => ?_⟩
 have e := hm name
 unfold nsFind findBy at e
 rw [← Array.find?_toList] at e
 unfold PySem.W.lookIn
 rw [hd]
 dsimp only
 split
 · rename_i y q
   rw [q] at e
   exact congrArg some e
 · rename_i q
   rw [q] at e
   have a : es.toList.any (·.refKey) = false := by
     rw [List.any_eq_false]
     intro y hy
     obtain ⟨z, t, hkey⟩ := hk y (Array.mem_toList_iff.mp hy)
     simp [DictEntry.refKey, hkey]
   have a' : ¬ es.toList.any (·.refKey) = true := by rw [a]; exact Bool.false_ne_true
   rw [if_neg a']
   exact congrArg some e
theorem ObjM.look {h : Heap} {x dx C : Addr} {mA : Str → Option Value} (I : ObjM h x dx C mA) : ∃ od, PySem.W.InstAt h x (PySem.W.instObj C dx) C (some od) ∧ ∀ name, PySem.W.lookIn name od = some (mA name) :=
 let ⟨od, ho, hl⟩ := lookIn_ns I.ns
 ⟨od, ⟨I.obj, rfl, rfl, ho⟩, hl⟩
section
variable {prog : Program} {w : World} {A : Around} {E : Value → Shared → Prop} {s : Shared} {K : PySem.W.Frag} {x dx C f : Addr} {mA : Str → Option Value} {name : Str} {v : Value}
end
theorem RelO.some_of {v : V} {o : Option Value} (r : RelO (some v) o) : ∃ u, o = some u ∧ RelV v u := by
 cases o with
 | none => exact (show False from r).elim
 | some u => exact ⟨u, rfl, r⟩
section
variable {P : Program} {w : World} {H H' : Hp} {h h' : Heap} {a C dx : Addr} {fs fs' : List (Str × V)}
theorem ins_get (hok : HOk P w H h) (e : H a = some (.ins C dx fs)) : ∃ mA, ObjM h a dx C mA ∧ (∀ f, RelO (fs.lookup f) (mA f)) ∧ PySem.Within mA (fs.map (·.1)) ∧ fs.length ≤ 1000 ∧ H dx = some (.own a) := by
 obtain ⟨d, z, ne, ob, mA, n, r, q⟩ := (show ObjOk P w H h a (.ins C dx fs) from hok a _ e)
 exact ⟨mA, ⟨ob, n, ne⟩, r, q, z, d⟩
end
structure Cls (K : PySem.W.Frag) (C : Addr) : Prop where
 pg : PySem.W.plainGet K C Str.empty = true
 hd : PySem.W.hasDictIn K C = true
 po : PySem.W.plainOver K C = true
 sa : PySem.W.findIn K (.ref C) "__setattr__" = some (some (.builtin "object.__setattr__"))
theorem Cls.get {K : PySem.W.Frag} {C : Addr} (c : Cls K C) (f : Str) : PySem.W.plainGet K C f = true := c.pg
section
variable {X : Cx} {pins : List (Addr × Obj)} {σ : St} {H : Hp} {s : Shared} {a C dx : Addr} {fs : List (Str × V)} {f : Str} {v : V} {A : Around} {E : Value → Shared → Prop}
end
section
variable {X : Cx} {o e value : Expr} {f : Str} {pos pos' tpos : Pos} {ta tv : TE}
end
section
variable {X : Cx} {pins : List (Addr × Obj)} {σ : St} {H : Hp} {s : Shared} {A : Around} {E : Value → Shared → Prop} {Q : Value → Shared → Prop} {c : Value} {b : Bool}
inductive TyOf (K : PySem.W.Frag) (H : Hp) : V → Value → Prop where
 | non : TyOf K H .non (.type "NoneType")
 | bl (x : Bool) : TyOf K H (.bl x) (.type "bool")
 | int (i : Int) : TyOf K H (.int i) (.type "int")
 | str (x : Str) : TyOf K H (.str x) (.type "str")
 | flt (x : UInt64) : TyOf K H (.flt x) (.type "float")
 | lst {a : Addr} {xs : List V} (e : H a = some (.lst xs)) : TyOf K H (.ref a) (.type "list")
 | frz {a : Addr} {o : Obj} {xs : List V} (e : H a = some (.frz o (.lst xs))) : TyOf K H (.ref a) (.type "list")
 | tup {a : Addr} {xs : List V} (e : H a = some (.tup xs)) : TyOf K H (.ref a) (.type "tuple")
 | dK {a : Addr} {kvs : List (Key × V)} (e : H a = some (.dK kvs)) : TyOf K H (.ref a) (.type "dict")
 | dT {a : Addr} {kvs : List (List Key × V)} (e : H a = some (.dT kvs)) : TyOf K H (.ref a) (.type "dict")
 | ins {a C dx : Addr} {fs : List (Str × V)} (e : H a = some (.ins C dx fs)) (cl : Cls K C) (ha : PySem.W.findIn K (.ref C) "__class__" = some (some (.builtin "object.__class__")))
     (hn : PySem.W.specialIn K (.builtin "object.__class__") "__get__" = some (some (.builtin "getset_descriptor.__get__"))) (htk : PySem.W.takesIn K (.builtin "object.__class__") = some true)
     (hm : PySem.W.mroIn K C (.type "object") = some true) : TyOf K H (.ref a) (.ref C)
theorem isinst_ok {x : V} {u t : Value} (I : Inv X pins σ H s) (rx : RelV x u) (ty : TyOf X.K H x t) (e : PySem.W.kitOne X.K t c = some b) (h : ∀ tk, Q (.bool b) { s with toks := tk }) :
   wpAny (model X.prog X.w) A (call (.builtin "isinstance") [u, c]) Q E s := by
 cases ty with
 | non => cases (show u = Value.none from rx); exact PySem.W.kia_one PySem.W.kitx_none I.kIn True.intro e (fun z => nomatch z) h
 | bl y => cases (show u = Value.bool y from rx); exact PySem.W.kia_one PySem.W.kitx_bool I.kIn True.intro e (fun z => nomatch z) h
 | int i => obtain ⟨t, q⟩ := (show ∃ t, u = Value.int i t from rx); cases q; exact PySem.W.kia_one PySem.W.kitx_int I.kIn True.intro e (fun z => nomatch z) h
 | str y => obtain ⟨t, q⟩ := (show ∃ t, u = Value.str y t from rx); cases q; exact PySem.W.kia_one PySem.W.kitx_str I.kIn True.intro e (fun z => nomatch z) h
 | flt y => obtain ⟨t, q⟩ := (show ∃ t, u = Value.float y t from rx); cases q; exact PySem.W.kia_one PySem.W.kitx_float I.kIn True.intro e (fun z => nomatch z) h
 | @lst a xs ea =>
   cases (show u = Value.ref a from rx)
   obtain ⟨_, _, n, _, h1⟩ := (show ObjOk X.prog X.w H s.heap a (.lst xs) from I.hok a _ ea)
   exact PySem.W.kia_one PySem.W.kitx_list I.kIn ⟨_, h1, rfl⟩ e (fun z => nomatch z) h
 | @frz a ob xs ea =>
   cases (show u = Value.ref a from rx)
   obtain ⟨_, _, _, n, _, h1⟩ := (show ObjOk X.prog X.w H s.heap a (.frz ob (.lst xs)) from I.hok a _ ea)
   exact PySem.W.kia_one PySem.W.kitx_list I.kIn ⟨_, h1, rfl⟩ e (fun z => nomatch z) h
 | @tup a xs ea =>
   cases (show u = Value.ref a from rx)
   obtain ⟨_, _, _, p⟩ := (show ObjOk X.prog X.w H s.heap a (.tup xs) from I.hok a _ ea)
   obtain ⟨o, h1, h2, _⟩ := p
   exact PySem.W.kia_one PySem.W.kitx_tuple I.kIn ⟨o, h1, h2⟩ e (fun z => nomatch z) h
 | @dK a kvs ea =>
   cases (show u = Value.ref a from rx)
   obtain ⟨_, _, vs, _, p⟩ := (show ObjOk X.prog X.w H s.heap a (.dK kvs) from I.hok a _ ea)
   obtain ⟨o, es, ep, h1, h2, _⟩ := p
   exact PySem.W.kia_one PySem.W.kitx_dict I.kIn ⟨o, h1, h2.1⟩ e (fun z => nomatch z) h
 | @dT a kvs ea =>
   cases (show u = Value.ref a from rx)
   obtain ⟨_, _, xs, _, o, es, ep, h1, h2, _⟩ := (show ObjOk X.prog X.w H s.heap a (.dT kvs) from I.hok a _ ea)
   exact PySem.W.kia_one PySem.W.kitx_dict I.kIn ⟨o, h1, h2.1⟩ e (fun z => nomatch z) h
 | @ins a C dx fs ea cl ha hn htk hm =>
   cases (show u = Value.ref a from rx)
   obtain ⟨mA, O, _⟩ := ins_get I.hok ea
   obtain ⟨od, J, _⟩ := O.look
   exact PySem.W.kia_one (PySem.W.kitx_own (cl.get _) cl.hd ha hn htk hm) I.kIn J e (fun z => nomatch z) h
end
end L2
namespace L2
open PySem PySem.Spec PyProof.Rows
structure Room (k : Nat) (A : Around) : Prop where
 hd : A.handled = none
 dp : A.depth + 3 * k + 5 < recursionLimit
 un : A.units + 16 * k + 200 < cLine
theorem Room.mono {j k : Nat} {A : Around} (r : Room k A) (h : j ≤ k) : Room j A := ⟨r.hd, by have := r.dp; lia, by have := r.un; lia⟩
theorem Room.deeper {k : Nat} {A : Around} (r : Room (k + 1) A) (env : Env) : Room k (A.deeper env) :=
 ⟨r.hd, by have := r.dp; show A.depth + 1 + 3 * k + 5 < _; lia, by have := r.un; show A.units + 3 + 16 * k + 200 < _; lia⟩
theorem Room.depth {k : Nat} {A : Around} (r : Room k A) : A.depth < recursionLimit := by have := r.dp; lia
theorem Room.units {k : Nat} {A : Around} (r : Room k A) : A.units + 64 < cLine := by have := r.un; lia
noncomputable def tNil : TA := fun _ H Q => Q [] H
noncomputable def tCons (ta : TE) (tr : TA) : TA := fun σ H Q => ta σ H fun x H1 => tr σ H1 fun xs H2 => Q (x :: xs) H2
section
variable {X : Cx} {e : Expr} {es : List Expr} {te : TE} {t : TA} {pos : Pos}
theorem pa_nil : PA X [] tNil := fun _ _ _ _ H Q I h => Calls.spliced_nil ⟨[], H, I, .nil, h⟩
theorem pa_cons (ha : PE X e te) (hr : PA X es t) (hs : starEach (e :: es) X.env = (false, eval e X.env) :: starEach es X.env := by rfl) : PA X (e :: es) (tCons te t) := by
 intro pos pins s σ H Q I h
 rw [hs]
 show wpAny _ _ (spliced ((false, eval e X.env) :: backTo pos (starEach es X.env))) _ _ s
 refine Calls.spliced_cons (thn (ha pins s σ H _ I h) fun u s1 ⟨x, H1, I1, r1, q1⟩ => ?_)
 exact thn (hr pos pins s1 σ H1 _ I1 q1) fun us s2 ⟨xs, H2, I2, r2, q2⟩ => ⟨x :: xs, H2, I2, .cons r1 r2, q2⟩
noncomputable def tTup (t : TA) : TE := fun σ H Q => t σ H fun xs H1 => xs.length ≤ sizeLine ∧ ∀ p, H1 p = none → Q (.ref p) (upd H1 p (.tup xs))
noncomputable def tLst (t : TA) : TE := fun σ H Q => t σ H fun xs H1 => xs.length ≤ sizeLine ∧ ∀ p, H1 p = none → Q (.ref p) (upd H1 p (.lst xs))
theorem pe_tup {x1} (h : PA X es t) : PE X (.Tuple es x1 pos) (tTup t) := by
 intro pins s σ H Q I hq
 refine wpAny_Tuple_spliced (thn (h pos pins s σ H _ I hq) fun us s1 ⟨xs, H1, I1, r, z, q⟩ => ⟨by rw [← r.length]; exact z, ?_⟩)
 have hf : H1 s1.heap.objs.size = none := I1.hok.fresh (Nat.le_refl _)
 refine ⟨.ref s1.heap.objs.size, upd H1 s1.heap.objs.size (.tup xs), I1.laid (t' := s1.toks) (fun b u e => Heap.get?_push_of_some _ e) (Nat.le_refl _) ?_, rfl, q _ hf⟩
 exact ⟨z, us, r, ⟨_, Heap.get?_push_size _ rfl, rfl, rfl, _, rfl⟩⟩
theorem pe_lst (h : PA X es t) : PE X (.List es pos) (tLst t) := by
 intro pins s σ H Q I hq
 refine wpAny_List_spliced (thn (h pos pins s σ H _ I hq) fun us s1 ⟨xs, H1, I1, r, z, q⟩ => ⟨by rw [← r.length]; exact z, ?_⟩)
 have hf : H1 s1.heap.objs.size = none := I1.hok.fresh (Nat.le_refl _)
 refine ⟨.ref s1.heap.objs.size, upd H1 s1.heap.objs.size (.lst xs), I1.laid (t' := s1.toks) (fun b u e => Heap.get?_push_of_some _ e) (Nat.le_refl _) ?_, rfl, q _ hf⟩
 exact ⟨z, us, 0, r, Heap.get?_push_size _ rfl⟩
end
noncomputable abbrev Sp := List V → Hp → VK → XK → Prop
noncomputable abbrev CXT := List Env → Hp → Shared → XK → Value → Shared → Prop
structure Env0 (P : Program) (w : World) (K : PySem.W.Frag) (mg : Str → Option Value) (base : Heap) (A : Around) (outer : List Env) (s : Shared) (H : Hp) : Prop where
 frames : A.frames = some outer
 mod : Mod K mg base
 bs : ∀ b o, base.get? b = some o → s.heap.get? b = some o ∧ H b = none
 bsz : base.objs.size ≤ s.heap.objs.size
 funs : s.heap.FunFrames base outer
 frf : ∀ b ∈ frs outer, H b = none
 hok : HOk P w H s.heap
 bare : AllBare s.gens
noncomputable def CE (outer : List Env) (P : Program) (w : World) (H : Hp) (s : Shared) (Q : VK) (u : Value) (s' : Shared) : Prop :=
 ∃ v H', s'.os = s.os ∧ AllBare s'.gens ∧ Un (frs outer) [] H H' s.heap s'.heap ∧ HOk P w H' s'.heap ∧ RelV v u ∧ Q v H'
noncomputable def CR (CX : CXT) (outer : List Env) (P : Program) (w : World) (H : Hp) (s : Shared) (Q : VK) (E : XK) (r : Result) (s' : Shared) : Prop :=
 match r with
 | .ok (.ret u) => CE outer P w H s Q u s'
 | .ok _ => False
 | .error e => CX outer H s E e s'
structure FnOk (P : Program) (w : World) (K : PySem.W.Frag) (mg : Str → Option Value) (base : Heap) (CX : CXT) (k : Nat) (f : Addr) (fd : FuncData) (ps : List Str) (sp : Sp) : Prop where
 len : ∀ vs H Q E, sp vs H Q E → vs.length = ps.length
 run : ∀ (A : Around) (outer : List Env) (s : Shared) (H : Hp) (args : Args) (us : List Value) (vs : List V) (Q : VK) (E : XK), Room k A → Env0 P w K mg base A outer s H → BindsTo s fd args (ps.zip us) → Vals vs us → sp vs H Q E →
   codeAny (model P w) A (.call (.ref f) args) (CR CX outer P w H s Q E) s
theorem FnOk.mono {P : Program} {w : World} {K : PySem.W.Frag} {mg : Str → Option Value} {base : Heap} {CX : CXT} {j k : Nat} {f : Addr} {fd : FuncData} {ps : List Str} {sp : Sp} (F : FnOk P w K mg base CX j f fd ps sp) (h : j ≤ k) :
   FnOk P w K mg base CX k f fd ps sp := ⟨F.len, fun A outer s H args us vs Q E hr => F.run A outer s H args us vs Q E (hr.mono h)⟩
section
variable {X : Cx} {pins : List (Addr × Obj)} {σ : St} {H : Hp} {s s' : Shared}
theorem Inv.env0 (I : Inv X pins σ H s) : Env0 X.prog X.w X.K X.mg X.base X.A X.stack s H :=
 ⟨I.ok.frames, I.ok.mod, I.bs, Nat.le_trans I.ok.bsz I.sz, I.stack, I.stkFree, I.hok, I.bare⟩
theorem Inv.after {Q : VK} {u : Value} (I : Inv X pins σ H s) (h : CE X.stack X.prog X.w H s Q u s') : EP X pins σ Q u s' := by
 obtain ⟨v, H', os, bare, un, hok, r, q⟩ := h
 obtain ⟨hh, g, d, t, os'⟩ := s'
 obtain rfl : os' = s.os := os
 exact ⟨v, H', I.call (h' := hh) (g' := g) (d' := d) (t' := t) (ch := []) un hok bare (fun b z => absurd z (by simp)), r, q⟩
end
noncomputable def tCall (sp : Sp) (dvs : List V) (E : XK) (t : TA) : TE := fun σ H Q => t σ H fun vs H1 => sp (vs ++ dvs) H1 Q E
noncomputable def Binds (K : PySem.W.Frag) (fd : FuncData) (ps : List Str) (ds : List Value) : Prop :=
 ∀ (s : Shared) (us : List Value), K.In s.heap → (us ++ ds).length = ps.length → BindsTo s fd ⟨us, []⟩ (ps.zip (us ++ ds))
theorem Binds.all {K : PySem.W.Frag} {fd : FuncData} {ps : List Str} (h : ∀ us : List Value, us.length = ps.length → bindArgs fd ⟨us, []⟩ = pure (ps.zip us)) : Binds K fd ps [] := fun s us _ hl => by
 rw [List.append_nil] at hl ⊢
 exact .of_eq (h us hl)
noncomputable def Passes (CX : CXT) (X : Cx) (E : XK) : Prop := ∀ (pins : List (Addr × Obj)) (σ : St) (H : Hp) (s : Shared) (e : Value) (s' : Shared), Inv X pins σ H s → CX X.stack H s E e s' → X.xe e s'
section
variable {X : Cx} {CX : CXT} {k : Nat} {f C : Addr} {fd : FuncData} {ps : List Str} {sp : Sp} {dvs : List V} {ds : List Value} {E : XK} {x m : Str} {p pos apos : Pos} {e o : Expr} {es : List Expr} {ta : TE} {t : TA}
theorem run_fn {pins : List (Addr × Obj)} {σ : St} {H : Hp} {s : Shared} {Q : VK} {us : List Value} {vs : List V} (F : FnOk X.prog X.w X.K X.mg X.base CX k f fd ps sp) (hr : Room k X.A) (hb : Binds X.K fd ps ds) (hd : Vals dvs ds) (hx : Passes CX X E)
   (I : Inv X pins σ H s) (r : Vals vs us) (h : sp (vs ++ dvs) H Q E) : wpAny (model X.prog X.w) X.A (call (.ref f) us) (EP X pins σ Q) X.xe s := by
 have r2 : Vals (vs ++ dvs) (us ++ ds) := r.append hd
 have hl : (us ++ ds).length = ps.length := by rw [← r2.length]; exact F.len _ _ _ _ h
 refine wpAny_call (codeAny_mono (F.run X.A X.stack s H ⟨us, []⟩ (us ++ ds) (vs ++ dvs) Q E hr I.env0 (hb s us I.kIn hl) r2 h) fun r s' hq => ?_)
 cases r with
 | error e => exact hx pins σ H s e s' I hq
 | ok fl =>
   cases fl with
   | ret u => exact I.after hq
   | next => exact False.elim hq
   | brk => exact False.elim hq
   | cont => exact False.elim hq
theorem pe_call (F : FnOk X.prog X.w X.K X.mg X.base CX k f fd ps sp) (hr : Room k X.A) (hg : Gl X x) (hm : X.mg x = some (.ref f)) (hk : PySem.W.keepIn X.K (.ref f) = true) (hb : Binds X.K fd ps ds) (hd : Vals dvs ds) (hx : Passes CX X E)
   (ha : PA X (e :: es) t) (hdb : (x == ("__debug__" : Str)) = false := by decide) (he : starEach (e :: es) X.env = (false, eval e X.env) :: starEach es X.env := by rfl) (hpl : (backTo pos (starEach es X.env)).any (·.1) = false := by rfl) :
   PE X (.Call (.Name x p) (e :: es) [] pos) (tCall sp dvs E t) := by
 intro pins s σ H Q I h
 refine wpAny_Call_Name_kw (ld_glob I hg hm ?_ hdb)
 refine PySem.W.callWith_K (h₀ := X.base) I.ok.mod.kin hk (thn (ha pos pins s σ H _ I h) fun us s1 ⟨vs, H1, I1, r, q⟩ => ⟨I1.kIn, ?_⟩) he hpl
 exact run_fn F hr hb hd hx I1 r q
end
section
variable {X : Cx} {CX : CXT} {k : Nat} {f C : Addr} {fd : FuncData} {ps ks : List Str} {sp : Sp} {E : XK} {x m : Str} {p pos apos kpos : Pos} {e o : Expr} {es : List Expr} {kws : List Keyword} {te ta : TE} {t tk : TA} {nm : Option Str}
variable {g : List Value → List Value → List Value} {gV : List V → List V → List V}
end
structure FnScope (N P : List Str) (sc : Scope) : Prop where
 kind : sc.kind = .function
 co : sc.isCoroutine = false
 gen : sc.isGenerator = false
 nd : N.Nodup
 pre : N.take P.length = P
 par : ∀ x ∈ P, sc.names.lookup x = some .local ∨ sc.names.lookup x = some .cell
 nofree : ∀ y ∈ sc.names, y.2 ≠ .free
theorem bindL_out {kindOf : Str → Option NameKind} {x : Str} : ∀ {binds : List (Str × Value)} {m : Str → Option Value}, (∀ v, (x, v) ∉ binds) → bindL kindOf binds m x = m x
 | [], _, _ => rfl
 | (n, v) :: r, m, h => by
   unfold bindL
   rw [bindL_out fun w hw => h w (List.mem_cons_of_mem _ hw)]
   split
   · have : x ≠ n := by rintro rfl; exact h v List.mem_cons_self
     simp [this]
   · rfl
theorem bindC_out {kindOf : Str → Option NameKind} {x : Str} : ∀ {binds : List (Str × Value)} {m : Str → Option Value}, (∀ v, (x, v) ∉ binds) → bindC kindOf binds m x = m x
 | [], _, _ => rfl
 | (n, v) :: r, m, h => by
   unfold bindC
   rw [bindC_out fun w hw => h w (List.mem_cons_of_mem _ hw)]
   split
   · rfl
   · have : x ≠ n := by rintro rfl; exact h v List.mem_cons_self
     simp [this]
theorem bindL_get {kindOf : Str → Option NameKind} {x : Str} {v : Value} : ∀ {P : List Str} {vs : List Value} {i : Nat} {m : Str → Option Value}, P.Nodup → P[i]? = some x → vs[i]? = some v → kindOf x = some .local →
   bindL kindOf (P.zip vs) m x = some v
 | [], _, _, _, _, h, _, _ => by simp at h
 | _ :: _, [], _, _, _, _, h, _ => by simp at h
 | p :: P, w :: vs, 0, m, nd, h1, h2, hk => by
   simp at h1 h2; subst h1; subst h2
   show bindL kindOf ((p, w) :: P.zip vs) m p = _
   unfold bindL
   rw [bindL_out fun v hv => (List.nodup_cons.mp nd).1 (List.of_mem_zip hv).1, if_pos hk]
   simp
 | p :: P, w :: vs, i + 1, m, nd, h1, h2, hk => by
   show bindL kindOf ((p, w) :: P.zip vs) m x = _
   unfold bindL
   exact bindL_get (i := i) (List.nodup_cons.mp nd).2 (by simpa using h1) (by simpa using h2) hk
theorem bindC_get {kindOf : Str → Option NameKind} {x : Str} {v : Value} : ∀ {P : List Str} {vs : List Value} {i : Nat} {m : Str → Option Value}, P.Nodup → P[i]? = some x → vs[i]? = some v → kindOf x ≠ some .local →
   bindC kindOf (P.zip vs) m x = some v
 | [], _, _, _, _, h, _, _ => by simp at h
 | _ :: _, [], _, _, _, _, h, _ => by simp at h
 | p :: P, w :: vs, 0, m, nd, h1, h2, hk => by
   simp at h1 h2; subst h1; subst h2
   show bindC kindOf ((p, w) :: P.zip vs) m p = _
   unfold bindC
   rw [bindC_out fun v hv => (List.nodup_cons.mp nd).1 (List.of_mem_zip hv).1, if_neg hk]
   simp
 | p :: P, w :: vs, i + 1, m, nd, h1, h2, hk => by
   show bindC kindOf ((p, w) :: P.zip vs) m x = _
   unfold bindC
   exact bindC_get (i := i) (List.nodup_cons.mp nd).2 (by simpa using h1) (by simpa using h2) hk
noncomputable def start (N : List Str) (vs : List V) : St := vs.map some ++ List.replicate (N.length - vs.length) none
noncomputable def cxOf (CX : CXT) (P : Program) (w : World) (K : PySem.W.Frag) (mg : Str → Option Value) (base : Heap) (N : List Str) (qual : Str) (scope : Scope) (f : Addr) (cd : Value) (A : Around) (outer : List Env) (s : Shared) (H : Hp) (E : XK) : Cx where
 prog := P
 w := w
 K := K
 mg := mg
 base := base
 A := A.deeper (envOfC qual scope s.heap.objs.size f cd)
 N := N
 s₀ := s
 H₀ := H
 env := envOfC qual scope s.heap.objs.size f cd
 outer := outer
 stack := envOfC qual scope s.heap.objs.size f cd :: outer
 ex := []
 calm := true
 fn := fun _ => true
 pn := []
 xe := fun e s' => wpAny (model P w) (A.deeper (envOfC qual scope s.heap.objs.size f cd)) (leaving (envOfC qual scope s.heap.objs.size f cd) e) (fun _ s'' => CX outer H s E e s'') (fun e' s'' => CX outer H s E e' s'') s'
theorem cell_has {sc : Scope} {n : Nat} {x : Str} (h : sc.names.lookup x = some .cell) : ∃ c, (cellsFrom n sc.names []).lookup x = some c := by
 have q := PySem.W.cellsFrom_some sc.names n [] (.inl h)
 exact Option.isSome_iff_exists.mp q
theorem inv_start {CX : CXT} {P : Program} {w : World} {K : PySem.W.Frag} {mg : Str → Option Value} {base : Heap} {N ps : List Str} {qual : Str} {scope : Scope} {f : Addr} {cd : Value} {A : Around} {outer : List Env} {s s1 : Shared} {H : Hp} {E : XK} {us : List Value} {vs : List V}
   (S : FnScope N ps scope) (hd : A.handled = none) (e0 : Env0 P w K mg base A outer s H) (hl : vs.length = ps.length) (r : Vals vs us)
   (x : InCallC s s.heap.objs.size (bindL (envOfC qual scope s.heap.objs.size f cd).kindOf (ps.zip us) fun _ => none) (cellsFrom (s.heap.objs.size + 1) scope.names []) (bindC (envOfC qual scope s.heap.objs.size f cd).kindOf (ps.zip us) fun _ => none) s1) :
   Inv (cxOf CX P w K mg base N qual scope f cd A outer s H E) [] (start N vs) H s1 := by
 have hpl : ps.length ≤ N.length := by have := congrArg List.length S.pre; rw [List.length_take] at this; lia
 obtain ⟨h1, tk, rfl, hk⟩ := x.done
 have noA : ∀ b : Addr, b ∉ (cxOf CX P w K mg base N qual scope f cd A outer s H E).ex := fun b z => absurd (show b ∈ ([] : List Addr) from z) (by simp)
 refine ⟨⟨e0.mod, S.kind, rfl, rfl, Nat.le_refl _, fun y z c h1 h2 => ?_, fun y hy => ?_, fun y c _ h => ?_, fun _ => hd, Around.frames_deeper e0.frames, .inr ⟨rfl, rfl⟩, fun b z => absurd z (noA b), e0.bs, e0.bsz, fun b _ _ => noA b, fun b z => absurd z (noA b), e0.funs, e0.frf⟩,
   rfl, e0.bare, Un.kept hk, ⟨_, x.toInCall.ns, fun i y v h1 h2 h3 => ?_⟩, fun y c h => ⟨_, x.cell y c h⟩, e0.hok.fresh (Nat.le_refl _), fun y c h => ?_, fun p hp => absurd (show p ∈ ([] : List (Addr × Obj)) from hp) (by simp), e0.hok.kept hk, ?_⟩
 · exact name_of_addr x.apart (PySem.mem_of_lookup h1) (PySem.mem_of_lookup h2)
 · have hy : scope.names.lookup y = some .cell ∨ scope.names.lookup y = some .free := hy
   rcases hy with hy | hy
   · exact cell_has hy
   · exact absurd rfl (S.nofree _ (PySem.mem_of_lookup hy))
 · exact Nat.le_of_lt (x.above y c (PySem.mem_of_lookup h))
 · have hi : i < vs.length := by
     unfold start at h2
     by_cases hi : i < vs.length
     · exact hi
     · rw [List.getElem?_append_right (by simpa using hi)] at h2
       rw [List.getElem?_replicate] at h2
       split at h2 <;> cases h2
   have ha : vs[i]? = some v := by
     unfold start at h2
     rw [List.getElem?_append_left (by simpa using hi), List.getElem?_map] at h2
     cases e : vs[i]? with
     | none => rw [e] at h2; cases h2
     | some a => rw [e] at h2; cases h2; rfl
   obtain ⟨u, hu, rv⟩ := r.get ha
   have hp : ps[i]? = some y := by
     rw [← S.pre, List.getElem?_take_of_lt (by lia)]; exact h1
   have ndP : ps.Nodup := by rw [← S.pre]; exact S.nd.sublist (List.take_sublist _ _)
   refine ⟨u, rv, ?_⟩
   rcases S.par y (List.mem_of_getElem? hp) with k | k
   · exact .inl ⟨k, bindL_get ndP hp hu k⟩
   · obtain ⟨c, e⟩ := cell_has (n := s.heap.objs.size + 1) k
     refine .inr ⟨.inl k, c, e, ?_⟩
     have q := x.cell y c e
     rw [bindC_get ndP hp hu (by show scope.names.lookup y ≠ _; rw [k]; decide)] at q
     exact q
 · exact e0.hok.fresh (Nat.le_of_lt (x.above y c (PySem.mem_of_lookup h)))
 · unfold start
   show _ = N.length
   rw [List.length_append, List.length_map, List.length_replicate]
   lia
theorem fn_of {CX : CXT} {P : Program} {w : World} {K : PySem.W.Frag} {mg : Str → Option Value} {base : Heap} {k : Nat} {f : Addr} {name qual : Str} {params : Arguments} {body : List Stmt} {scope : Scope} {dV kV doc pm cdv ct oc : Value} {an od : Option Addr}
   {osl : Array (Option Value)} {N ps : List Str} {sp : Sp} (lk : K.lookup f = some ⟨oc, od, .func (PySem.W.fnOf name qual params body scope dV kV doc pm an cdv ct), osl⟩) (hcd : PySem.W.codeIn K cdv qual = true) (S : FnScope N ps scope)
   (len : ∀ vs H Q E, sp vs H Q E → vs.length = ps.length)
   (hbody : ∀ (A : Around) (outer : List Env) (s : Shared) (H : Hp) (vs : List V) (Q : VK) (E : XK), Room k (A.deeper (envOfC qual scope s.heap.objs.size f cdv)) → sp vs H Q E →
     ∃ t, PSs (cxOf CX P w K mg base N qual scope f cdv A outer s H E) body t ∧ t { nx := fun _ H' => Q .non H', rt := Q } (start N vs) H) :
   FnOk P w K mg base CX (k + 1) f (PySem.W.fnOf name qual params body scope dV kV doc pm an cdv ct) ps sp := by
 refine ⟨len, fun A outer s H args us vs Q E hr e0 hb r hsp => ?_⟩
 have hl := len _ _ _ _ hsp
 have KX : K.In s.heap := e0.mod.kin.keeps fun b o e => (e0.bs b o e).1
 have lim : s.heap.NoLimit := e0.mod.nolimit.keeps fun b o e => (e0.bs b o e).1
 have hkind : ∀ y ∈ ps.zip us, scope.names.lookup y.1 = some .local ∨ (scope.names.lookup y.1 = some .cell ∧ ((cellsFrom (s.heap.objs.size + 1) scope.names []).lookup y.1).isSome = true) := fun ⟨n, v⟩ hy => by
   rcases S.par n (List.of_mem_zip hy).1 with q | q
   · exact .inl q
   · exact .inr ⟨q, PySem.W.cellsFrom_some _ _ _ (.inl q)⟩
 refine codeAny_call_function hr.depth (KX _ _ lk) rfl S.co S.gen rfl (PySem.W.codeRec_of KX hcd) (hb _ _ _ _ ?_)
 refine wpAny_newFunctionEnv_cells S.kind hkind fun env he s1 x => ?_
 subst he
 refine ⟨lim.keeps x.toInCall.keep, codeAny_func ?_⟩
 obtain ⟨t, ht, hq⟩ := hbody A outer s H vs Q E (hr.deeper _) hsp
 have I : Inv (cxOf CX P w K mg base N qual scope f cdv A outer s H E) [] (start N vs) H s1 := inv_start S hr.hd e0 hl r x
 refine wpAny_mono (ht [] s1 (start N vs) H _ I hq) (fun fl s' hs => ?_) fun e s' hs => hs
 have fin : ∀ {σ' : St} {H' : Hp} {v : V} {u : Value}, Inv (cxOf CX P w K mg base N qual scope f cdv A outer s H E) [] σ' H' s' → RelV v u → Q v H' → CE outer P w H s Q u s' :=
   fun {σ' H' v u} J rv q => ⟨v, H', J.os, J.bare, J.base, J.hok, rv, q⟩
 cases fl with
 | ret u =>
   obtain ⟨v, σ', H', J, rv, q⟩ := hs
   exact fin J rv q
 | next =>
   obtain ⟨σ', H', J, q⟩ := hs
   exact fin (v := V.non) (u := Value.none) J rfl q
 | brk =>
   obtain ⟨_, _, _, q⟩ := hs
   exact False.elim q
 | cont =>
   obtain ⟨_, _, _, q⟩ := hs
   exact False.elim q
end L2
namespace L2
open PySem PySem.Spec PyProof.Rows
section
variable {X : Cx} {x : Str} {p pos : Pos} {e : Expr} {es : List Expr} {t : TA} {id T : String} {r : List V → Hp → VK → Prop}
noncomputable def tCB (r : List V → Hp → VK → Prop) (t : TA) : TE := fun σ H Q => t σ H fun vs H1 => r vs H1 Q
theorem pe_callB (hc : CallR X (.builtin id) r) (hg : Gl X x) (hm : X.mg x = none) (hv : bootBuiltins x = some (.builtin id)) (ha : PA X (e :: es) t) (hn : x ≠ "__name__" := by decide) (hdb : (x == ("__debug__" : Str)) = false := by decide)
   (he : starEach (e :: es) X.env = (false, eval e X.env) :: starEach es X.env := by rfl) (hpl : (backTo pos (starEach es X.env)).any (·.1) = false := by rfl) : PE X (.Call (.Name x p) (e :: es) [] pos) (tCB r t) := by
 intro pins s σ H Q I h
 refine wpAny_Call_Name_kw (ld_blt I hg hm hv ?_ hn hdb)
 exact PyProof.Rows.callWith_builtin1 (thn (ha pos pins s σ H _ I h) fun us s1 ⟨vs, H1, I1, r1, q1⟩ => hc pins s1 σ H1 vs us Q I1 r1 q1) he hpl
theorem pe_callTy (hc : CallR X (.type T) r) (hg : Gl X x) (hm : X.mg x = none) (hv : bootBuiltins x = some (.type T)) (ha : PA X (e :: es) t) (hn : x ≠ "__name__" := by decide) (hdb : (x == ("__debug__" : Str)) = false := by decide)
   (he : starEach (e :: es) X.env = (false, eval e X.env) :: starEach es X.env := by rfl) (hpl : (backTo pos (starEach es X.env)).any (·.1) = false := by rfl) : PE X (.Call (.Name x p) (e :: es) [] pos) (tCB r t) := by
 intro pins s σ H Q I h
 refine wpAny_Call_Name_kw (ld_blt I hg hm hv ?_ hn hdb)
 exact PyProof.Rows.callWith_type1 (thn (ha pos pins s σ H _ I h) fun us s1 ⟨vs, H1, I1, r1, q1⟩ => hc pins s1 σ H1 vs us Q I1 r1 q1) he hpl
end
end L2
namespace HT
open PySem PyProof.Rows
section
open PySem.SeqAt
open PySem.AutoSeq1 (wpAny_loadPart')
open PySem.MeetsSeq PySem.MeetsSeq2 PySem.MeetsSeq3
end
section
variable {prog : Program} {w : World} {A : Around} {E : Value → Shared → Prop} {s : Shared}
theorem cat_tup {t b : Addr} {vs ws : List Value} {Q : Value → Shared → Prop} (ht : IsTup s.heap t vs.toArray) (hb : IsTup s.heap b ws.toArray) (hv : vs ≠ [])
   (h1 : ws = [] → Q (.ref t) s) (h2 : ws ≠ [] → Q (.ref s.heap.objs.size) { s with heap := s.heap.push { cls := .type "tuple", data := .seq (vs ++ ws).toArray } })
   (hsz : vs.length + ws.length ≤ sizeLine) : wpAny (model prog w) A (binaryOp .Add (.ref t) (.ref b)) Q E s := by
 obtain ⟨⟨cls, dd, data, sl⟩, ho, hc, n, hd⟩ := id ht
 obtain ⟨⟨cls2, dd2, data2, sl2⟩, ho2, hc2, n2, hd2⟩ := id hb
 simp only at hc hd hc2 hd2
 subst hc hd hc2 hd2
 have e : vs.toArray ++ ws.toArray = (vs ++ ws).toArray := by simp
 by_cases hw : ws = []
 · exact concat_meets ⟨_, ho, rfl⟩ ⟨_, ho2, rfl⟩ noFill_tuple_add seq_tuple_add PySem.F.slot_tuple_add PySem.F.entry_tuple_add (PySem.F.args_tuple_add_2 _ _)
     (tuple_addW1 t b vs.toArray ws.toArray n n2 dd dd2 sl sl2 (by simpa using hv) (by simp [hw])) ⟨ho, ho2, h1 hw⟩
 · refine concat_meets ⟨_, ho, rfl⟩ ⟨_, ho2, rfl⟩ noFill_tuple_add seq_tuple_add PySem.F.slot_tuple_add PySem.F.entry_tuple_add (PySem.F.args_tuple_add_2 _ _)
     (tuple_addW2 t b vs.toArray ws.toArray n n2 dd dd2 sl sl2 (by simpa using hv) (by simpa using hw) (by rw [List.size_toArray, List.size_toArray]; exact hsz)) ⟨ho, ho2, ?_⟩
   rw [e]
   exact h2 hw
noncomputable def sIx (n d : Nat) : Option Int → Nat
 | none => d
 | some v => if v < 0 then (v + (n : Int)).toNat else min v.toNat n
theorem sIx_nat (n d k : Nat) : sIx n d (some (k : Int)) = min k n := by
 show (if (k : Int) < 0 then ((k : Int) + (n : Int)).toNat else min (k : Int).toNat n) = min k n
 rw [if_neg (by lia), Int.toNat_natCast]
theorem sIx_le (n d : Nat) (hd : d ≤ n) (o : Option Int) : sIx n d o ≤ n := by
 cases o with
 | none => exact hd
 | some v =>
   show (if v < 0 then (v + (n : Int)).toNat else min v.toNat n) ≤ n
   by_cases hv : v < 0
   · rw [if_pos hv]; lia
   · rw [if_neg hv]; exact Nat.min_le_right _ _
theorem clip_eq (v : Int) (n d : Nat) : (if v < 0 then max (v + (n : Int)) 0 else min v (n : Int)) = ((sIx n d (some v) : Nat) : Int) := by
 show (if v < 0 then max (v + (n : Int)) 0 else min v (n : Int)) = (((if v < 0 then (v + (n : Int)).toNat else min v.toNat n) : Nat) : Int)
 by_cases hv : v < 0
 · simp only [if_pos hv]; lia
 · simp only [if_neg hv]; lia
theorem adjust_gen (lo hi : Option Int) (n : Nat) : Builtin.Slice.sliceAdjust lo hi 1 (n : Int) = (((sIx n 0 lo : Nat) : Int), ((sIx n n hi : Nat) : Int)) := by
 have h1 : ¬ ((1 : Int) < 0) := by lia
 unfold Builtin.Slice.sliceAdjust
 simp only [h1, if_false]
 refine Prod.ext ?_ ?_
 · cases lo with
   | none => rfl
   | some v => exact clip_eq v n 0
 · cases hi with
   | none => rfl
   | some v => exact clip_eq v n n
theorem places_gen (i j : Nat) : Builtin.Slice.slicePlaces (i : Int) (j : Int) 1 = j - i := by
 unfold Builtin.Slice.slicePlaces
 have h1 : (1 : Int) > 0 := by lia
 simp only [h1, if_true, Int.ediv_one]
 split <;> lia
theorem slicePart_ {v : Value} {o : Option Int} {Q : Option Int → Shared → Prop} (p : IsPart v o) (h : Q o s) : wpAny (model prog w) A (Builtin.Slice.slicePartIndex v) Q E s := by
 cases p with
 | none => exact slicePart_none h
 | int i t => exact slicePart_int h
theorem sliceApplied_gen {sl : Addr} {vl vu : Value} {lo hi : Option Int} {n : Nat} {Q : Int × Int × Nat → Shared → Prop} (hs : s.heap.IsSliceOf sl vl vu .none) (pl : IsPart vl lo) (pu : IsPart vu hi)
   (h : Q (((sIx n 0 lo : Nat) : Int), 1, sIx n n hi - sIx n 0 lo) s) : wpAny (model prog w) A (Builtin.Slice.sliceApplied (.ref sl) (pure (n : Int))) Q E s := by
 obtain ⟨os, hos, hcs, hds⟩ := id hs
 unfold Builtin.Slice.sliceApplied Builtin.Slice.sliceFields
 refine wpAny_bind (wpAny_bind (wpAny_field hos hds (x := vl) rfl (wpAny_bind (wpAny_field hos hds (x := vu) rfl (wpAny_bind (wpAny_field hos hds (x := .none) rfl (wpAny_pure ?_)))))))
 refine wpAny_bind (slicePart_none ?_)
 show wpAny _ _ (if ((1 : Int) == 0) = true then _ else _) _ _ s
 rw [if_neg (by decide)]
 refine wpAny_bind (slicePart_ pl (wpAny_bind (slicePart_ pu (wpAny_bind (wpAny_pure ?_)))))
 show wpAny _ _ (match Builtin.Slice.sliceAdjust lo hi 1 (n : Int) with | (lo, hi) => pure (lo, (1 : Int), Builtin.Slice.slicePlaces lo hi 1)) _ _ s
 rw [adjust_gen lo hi n]
 show wpAny _ _ (pure (((sIx n 0 lo : Nat) : Int), (1 : Int), Builtin.Slice.slicePlaces ((sIx n 0 lo : Nat) : Int) ((sIx n n hi : Nat) : Int) 1)) _ _ s
 rw [places_gen]
 exact wpAny_pure h
theorem pick_gen (xs : Array Value) (i k : Nat) : ((List.range k).filterMap fun (m : Nat) => xs[((i : Int) + (m : Int) * 1).toNat]?).toArray = ((xs.toList.drop i).take k).toArray := by
 have e : (fun (m : Nat) => xs[((i : Int) + (m : Int) * 1).toNat]?) = fun m => xs[i + m]? := by
   funext m
   have : ((i : Int) + (m : Int) * 1).toNat = i + m := by lia
   rw [this]
 rw [e]
 have := pick_run xs i k
 rw [List.filterMap_map] at this
 have e2 : ((fun x => xs[x]?) ∘ fun x => i + x) = fun m => xs[i + m]? := rfl
 rw [e2] at this
 rw [this]
theorem getItem_tuple_cut {t sl : Addr} {items : Array Value} {vl vu : Value} {lo hi : Option Int} {Q : Value → Shared → Prop} (ht : IsTup s.heap t items) (hs : s.heap.IsSliceOf sl vl vu .none) (pl : IsPart vl lo) (pu : IsPart vu hi)
   (hw : ¬ (sIx items.size 0 lo = 0 ∧ sIx items.size items.size hi = items.size))
   (h : Q (.ref s.heap.objs.size) { s with heap := s.heap.push { cls := .type "tuple", data := .seq ((items.toList.drop (sIx items.size 0 lo)).take (sIx items.size items.size hi - sIx items.size 0 lo)).toArray } })
   (hsz : items.size ≤ sizeLine) : wpAny (model prog w) A (getItem (.ref t) (.ref sl)) Q E s := by
 have htake : sizeOk (.seq ((items.toList.drop (sIx items.size 0 lo)).take (sIx items.size items.size hi - sIx items.size 0 lo)).toArray) := by
   show ((items.toList.drop (sIx items.size 0 lo)).take (sIx items.size items.size hi - sIx items.size 0 lo)).toArray.size ≤ sizeLine
   rw [List.size_toArray, List.length_take, List.length_drop, Array.length_toList]
   lia
 have hj : sIx items.size items.size hi ≤ items.size := sIx_le _ _ (Nat.le_refl _) hi
 obtain ⟨os, hos, hcs, hds⟩ := id hs
 have hTs : s.TypeIs (.ref sl) "slice" := ⟨os, hos, hcs⟩
 unfold getItem
 try with_reducible refine wpAny_holding ?_
 first | refine wpAny_bind (wpAny_pure ?_) | skip
 refine wpAny_bind (wpAny_sequenceKey ht.typeIs (by decide) ?_)
 refine wpAny_bind (wpAny_callSpecial?_slot (name := Str.ofString "__getitem__") ht.typeIs PyProof.Rows.slot_tuple_getitem
   (wpAny_call_entry PyProof.Rows.slot_tuple_getitem ht.typeIs entry_tuple_getitem ?_ (args_tuple_getitem _ _)))
 show wpAny _ _ (Builtin.Tuple.tupleItemsOf (.ref t) >>= _) _ _ s
 refine wpAny_bind (tupleItemsOf_ ht ?_)
 refine wpAny_bind (wpAny_typeOf hTs ?_)
 rw [if_pos (by decide)]
 refine wpAny_bind (sliceApplied_gen hs pl pu ?_)
 have hno : ¬ ((((sIx items.size 0 lo : Nat) : Int) == 0 && (1 : Int) == 1 && (sIx items.size items.size hi - sIx items.size 0 lo) == items.size) = true) := by
   intro q
   rw [Bool.and_eq_true, Bool.and_eq_true] at q
   have q1 : ((sIx items.size 0 lo : Nat) : Int) = 0 := eq_of_beq q.1.1
   have q2 : sIx items.size items.size hi - sIx items.size 0 lo = items.size := eq_of_beq q.2
   exact hw ⟨by lia, by lia⟩
 show wpAny _ _ (if (((sIx items.size 0 lo : Nat) : Int) == 0 && (1 : Int) == 1 && (sIx items.size items.size hi - sIx items.size 0 lo) == items.size) = true then _ else _) _ _ s
 rw [if_neg hno, pick_gen]
 first
   | exact wpAny_bind (m := Builtin.Tuple.tupleExact _) (wpAny_newObj_type (wpAny_pure ⟨_, rfl, wpAny_pure h⟩) htake)
   | exact wpAny_bind (m := Builtin.Tuple.tupleExact _) (wpAny_newObj_type (wpAny_bind (wpAny_pure (wpAny_pure ⟨_, rfl, wpAny_pure h⟩))) htake)
   | exact wpAny_bind (wpAny_bind (m := Builtin.Tuple.tupleExact _) (wpAny_newObj_type (wpAny_pure (wpAny_pure ⟨_, rfl, wpAny_pure h⟩)) htake))
   | exact wpAny_bind (wpAny_bind (m := Builtin.Tuple.tupleExact _) (wpAny_newObj_type (wpAny_pure ⟨_, rfl, wpAny_pure h⟩) htake))
end
end HT
namespace L2
open PySem PySem.Spec PyProof.Rows
noncomputable abbrev TO := St → Hp → (Option Int → Hp → Prop) → Prop
noncomputable def PO (X : Cx) (e : Option Expr) (t : TO) : Prop :=
 ∀ (pins : List (Addr × Obj)) (s : Shared) (σ : St) (H : Hp) (Q : Option Int → Hp → Prop), Inv X pins σ H s → t σ H Q →
   wpAny (model X.prog X.w) X.A (evalPart e X.env) (fun u s' => ∃ o H', Inv X pins σ H' s' ∧ IsPart u o ∧ Q o H') X.xe s
noncomputable def tPart (t : TE) : TO := fun σ H Q => t σ H fun x H1 => ∃ i, x = .int i ∧ Q (some i) H1
theorem intsAre_of {ns : List Int} : ∀ {us : List Value}, Vals (ns.map V.int) us → IntsAre us ns := by
 induction ns with
 | nil => intro us r; rw [List.map_nil] at r; cases r; exact .nil
 | cons n ns ih =>
   intro us r
   rw [List.map_cons] at r
   cases r with
   | cons r1 r2 =>
     obtain ⟨t, e⟩ := r1
     subst e
     exact .cons n t (ih r2)
section
variable {X : Cx} {e : Expr} {te : TE} {lo hi : Option Expr} {tl th : TO} {pos p2 : Pos}
theorem po_some (h : PE X e te) : PO X (some e) (tPart te) := by
 intro pins s σ H Q I hw
 rw [evalPart_some]
 refine thn (h pins s σ H _ I hw) fun u s1 ⟨x, H1, I1, r1, q1⟩ => ?_
 obtain ⟨i, rfl, q⟩ := q1
 obtain ⟨t, rfl⟩ := r1
 exact ⟨some i, H1, I1, .int i t, q⟩
noncomputable def SlR (X : Cx) (r : V → Option Int → Option Int → Hp → VK → Prop) : Prop :=
 ∀ (pins : List (Addr × Obj)) (s : Shared) (σ : St) (H : Hp) (x : V) (v vl vu : Value) (lo hi : Option Int) (sl : Addr) (Q : VK), Inv X pins σ H s → RelV x v → s.heap.IsSliceOf sl vl vu .none → IsPart vl lo → IsPart vu hi → r x lo hi H Q →
   ∃ T id, typeLookup (.type T) "__getitem__" = pure (some (.builtin id)) ∧ s.TypeIs v T ∧ wpAny (model X.prog X.w) X.A (getItem v (.ref sl)) (EP X pins σ Q) X.xe s
theorem SlR.or {r r' : V → Option Int → Option Int → Hp → VK → Prop} (h : SlR X r) (h' : SlR X r') : SlR X (fun x lo hi H Q => r x lo hi H Q ∨ r' x lo hi H Q) := by
 intro pins s σ H x v vl vu lo hi sl Q I rx hs pl pu q
 rcases q with q | q
 · exact h pins s σ H x v vl vu lo hi sl Q I rx hs pl pu q
 · exact h' pins s σ H x v vl vu lo hi sl Q I rx hs pl pu q
noncomputable def tSl (r : V → Option Int → Option Int → Hp → VK → Prop) (te : TE) (tl th : TO) : TE := fun σ H Q => te σ H fun x H1 => tl σ H1 fun l H2 => th σ H2 fun u H3 => r x l u H3 Q
theorem pe_slice {r : V → Option Int → Option Int → Hp → VK → Prop} (hr : SlR X r) (he : PE X e te) (hl : PO X lo tl) (hu : PO X hi th) : PE X (.Subscript e (.Slice lo hi none p2) pos) (tSl r te tl th) := by
 intro pins s σ H Q I h
 refine Subscript_ (thn (he pins s σ H _ I h) fun v s1 ⟨x, H1, I1, r1, q1⟩ => ?_)
 refine wpAny_Slice (thn (hl pins s1 σ H1 _ I1 q1) fun vl s2 ⟨l, H2, I2, pl, q2⟩ => thn (hu pins s2 σ H2 _ I2 q2) fun vu s3 ⟨u, H3, I3, pu, q3⟩ => ?_)
 rw [evalPart_none]
 refine wpAny_pure ?_
 have I4 : Inv X pins σ H3 { s3 with heap := s3.heap.push { cls := .type "slice", data := .fields #[vl, vu, .none] } } := I3.kept (t' := s3.toks) fun b ob q => Heap.get?_push_of_some _ q
 obtain ⟨T, id, hT, ht, hg⟩ := hr pins { s3 with heap := s3.heap.push { cls := .type "slice", data := .fields #[vl, vu, .none] } } σ H3 x v vl vu l u s3.heap.objs.size Q I4 r1 (Heap.IsSliceOf.new ..) pl pu q3
 show wpAny (model X.prog X.w) X.A (subscriptTail e (.Slice lo hi none p2) v (.ref s3.heap.objs.size)) (EP X pins σ Q) X.xe { s3 with heap := s3.heap.push { cls := .type "slice", data := .fields #[vl, vu, .none] } }
 exact tail_any (ops := [.ref s3.heap.objs.size, v]) ht hT hg (by with_unfolding_all rfl)
noncomputable def cutV (xs : List V) (lo hi : Option Int) : List V := (xs.drop (HT.sIx xs.length 0 lo)).take (HT.sIx xs.length xs.length hi - HT.sIx xs.length 0 lo)
theorem cutV_length (xs : List V) (lo hi : Option Int) : (cutV xs lo hi).length ≤ xs.length := by
 unfold cutV
 rw [List.length_take, List.length_drop]
 lia
noncomputable def rSlT (K : PySem.W.Frag) : V → Option Int → Option Int → Hp → VK → Prop := fun x lo hi H Q => ∃ a xs, x = .ref a ∧ SqT K H a xs ∧
 ¬ (HT.sIx xs.length 0 lo = 0 ∧ HT.sIx xs.length xs.length hi = xs.length) ∧ ∀ p, H p = none → Q (.ref p) (upd H p (.tup (cutV xs lo hi)))
theorem sl_tup : SlR X (rSlT X.K) := by
 intro pins s σ H x v vl vu lo hi sl Q I rx hs pl pu h
 obtain ⟨a, xs, rfl, hx, hw, q⟩ := h
 cases rx
 obtain ⟨its, r, ht, hz⟩ := I.tuple hx
 have hlen : its.toArray.size = xs.length := by rw [List.size_toArray]; exact r.length.symm
 refine ⟨"tuple", _, PyProof.Rows.slot_tuple_getitem.lookup, ht.typeIs, ?_⟩
 refine HT.getItem_tuple_cut ht hs pl pu (by rw [hlen]; exact hw) ?_ (by rw [hlen]; exact hz)
 rw [hlen]
 refine ⟨.ref s.heap.objs.size, _, I.laid (t' := s.toks) (o := .tup (cutV xs lo hi)) (fun b ob q => Heap.get?_push_of_some _ q) (Nat.le_refl _) ?_, rfl, q _ (I.hok.fresh (Nat.le_refl _))⟩
 exact ⟨Nat.le_trans (cutV_length xs lo hi) hz, _, (r.drop (HT.sIx xs.length 0 lo)).take (HT.sIx xs.length xs.length hi - HT.sIx xs.length 0 lo), IsTup0.new _ _⟩
noncomputable def rCatT (K : PySem.W.Frag) : R2 := fun x y H Q => ∃ a b xs ys, x = .ref a ∧ y = .ref b ∧ SqT K H a xs ∧ SqT K H b ys ∧ xs ≠ [] ∧ xs.length + ys.length ≤ sizeLine ∧
 (ys = [] → Q (.ref a) H) ∧ (ys ≠ [] → ∀ p, H p = none → Q (.ref p) (upd H p (.tup (xs ++ ys))))
theorem Vals.nil_iff {xs : List V} {us : List Value} (r : Vals xs us) : us = [] ↔ xs = [] := by
 cases r with
 | nil => simp
 | cons _ _ => simp
theorem op_catT : OpR X (binaryOp .Add) (rCatT X.K) := by
 intro pins s σ H x y v u Q I rx ry h
 obtain ⟨a, b, xs, ys, rfl, rfl, ha, hb, hx, hz, q1, q2⟩ := h
 cases rx
 cases ry
 obtain ⟨its, r1, p1, _⟩ := I.tuple ha
 obtain ⟨its2, r2, p2, _⟩ := I.tuple hb
 refine HT.cat_tup p1 p2 (fun z => hx (r1.nil_iff.mp z)) (fun z => ⟨.ref a, H, I, rfl, q1 (r2.nil_iff.mp z)⟩) (fun z => ?_) (by rw [← r1.length, ← r2.length]; exact hz)
 refine ⟨.ref s.heap.objs.size, _, I.laid (t' := s.toks) (o := .tup (xs ++ ys)) (fun b ob q => Heap.get?_push_of_some _ q) (Nat.le_refl _) ?_, rfl, q2 (fun w => z (r2.nil_iff.mpr w)) _ (I.hok.fresh (Nat.le_refl _))⟩
 exact ⟨by rw [List.length_append]; exact hz, _, r1.append r2, IsTup0.new _ _⟩
end
end L2
namespace L2
open PySem PySem.Spec PyProof.Rows
noncomputable def ixN (n : Nat) (i : Int) : Option Nat := if 0 ≤ i then (if i < n then some i.toNat else none) else if -(n : Int) ≤ i then some (i + n).toNat else none
noncomputable def atI {α : Type} (xs : List α) (i : Int) : Option α := (ixN xs.length i).bind fun j => xs[j]?
theorem ixN_seq {n : Nat} {i : Int} {j : Nat} (h : ixN n i = some j) : seqIndex? i n = some j ∧ j < n ∧ -(n : Int) ≤ i ∧ i < n := by
 unfold ixN at h
 by_cases h0 : 0 ≤ i
 · rw [if_pos h0] at h
   by_cases h1 : i < n
   · rw [if_pos h1] at h
     have e : i.toNat = j := Option.some.inj h
     exact ⟨by rw [seqIndex_of h0 h1, e], by lia, by lia, h1⟩
   · rw [if_neg h1] at h; cases h
 · rw [if_neg h0] at h
   by_cases h1 : -(n : Int) ≤ i
   · rw [if_pos h1] at h
     have e : (i + n).toNat = j := Option.some.inj h
     exact ⟨by rw [seqIndex_neg (by lia) h1, e], by lia, h1, by lia⟩
   · rw [if_neg h1] at h; cases h
theorem atI_get {α : Type} {xs : List α} {i : Int} {v : α} (h : atI xs i = some v) : ∃ j, seqIndex? i xs.length = some j ∧ xs[j]? = some v ∧ j < xs.length ∧ -(xs.length : Int) ≤ i ∧ i < xs.length := by
 unfold atI at h
 cases e : ixN xs.length i with
 | none => rw [e] at h; cases h
 | some j =>
   rw [e] at h
   obtain ⟨h1, h2, h3, h4⟩ := ixN_seq e
   exact ⟨j, h1, h, h2, h3, h4⟩
theorem atI_nat {α : Type} {xs : List α} {j : Nat} {v : α} (h : xs[j]? = some v) : atI xs (j : Int) = some v := by
 have hj : j < xs.length := (List.getElem?_eq_some_iff.mp h).1
 have e : ixN xs.length (j : Int) = some j := by
   unfold ixN
   rw [if_pos (by lia), if_pos (by lia)]; simp
 unfold atI; rw [e]; exact h
noncomputable def PlainIx (b : Expr) : Prop := ∀ o i, subscripted b false o i = operate [o, i] (getItem o i)
noncomputable def IxR (X : Cx) (r : R2) : Prop :=
 ∀ (value slice : Expr) (pins : List (Addr × Obj)) (s : Shared) (σ : St) (H : Hp) (x y : V) (v u : Value) (Q : VK), Inv X pins σ H s → RelV x v → RelV y u → r x y H Q →
   subscripted slice false v u = operate [v, u] (getItem v u) → wpAny (model X.prog X.w) X.A (subscriptTail value slice v u) (EP X pins σ Q) X.xe s
noncomputable def MtR (X : Cx) (id : String) (r : V → List V → Hp → VK → Prop) : Prop :=
 ∀ (pins : List (Addr × Obj)) (s : Shared) (σ : St) (H : Hp) (x : V) (xs : List V) (v : Value) (us : List Value) (Q : VK), Inv X pins σ H s → RelV x v → Vals xs us → r x xs H Q →
   wpAny (model X.prog X.w) X.A (call (.builtin id) (v :: us)) (EP X pins σ Q) X.xe s
section
variable {X : Cx} {a b : Expr} {ta tb : TE} {pos : Pos}
theorem pe_ix {r : R2} (hr : IxR X r) (ha : PE X a ta) (hb : PE X b tb) (hs : PlainIx b) : PE X (.Subscript a b pos) (tOp r ta tb) := by
 intro pins s σ H Q I h
 exact Subscript_ (binT ha hb I h fun v u s2 x y H2 I2 rx ry q => hr a b pins s2 σ H2 x y v u Q I2 rx ry q (hs _ _))
noncomputable def rIxL (K : PySem.W.Frag) : R2 := fun x y H Q => ∃ p xs i v, x = .ref p ∧ y = .int i ∧ SqL K H p xs ∧ atI xs i = some v ∧ Q v H
noncomputable def rIxT (K : PySem.W.Frag) : R2 := fun x y H Q => ∃ p xs i v, x = .ref p ∧ y = .int i ∧ SqT K H p xs ∧ atI xs i = some v ∧ Q v H
noncomputable def rIxS : R2 := fun x y H Q => ∃ z i c, x = .str z ∧ y = .int i ∧ z.length ≤ sizeLine ∧ atI z.cps.toList i = some c ∧ Q (.str ⟨#[c]⟩) H
theorem ix_list : IxR X (rIxL X.K) := by
 intro value slice pins s σ H x y v u Q I rx ry h hs
 obtain ⟨p, xs, i, z, rfl, rfl, hq, he, q⟩ := h
 cases rx
 obtain ⟨t, rfl⟩ := ry
 obtain ⟨its, r, pl, hz⟩ := I.list hq
 obtain ⟨j, h1, h2, h3, h4, h5⟩ := atI_get he
 obtain ⟨w, ew, rw'⟩ := r.get h2
 have hl := r.length
 have hn := line63
 have fin : EP X pins σ Q w s := ⟨z, H, I, rw', q⟩
 by_cases h0 : 0 ≤ i
 · have hj : i.toNat = j := by
     rw [seqIndex_of h0 h5] at h1
     exact Option.some.inj h1
   exact item_listR pl.isList h0 (by lia) (by rw [hj]; simpa using ew) fin hs
 · have hj : (i + (its.toArray.size : Int)).toNat = j := by
     rw [seqIndex_neg (by lia) h4] at h1
     rw [List.size_toArray, ← hl]
     exact Option.some.inj h1
   exact subscriptTail_builtinR (x := w) pl.isList.typeIs slot_list_getitem.lookup
     (wpAny_getItem_list_neg (Q := fun r s' => r = w ∧ EP X pins σ Q r s') pl.isList (by lia) (by rw [List.size_toArray] <;> lia) (by lia) (by rw [hj]; simpa using ew) ⟨rfl, fin⟩) hs
theorem ix_tup : IxR X (rIxT X.K) := by
 intro value slice pins s σ H x y v u Q I rx ry h hs
 obtain ⟨p, xs, i, z, rfl, rfl, hq, he, q⟩ := h
 cases rx
 obtain ⟨t, rfl⟩ := ry
 obtain ⟨its, r, pl, hz⟩ := I.tuple hq
 obtain ⟨j, h1, h2, h3, h4, h5⟩ := atI_get he
 obtain ⟨w, ew, rw'⟩ := r.get h2
 have hl := r.length
 have hn := line63
 have fin : EP X pins σ Q w s := ⟨z, H, I, rw', q⟩
 exact subscriptTail_builtinR (x := w) pl.typeIs slot_tuple_getitem.lookup
   (getItem_tuple (j := j) (Q := fun r s' => r = w ∧ EP X pins σ Q r s') pl (by lia) (by lia) (by rw [List.size_toArray, ← hl]; exact h1) (by simpa using ew) ⟨rfl, fin⟩) hs
theorem ix_str : IxR X rIxS := by
 intro value slice pins s σ H x y v u Q I rx ry h hs
 obtain ⟨z, i, c, rfl, rfl, hz, he, q⟩ := h
 obtain ⟨t, rfl⟩ := rx
 obtain ⟨t', rfl⟩ := ry
 obtain ⟨j, h1, h2, h3, h4, h5⟩ := atI_get he
 have hl : z.cps.toList.length = z.length := by simp [Str.length]
 rw [hl] at h1 h4 h5
 have hn := line63
 exact tail_any (typeIs_str s z t) slot_str_getitem.lookup (getItem_str (c := c) (by
   have e1 : decide (i < -(2 ^ 63 : Int)) = false := decide_eq_false (by lia)
   have e2 : decide (i ≥ 2 ^ 63) = false := decide_eq_false (by lia)
   rw [e1, e2, Bool.or_false]) (by rw [h1]; simpa using h2) ⟨.str ⟨#[c]⟩, H, I.tok _, ⟨_, rfl⟩, q⟩) hs
theorem mapSeq_set (its : List Value) (n j : Nat) (u : Value) : Obj.mapSeq (·.setIfInBounds j u) { cls := .type "list", data := .seq its.toArray n } = { cls := .type "list", data := .seq (its.set j u).toArray n } := by
 simp [Obj.mapSeq]
theorem Inv.lst {pins : List (Addr × Obj)} {σ : St} {H : Hp} {s : Shared} {p : Addr} {xs : List V} (I : Inv X pins σ H s) (h : H p = some (.lst xs)) :
   ∃ (its : List Value) (n : Nat), Vals xs its ∧ s.heap.get? p = some { cls := .type "list", data := .seq its.toArray n } ∧ xs.length ≤ sizeLine := by
 obtain ⟨z, its, n, r, e⟩ := I.hok p _ h
 exact ⟨its, n, r, e, z⟩
theorem Inv.lstUpd {pins : List (Addr × Obj)} {σ : St} {H : Hp} {s : Shared} {p : Addr} {xs ys : List V} {its its' : List Value} {n n' : Nat} {f : Obj → Obj} (I : Inv X pins σ H s) (h : H p = some (.lst xs))
   (ho : s.heap.get? p = some { cls := .type "list", data := .seq its.toArray n }) (hf : f { cls := .type "list", data := .seq its.toArray n } = { cls := .type "list", data := .seq its'.toArray n' }) (r : Vals ys its') (hz : ys.length ≤ sizeLine) (t : Nat) :
   Inv X pins σ (upd H p (.lst ys)) { s with heap := s.heap.update p f, toks := t } := by
 have e : (s.heap.update p f).get? p = some { cls := .type "list", data := .seq its'.toArray n' } := by
   rw [Heap.get?_update_self f ho (by rw [hf] <;> rfl), hf]
 refine I.write (x := p) (e := p) (by rw [h]; trivial) (.inl rfl) (fun b u hb q => (Heap.get?_update_other _ _ (Ne.symm hb)).trans q) ⟨_, e⟩ ?_
 exact ⟨hz, its', n', r, e⟩
noncomputable def rSetL : V → V → V → Hp → (Hp → Prop) → Prop := fun o i v H Q => ∃ p xs k j, o = .ref p ∧ i = .int k ∧ H p = some (.lst xs) ∧ ixN xs.length k = some j ∧ Q (upd H p (.lst (xs.set j v)))
theorem set_list : PSet X rSetL := by
 intro pins s σ H o i v ov iv u Q I ro ri rv h
 obtain ⟨p, xs, k, j, rfl, rfl, hp, hj, q⟩ := h
 cases ro
 obtain ⟨t, rfl⟩ := ri
 obtain ⟨its, n, r, ho, hz⟩ := I.lst hp
 obtain ⟨h1, h2, h3, h4⟩ := ixN_seq hj
 have hl := r.length
 have hn := line63
 have I' : Inv X pins σ (upd H p (.lst (xs.set j v))) { s with heap := s.heap.update p (Obj.mapSeq (·.setIfInBounds j u)) } :=
   I.lstUpd hp ho (mapSeq_set its n j u) (r.set rv j) (by rw [List.length_set]; exact hz) s.toks
 by_cases h0 : 0 ≤ k
 · have hk : k.toNat = j := by
     rw [seqIndex_of h0 h4] at h1
     exact Option.some.inj h1
   exact PySem.W.ki_setAt ho h0 (by lia) (by rw [List.size_toArray, ← hl]; exact h4) (by rw [hk]; exact ⟨_, I', q⟩)
 · have hk : (k + (its.toArray.size : Int)).toNat = j := by
     rw [seqIndex_neg (by lia) h3] at h1
     rw [List.size_toArray, ← hl]
     exact Option.some.inj h1
   exact PySem.W.ki_setBack ho (by lia) (by rw [List.size_toArray, ← hl]; exact h3) (by lia) (by rw [hk]; exact ⟨_, I', q⟩)
theorem slice_bounds (lo hi : Option Int) (n : Nat) : (sliceBounds lo hi none n).1 = ((HT.sIx n 0 lo : Nat) : Int) ∧ (sliceBounds lo hi none n).2.1 = ((HT.sIx n n hi : Nat) : Int) ∧ (sliceBounds lo hi none n).2.2 = 1 := by
 refine ⟨?_, ?_, rfl⟩
 · cases lo with
   | none => simp [sliceBounds, HT.sIx]
   | some i =>
     simp only [sliceBounds, HT.sIx, Option.getD_none, show (1 : Int) > 0 by decide, if_true]
     by_cases h : i < 0
     · simp only [h, if_true] <;> lia
     · simp only [h, if_false] <;> lia
 · cases hi with
   | none => simp [sliceBounds, HT.sIx]
   | some i =>
     simp only [sliceBounds, HT.sIx, Option.getD_none, show (1 : Int) > 0 by decide, if_true]
     by_cases h : i < 0
     · simp only [h, if_true] <;> lia
     · simp only [h, if_false] <;> lia
theorem slicePick_cut (its : List Value) (lo hi : Option Int) : slicePick its.toArray lo hi none = ((its.drop (HT.sIx its.length 0 lo)).take (HT.sIx its.length its.length hi - HT.sIx its.length 0 lo)).toArray := by
 obtain ⟨h1, h2, h3⟩ := slice_bounds lo hi its.toArray.size
 unfold slicePick
 rw [h1, h2, h3]
 simp only [sliceRange_one, pick_run, List.size_toArray] <;> rfl
noncomputable def rSlL (K : PySem.W.Frag) : V → Option Int → Option Int → Hp → VK → Prop := fun x lo hi H Q => ∃ a xs, x = .ref a ∧ SqL K H a xs ∧ ∀ p, H p = none → Q (.ref p) (upd H p (.lst (cutV xs lo hi)))
theorem sl_list : SlR X (rSlL X.K) := by
 intro pins s σ H x v vl vu lo hi sl Q I rx hs pl pu h
 obtain ⟨a, xs, rfl, hx, q⟩ := h
 cases rx
 obtain ⟨its, r, ht, hz⟩ := I.list hx
 have hlen := r.length
 refine ⟨"list", _, slot_list_getitem.lookup, ht.isList.typeIs, ?_⟩
 refine wpAny_getItem_list_slice ht.isList hs pl pu .none (by simp) ?_ (by rw [List.size_toArray] <;> lia)
 rw [slicePick_cut, ← hlen]
 refine ⟨.ref s.heap.objs.size, _, I.laid (t' := s.toks) (o := .lst (cutV xs lo hi)) (fun b ob q => Heap.get?_push_of_some _ q) (Nat.le_refl _) ?_, rfl, q _ (I.hok.fresh (Nat.le_refl _))⟩
 exact ⟨Nat.le_trans (cutV_length xs lo hi) hz, _, 0, (r.drop (HT.sIx xs.length 0 lo)).take (HT.sIx xs.length xs.length hi - HT.sIx xs.length 0 lo), Heap.get?_push_size _ rfl⟩
theorem call_len_seq : CallR X (.builtin "len") (fun xs H Q => ∃ p ys, xs = [.ref p] ∧ (SqL X.K H p ys ∨ SqT X.K H p ys) ∧ Q (.int ys.length) H) := by
 intro pins s σ H xs us Q I r h
 obtain ⟨p, ys, rfl, hq, q⟩ := h
 obtain ⟨u, rfl, rx⟩ := vals1 r
 cases rx
 have hn := line63
 rcases hq with hq | hq
 · obtain ⟨its, r', pl, hz⟩ := I.list hq
   have hlen := r'.length
   exact Calls.call_len_list pl.isList (by simp only [List.size_toArray] <;> lia) ⟨.int ys.length, H, I.tok _, ⟨s.toks + 1, by rw [List.size_toArray, hlen]⟩, q⟩
 · obtain ⟨its, r', pl, hz⟩ := I.tuple hq
   have hlen := r'.length
   exact len_tuple pl (by simp only [List.size_toArray] <;> lia) ⟨.int ys.length, H, I.tok _, ⟨s.toks + 1, by rw [List.size_toArray, hlen]⟩, q⟩
theorem call_len_str : CallR X (.builtin "len") (fun xs H Q => ∃ z, xs = [.str z] ∧ z.length ≤ sizeLine ∧ Q (.int z.length) H) := by
 intro pins s σ H xs us Q I r h
 obtain ⟨z, rfl, hz, q⟩ := h
 obtain ⟨u, rfl, t, rfl⟩ := vals1 r
 have hn := line63
 exact len_str (by lia) ⟨.int z.length, H, I.tok _, ⟨_, rfl⟩, q⟩
theorem call_list_of : CallR X (.type "list") (fun xs H Q => ∃ p ys, xs = [.ref p] ∧ (SqL X.K H p ys ∨ SqT X.K H p ys) ∧ ∀ l, H l = none → Q (.ref l) (upd H l (.lst ys))) := by
 intro pins s σ H xs us Q I r h
 obtain ⟨p, ys, rfl, hq, q⟩ := h
 obtain ⟨u, rfl, rx⟩ := vals1 r
 cases rx
 have fin : ∀ (its : List Value), Vals ys its → ys.length ≤ sizeLine → ∀ (h' : Heap) (c' : Nat), (∀ b o', s.heap.get? b = some o' → h'.get? b = some o') →
     h'.get? s.heap.objs.size = some { cls := .type "list", dict := none, data := .seq its.toArray c', slots := #[] } → EP X pins σ Q (.ref s.heap.objs.size) { s with heap := h' } := fun its r' hz h' c' kp e =>
   ⟨.ref s.heap.objs.size, _, I.laid (t' := s.toks) kp (Nat.le_refl _) (show ObjOk X.prog X.w _ h' _ (.lst ys) from ⟨hz, its, c', r', e⟩), rfl, q _ (I.hok.fresh (Nat.le_refl _))⟩
 rcases hq with hq | hq
 · obtain ⟨its, r', pl, hz⟩ := I.list hq
   have hlen := r'.length
   obtain ⟨o, ho, hc, n, hd⟩ := pl.isList
   exact call_list_seq p (.inl rfl) ho hc hd (fun h' c' kp e => fin its r' hz h' c' kp e) (by simp only [List.size_toArray] <;> lia)
 · obtain ⟨its, r', pl, hz⟩ := I.tuple hq
   have hlen := r'.length
   obtain ⟨o, ho, hc, n, hd⟩ := pl
   exact call_list_seq p (.inr rfl) ho hc hd (fun h' c' kp e => fin its r' hz h' c' kp e) (by simp only [List.size_toArray] <;> lia)
theorem call_tuple_of : CallR X (.type "tuple") (fun xs H Q => ∃ p ys, xs = [.ref p] ∧ ((SqL X.K H p ys ∧ ∀ l, H l = none → Q (.ref l) (upd H l (.tup ys))) ∨ (SqT X.K H p ys ∧ Q (.ref p) H))) := by
 intro pins s σ H xs us Q I r h
 obtain ⟨p, ys, rfl, h⟩ := h
 obtain ⟨u, rfl, rx⟩ := vals1 r
 cases rx
 rcases h with ⟨hq, q⟩ | ⟨hq, q⟩
 · obtain ⟨its, r', pl, hz⟩ := I.list hq
   have hlen := r'.length
   refine call_tuple_list pl.isList (fun h' kp => ?_) (by simp only [List.size_toArray] <;> lia)
   have I1 : Inv X pins σ H { s with heap := h' } := I.kept (t' := s.toks) kp
   have I2 : Inv X pins σ (upd H h'.objs.size (.tup ys)) { s with heap := h'.push { cls := .type "tuple", data := .seq its.toArray } } :=
     I1.laid (t' := s.toks) (fun b o e => Heap.get?_push_of_some _ e) (Nat.le_refl _) (show ObjOk X.prog X.w _ _ _ (.tup ys) from ⟨hz, its, r', IsTup0.new _ _⟩)
   exact ⟨.ref h'.objs.size, _, I2, rfl, q _ (I1.hok.fresh (Nat.le_refl _))⟩
 · obtain ⟨its, r', pl, hz⟩ := I.tuple hq
   exact call_tuple_same pl ⟨.ref p, H, I, rfl, q⟩
noncomputable def tyV (K : PySem.W.Frag) (T : String) (x : V) (H : Hp) : Prop := match x with
 | .str _ => T = "str"
 | .int _ => T = "int"
 | .ref p => (T = "list" ∧ ∃ xs, SqL K H p xs) ∨ (T = "tuple" ∧ ∃ o, K.lookup p = some o ∧ o.cls = .type "tuple" ∧ o.dict = none) ∨
     (T = "dict" ∧ ((∃ kvs, H p = some (.dK kvs)) ∨ ∃ kvs, H p = some (.dT kvs))) ∨ (T = "set" ∧ ∃ S n, H p = some (.set S n))
 | _ => False
theorem tyV_is {pins : List (Addr × Obj)} {σ : St} {H : Hp} {s : Shared} {T : String} {x : V} {v : Value} (I : Inv X pins σ H s) (r : RelV x v) (ty : tyV X.K T x H) :
   s.TypeIs v T ∧ ∀ a, v = .ref a → ∃ ob, s.heap.get? a = some ob ∧ ob.dict = none := by
 cases x with
 | str z =>
   obtain ⟨t, rfl⟩ := r
   cases (show T = "str" from ty)
   exact ⟨typeIs_str s z t, fun _ e => nomatch e⟩
 | int i =>
   obtain ⟨t, rfl⟩ := r
   cases (show T = "int" from ty)
   exact ⟨typeIs_int s i t, fun _ e => nomatch e⟩
 | ref p =>
   cases r
   rcases ty with ⟨rfl, xs, hq⟩ | ⟨rfl, o, hk, hc, hd⟩ | ⟨rfl, hk⟩ | ⟨rfl, S, n, hk⟩
   · obtain ⟨its, _, pl, _⟩ := I.list hq
     refine ⟨pl.isList.typeIs, fun a e => ?_⟩
     cases e
     obtain ⟨o, n, e, c, hd, _⟩ := pl
     exact ⟨o, e, hd⟩
   · refine ⟨⟨o, I.kIn p o hk, hc⟩, fun a e => ?_⟩
     cases e
     exact ⟨o, I.kIn _ o hk, hd⟩
   · have z : ∃ o, s.heap.get? p = some o ∧ o.ExactDict := by
       rcases hk with ⟨kvs, hk⟩ | ⟨kvs, hk⟩
       · obtain ⟨_, _, _, _, o, _, _, e, ex, _⟩ := I.hok p _ hk
         exact ⟨o, e, ex⟩
       · obtain ⟨_, _, _, _, o, _, _, e, ex, _⟩ := I.hok p _ hk
         exact ⟨o, e, ex⟩
     obtain ⟨o, e, ex⟩ := z
     refine ⟨⟨o, e, ex.1⟩, fun a e2 => ?_⟩
     cases e2
     exact ⟨o, e, ex.2.1⟩
   · obtain ⟨o, _, _, _, e, ex, _⟩ := I.hok p _ hk
     refine ⟨⟨o, e, ex.1⟩, fun a e2 => ?_⟩
     cases e2
     exact ⟨o, e, ex.2.1⟩
 | _ => exact False.elim ty
noncomputable def tBM (K : PySem.W.Frag) (T : String) (r : V → List V → Hp → VK → Prop) (to : TE) (t : TA) : TE := fun σ H Q => to σ H fun x H1 => tyV K T x H1 ∧ t σ H1 fun xs H2 => r x xs H2 Q
variable {o e : Expr} {es : List Expr} {to : TE} {t : TA} {name : Str} {apos cpos : Pos} {T id : String} {r : V → List V → Hp → VK → Prop}
theorem pe_bm (pa : PlainAttrs T) (slot : Slot T name id) (hty : typeOf (.builtin id) = pure (.type "method_descriptor")) (hm : MtR X id r) (ho : PE X o to) (ha : PA X (e :: es) t)
   (hbase : attributeBase o name X.env (eval o X.env) = eval o X.env := by rfl)
   (hfew : ((backTo cpos (starEach (e :: es) X.env)).all (fun x => !x.1) && (backToKw cpos (keywordEach [] X.env)).all (fun x => x.1.isSome)
     && decide ((e :: es).length + ([] : List Keyword).length + (if ([] : List Keyword).isEmpty then 0 else 1) < 30)) = true := by rfl)
   (hline : (apos.endLine == cpos.line) = true := by rfl) (hs : starEach (e :: es) X.env = (false, eval e X.env) :: starEach es X.env := by rfl) (hplain : (backTo cpos (starEach es X.env)).any (·.1) = false := by rfl) :
   PE X (.Call (.Attribute o name apos) (e :: es) [] cpos) (tBM X.K T r to t) := by
 intro pins s σ H Q I h
 refine wpAny_Call_method_late hbase hfew hline rfl (thn (ho pins s σ H _ I h) fun v s1 ⟨x, H1, I1, r1, ty, q1⟩ => ?_)
 obtain ⟨h1, h2⟩ := tyV_is I1 r1 ty
 refine ⟨T, id, pa, slot, hty, h1, h2, ?_⟩
 have hA := ha cpos pins s1 σ H1 _ I1 q1
 rw [hs] at hA ⊢
 refine Calls.callWith_builtin (by show (false || (backTo cpos (starEach es X.env)).any (·.1)) = false; rw [hplain] <;> rfl) (Calls.evalArgs_plain ?_)
 exact thn hA fun us s2 ⟨vs, H2, I2, r2, q2⟩ => hm pins s2 σ H2 x vs v us Q I2 r1 r2 q2
end
end L2
namespace L2
open PySem PySem.Spec PyProof.Rows
noncomputable def MtM (X : Cx) (id : String) (r : V → List V → Hp → VK → Prop) : Prop :=
 ∀ (pins : List (Addr × Obj)) (s : Shared) (σ : St) (H : Hp) (x : V) (xs : List V) (v : Value) (us : List Value) (Q : VK), Inv X pins σ H s → RelV x v → Vals xs us → r x xs H Q →
   wpAny (model X.prog X.w) X.A (call (.builtin id) (v :: us)) (EP X pins σ Q) X.xe s
theorem Vals.one : ∀ {x : V} {us : List Value}, Vals [x] us → ∃ u, us = [u] ∧ RelV x u
 | _, _, .cons r .nil => ⟨_, rfl, r⟩
theorem Vals.reverse {xs : List V} {us : List Value} (h : Vals xs us) : Vals xs.reverse us.reverse := by
 induction h with
 | nil => exact .nil
 | cons r t ih => rw [List.reverse_cons, List.reverse_cons]; exact Vals.append ih (.cons r .nil)
theorem Vals.rep {xs : List V} {us : List Value} (h : Vals xs us) : ∀ k : Nat, Vals (List.replicate k xs).flatten (List.replicate k us).flatten
 | 0 => .nil
 | k + 1 => by
   rw [List.replicate_succ, List.replicate_succ, List.flatten_cons, List.flatten_cons]
   exact Vals.append h (Vals.rep h k)
theorem foldl_rep (its : List Value) : ∀ (k : Nat) (acc : List Value),
   List.foldl (fun x1 x2 => x1 ++ x2) acc.toArray (List.replicate k its.toArray) = (acc ++ (List.replicate k its).flatten).toArray
 | 0, acc => by simp
 | k + 1, acc => by
   have e : acc.toArray ++ its.toArray = (acc ++ its).toArray := by simp
   have e2 : (acc ++ its) ++ (List.replicate k its).flatten = acc ++ (List.replicate (k + 1) its).flatten := by
     rw [List.replicate_succ, List.flatten_cons, List.append_assoc]
   rw [← e2, ← foldl_rep its k (acc ++ its), ← e, List.replicate_succ, List.foldl_cons]
section
variable {X : Cx} {pins : List (Addr × Obj)} {σ : St} {H : Hp} {s : Shared} {l b : Addr} {xs ys zs : List V}
theorem Inv.lset {its its' : List Value} {n : Nat} {f : Array Value → Array Value} {t' : Nat} (I : Inv X pins σ H s) (hH : H l = some (.lst xs))
   (e : s.heap.get? l = some { cls := .type "list", data := .seq its.toArray n }) (hf : f its.toArray = its'.toArray) (hv : Vals ys its') (hz : ys.length ≤ sizeLine) :
   Inv X pins σ (upd H l (.lst ys)) { s with heap := s.heap.update l (Obj.mapSeq f), toks := t' } := by
 have q := PySem.IsL.update e f
 rw [hf] at q
 refine I.write (x := l) (e := l) (by rw [hH]; exact trivial) (.inl rfl) (fun b' u hb hu => (Heap.get?_update_other s.heap (Obj.mapSeq f) (Ne.symm hb)).trans hu) ⟨_, q⟩ ?_
 exact ⟨hz, its', _, hv, q⟩
theorem Inv.lnew {its : List Value} {t' : Nat} (I : Inv X pins σ H s) (hv : Vals ys its) (hz : ys.length ≤ sizeLine) :
   Inv X pins σ (upd H s.heap.objs.size (.lst ys)) { s with heap := s.heap.push { cls := .type "list", data := .seq its.toArray }, toks := t' } :=
 I.laid (fun _ _ q => Heap.get?_push_of_some _ q) (Nat.le_refl _) ⟨hz, its, 0, hv, Heap.get?_push_size _ rfl⟩
theorem Inv.fresh (I : Inv X pins σ H s) : H s.heap.objs.size = none := I.hok.fresh (Nat.le_refl _)
theorem Inv.lstM (I : Inv X pins σ H s) (hH : H l = some (.lst xs)) : xs.length ≤ sizeLine ∧ ∃ (its : List Value) (n : Nat), Vals xs its ∧ xs.length = its.length ∧ s.heap.get? l = some { cls := .type "list", data := .seq its.toArray n } := by
 obtain ⟨z, its, n, r, e⟩ := I.hok l _ hH
 exact ⟨z, its, n, r, r.length, e⟩
theorem notLongL {n : Nat} (h : n ≤ sizeLine) : Builtin.List.listTooLong n = false := by
 unfold Builtin.List.listTooLong
 exact decide_eq_false (by lia)
end
section
variable {X : Cx}
noncomputable def rAppend : V → List V → Hp → VK → Prop := fun x vs H Q => ∃ l xs y, x = .ref l ∧ vs = [y] ∧ H l = some (.lst xs) ∧ xs.length < sizeLine ∧ Q .non (upd H l (.lst (xs ++ [y])))
theorem mt_append : MtM X "list.append" rAppend := by
 intro pins s σ H x vs v us Q I rx rv h
 obtain ⟨l, xs, y, rfl, rfl, hH, hz, q⟩ := h
 cases rx
 obtain ⟨u, rfl, ru⟩ := rv.one
 obtain ⟨z, its, n, r, hl, e⟩ := I.lstM hH
 refine call_meets F.slot_list_append ⟨_, e, rfl⟩ F.entry_list_append (F.args_list_append_2 _ _) (PySem.list_append l its.toArray n u (by rw [List.size_toArray]; lia)) ⟨e, ?_⟩
 refine ⟨.non, _, I.lset (its' := its ++ [u]) hH e (by simp) (r.append (.cons ru .nil)) ?_, rfl, q⟩
 rw [List.length_append, List.length_singleton]
 lia
noncomputable def rExtend : V → List V → Hp → VK → Prop := fun x vs H Q => ∃ l b xs zs, x = .ref l ∧ vs = [.ref b] ∧ H l = some (.lst xs) ∧ H b = some (.lst zs) ∧ xs.length + zs.length ≤ sizeLine ∧ Q .non (upd H l (.lst (xs ++ zs)))
theorem mt_extend : MtM X "list.extend" rExtend := by
 intro pins s σ H x vs v us Q I rx rv h
 obtain ⟨l, b, xs, zs, rfl, rfl, hH, hB, hz, q⟩ := h
 cases rx
 obtain ⟨u, rfl, ru⟩ := rv.one
 cases ru
 obtain ⟨z, its, n, r, hl, e⟩ := I.lstM hH
 obtain ⟨z2, its2, n2, r2, hl2, e2⟩ := I.lstM hB
 have hsz : its.toArray.size + its2.toArray.size ≤ sizeLine := by rw [List.size_toArray, List.size_toArray]; lia
 have hlong : ¬ (!its.toArray.isEmpty && Builtin.List.listTooLong (its.toArray.size + its2.toArray.size)) = true := by
   rw [notLongL hsz, Bool.and_false]
   exact Bool.false_ne_true
 refine call_meets F.slot_list_extend ⟨_, e, rfl⟩ F.entry_list_extend (F.args_list_extend_2 _ _)
   (AutoSeq1.list_extend_list_list_0 l its.toArray n b its2.toArray n2 hlong (by rw [List.size_toArray]; lia) (by lia)) ⟨e, e2, ?_⟩
 refine ⟨.non, _, I.lset (its' := its ++ its2) hH e (by simp) (r.append r2) ?_, rfl, q⟩
 rw [List.length_append]
 lia
noncomputable def rCat : R2 := fun x y H Q => ∃ l b xs zs, x = .ref l ∧ y = .ref b ∧ H l = some (.lst xs) ∧ H b = some (.lst zs) ∧ xs.length + zs.length ≤ sizeLine ∧ ∀ p, H p = none → Q (.ref p) (upd H p (.lst (xs ++ zs)))
theorem op_cat : OpR X (binaryOp .Add) rCat := by
 intro pins s σ H x y v u Q I rx ry h
 obtain ⟨l, b, xs, zs, rfl, rfl, hH, hB, hz, q⟩ := h
 cases rx
 cases ry
 obtain ⟨z, its, n, r, hl, e⟩ := I.lstM hH
 obtain ⟨z2, its2, n2, r2, hl2, e2⟩ := I.lstM hB
 refine PySem.P.add_list e e2 ?_ (by rw [List.size_toArray, List.size_toArray]; lia)
 have ea : its.toArray ++ its2.toArray = (its ++ its2).toArray := by simp
 rw [ea]
 exact ⟨.ref _, _, I.lnew (t' := s.toks) (r.append r2) (by rw [List.length_append]; lia), rfl, q _ I.fresh⟩
noncomputable def rRep : R2 := fun x y H Q => ∃ l k xs, x = .ref l ∧ y = .int k ∧ H l = some (.lst xs) ∧ -(2 ^ 63) ≤ k ∧ k < 2 ^ 63 ∧ xs.length * k.toNat ≤ sizeLine ∧
 ∀ p, H p = none → Q (.ref p) (upd H p (.lst (List.replicate k.toNat xs).flatten))
theorem len_rep {α : Type} (xs : List α) (k : Nat) : (List.replicate k xs).flatten.length = k * xs.length := by
 induction k with
 | zero => simp
 | succ k ih => rw [List.replicate_succ, List.flatten_cons, List.length_append, ih, Nat.succ_mul, Nat.add_comm]
theorem op_rep : OpR X (binaryOp .Mult) rRep := by
 intro pins s σ H x y v u Q I rx ry h
 obtain ⟨l, k, xs, rfl, rfl, hH, h1, h2, hz, q⟩ := h
 cases rx
 obtain ⟨t, rfl⟩ := ry
 obtain ⟨z, its, n, r, hl, e⟩ := I.lstM hH
 have hlen : its.toArray.size * k.toNat ≤ sizeLine := by rw [List.size_toArray, ← hl]; exact hz
 have hcap : ¬ its.toArray.size * k.toNat > (2 ^ 63 - 1) / 8 := by
   have : (sizeLine : Nat) ≤ (2 ^ 63 - 1) / 8 := by decide
   lia
 have hfit : ¬ (!Builtin.List.listFitsIndex k) = true := by
   rw [fitsIndex_both h1 h2]
   exact Bool.false_ne_true
 have hlong : ¬ Builtin.List.listTooLong (its.toArray.size * k.toNat) = true := by
   rw [notLongL hlen]
   exact Bool.false_ne_true
 have hnew : List.foldl (fun x1 x2 => x1 ++ x2) #[] (List.replicate (if its.toArray.isEmpty = true then 0 else k.toNat) its.toArray) = (List.replicate k.toNat its).flatten.toArray := by
   have f0 : ∀ m : Nat, List.foldl (fun x1 x2 => x1 ++ x2) #[] (List.replicate m its.toArray) = (List.replicate m its).flatten.toArray := fun m => by
     have := foldl_rep its m []
     rw [List.nil_append] at this
     exact this
   rw [f0]
   cases its with
   | nil => simp
   | cons a r' => rw [if_neg (by simp)]
 refine wpAny_binaryOp_repeat_ref (T := "list") (U := "int") (by decide) ⟨_, e, rfl⟩ (fun s' => typeIs_int s' k t) noFill_list_mul F.fills_int_mul F.slot_int_rmul repeat_list F.slot_int_index.lookup
   (call_meets F.slot_int_rmul (typeIs_int s k t) F.entry_int_rmul (F.args_int_rmul_2 _ _) (int___rmul___int_list k t l its.toArray n)
     ⟨e, rfl, ⟨_, e, rfl⟩, call_meets F.slot_list_mul ⟨_, e, rfl⟩ F.entry_list_mul (F.args_list_mul_2 _ _) (AutoListH.list___mul___list_int_3 l its.toArray n k t hfit hcap hlong) ⟨e, ?_⟩⟩)
 rw [hnew]
 exact ⟨.ref _, _, I.lnew (t' := s.toks) (r.rep k.toNat) (by rw [len_rep, Nat.mul_comm]; exact hz), rfl, q _ I.fresh⟩
end
section
variable {prog : Program} {w : World} {A : Around} {E : Value → Shared → Prop} {s : Shared}
end
section
variable {X : Cx}
end
end L2
namespace Att
open PySem PySem.W PySem.Calls PyProof.Rows
theorem ints_of_wellAll {P : Params} {h : Heap} : ∀ (ns : List Int) (vs : List Value), WellAll P h vs (ns.map WData.int) → IntsAre vs ns := by
 intro ns
 induction ns with
 | nil =>
   intro vs w
   rw [List.map_nil] at w
   cases w
   exact .nil
 | cons n ns ih =>
   intro vs w
   rw [List.map_cons] at w
   cases w with
   | cons a b =>
     cases a
     exact .cons _ _ (ih _ b)
theorem script_of {l : OpenLaw} {n : Nat} (hn : l.most = some n) {P : Params} {h : Heap} {args : List WData} {vals : List Value}
   (hpre : l.row.toRowW.claim.pre args = true) (hwl : WellAll P h vals args) :
   ∃ a vs ns, vals = [Value.ref a] ∧ args = [WData.list (ns.map WData.int)] ∧ h.get? a = some { cls := .type "list", data := .seq vs.toArray } ∧ IntsAre vs ns ∧ ns.length ≤ n := by
 have hsh : WShape.hasAll [] args [.list .int] = true := (pre_splitW hpre).1
 have hc : l.pre.holds [] { args := args } = true := (pre_splitW hpre).2
 obtain ⟨d, r, rfl, h1, h2⟩ := hasAllW_cons hsh
 obtain rfl := hasAllW_nil h2
 obtain ⟨xs, rfl, h3⟩ := hasW_list h1
 obtain ⟨ns, rfl⟩ := items_int h3
 have hlen : ns.length ≤ n := by
   unfold OpenLaw.pre at hc
   have h4 : (WTm.not (.lt (.lit (.int (n : Int))) (.len (.arg 0)))).holds [] { args := [.list (ns.map .int)] } = true := by
     have h4 := (holds_andW hc).1
     rw [hn] at h4
     exact h4
   have h5 := condW_of h4 (w_not (w_lt w_lit (w_len_list (w_arg rfl))))
   rw [List.length_map] at h5
   refine Nat.le_of_not_lt fun q => ?_
   have q' : (n : Int) < ((ns.length : Nat) : Int) := by lia
   first
     | (rw [decide_eq_true q'] at h5; exact absurd h5 (by decide))
     | (simp at h5; lia)
 cases hwl with
 | cons w1 w2 =>
   cases w2
   cases w1 with
   | list ho hall => exact ⟨_, _, ns, rfl, rfl, ho, ints_of_wellAll ns _ hall, hlen⟩
theorem post_true (l : OpenLaw) (args : List WData) : l.row.toRowW.claim.post args (.bool true) args = true :=
 postW_of (r := l.row.toRowW) (X := (true == true))
   (show WShape.has [] (.bool true) .bool = true by first | rfl | decide | simp [WShape.has, WShape.arms, WShape.armsAll])
   (show (WTm.eq .res (.lit (.bool true))).value [] { args := args, res := some (.bool true), after := args } = some (.bool (true == true)) from w_eq_bool (w_res rfl) w_lit) rfl
theorem attach_call {l : OpenLaw} {n : Nat} {q : Program} {loose : List Str} {XP : (Str → Option Value) → Heap → Prop} {YP : World → Heap → Prop} {d : DefRec}
   (hn : l.most = some n) (hdf : d.params.defaults = [])
   (call : ∀ (w : World) (s₀ s₁ : Shared) (mg mb : Str → Option Value) (fa : Addr) (o : Obj) (pm cd doc : Value) (a : Addr) (vs : List Value) (ns : List Int),
     Ground q loose [] XP w s₀ mg mb s₁.heap → YP w s₁.heap →
     s₁.heap.get? fa = some o → o.data = .func (docDef d.name d.params d.body d.scope pm cd doc) → s₁.heap.CodeRec cd d.name → mg d.name = some (.ref fa) →
     s₁.heap.get? a = some { cls := .type "list", data := .seq vs.toArray } → IntsAre vs ns → ns.length ≤ n → s₁.gens = #[] →
     codeAny (model l.prog w) callerA (.call (.ref fa) ⟨[.ref a], []⟩) (fun r s' => r = .ok (.ret (.bool true)) ∧ OldK s₁.heap s'.heap ∧ s'.os = s₁.os ∧ AllBare s'.gens) s₁) :
   WalkO q loose XP YP l.row.toRowW d [] (fun f vs => PySem.call f vs) := by
 intro w s₀ s₁ mg mb G Y fa o pm cd doc dV kV ho hd hcd hD hmg hg args vals as hpre hlay hrd hwl hlo
 obtain rfl : dV = .none := Dflts.none hD hdf
 obtain rfl : kV = .none := Dflts.noKw hD
 obtain ⟨a, vs, ns, rfl, rfl, hobj, hints, hlen⟩ := script_of hn hpre hwl
 refine enter_call (codeAny_mono (call w s₀ s₁ mg mb fa o pm cd doc a vs ns G Y ho (fd_plain hd) hcd hmg hobj hints hlen hg) fun r s' hq => ?_)
 obtain ⟨rfl, h2, h3, h4⟩ := hq
 exact ⟨.inl ⟨.bool true, .bool true, [], rfl, fun _ => rfl, .bool true, post_true l _, fun _ => ⟨List.Pairwise.nil, fun _ hm => (nomatch hm)⟩⟩, h2, h3, h4⟩
section
variable {prog : Program} {w : World} {A : Around} {E : Value → Shared → Prop} {s : Shared} {K : Frag}
end
end Att
namespace L2
open PySem PySem.Spec PyProof.Rows
theorem vals_ints : ∀ {vs : List Value} {ns : List Int}, IntsAre vs ns → Vals (ns.map V.int) vs
 | _, _, .nil => .nil
 | _, _, .cons n t h => .cons ⟨t, rfl⟩ (vals_ints h)
noncomputable def Only (H : Hp) : Prop := ∀ b, H b = none ∨ ∃ o xs, H b = some (.frz o (.lst xs))
theorem law_call {P : Program} {w : World} {K : PySem.W.Frag} {mg mb : Str → Option Value} {CX : CXT} {k : Nat} {fa a : Addr} {fd : FuncData} {x : Str} {sp : Sp} {s₁ : Shared} {vs : List Value} {ns : List Int}
   (KX : K.In s₁.heap) (hns : s₁.heap.Ns mainGlobals mg) (hb : s₁.heap.Ns builtinsNs mb) (hbb : ∀ x : Str, x ≠ "__name__" → mb x = bootBuiltins x) (hlim : s₁.heap.NoLimit) (hg : s₁.gens = #[])
   (ha : s₁.heap.get? a = some { cls := .type "list", data := .seq vs.toArray }) (hi : IntsAre vs ns) (hl : ns.length ≤ sizeLine) (hr : Room k callerA)
   (F : ∀ base : Heap, K.In base → base.Ns mainGlobals mg → FnOk P w K mg base CX k fa fd [x] sp) (hbind : ∀ (s : Shared) (u : Value), BindsTo s fd ⟨[u], []⟩ [(x, u)])
   (hsp : ∀ H : Hp, Only H → SqL K H a (ns.map V.int) → sp [.ref a] H (fun v _ => v = .bl true) fun _ _ _ => False)
   (hCX : ∀ H e s', CX [] H s₁ (fun _ _ _ => False) e s' → False) :
   codeAny (model P w) callerA (.call (.ref fa) ⟨[.ref a], []⟩) (fun r s' => r = .ok (.ret (.bool true)) ∧ OldK s₁.heap s'.heap ∧ s'.os = s₁.os ∧ AllBare s'.gens) s₁ := by
 have rv := vals_ints hi
 have lenV := hi.length
 -- from an abstract heap in which nothing but the script may be tracked
 have core : ∀ H : Hp, Only H → SqL K H a (ns.map V.int) → HOk P w H s₁.heap → (∀ b, H b ≠ none → b = a) → (H a ≠ none → K.lookup a = none) →
     codeAny (model P w) callerA (.call (.ref fa) ⟨[.ref a], []⟩) (fun r s' => r = .ok (.ret (.bool true)) ∧ OldK s₁.heap s'.heap ∧ s'.os = s₁.os ∧ AllBare s'.gens) s₁ := by
   intro H hO hS hok hA hK
   have base_of : ∀ {b : Addr} {o : Obj}, s₁.heap.get? b = some o → H b = none → (hidT s₁.heap H).get? b = some o := fun e n => hidT_get e n
   have noA : ∀ {b : Addr} {o : Obj} {es : Array DictEntry} {ep : Nat}, s₁.heap.get? b = some o → o.data = .dict es ep → H b = none := fun {b o es ep} e d => by
     cases q : H b with
     | none => rfl
     | some u =>
       have e' : b = a := hA b (by rw [q]; simp)
       subst e'
       rw [ha] at e; cases e
       have d' : Data.seq vs.toArray _ = Data.dict es ep := d
       cases d'
   have nsK : ∀ {b : Addr} {m : Str → Option Value}, s₁.heap.Ns b m → (hidT s₁.heap H).Ns b m := fun {b m} ⟨o, es, ep, e, d, r⟩ => ⟨o, es, ep, base_of e (noA e d), d, r⟩
   have hKb : K.In (hidT s₁.heap H) := fun b o e => base_of (KX b o e) (by
     cases q : H b with
     | none => rfl
     | some u =>
       have e' : b = a := hA b (by rw [q]; simp)
       subst e'
       rw [hK (by rw [q]; simp)] at e; cases e)
   have hM : Mod K mg (hidT s₁.heap H) := ⟨hKb, nsK hns, ⟨mb, nsK hb, hbb⟩, let ⟨mc, h1, h2⟩ := hlim; ⟨mc, nsK h1, h2⟩⟩
   have e0 : Env0 P w K mg (hidT s₁.heap H) callerA [] s₁ H := ⟨rfl, hM, fun b o e => of_hidT e, Nat.le_of_eq (hidT_size _ _), trivial, fun b hb => absurd (show b ∈ ([] : List Addr) from hb) (by simp), hok, .of_eq hg⟩
   refine codeAny_mono ((F _ hKb (nsK hns)).run callerA [] s₁ H ⟨[.ref a], []⟩ [.ref a] [.ref a] _ _ hr e0 (hbind s₁ (.ref a)) (.cons rfl .nil) (hsp H hO hS)) fun r s' h => ?_
   cases r with
   | error e => exact (hCX H e s' h).elim
   | ok fl =>
     cases fl with
     | next => exact False.elim h
     | brk => exact False.elim h
     | cont => exact False.elim h
     | ret u =>
       obtain ⟨v, H', os, bare, un, hok', r', q⟩ := h
       have q' : v = .bl true := q
       subst q'
       obtain rfl : u = Value.bool true := r'
       refine ⟨rfl, OldK.of_keep fun b o e => ?_, os, bare⟩
       cases q : H b with
       | none => exact un.keep b o e q (by intro z; exact absurd (show b ∈ ([] : List Addr) from z) (by simp)) (by simp)
       | some u =>
         rcases hO b with z | ⟨ob, xs, z⟩
         · rw [q] at z; cases z
         · have z2 := un.frzs b ob _ z
           obtain ⟨e1, _⟩ := hok b _ z
           obtain ⟨e2, _⟩ := hok' b _ z2
           rw [e] at e1; cases e1
           exact e2
 cases hk : K.lookup a with
 | some o =>
   -- the script is one of the module's own objects
   have e := KX a o hk
   rw [ha] at e
   cases e
   refine core (fun _ => none) (fun _ => .inl rfl) (.inr ⟨_, vs.toArray, _, hk, rfl, rfl, rfl, by rw [List.size_toArray, lenV]; exact hl, by simpa using rv⟩) (fun b u z => by have z' : (none : Option HO) = some u := z; cases z') (fun b z => absurd rfl z) fun z => absurd rfl z
 | none =>
   refine core (fun b => if b = a then some (.frz { cls := .type "list", data := .seq vs.toArray } (.lst (ns.map V.int))) else none) (fun b => ?_) (.inl (.inr ⟨{ cls := .type "list", data := .seq vs.toArray }, if_pos rfl⟩)) (fun b u z => ?_) (fun b z => ?_) fun _ => hk
   · by_cases hb : b = a
     · exact .inr ⟨_, _, if_pos hb⟩
     · exact .inl (if_neg hb)
   · by_cases hb : b = a
     · have z' := (if_pos hb).symm.trans z
       cases z'
       subst hb
       exact ⟨ha, by rw [List.length_map]; exact hl, vs, _, rv, ha⟩
     · have z' := (if_neg hb).symm.trans z
       cases z'
   · by_cases hb : b = a
     · exact hb
     · exact absurd (if_neg hb) z
end L2
namespace L2
open PySem PySem.Spec PyProof.Rows
theorem walk_of {l : PySem.W.OpenLaw} {n k : Nat} {q : Program} {loose : List Str} {XP : (Str → Option Value) → Heap → Prop} {YP : World → Heap → Prop} {d : DefRec} {K : Params → PySem.W.Frag} {CX : World → CXT} {sp : World → Sp} {x : Str}
   (hn : l.most = some n) (hn2 : n ≤ sizeLine) (hdf : d.params.defaults = []) (hr : Room k callerA)
   (hY : ∀ (w : World) (h : Heap), YP w h → (K w.params).In h)
   (F : ∀ (w : World) (mg : Str → Option Value) (fa : Addr) (h : Heap), (K w.params).In h → h.Ns mainGlobals mg → mg d.name = some (.ref fa) →
     ∃ fd : FuncData, (∀ (s : Shared) (u : Value), BindsTo s fd ⟨[u], []⟩ [(x, u)]) ∧
       ∀ base : Heap, (K w.params).In base → base.Ns mainGlobals mg → FnOk l.prog w (K w.params) mg base (CX w) k fa fd [x] (sp w))
   (hsp : ∀ (w : World) (H : Hp) (a : Addr) (ns : List Int), ns.length ≤ n → Only H → SqL (K w.params) H a (ns.map V.int) → sp w [.ref a] H (fun v _ => v = .bl true) fun _ _ _ => False)
   (hCX : ∀ (w : World) (H : Hp) (s : Shared) (e : Value) (s' : Shared), CX w [] H s (fun _ _ _ => False) e s' → False) :
   PySem.W.WalkO q loose XP YP l.row.toRowW d [] (fun f vs => PySem.call f vs) := by
 refine Att.attach_call hn hdf fun w s₀ s₁ mg mb fa o pm cd doc a vs ns G Y ho hd hcd hmg hobj hints hlen hg => ?_
 have KX := hY w _ Y
 obtain ⟨fd, hb, hF⟩ := F w mg fa _ KX G.T.g hmg
 exact law_call KX G.T.g G.T.b G.T.builtins G.T.nolimit hg hobj hints (Nat.le_trans hlen hn2) hr hF hb (fun H hO hS => hsp w H a ns hlen hO hS) fun H e s' => hCX w H s₁ e s'
end L2
namespace L2
open PySem PySem.Spec PyProof.Rows
noncomputable def defArgs (s : Stmt) : Arguments := match s with
 | .FunctionDef _ a _ _ _ _ _ _ _ _ => a
 | _ => { posonlyargs := [], args := [], vararg := none, kwonlyargs := [], kw_defaults := [], kwarg := none, defaults := [] }
noncomputable def defBody (s : Stmt) : List Stmt := match s with
 | .FunctionDef _ _ b _ _ _ _ _ _ _ => b
 | _ => []
noncomputable def defScope (s : Stmt) : Scope := match s with
 | .FunctionDef _ _ _ _ _ _ sc _ _ _ => sc
 | _ => { kind := .function, names := [], isGenerator := false, isCoroutine := false }
noncomputable abbrev CX0 : CXT := fun _ _ _ _ _ _ => False
noncomputable abbrev E0 : XK := fun _ _ _ => False
theorem pass0 {X : Cx} : Passes CX0 X E0 := fun _ _ _ _ _ _ _ h => h.elim
structure Fun (K : PySem.W.Frag) (x qual : Str) (st : Stmt) (f : Addr) (fd : FuncData) : Prop where
 ex : ∃ (oc : Value) (od : Option Addr) (kV doc pm : Value) (an : Option Addr) (cdv ct : Value) (osl : Array (Option Value)),
   fd = PySem.W.fnOf x qual (defArgs st) (defBody st) (defScope st) .none kV doc pm an cdv ct ∧ K.lookup f = some ⟨oc, od, .func fd, osl⟩ ∧ PySem.W.codeIn K cdv qual = true
 kp : PySem.W.keepIn K (.ref f) = true
section
variable {P : Program} {w : World} {K : PySem.W.Frag} {mg : Str → Option Value} {base : Heap}
theorem Fun.ok {x qual : Str} {st : Stmt} {f : Addr} {fd : FuncData} {N ps : List Str} {k : Nat} {sp : Sp} (F : Fun K x qual st f fd) (S : FnScope N ps (defScope st)) (len : ∀ vs H Q E, sp vs H Q E → vs.length = ps.length)
   (hbody : ∀ (cdv : Value) (A : Around) (outer : List Env) (s : Shared) (H : Hp) (vs : List V) (Q : VK) (E : XK), Room k (A.deeper (envOfC qual (defScope st) s.heap.objs.size f cdv)) → sp vs H Q E →
     ∃ t, PSs (cxOf CX0 P w K mg base N qual (defScope st) f cdv A outer s H E).nox (defBody st) t ∧ t { nx := fun _ H' => Q .non H', rt := Q } (start N vs) H) : FnOk P w K mg base CX0 (k + 1) f fd ps sp := by
 obtain ⟨oc, od, kV, doc, pm, an, cdv, ct, osl, rfl, lk, hcd⟩ := F.ex
 refine fn_of lk hcd S len fun A outer s H vs Q E hr hsp => ?_
 obtain ⟨t, h, q⟩ := hbody cdv A outer s H vs Q E hr hsp
 exact ⟨t, h.nox, q⟩
theorem Fun.binds {x qual : Str} {st : Stmt} {f : Addr} {fd : FuncData} {ps : List Str} (F : Fun K x qual st f fd)
   (h : ∀ (kV doc pm : Value) (an : Option Addr) (cdv ct : Value) (us : List Value), us.length = ps.length → bindArgs (PySem.W.fnOf x qual (defArgs st) (defBody st) (defScope st) .none kV doc pm an cdv ct) ⟨us, []⟩ = pure (ps.zip us)) : Binds K fd ps [] := by
 obtain ⟨oc, od, kV, doc, pm, an, cdv, ct, osl, rfl, lk, hcd⟩ := F.ex
 exact .all (h kV doc pm an cdv ct)
theorem fun_mk {x qual : Str} {st : Stmt} {f : Addr} {oc : Value} {od an : Option Addr} {osl : Array (Option Value)} {kV doc pm cdv ct : Value} (l : K.lookup f = some ⟨oc, od, .func (PySem.W.fnOf x qual (defArgs st) (defBody st) (defScope st) .none kV doc pm an cdv ct), osl⟩)
   (c : PySem.W.codeIn K cdv qual = true) (k : PySem.W.keepIn K (.ref f) = true) : Fun K x qual st f (PySem.W.fnOf x qual (defArgs st) (defBody st) (defScope st) .none kV doc pm an cdv ct) := ⟨⟨oc, od, kV, doc, pm, an, cdv, ct, osl, rfl, l, c⟩, k⟩
end
section
variable {X : Cx}
end
theorem ite2 {c A B : Prop} [Decidable c] (h1 : c → A) (h2 : ¬ c → B) : if c then A else B := by
 by_cases h : c
 · rw [if_pos h]
   exact h1 h
 · rw [if_neg h]
   exact h2 h
noncomputable def Same (H H' : Hp) : Prop := ∀ b o, H b = some o → H' b = some o
theorem Same.refl (H : Hp) : Same H H := fun _ _ h => h
theorem Same.trans {H H1 H2 : Hp} (a : Same H H1) (b : Same H1 H2) : Same H H2 := fun c o h => b c o (a c o h)
end L2
set_option maxHeartbeats 0
namespace L2
open PySem PySem.Spec PyProof.Rows
section
variable {κ : Type} [DecidableEq κ]
noncomputable def valV (kvs : List (κ × V)) (k : κ) : Option V := (kvs.find? fun kv => decide (kv.1 = k)).map (·.2)
noncomputable def putK (kvs : List (κ × V)) (k : κ) (v : V) : List (κ × V) :=
 if (kvs.any fun kv => decide (kv.1 = k)) = true then kvs.map (fun kv => if kv.1 = k then (kv.1, v) else kv) else kvs ++ [(k, v)]
noncomputable def dropK (kvs : List (κ × V)) (k : κ) : List (κ × V) := kvs.filter fun kv => decide (kv.1 ≠ k)
theorem valV_pos {p : κ × V} {r : List (κ × V)} {k : κ} (e : p.1 = k) : valV (p :: r) k = some p.2 := by simp [valV, List.find?_cons, e]
theorem valV_neg {p : κ × V} {r : List (κ × V)} {k : κ} (e : ¬ p.1 = k) : valV (p :: r) k = valV r k := by simp [valV, List.find?_cons, e]
theorem valV_any (k : κ) : ∀ kvs : List (κ × V), (kvs.any fun kv => decide (kv.1 = k)) = (valV kvs k).isSome
 | [] => rfl
 | p :: r => by
   rw [List.any_cons]
   by_cases e : p.1 = k
   · simp only [valV_pos e, decide_eq_true e, Bool.true_or, Option.isSome_some]
   · rw [valV_neg e, decide_eq_false e, Bool.false_or]; exact valV_any k r
theorem length_putK (kvs : List (κ × V)) (k : κ) (v : V) : (putK kvs k v).length ≤ kvs.length + 1 := by
 unfold putK
 split
 · rw [List.length_map]; lia
 · rw [List.length_append, List.length_cons, List.length_nil]; lia
theorem RelO.isSome_eq {o : Option V} {u : Option Value} (r : RelO o u) : o.isSome = u.isSome := by
 cases o with
 | none => cases u with
   | none => rfl
   | some _ => exact (show False from r).elim
 | some _ => cases u with
   | none => exact (show False from r).elim
   | some _ => rfl
theorem RelO.getD {o : Option V} {u : Option Value} {d : V} {d' : Value} (r : RelO o u) (rd : RelV d d') : RelV (o.getD d) (u.getD d') := by
 cases o with
 | none => cases u with
   | none => exact rd
   | some _ => exact (show False from r).elim
 | some _ => cases u with
   | none => exact (show False from r).elim
   | some _ => exact r
theorem KV.val {kvs : List (κ × V)} {vs : List (κ × Value)} (r : KV kvs vs) (k : κ) : RelO (valV kvs k) (valueAt vs k) := by
 unfold KV at r
 induction r with
 | nil => exact True.intro
 | @cons p q ps qs h t ih =>
   obtain ⟨h1, h2⟩ := h
   by_cases e : p.1 = k
   · have e' : q.1 = k := h1.symm.trans e
     have b : valueAt (q :: qs) k = some q.2 := by simp [valueAt, List.find?_cons, e']
     rw [valV_pos e, b]; exact h2
   · have e' : ¬ q.1 = k := fun z => e (h1.trans z)
     have b : valueAt (q :: qs) k = valueAt qs k := by simp [valueAt, List.find?_cons, e']
     rw [valV_neg e, b]; exact ih
theorem KV.any {kvs : List (κ × V)} {vs : List (κ × Value)} (r : KV kvs vs) (k : κ) : (kvs.any fun kv => decide (kv.1 = k)) = vs.any fun kv => decide (kv.1 = k) := by
 unfold KV at r
 induction r with
 | nil => rfl
 | cons h t ih => rw [List.any_cons, List.any_cons, ih, h.1]
theorem KV.repl {kvs : List (κ × V)} {vs : List (κ × Value)} (r : KV kvs vs) (k : κ) {y : V} {u : Value} (ry : RelV y u) :
   KV (kvs.map fun kv => if kv.1 = k then (kv.1, y) else kv) (vs.map fun kv => if kv.1 = k then (kv.1, u) else kv) := by
 unfold KV at r ⊢
 induction r with
 | nil => exact .nil
 | @cons p q ps qs h t ih =>
   rw [List.map_cons, List.map_cons]
   refine .cons ?_ ih
   obtain ⟨h1, h2⟩ := h
   by_cases e : p.1 = k
   · rw [if_pos e, if_pos (h1.symm.trans e)]; exact ⟨h1, ry⟩
   · rw [if_neg e, if_neg (fun z => e (h1.trans z))]; exact ⟨h1, h2⟩
theorem KV.put {kvs : List (κ × V)} {vs : List (κ × Value)} (r : KV kvs vs) (k : κ) {y : V} {u : Value} (ry : RelV y u) : KV (putK kvs k y) (stored vs k u) := by
 unfold putK stored
 rw [r.any k]
 by_cases e : (vs.any fun kv => decide (kv.1 = k)) = true
 · rw [if_pos e, if_pos e]; exact r.repl k ry
 · rw [if_neg e, if_neg e]; exact Paired.snoc r ⟨rfl, ry⟩
theorem KV.drop {kvs : List (κ × V)} {vs : List (κ × Value)} (r : KV kvs vs) (k : κ) : KV (dropK kvs k) (without vs k) := by
 unfold KV at r ⊢
 unfold dropK without
 induction r with
 | nil => exact .nil
 | @cons p q ps qs h t ih =>
   obtain ⟨h1, h2⟩ := h
   rw [List.filter_cons, List.filter_cons]
   by_cases e : p.1 = k
   · have a : ¬ decide (p.1 ≠ k) = true := by simp [e]
     have b : ¬ decide (q.1 ≠ k) = true := by simp [h1.symm.trans e]
     rw [if_neg a, if_neg b]; exact ih
   · have e' : ¬ q.1 = k := fun z => e (h1.trans z)
     have a : decide (p.1 ≠ k) = true := by simp [e]
     have b : decide (q.1 ≠ k) = true := by simp [e']
     rw [if_pos a, if_pos b]; exact .cons ⟨h1, h2⟩ ih
theorem KV.length {kvs : List (κ × V)} {vs : List (κ × Value)} (r : KV kvs vs) : kvs.length = vs.length := Paired.length r
end
theorem kV_is {P : Program} {w : World} {k : Key} {u : Value} (r : RelV (kV k) u) : (mixKind P w).is k u = true := by
 cases k with
 | inl i => obtain ⟨t, e⟩ := (show ∃ t, u = Value.int i t from r); subst e; exact mixKind_int P w i t
 | inr x => obtain ⟨t, e⟩ := (show ∃ t, u = Value.str x t from r); subst e; exact mixKind_str P w x t
theorem items_are {P : Program} {w : World} : ∀ {ks : List Key} {us : List Value}, Vals (ks.map kV) us → ItemsAre (mixKind P w) ks us
 | [], _, r => by rw [List.map_nil] at r; cases r; exact .nil
 | k :: ks, _, r => by
   rw [List.map_cons] at r
   cases r with
   | cons h t => exact .cons (kV_is h) (items_are t)
noncomputable abbrev KT (H : Hp) : List (List Key × V) → List (List Key × Addr × Value) → Prop := Paired fun p q => p.1 = q.1 ∧ H q.2.1 = some (.tup (p.1.map kV)) ∧ RelV p.2 q.2.2
theorem KT.val {H : Hp} {kvs : List (List Key × V)} {xs : List (List Key × Addr × Value)} (r : KT H kvs xs) (k : List Key) : RelO (valV kvs k) ((atKey xs k).map (·.2)) := by
 induction r with
 | nil => exact True.intro
 | @cons p q ps qs h t ih =>
   obtain ⟨h1, _, h2⟩ := h
   by_cases e : p.1 = k
   · have e' : q.1 = k := h1.symm.trans e
     have b : atKey (q :: qs) k = some q.2 := by simp [atKey, List.find?_cons, e']
     rw [valV_pos e, b]; exact h2
   · have e' : ¬ q.1 = k := fun z => e (h1.trans z)
     have b : atKey (q :: qs) k = atKey qs k := by simp [atKey, List.find?_cons, e']
     rw [valV_neg e, b]; exact ih
theorem KT.repl {H : Hp} {kvs : List (List Key × V)} {xs : List (List Key × Addr × Value)} (r : KT H kvs xs) (k : List Key) {y : V} {u : Value} (ry : RelV y u) :
   KT H (kvs.map fun kv => if kv.1 = k then (kv.1, y) else kv) (xs.map (putAt k u)) := by
 induction r with
 | nil => exact .nil
 | @cons p q ps qs h t ih =>
   rw [List.map_cons, List.map_cons]
   refine .cons ?_ ih
   obtain ⟨h1, h2, h3⟩ := h
   unfold putAt
   by_cases e : p.1 = k
   · rw [if_pos e, if_pos (h1.symm.trans e)]; exact ⟨h1, h2, ry⟩
   · rw [if_neg e, if_neg (fun z => e (h1.trans z))]; exact ⟨h1, h2, h3⟩
theorem KT.put {H : Hp} {kvs : List (List Key × V)} {xs : List (List Key × Addr × Value)} (r : KT H kvs xs) (k : List Key) {b : Addr} {y : V} {u : Value} (hb : H b = some (.tup (k.map kV))) (ry : RelV y u) :
   KT H (putK kvs k y) (storedH xs k b u) := by
 have e : (kvs.any fun kv => decide (kv.1 = k)) = (atKey xs k).isSome := by
   rw [valV_any, (r.val k).isSome_eq, Option.isSome_map]
 unfold putK storedH
 rw [e]
 by_cases q : (atKey xs k).isSome = true
 · rw [if_pos q, if_pos q]; exact r.repl k ry
 · rw [if_neg q, if_neg q]; exact Paired.snoc r ⟨rfl, hb, ry⟩
theorem KT.keeps {H H' : Hp} {kvs : List (List Key × V)} {xs : List (List Key × Addr × Value)} (r : KT H kvs xs) (ht : ∀ b ys, H b = some (.tup ys) → H' b = some (.tup ys)) : KT H' kvs xs :=
 Paired.mapP r fun _ _ z => ⟨z.1, ht _ _ z.2.1, z.2.2⟩
section
variable {P : Program} {w : World} {H : Hp} {h : Heap} {a : Addr}
theorem rd_of {u : HO} (ok : HOk P w H h) (e : Rd H a u) : ObjOk P w H h a u := e.ok ok
theorem dk_rd {kvs : List (Key × V)} (ok : HOk P w H h) (e : Rd H a (.dK kvs)) : kvs.length ≤ sizeLine ∧ (a == sysModules) = false ∧ ∃ vs, KV kvs vs ∧ h.DictOf (mixKind P w) a vs :=
 show ObjOk P w H h a (.dK kvs) from rd_of ok e
theorem dk_of {kvs : List (Key × V)} (ok : HOk P w H h) (e : H a = some (.dK kvs)) : kvs.length ≤ sizeLine ∧ (a == sysModules) = false ∧ ∃ vs, KV kvs vs ∧ h.DictOf (mixKind P w) a vs := dk_rd ok (.inl e)
theorem key_of {ks : List Key} (ok : HOk P w H h) (e : H a = some (.tup (ks.map kV))) : (tupleKind (mixKind P w)).is h ks a := by
 obtain ⟨_, its, r, o, h1, h2, _, n, h3⟩ := (show ObjOk P w H h a (.tup (ks.map kV)) from ok a _ e)
 exact ⟨o, its.toArray, n, h1, h2, h3, by simpa using items_are r⟩
theorem dt_rd {kvs : List (List Key × V)} (ok : HOk P w H h) (e : Rd H a (.dT kvs)) : kvs.length ≤ sizeLine ∧ (a == sysModules) = false ∧
   ∃ xs, KT H kvs xs ∧ h.DictOfH (tupleKind (mixKind P w)) a xs := by
 obtain ⟨z, y, xs, r, o, es, ep, h1, h2, h3, h4, h5⟩ := (show ObjOk P w H h a (.dT kvs) from rd_of ok e)
 refine ⟨z, y, xs, r, o, es, ep, h1, h2, h3, h4, fun x hx => ?_, h5⟩
 have all : ∀ {l : List (List Key × V)} {m : List (List Key × Addr × Value)}, KT H l m → ∀ x ∈ m, (tupleKind (mixKind P w)).is h x.1 x.2.1 := by
   intro l m q
   induction q with
   | nil => intro x hx; exact nomatch hx
   | @cons p q ps qs hq t ih =>
     intro x hx
     rcases List.mem_cons.mp hx with e | hx
     · subst e
       exact key_of ok (by rw [← hq.1]; exact hq.2.1)
     · exact ih x hx
 exact all r x hx
theorem dt_of {kvs : List (List Key × V)} (ok : HOk P w H h) (e : H a = some (.dT kvs)) : kvs.length ≤ sizeLine ∧ (a == sysModules) = false ∧
   ∃ xs, KT H kvs xs ∧ h.DictOfH (tupleKind (mixKind P w)) a xs := dt_rd ok (.inl e)
end
noncomputable def DGet (H : Hp) (a : Addr) (y : V) (r : Option V) : Prop :=
 (∃ kvs k, Rd H a (.dK kvs) ∧ y = kV k ∧ r = valV kvs k) ∨ ∃ kvs k b, Rd H a (.dT kvs) ∧ y = .ref b ∧ H b = some (.tup (k.map kV)) ∧ r = valV kvs k
noncomputable def DPut (H : Hp) (a : Addr) (y v : V) (H' : Hp) : Prop :=
 (∃ kvs k, H a = some (.dK kvs) ∧ y = kV k ∧ kvs.length < sizeLine ∧ H' = upd H a (.dK (putK kvs k v))) ∨
 ∃ kvs k b, H a = some (.dT kvs) ∧ y = .ref b ∧ H b = some (.tup (k.map kV)) ∧ kvs.length < sizeLine ∧ H' = upd H a (.dT (putK kvs k v))
theorem DGet.t {H : Hp} {a b : Addr} {kvs : List (List Key × V)} {k : List Key} (e : H a = some (.dT kvs)) (eb : H b = some (.tup (k.map kV))) : DGet H a (.ref b) (valV kvs k) := .inr ⟨kvs, k, b, .inl e, rfl, eb, rfl⟩
theorem DPut.t {H : Hp} {a b : Addr} {kvs : List (List Key × V)} {k : List Key} {v : V} (e : H a = some (.dT kvs)) (eb : H b = some (.tup (k.map kV))) (hl : kvs.length < sizeLine) :
   DPut H a (.ref b) v (upd H a (.dT (putK kvs k v))) := .inr ⟨kvs, k, b, e, rfl, eb, hl, rfl⟩
section
variable {X : Cx} {pins : List (Addr × Obj)} {σ : St} {H : Hp} {s : Shared} {a : Addr} {y v : V} {u r : Value} {o : Option V} {A : Around} {E : Value → Shared → Prop}
theorem Inv.big (I : Inv X pins σ H s) : sysModules < s.heap.objs.size := by
 have h : mainGlobals < s.heap.objs.size := (I.mod.glob.keeps I.bk).lt
 exact Nat.lt_trans (by decide) h
theorem d_getItem {Q : Value → Shared → Prop} (hu : A.units + 1 < cLine) (I : Inv X pins σ H s) (g : DGet H a y (some v)) (ry : RelV y u) (h : ∀ w' s', Inv X pins σ H s' → RelV v w' → Q w' s') :
   wpAny (model X.prog X.w) A (getItem (.ref a) u) Q E s := by
 rcases g with ⟨kvs, k, e, ey, l⟩ | ⟨kvs, k, b, e, ey, eb, l⟩
 · subst ey
   obtain ⟨z, hd, vs, rel, dd⟩ := dk_rd I.hok e
   obtain ⟨w', hw, rw'⟩ := RelO.some_of (v := v) (o := valueAt vs k) (by rw [l]; exact rel.val k)
   exact wpAny_getItem_of (kV_is ry) dd.mapOf hw (h w' _ (I.tok _) rw')
 · subst ey
   cases (show u = Value.ref b from ry)
   obtain ⟨z, hd, xs, rel, dd⟩ := dt_rd I.hok e
   obtain ⟨w', hw, rw'⟩ := RelO.some_of (v := v) (o := (atKey xs k).map (·.2)) (by rw [l]; exact rel.val k)
   obtain ⟨p, hp, hp2⟩ := Option.map_eq_some_iff.mp hw
   refine wpAny_getItem_heap (tupleKind_room_in1 hu) (key_of I.hok eb) dd hp ?_
   rw [hp2]
   exact h w' _ (I.tok _) rw'
theorem d_write {h' : Heap} {t' : Nat} {ob : HO} (I : Inv X pins σ H s) (mu : Mut (H a)) (hs : Heap.SameBut a s.heap h') (he : ∃ q, h'.get? a = some q) (new : ObjOk X.prog X.w (upd H a ob) h' a ob) :
   Inv X pins σ (upd H a ob) { s with heap := h', toks := t' } :=
 I.write (x := a) (e := a) mu (.inl rfl) (fun b q hb z => (hs.2 b hb).trans z) he new
theorem dk_new {P : Program} {w : World} {H' : Hp} {h' : Heap} {kvs : List (Key × V)} {vs : List (Key × Value)} (z : kvs.length ≤ sizeLine) (hd : (a == sysModules) = false) (rel : KV kvs vs) (dd : h'.DictOf (mixKind P w) a vs) :
   ObjOk P w H' h' a (.dK kvs) := ⟨z, hd, vs, rel, dd⟩
theorem d_setItem {H' : Hp} {Q : Unit → Shared → Prop} (hu : A.units + 1 < cLine) (I : Inv X pins σ H s) (g : DPut H a y v H') (ry : RelV y u) (rv : RelV v r) (h : ∀ s', Inv X pins σ H' s' → Q () s') :
   wpAny (model X.prog X.w) A (setItem (.ref a) u r) Q E s := by
 rcases g with ⟨kvs, k, e, ey, l, eH⟩ | ⟨kvs, k, b, e, ey, eb, l, eH⟩
 · subst ey eH
   obtain ⟨z, hd, vs, rel, dd⟩ := dk_of I.hok e
   have hz : vs.length ≤ sizeLine := by rw [← rel.length]; exact z
   have hl : (putK kvs k v).length ≤ sizeLine := by have := length_putK kvs k v; lia
   refine wpAny_setItem_pairs (hsz := hz) (kV_is ry) dd fun h' dd' hs => h _ ?_
   have he : ∃ q, h'.get? a = some q := let ⟨q, _, _, hq, _⟩ := dd'; ⟨q, hq⟩
   exact d_write I (by rw [e]; exact True.intro) hs he (dk_new hl hd (rel.put k rv) dd')
 · subst ey eH
   cases (show u = Value.ref b from ry)
   obtain ⟨z, hd, xs, rel, dd⟩ := dt_of I.hok e
   have hz : xs.length ≤ sizeLine := by rw [← Paired.length rel]; exact z
   have hl : (putK kvs k v).length ≤ sizeLine := by have := length_putK kvs k v; lia
   refine wpAny_setItem_heap (hsz := hz) (tupleKind_room_in1 hu) (key_of I.hok eb) dd fun h' dd' hs => h _ ?_
   obtain ⟨q, es, ep, hq, h2, h3, h4, _, h5⟩ := dd'
   refine d_write I (by rw [e]; exact True.intro) hs ⟨q, hq⟩ ⟨hl, hd, _, (rel.put k eb rv).keeps fun c ys ec => ?_, q, es, ep, hq, h2, h3, h4, h5⟩
   rw [upd_ne (ne_of ec e (fun z => nomatch z))]
   exact ec
end
section
variable {X : Cx} {pins : List (Addr × Obj)} {σ : St} {H : Hp} {s : Shared} {a : Addr} {kvs : List (Key × V)} {k : Key} {u : Value} {A : Around} {E : Value → Shared → Prop}
end
noncomputable def NoSl (i : Expr) : Prop := ∀ ov iv, subscripted i false ov iv = operate [ov, iv] (getItem ov iv)
theorem subD_of {prog : Program} {w : World} {A : Around} {E : Value → Shared → Prop} {s : Shared} {env : Env} {value slice : Expr} {pos : Pos} {T id : String} {Q : Value → Shared → Prop}
   (hl : typeLookup (.type T) "__getitem__" = pure (some (.builtin id))) (hs : NoSl slice)
   (h : wpAny (model prog w) A (eval value env) (fun o s₁ => wpAny (model prog w) A (eval slice env) (fun i s₂ => s₂.TypeIs o T ∧ wpAny (model prog w) A (getItem o i) Q E s₂) E s₁) E s) :
   wpAny (model prog w) A (eval (.Subscript value slice pos) env) Q E s := by
 refine Subscript_ (wpAny_mono h (fun o s₁ h₁ => wpAny_mono h₁ (fun i s₂ h₂ => ?_) fun _ _ x => x) fun _ _ x => x)
 obtain ⟨hT, h₂⟩ := h₂
 unfold subscriptTail
 refine wpAny_bind ?_
 rw [getitemInPython_of_ne hT.not_modules]
 refine wpAny_bind (wpAny_specialOf hT hl ?_)
 have fin : wpAny (model prog w) A (subscripted slice false o i) (fun r s₃ => wpAny (model prog w) A (letTemporaryGo value o r >>= fun _ => pure r) Q E s₃) E s₂ := by
   rw [hs o i]
   exact wpAny_operating (wpAny_mono h₂ (fun r s₃ h₃ => wpAny_bind (wpAny_letTemporaryGo (wpAny_pure h₃))) fun _ _ x => x)
 first
   | exact wpAny_pure (wpAny_bind fin)
   | exact wpAny_bind (wpAny_pure (wpAny_bind fin))
   | exact wpAny_bind fin
theorem dict_typeIs {X : Cx} {pins : List (Addr × Obj)} {σ : St} {H : Hp} {s : Shared} {a : Addr} {y : V} {o : Option V} (I : Inv X pins σ H s) (g : DGet H a y o) : s.TypeIs (.ref a) "dict" := by
 rcases g with ⟨kvs, k, e, _, _⟩ | ⟨kvs, k, b, e, _, _, _⟩
 · obtain ⟨_, _, vs, _, dd⟩ := dk_rd I.hok e
   exact dd.typeIs
 · obtain ⟨_, _, xs, _, dd⟩ := dt_rd I.hok e
   exact dd.typeIs
noncomputable def tDGet (td ty : TE) : TE := fun σ H Q => td σ H fun x H1 => ty σ H1 fun y H2 => ∃ a v, x = .ref a ∧ DGet H2 a y (some v) ∧ Q v H2
noncomputable def sDPut (td ty tv : TE) : TS := fun D σ H => tv σ H fun v H1 => td σ H1 fun x H2 => ty σ H2 fun y H3 => ∃ a H4, x = .ref a ∧ DPut H3 a y v H4 ∧ D.nx σ H4
section
variable {X : Cx} {o i e value : Expr} {pos pos' tpos : Pos} {td ty tv : TE}
theorem pe_dget (hu : X.A.units + 1 < cLine) (ho : PE X o td) (hi : PE X i ty) (hs : NoSl i) : PE X (.Subscript o i pos) (tDGet td ty) := by
 intro pins s σ H Q I h
 refine subD_of PySem.F.slot_dict_getitem.lookup hs (thn (ho pins s σ H _ I h) fun u s1 ⟨x, H1, I1, rx, q1⟩ => thn (hi pins s1 σ H1 _ I1 q1) fun iv s2 ⟨y, H2, I2, ry, a, v, ex, g, q2⟩ => ?_)
 subst ex
 obtain rfl : u = Value.ref a := rx
 exact ⟨dict_typeIs I2 g, d_getItem hu I2 g ry fun w' s3 I3 rw' => ⟨v, H2, I3, rw', q2⟩⟩
theorem ps_dput (hu : X.A.units + 1 < cLine) (ho : PE X o td) (hi : PE X i ty) (hv : PE X value tv) (hs : swapsWith value (some (.Subscript o i pos')) pos.line X.env = pure false) :
   PS X (.Assign [.Subscript o i pos'] value pos) (sDPut td ty tv) := by
 intro pins s σ H D I h
 refine wpAny_Assign_Subscript (thn (hv pins s σ H _ I h) fun r s1 ⟨v, H1, I1, rv, q1⟩ => thn (ho pins s1 σ H1 _ I1 q1) fun u s2 ⟨x, H2, I2, rx, q2⟩ => thn (hi pins s2 σ H2 _ I2 q2) fun iv s3 ⟨y, H3, I3, ry, a, H4, ex, g, q3⟩ => ?_) hs
 subst ex
 obtain rfl : u = Value.ref a := rx
 exact d_setItem hu I3 g ry rv fun s4 I4 => ⟨σ, H4, I4, q3⟩
end
theorem dt_empty {P : Program} {w : World} {H : Hp} (h : Heap) (hb : sysModules < h.objs.size) : ObjOk P w H (h.push { cls := .type "dict", data := .dict #[] }) h.objs.size (.dT []) :=
 ⟨Nat.zero_le _, beq_eq_false_iff_ne.mpr (Ne.symm (Nat.ne_of_lt hb)), [], .nil, _, #[], 0, Heap.get?_push_size _ rfl, ⟨rfl, rfl, rfl⟩, rfl, rfl, List.nodup_nil⟩
noncomputable def tDNewT : TE := fun _ H Q => ∀ p, H p = none → Q (.ref p) (upd H p (.dT []))
section
variable {X : Cx} {pos : Pos}
theorem pe_dnewT : PE X (.Dict [] [] pos) tDNewT := fun pins s σ H Q I h =>
 wpAny_Dict_empty ⟨.ref s.heap.objs.size, _, I.laid (a := s.heap.objs.size) (o := .dT []) (t' := s.toks) (fun _ _ q => Heap.get?_push_of_some _ q) (Nat.le_refl _) (dt_empty s.heap I.big), rfl, h _ (I.hok.fresh (Nat.le_refl _))⟩
end
structure M1 (X : Cx) (o : Expr) (m : Str) (apos : Pos) (e : Expr) (cpos : Pos) : Prop where
 base : attributeBase o m X.env (eval o X.env) = eval o X.env
 few : ((backTo cpos (starEach [e] X.env)).all (fun x => !x.1) && (backToKw cpos (keywordEach [] X.env)).all (fun x => x.1.isSome)
   && decide (([e] : List Expr).length + ([] : List Keyword).length + (if ([] : List Keyword).isEmpty then 0 else 1) < 30)) = true
 line : (apos.endLine == cpos.line) = true
 trees : backTo cpos (starEach [e] X.env) = [(false, eval e X.env)]
section
variable {X : Cx} {pins : List (Addr × Obj)} {σ : St} {H : Hp} {s : Shared} {a : Addr} {y d : V} {u r : Value} {o : Option V} {A : Around} {E : Value → Shared → Prop}
end
section
variable {X : Cx} {o e f : Expr} {apos cpos : Pos} {td ty tx : TE}
end
end L2
namespace L2
open PySem PySem.Spec PyProof.Rows
noncomputable def cloOf (env : Env) : List (Str × NameKind) → List (Str × Addr) → List (Str × Addr)
 | [], acc => acc
 | (n, k) :: r, acc => cloOf env r (if k == .free then (n, (env.cells.lookup n).getD 0) :: acc else acc)
theorem cloOf_cons (env : Env) (n : Str) (k : NameKind) (r : List (Str × NameKind)) (acc : List (Str × Addr)) : cloOf env ((n, k) :: r) acc = cloOf env r (if k == .free then (n, (env.cells.lookup n).getD 0) :: acc else acc) := rfl
theorem closure_forIn (env : Env) (f : Str × NameKind → List (Str × Addr) → Sem (ForInStep (List (Str × Addr))))
   (hf : ∀ n k cs, f (n, k) cs = if (k == .free) = true then (do let a ← cellOf env n; pure (.yield ((n, a) :: cs))) else pure (.yield cs)) :
   ∀ (names : List (Str × NameKind)) (acc : List (Str × Addr)), (∀ y ∈ names, y.2 = .free → ∃ c, env.cells.lookup y.1 = some c) → forIn names acc f = (pure (cloOf env names acc) : Sem _)
 | [], acc, _ => by rw [List.forIn_nil]; rfl
 | (n, k) :: r, acc, h => by
   rw [List.forIn_cons, hf]
   have hr : ∀ y ∈ r, y.2 = .free → ∃ c, env.cells.lookup y.1 = some c := fun y hy => h y (List.mem_cons_of_mem _ hy)
   by_cases hk : (k == NameKind.free) = true
   · rw [if_pos hk]
     obtain ⟨c, hc⟩ := h (n, k) List.mem_cons_self (by simpa using hk)
     have hc' : env.cells.lookup n = some c := hc
     have e : cellOf env n = pure c := by unfold cellOf; rw [hc']
     rw [e]
     simp only [pure_bind]
     rw [closure_forIn env f hf r _ hr]
     rw [cloOf_cons, if_pos hk, hc']
     rfl
   · rw [if_neg hk]
     simp only [pure_bind]
     rw [closure_forIn env f hf r _ hr]
     rw [cloOf_cons, if_neg hk]
theorem closureFor_eq (scope : Scope) (env : Env) (h : ∀ y ∈ scope.names, y.2 = .free → ∃ c, env.cells.lookup y.1 = some c) : closureFor scope env = pure (cloOf env scope.names []) := by
 unfold closureFor
 dsimp only
 rw [closure_forIn env _ (fun n k cs => by cases hk : (k == NameKind.free) <;> simp [hk] <;> rfl) scope.names [] h]
 rfl
theorem cloOf_lookup (env : Env) : ∀ (names : List (Str × NameKind)) (acc : List (Str × Addr)) (x : Str) (c : Addr), (cloOf env names acc).lookup x = some c →
   (acc.lookup x = some c ∨ ((x, .free) ∈ names ∧ c = (env.cells.lookup x).getD 0))
 | [], acc, x, c, h => .inl h
 | (n, k) :: r, acc, x, c, h => by
   rw [cloOf_cons] at h
   rcases cloOf_lookup env r _ x c h with q | ⟨q1, q2⟩
   · split at q
     · rename_i hk
       have hk' : k = .free := by simpa using hk
       subst hk'
       rw [List.lookup_cons] at q
       split at q
       · rename_i hx
         have : x = n := by simpa using hx
         subst this
         cases q
         exact .inr ⟨List.mem_cons_self, rfl⟩
       · exact .inl q
     · exact .inl q
   · exact .inr ⟨List.mem_cons_of_mem _ q1, q2⟩
theorem cloOf_acc (env : Env) : ∀ (names : List (Str × NameKind)) (acc : List (Str × Addr)) (x : Str), (∃ c, acc.lookup x = some c) → ∃ c, (cloOf env names acc).lookup x = some c
 | [], acc, x, h => h
 | (n, k) :: r, acc, x, h => by
   rw [cloOf_cons]
   refine cloOf_acc env r _ x ?_
   split
   · rw [List.lookup_cons]
     split
     · exact ⟨_, rfl⟩
     · exact h
   · exact h
theorem cloOf_has (env : Env) : ∀ (names : List (Str × NameKind)) (acc : List (Str × Addr)) (x : Str), (x, NameKind.free) ∈ names → ∃ c, (cloOf env names acc).lookup x = some c
 | [], acc, x, h => by simp at h
 | (n, k) :: r, acc, x, h => by
   rw [cloOf_cons]
   rcases List.mem_cons.mp h with e | h
   · cases e
     refine cloOf_acc env r _ _ ?_
     rw [if_pos (by decide), List.lookup_cons]
     simp
   · exact cloOf_has env r _ x h
noncomputable def ownB (names : List (Str × NameKind)) (x : Str) : Bool := names.any fun y => y.1 == x && y.2 == .cell
theorem ownB_mem {names : List (Str × NameKind)} {x : Str} : ownB names x = true ↔ (x, NameKind.cell) ∈ names := by
 unfold ownB
 rw [List.any_eq_true]
 constructor
 · rintro ⟨⟨n, k⟩, h, e⟩
   simp only [Bool.and_eq_true, beq_iff_eq] at e
   obtain ⟨rfl, rfl⟩ := e
   exact h
 · intro h
   exact ⟨_, h, by simp⟩
theorem cellsFrom_app : ∀ (names : List (Str × NameKind)) (n : Nat) (acc : List (Str × Addr)), cellsFrom n names acc = cellsFrom n names [] ++ acc
 | [], _, _ => rfl
 | (x, k) :: r, n, acc => by
   unfold cellsFrom
   split
   · rw [cellsFrom_app r (n + 1) ((x, n) :: acc), cellsFrom_app r (n + 1) [(x, n)], List.append_assoc]; rfl
   · exact cellsFrom_app r n acc
theorem cellsFrom_in : ∀ (names : List (Str × NameKind)) (n : Nat) {x : Str} {c : Addr}, (x, c) ∈ cellsFrom n names [] → n ≤ c ∧ (x, NameKind.cell) ∈ names
 | [], _, _, _, h => nomatch h
 | (y, k) :: r, n, x, c, h => by
   unfold cellsFrom at h
   split at h
   · rename_i hk
     have hk' : k = .cell := by simpa using hk
     subst hk'
     rw [cellsFrom_app] at h
     rcases List.mem_append.mp h with h | h
     · have := cellsFrom_in r (n + 1) h
       exact ⟨by lia, List.mem_cons_of_mem _ this.2⟩
     · cases List.mem_singleton.mp h
       exact ⟨Nat.le_refl _, List.mem_cons_self⟩
   · have := cellsFrom_in r n h
     exact ⟨this.1, List.mem_cons_of_mem _ this.2⟩
theorem cellsFrom_has : ∀ (names : List (Str × NameKind)) (n : Nat) {x : Str}, (x, NameKind.cell) ∈ names → ((cellsFrom n names []).lookup x).isSome = true
 | [], _, _, h => nomatch h
 | (y, k) :: r, n, x, h => by
   unfold cellsFrom
   rcases List.mem_cons.mp h with e | h
   · cases e
     rw [if_pos (by decide), cellsFrom_app, List.lookup_append]
     cases hh : (cellsFrom (n + 1) r []).lookup y with
     | some c => rfl
     | none => simp
   · have i0 := cellsFrom_has r n h
     have i1 := cellsFrom_has r (n + 1) h
     split
     · rw [cellsFrom_app, List.lookup_append]
       cases hh : (cellsFrom (n + 1) r []).lookup x with
       | some c => rfl
       | none => rw [hh] at i1; cases i1
     · exact i0
theorem cellsFrom_apart : ∀ (names : List (Str × NameKind)) (n : Nat), (cellsFrom n names []).Pairwise fun x y => x.2 ≠ y.2
 | [], _ => List.Pairwise.nil
 | (y, k) :: r, n => by
   unfold cellsFrom
   split
   · rw [cellsFrom_app]
     refine List.pairwise_append.mpr ⟨cellsFrom_apart r (n + 1), List.pairwise_singleton _ _, fun a ha b hb => ?_⟩
     rw [List.mem_singleton.mp hb]
     have := (cellsFrom_in r (n + 1) (x := a.1) (c := a.2) ha).1
     show a.2 ≠ n
     exact Nat.ne_of_gt (Nat.lt_of_succ_le this)
   · exact cellsFrom_apart r n
theorem wpAny_newBlockEnv {M : Model} {A : Around} {E : Value → Shared → Prop} {s : Shared} {scope : Scope} {globals : Addr} {closure : List (Str × Addr)} {qual : Str} {func : Option Addr} {code : Value} {around : Env} {builtins : Addr} {Q : Env → Shared → Prop}
   (hQ : ∀ h', h' = pushCells (s.heap.push { cls := .type "dict", data := .dict #[] }) scope.names → Q (newEnv scope s.heap.objs.size globals (cellsFrom (s.heap.objs.size + 1) scope.names [] ++ closure) qual func code (some around) builtins) { s with heap := h' }) :
   wpAny M A (newFunctionEnv scope globals closure [] qual func code (some around) builtins) Q E s := by
 simp only [newFunctionEnv, Option.isSome_some, if_true]
 refine wpAny_bind (wpAny_alloc ?_)
 refine wpAny_bind (wpAny_layCells _ (fun name kind cells => by cases hkc : kind == NameKind.cell <;> simp [hkc]) _ _ _ _ ?_)
 rw [cellsFrom_app, show ({ s with heap := s.heap.push { cls := .type "dict", data := .dict #[] } } : Shared).heap.objs.size = s.heap.objs.size + 1 from Heap.size_push ..]
 refine wpAny_bind ?_
 rw [List.forIn_nil]
 exact wpAny_pure (wpAny_pure (hQ _ rfl))
section
variable {prog : Program} {w : World} {A : Around} {R : Result → Shared → Prop} {s : Shared}
theorem codeAny_compLoop_gen {elt target iter : Expr} {ifs : List Expr} {scope : Scope} {pos : Pos} {it acc : Value} {env : Env} (I : Nat → Shared → Prop)
   (turn : ∀ n s, I n s → wpAny (model prog w) A (pyNext it) (fun r s₁ => match r with
     | none => R (.ok .next) s₁
     | some v => wpAny (model prog w) A (letOwnedTupleGo target it v) (fun _ s₁' => wpAny (model prog w) A (assign target env v) (fun _ s₂ =>
         wpAny (model prog w) A (forIn ifs true fun c r => if r = true then do let ok ← isTrue c env (eval c env); pure (ForInStep.yield ok) else pure (ForInStep.yield r)) (fun ok s₃ =>
           if ok = true then wpAny (model prog w) A (eval elt env) (fun x s₄ =>
             wpAny (model prog w) A (call (.builtin "list.append") [acc, x]) (fun _ s₅ => ∃ m, m < n ∧ I m s₅) (notedBy (model prog w) A env fun e s' => R (.error e) s') s₄) (notedBy (model prog w) A env fun e s' => R (.error e) s') s₃
           else ∃ m, m < n ∧ I m s₃) (notedBy (model prog w) A env fun e s' => R (.error e) s') s₂) (notedBy (model prog w) A env fun e s' => R (.error e) s') s₁') (notedBy (model prog w) A env fun e s' => R (.error e) s') s₁) (notedBy (model prog w) A env fun e s' => R (.error e) s') s)
   (n : Nat) (h : I n s) :
   codeAny (model prog w) A (.compLoop (.ListComp elt [⟨target, iter, ifs, 0⟩] scope pos) 0 it acc env) R s := by
 refine codeAny_loop rfl I (fun n s hI => ?_) n h
 show wpAny _ A ((compTurn (.ListComp elt [⟨target, iter, ifs, 0⟩] scope pos) 0 it acc env).onRaise (fun x => do noteFrame x env; theTreesLotGoes x)) _ _ s
 refine wpAny_noted ?_
 rw [compTurn_list]
 refine wpAny_bind (wpAny_standAt (wpAny_bind (wpAny_mono (turn n s hI) (fun r s₁ h₁ => ?_) fun _ _ h' => h')))
 cases r with
 | none => exact wpAny_pure h₁
 | some v =>
   refine wpAny_bind (wpAny_mono h₁ (fun _ s₁' h₁' => wpAny_bind (wpAny_mono h₁' (fun _ s₂ h₂ => wpAny_bind (wpAny_mono h₂ (fun ok s₃ h₃ => ?_) fun _ _ h' => h')) fun _ _ h' => h')) fun _ _ h' => h')
   cases ok with
   | false => exact wpAny_pure ⟨rfl, h₃⟩
   | true =>
     exact wpAny_bind (wpAny_bind (wpAny_mono h₃ (fun x s₄ h₄ => wpAny_bind (wpAny_mono h₄ (fun _ s₅ h₅ => wpAny_pure (wpAny_pure ⟨rfl, h₅⟩)) fun _ _ h' => h')) fun _ _ h' => h'))
end
noncomputable def blk (X : Cx) (N' : List Str) (scope : Scope) (C : Addr) (s : Shared) (H : Hp) (fp : List Addr) (pins : List (Addr × Obj)) : Cx where
 prog := X.prog
 w := X.w
 K := X.K
 mg := X.mg
 base := X.base
 A := X.A
 N := N'
 s₀ := s
 H₀ := H
 env := compEnvC scope (cellsFrom (C + 1) scope.names [] ++ cloOf X.env scope.names []) C X.env
 outer := X.stack
 stack := X.stack
 ex := fp
 fn := ownB scope.names
 calm := X.calm
 pn := X.pn ++ pins
 xe := fun _ _ => False
structure BlkScope (X : Cx) (N' : List Str) (ix : List (Option Nat)) (scope : Scope) : Prop where
 kind : scope.kind = .function
 locs : ∀ y ∈ scope.names, y.2 = .local → scope.names.lookup y.1 = some .local
 frees : ∀ y ∈ scope.names, y.2 = .free → (X.env.kindOf y.1 = some .cell ∨ X.env.kindOf y.1 = some .free)
 look : ∀ x k, (relabel scope X.env).names.lookup x = some k → (k = .cell ∨ k = .free) → (x, NameKind.free) ∈ scope.names ∨ (x, NameKind.cell) ∈ scope.names
 lenI : ix.length = N'.length
 at_ : ∀ (i j : Nat) (x : Str), ix[i]? = some (some j) → N'[i]? = some x → X.N[j]? = some x ∧ (x, NameKind.free) ∈ scope.names ∧ ownB scope.names x = false ∧ (relabel scope X.env).names.lookup x = X.env.kindOf x
variable {X : Cx} {pins : List (Addr × Obj)} {σ : St} {H : Hp} {s : Shared} {N' : List Str} {ix : List (Option Nat)} {scope : Scope}
noncomputable def pick (ix : List (Option Nat)) (σ : St) : St := ix.map fun o => match o with | some j => (σ[j]?).join | none => none
theorem pick_get {i : Nat} {v : V} (e : (pick ix σ)[i]? = some (some v)) : ∃ j, ix[i]? = some (some j) ∧ σ[j]? = some (some v) := by
 unfold pick at e
 rw [List.getElem?_map] at e
 cases h : ix[i]? with
 | none => rw [h] at e; cases e
 | some o =>
   rw [h] at e
   cases o with
   | none =>
     have e' : (none : Option V) = some v := Option.some.inj e
     cases e'
   | some j =>
     have e' : (σ[j]?).join = some v := Option.some.inj e
     refine ⟨j, rfl, ?_⟩
     cases hj : σ[j]? with
     | none => rw [hj] at e'; cases e'
     | some u => rw [hj] at e'; exact congrArg some e'
theorem blk_cells (I : Inv X pins σ H s) (S : BlkScope X N' ix scope) (C : Addr) {x : Str} {c : Addr} (e : (cellsFrom (C + 1) scope.names [] ++ cloOf X.env scope.names []).lookup x = some c) :
   (C < c ∧ (cellsFrom (C + 1) scope.names []).lookup x = some c) ∨ (ownB scope.names x = false ∧ X.env.cells.lookup x = some c) := by
 rw [List.lookup_append] at e
 cases h : (cellsFrom (C + 1) scope.names []).lookup x with
 | some c' =>
   rw [h] at e
   cases e
   exact .inl ⟨(cellsFrom_in _ _ (mem_of_lookup h)).1, rfl⟩
 | none =>
   rw [h] at e
   refine .inr ⟨Bool.eq_false_iff.mpr fun z => ?_, ?_⟩
   · have := cellsFrom_has scope.names (C + 1) (ownB_mem.mp z)
     rw [h] at this; cases this
   · have e' : (cloOf X.env scope.names []).lookup x = some c := e
     rcases cloOf_lookup X.env scope.names [] x c e' with q | ⟨q, rfl⟩
     · cases q
     · obtain ⟨c, hc⟩ := I.ok.has x (S.frees _ q rfl)
       rw [hc] <;> rfl
theorem blk_ok {fp : List Addr} {C : Addr} (I : Inv X pins σ H s) (hf : ∀ b ∈ fp, FpOk X pins H b) (S : BlkScope X N' ix scope) (hC : s.heap.objs.size ≤ C) (hfo : ∀ b ∈ fp, ∃ o, s.heap.get? b = some o) :
   (blk X N' scope C s H fp pins).Ok := by
 have lt : ∀ x c, X.env.cells.lookup x = some c → c < C := fun x c e => by
   obtain ⟨v, z⟩ := I.cell x c e
   exact Nat.lt_of_lt_of_le z.lt hC
 refine ⟨I.ok.mod, ?_, I.ok.glob, I.ok.blt, hC, fun x y c h1 h2 => ?_, fun x hx => ?_, fun x c hf' e => ?_, I.ok.hd, I.ok.frames, .inl rfl, fun b hb => ?_, I.bs, Nat.le_trans I.ok.bsz I.sz, fun b o e hb => ?_, fun b hb hs => ?_, I.stack, I.stkFree⟩
 · exact S.kind
 · rcases blk_cells I S C h1 with ⟨a1, a2⟩ | ⟨a1, a2⟩ <;> rcases blk_cells I S C h2 with ⟨b1, b2⟩ | ⟨b1, b2⟩
   · exact name_of_addr (cellsFrom_apart _ _) (mem_of_lookup a2) (mem_of_lookup b2)
   · exact absurd (Nat.lt_trans (lt _ _ b2) a1) (Nat.lt_irrefl _)
   · exact absurd (Nat.lt_trans (lt _ _ a2) b1) (Nat.lt_irrefl _)
   · exact I.ok.inj x y c a2 b2
 · have hx' : (relabel scope X.env).names.lookup x = some .cell ∨ (relabel scope X.env).names.lookup x = some .free := hx
   have key : (x, NameKind.free) ∈ scope.names ∨ (x, NameKind.cell) ∈ scope.names := by
     rcases hx' with hx' | hx'
     · exact S.look x _ hx' (.inl rfl)
     · exact S.look x _ hx' (.inr rfl)
   show ∃ c, (cellsFrom (C + 1) scope.names [] ++ cloOf X.env scope.names []).lookup x = some c
   rw [List.lookup_append]
   cases h : (cellsFrom (C + 1) scope.names []).lookup x with
   | some c => exact ⟨c, rfl⟩
   | none =>
     rcases key with k | k
     · obtain ⟨c, hc⟩ := cloOf_has X.env scope.names [] x k
       exact ⟨c, by rw [hc]; rfl⟩
     · have := cellsFrom_has scope.names (C + 1) k
       rw [h] at this; cases this
 · rcases blk_cells I S C e with ⟨a1, a2⟩ | ⟨a1, a2⟩
   · exact Nat.le_of_lt (Nat.lt_of_le_of_lt hC a1)
   · have hf2 : ownB scope.names x = true := hf'
     rw [a1] at hf2; cases hf2
 · obtain ⟨f0, f1, f2, f3, f4, f5⟩ := hf b hb
   obtain ⟨o, ho⟩ := hfo b hb
   refine ⟨Nat.ne_of_lt (Nat.lt_of_lt_of_le (Heap.lt_size ho) hC), fun x c e => ?_⟩
   rcases blk_cells I S C e with ⟨a1, a2⟩ | ⟨a1, a2⟩
   · exact Nat.ne_of_gt (Nat.lt_trans (Nat.lt_of_lt_of_le (Heap.lt_size ho) hC) a1)
   · exact f4 x c a2
 · obtain ⟨f0, f1, f2, f3, f4, f5⟩ := hf b hb
   have := (I.ok.bs b o e).1
   rcases f3 with z | z
   · exact I.ok.noex b o e z
   · exact absurd (Nat.lt_of_lt_of_le (Heap.lt_size this) z) (Nat.lt_irrefl _)
 · obtain ⟨f0, f1, f2, f3, f4, f5⟩ := hf b hb
   rcases List.mem_cons.mp (I.stkSub b hs) with e | e
   · exact f1 e
   · exact f2 e
theorem blk_start {fp : List Addr} {C : Addr} {h₁ : Heap} {tk : Nat} (I : Inv X pins σ H s) (hf : ∀ b ∈ fp, FpOk X pins H b) (S : BlkScope X N' ix scope) (hC : s.heap.objs.size ≤ C) (hfo : ∀ b ∈ fp, ∃ o, s.heap.get? b = some o)
   (hns : h₁.Ns C (fun _ => none)) (hk : ∀ b o, s.heap.get? b = some o → h₁.get? b = some o) (hown : ∀ x c, (x, c) ∈ cellsFrom (C + 1) scope.names [] → h₁.IsCell c none) :
   Inv (blk X N' scope C s H fp pins) [] (pick ix σ) H { s with heap := h₁, toks := tk } := by
 have nC : ∀ b o, s.heap.get? b = some o → b ≠ C := fun b o e => Nat.ne_of_lt (Nat.lt_of_lt_of_le (Heap.lt_size e) hC)
 refine ⟨blk_ok I hf S hC hfo, rfl, I.bare, Un.kept hk, ⟨_, hns, fun i x v h1 h2 h3 => ?_⟩, fun x c e => ?_, I.hok.fresh hC, fun x c e => ?_, fun p hp => ?_, I.hok.kept hk, ?_⟩
 · obtain ⟨j, e1, e2⟩ := pick_get h2
   obtain ⟨a1, a2, a4, a3⟩ := S.at_ i j x e1 h1
   have kd := S.frees _ a2 rfl
   have vis : Vis X.env.scope x := by
     rcases kd with k | k
     · exact .inr (.inl k)
     · exact .inr (.inr k)
   obtain ⟨m, hn, hl⟩ := I.loc
   obtain ⟨u, r, l⟩ := hl j x v a1 e2 vis
   refine ⟨u, r, .inr ?_⟩
   have kd' : X.env.kindOf x = some .cell ∨ X.env.kindOf x = some .free := kd
   rcases l with ⟨k, _⟩ | ⟨k, c, ec, z⟩
   · rcases kd' with q | q <;> (rw [q] at k; cases k)
   · refine ⟨?_, c, ?_, z.keeps hk⟩
     · show (relabel scope X.env).names.lookup x = some .cell ∨ (relabel scope X.env).names.lookup x = some .free
       rw [a3]; exact kd'
     · obtain ⟨c', hc'⟩ := cloOf_has X.env scope.names [] x a2
       show (cellsFrom (C + 1) scope.names [] ++ cloOf X.env scope.names []).lookup x = some c
       have hn : (cellsFrom (C + 1) scope.names []).lookup x = none := by
         cases h : (cellsFrom (C + 1) scope.names []).lookup x with
         | none => rfl
         | some c2 =>
           have := ownB_mem.mpr (cellsFrom_in _ _ (mem_of_lookup h)).2
           rw [a4] at this; cases this
       rw [List.lookup_append, hn]
       show (cloOf X.env scope.names []).lookup x = some c
       rcases cloOf_lookup X.env scope.names [] x c' hc' with q | ⟨q, q2⟩
       · cases q
       · rw [hc', q2, ec]; rfl
 · rcases blk_cells I S C e with ⟨a1, a2⟩ | ⟨a1, a2⟩
   · exact ⟨none, hown x c (mem_of_lookup a2)⟩
   · obtain ⟨v, z⟩ := I.cell x c a2
     exact ⟨v, z.keeps hk⟩
 · rcases blk_cells I S C e with ⟨a1, a2⟩ | ⟨a1, a2⟩
   · exact I.hok.fresh (Nat.le_of_lt (Nat.lt_of_le_of_lt hC a1))
   · exact I.freeC x c a2
 · have hp' : p ∈ X.pn ++ pins := by
     have : p ∈ (X.pn ++ pins) ++ [] := hp
     simpa using this
   obtain ⟨e, n, ne, nf, d⟩ := I.pin p hp'
   refine ⟨hk _ _ e, n, nC _ _ e, fun hb => ?_, d⟩
   rcases List.mem_cons.mp (I.stkSub _ hb) with z | z
   · exact ne z
   · exact nf z
 · show (pick ix σ).length = N'.length
   unfold pick
   rw [List.length_map, S.lenI]
theorem blk_end {fp : List Addr} {C D : Addr} {h' : Heap} {H' : Hp} {σ' : St} {s' : Shared} {ys : List V} {its : List Value} {cap : Nat} (I : Inv X pins σ H s) (hf : ∀ b ∈ fp, FpOk X pins H b) (hC : s.heap.objs.size ≤ C) (hD : s.heap.objs.size ≤ D) (hDC : D ≠ C)
   (J : Inv (blk X N' scope C s H fp pins) [] σ' H' s') (hDn : H' D = none) (ho : s'.heap.get? D = some { cls := .type "list", data := .seq its.toArray cap }) (r : Vals ys its) (hz : ys.length ≤ sizeLine) (sb : Heap.SameBut C s'.heap h') :
   Inv X pins σ (upd H' D (.lst ys)) { s' with heap := h' } := by
 have sb' : ∀ b o, b ≠ C → s'.heap.get? b = some o → h'.get? b = some o := sb.extBut
 have nC : ∀ b o, s.heap.get? b = some o → b ≠ C := fun b o e => Nat.ne_of_lt (Nat.lt_of_lt_of_le (Heap.lt_size e) hC)
 have nD : ∀ b o, s.heap.get? b = some o → b ≠ D := fun b o e => Nat.ne_of_lt (Nat.lt_of_lt_of_le (Heap.lt_size e) hD)
 have hCn : H' C = none := J.free
 have u := J.base
 refine I.call' (ch := fp) (s' := { s' with heap := h' }) J.os ⟨fun b o e n hb hx => ?_, fun b o e n hb hx => ?_, fun b o e n hx => ?_, fun b o e hx => ?_, fun b xs e => ?_, fun b o v e => ?_, fun b ps e => ?_⟩ (fun b o e => ?_) J.bare (fun b hb => ?_)
 · exact sb' _ _ (nC b o e) (u.keep b o e n hb hx)
 · obtain ⟨sl, q⟩ := u.slot b o e n hb hx
   exact ⟨sl, sb' _ _ (nC b o e) q⟩
 · rw [upd_ne (nD b o e)]; exact u.free b o e n hx
 · obtain ⟨o', q⟩ := u.there b o e hx
   exact ⟨o', sb' _ _ (nC b o e) q⟩
 · have q := u.tups b xs e
   rw [upd_ne (ne_of_none q hDn)]; exact q
 · have q := u.frzs b o v e
   rw [upd_ne (ne_of_none q hDn)]; exact q
 · obtain ⟨m, q⟩ := u.tbls b ps e
   exact ⟨m, by rw [upd_ne (ne_of_none q hDn)]; exact q⟩
 · by_cases hb : b = D
   · subst hb
     rw [upd_same] at e; cases e
     exact ⟨hz, its, cap, r, sb' _ _ hDC ho⟩
   · rw [upd_ne hb] at e
     refine (J.hok b o e).stay (fun c v hc q => sb' c v ?_ q) (fun c q => by rw [upd_ne (ne_of_none q hDn)]; exact q) fun c xs q => by rw [upd_ne (ne_of_none q hDn)]; exact q
     rcases hc with rfl | hc
     · exact ne_of_none e hCn
     · exact ne_of_none hc hCn
 · obtain ⟨f0, f1, f2, f3, f4, f5⟩ := hf b hb
   exact ⟨f3, f1, f4, f5⟩
noncomputable def tComp (wi : TI) (ix : List (Option Nat)) (g : TG) (tt : TT) (te : TE) : TE := fun σ H Q => wi σ H fun J H1 => ∃ W : Nat → Nat → List V → Hp → Prop, (∃ m, W 0 m [] H1) ∧ ∀ i m ys H, W i m ys H →
 (J.stop i H ∧ ys.length ≤ sizeLine ∧ ∀ p, H p = none → Q (.ref p) (upd H p (.lst ys))) ∨
 (J.go i H ∧ ys.length < sizeLine ∧ ∀ x H', J.yld i H x H' → g x (pick ix σ) H' fun σ2 H2 => tt σ2 H2 fun ok H3 =>
   if ok = true then te σ2 H3 fun y H4 => ∃ m', m' < m ∧ W (i + 1) m' (ys ++ [y]) H4 else ∃ m', m' < m ∧ W (i + 1) m' ys H3)
noncomputable def PTs (X : Cx) (ifs : List Expr) (t : TT) : Prop :=
 ∀ (pins : List (Addr × Obj)) (s : Shared) (σ : St) (H : Hp) (Q : Bool → Hp → Prop), Inv X pins σ H s → t σ H Q →
   wpAny (model X.prog X.w) X.A (forIn ifs true fun c r => if r = true then do let ok ← isTrue c X.env (eval c X.env); pure (ForInStep.yield ok) else pure (ForInStep.yield r)) (TP X pins σ Q) X.xe s
noncomputable def tYes : TT := fun _ H Q => Q true H
theorem pts_nil : PTs X [] tYes := fun _ _ _ H _ I h => wpAny_tests_nil ⟨H, I, h⟩
theorem pts_one {c : Expr} {t : TT} (h : PT X c t) : PTs X [c] t := fun pins s σ H Q I hw => wpAny_tests_one (h pins s σ H Q I hw)
noncomputable def Agr (ix : List (Option Nat)) (σ σ2 : St) : Prop := σ2.length = σ.length ∧ ∀ (k j : Nat), ix[k]? = some (some j) → σ2[k]? = σ[k]?
noncomputable def Own (ix : List (Option Nat)) (g : TG) : Prop := ∀ (x : V) (σ0 σ : St) (H : Hp) (Q : St → Hp → Prop), Agr ix σ0 σ → g x σ H Q → g x σ H fun σ2 H2 => Q σ2 H2 ∧ Agr ix σ0 σ2
noncomputable def Owns (ix : List (Option Nat)) (g : TGs) : Prop := ∀ (x : List V) (σ0 σ : St) (H : Hp) (Q : St → Hp → Prop), Agr ix σ0 σ → g x σ H Q → g x σ H fun σ2 H2 => Q σ2 H2 ∧ Agr ix σ0 σ2
noncomputable def GMono (g : TG) : Prop := ∀ (x : V) (σ : St) (H : Hp) (Q Q' : St → Hp → Prop), (∀ σ H, Q σ H → Q' σ H) → g x σ H Q → g x σ H Q'
theorem own_name {ix : List (Option Nat)} {i : Nat} (h : ix[i]? = some none) : Own ix (gName i) := by
 intro x σ0 σ H Q a q
 refine ⟨q, by rw [List.length_set]; exact a.1, fun k j hk => ?_⟩
 rw [List.getElem?_set_ne]
 · exact a.2 k j hk
 · rintro rfl
   rw [h] at hk; cases hk
theorem gmono_name {i : Nat} : GMono (gName i) := fun x σ H Q Q' h q => h _ _ q
theorem owns_nil {ix : List (Option Nat)} : Owns ix gNil := by
 intro x σ0 σ H Q a q
 exact ⟨q.1, q.2, a⟩
theorem owns_cons {ix : List (Option Nat)} {t : TG} {u : TGs} (m : GMono t) (h1 : Own ix t) (h2 : Owns ix u) : Owns ix (gCons t u) := by
 intro x σ0 σ H Q a q
 obtain ⟨v, r, e, q⟩ := q
 exact ⟨v, r, e, m _ _ _ _ _ (fun σ1 H1 q1 => h2 _ σ0 _ _ _ q1.2 q1.1) (h1 _ σ0 _ _ _ a q)⟩
theorem own_tup {ix : List (Option Nat)} {K : PySem.W.Frag} {n : Nat} {t : TGs} (h : Owns ix t) : Own ix (gTup K n t) := by
 intro x σ0 σ H Q a q
 obtain ⟨p, xs, e1, e2, e3, q⟩ := q
 exact ⟨p, xs, e1, e2, e3, h _ σ0 _ _ _ a q⟩
theorem comp_core {elt iter tg : Expr} {ifs : List Expr} {pos posc : Pos} {wi : TI} {g : TG} {tt : TT} {te : TE} (use : Option (Value → Sem Unit)) (QQ : Value → Shared → Prop) (hc : X.calm = true) (hi : PI X tg iter wi) (S : BlkScope X N' ix scope) (ow : Own ix g)
   (hg : ∀ C s H fp pins, PG (blk X N' scope C s H fp pins) tg g) (ht : ∀ C s H fp pins, PTs (blk X N' scope C s H fp pins) ifs tt) (he : ∀ C s H fp pins, PE (blk X N' scope C s H fp pins) elt te)
   (hs : ∀ x, foldedSetIterable iter X.env x = pure x) (pins : List (Addr × Obj)) (s : Shared) (σ : St) (H : Hp) (Q : VK) (I : Inv X pins σ H s) (h : tComp wi ix g tt te σ H Q)
   (hpost : ∀ (C D : Addr) (H5 : Hp) (s4 : Shared) (m : Str → Option Value), s4.heap.Ns C m → FpOk X pins H5 C → (∀ h', Heap.SameBut C s4.heap h' → Inv X pins σ H5 { s4 with heap := h' }) → Q (.ref D) H5 →
     compPost (model X.prog X.w) X.A X.xe use QQ (.ref D) C (.ok .next) s4) :
   wpAny (model X.prog X.w) X.A (comprehension (.ListComp elt [⟨tg, iter, ifs, 0⟩] scope pos) scope X.env posc (newList []) false (eval iter X.env) use) QQ X.xe s := by
 refine wpAny_comprehension_free (use := use) rfl hs (closureFor_eq scope X.env fun y hy hk => I.ok.has y.1 (S.frees y hy hk)) S.kind S.locs (thn (hi pins s σ H _ I h) fun v s1 h1 => thn h1 fun itv s2 h2 => ?_)
 obtain ⟨it, fp, tn, J, H2, e, I2, T, st2, f2, W, ⟨m0, w0⟩, turn⟩ := h2
 subst e
 have hfo : ∀ b ∈ fp, ∃ o, s2.heap.get? b = some o := fun b hb => let ⟨o, e, _⟩ := T.obj _ _ st2 b hb; ⟨o, e⟩
 refine wpAny_newObj_type (wpAny_newBlockEnv (fun h₁ eh₁ => ?_))
 dsimp only at eh₁ ⊢
 generalize hH2 : s2.heap.push { cls := .type "list", dict := none, data := .seq ([] : List Value).toArray } = Hp2 at eh₁ ⊢
 have hC : Hp2.objs.size = s2.heap.objs.size + 1 := by rw [← hH2, Heap.size_push]
 have old1 : ∀ b o, Hp2.get? b = some o → h₁.get? b = some o := fun b o e => by rw [eh₁]; exact pushCells_keeps _ _ _ _ (Heap.get?_push_of_some _ e)
 have hns : h₁.Ns Hp2.objs.size (fun _ => none) := by rw [eh₁]; exact (Heap.Ns.new Hp2 (.type "dict")).keeps (pushCells_keeps _ _)
 have hown : ∀ x c, (x, c) ∈ cellsFrom (Hp2.objs.size + 1) scope.names [] → h₁.IsCell c none := fun x c hm => by
   have ok := cellsFrom_ok scope.names (Hp2.push { cls := .type "dict", data := .dict #[] }) (Hp2.objs.size + 1) [] ⟨fun _ _ hm => (nomatch hm), List.Pairwise.nil⟩ (by rw [Heap.size_push]; exact Nat.le_refl _)
   rw [Heap.size_push] at ok
   rw [eh₁]
   exact (ok.empty x c hm).1
 generalize hCC : Hp2.objs.size = C at hns hown hC ⊢
 generalize hDD : s2.heap.objs.size = D at hC
 have hCge : s2.heap.objs.size ≤ C := by rw [hDD, hC]; exact Nat.le_succ _
 have hDge : s2.heap.objs.size ≤ D := Nat.le_of_eq hDD
 have hDC : D ≠ C := by rw [hC]; exact Nat.ne_of_lt (Nat.lt_succ_self _)
 have hDlt : D < C := by rw [hC]; exact Nat.lt_succ_self _
 have old : ∀ b o, s2.heap.get? b = some o → h₁.get? b = some o := fun b o e => old1 b o (hH2 ▸ Heap.get?_push_of_some _ e)
 have hacc : h₁.get? D = some { cls := .type "list", data := .seq ([] : List Value).toArray 0 } := old1 _ _ (hH2 ▸ hDD ▸ Heap.get?_push_size _ rfl)
 have stat : ∀ {H' : Hp}, (∀ b ∈ fp, H' b = none) → ∀ b ∈ fp, FpOk (blk X N' scope C s2 H2 fp pins) [] H' b := fun hn b hb => by
   obtain ⟨f0, f1, f2, f3, f4, f5⟩ := f2 b hb
   obtain ⟨o, ho⟩ := hfo b hb
   refine ⟨hn b hb, Nat.ne_of_lt (Nat.lt_of_lt_of_le (Heap.lt_size ho) hCge), fun z => ?_, .inl hb, fun x c e => ?_, fun p hp => ?_⟩
   · rcases List.mem_cons.mp (I2.stkSub _ z) with e | e
     · exact f1 e
     · exact f2 e
   · rcases blk_cells I2 S C e with ⟨a1, a2⟩ | ⟨a1, a2⟩
     · exact Nat.ne_of_gt (Nat.lt_trans (Nat.lt_of_lt_of_le (Heap.lt_size ho) hCge) a1)
     · exact f4 x c a2
   · have : p ∈ (X.pn ++ pins) ++ [] := hp
     exact f5 p (by simpa using this)
 have hDs : D ∉ (blk X N' scope C s2 H2 fp pins).fs := fun hb => by
   rcases List.mem_cons.mp (I2.stkSub _ hb) with e | e
   · rw [e] at hDge
     exact absurd (Nat.lt_of_lt_of_le I2.lt hDge) (Nat.lt_irrefl _)
   · exact I2.nofs hDge e
 have loop : ∀ s₃ : Shared, s₃ = { s2 with heap := h₁ } →
     codeAny (model X.prog X.w) X.A (.compLoop (.ListComp elt [⟨tg, iter, ifs, 0⟩] scope pos) 0 (.ref it) (.ref D) (compEnvC scope (cellsFrom (C + 1) scope.names [] ++ cloOf X.env scope.names []) C X.env))
       (compPost (model X.prog X.w) X.A X.xe use QQ (.ref D) C) s₃ := by
   rintro s₃ rfl
   refine codeAny_compLoop_gen (fun n s' => ∃ i ys its cap H', Inv (blk X N' scope C s2 H2 fp pins) [] (pick ix σ) H' s' ∧ tn i s'.heap ∧ (∀ b ∈ fp, H' b = none) ∧ H' D = none ∧
       s'.heap.get? D = some { cls := .type "list", data := .seq (its : List Value).toArray cap } ∧ Vals ys its ∧ W i n ys H') ?_ m0
     ⟨0, [], [], 0, H2, blk_start I2 f2 S hCge hfo hns old hown, T.keep _ _ _ st2 fun b _ o e => old b o e, fun b hb => (f2 b hb).1, I2.hok.fresh hDge, hacc, .nil, w0⟩
   rintro n s3 ⟨i, ys, its, cap, H3, I3, st3, fr3, hD3, ho3, r3, w3⟩
   have I3d : Inv (blk X N' scope C s2 H2 fp pins) [(D, { cls := .type "list", data := .seq its.toArray cap })] (pick ix σ) H3 s3 := I3.pins_of fun p hp => by
     have e : p = (D, { cls := .type "list", data := .seq its.toArray cap }) := by simpa using hp
     subst e
     exact ⟨ho3, hD3, hDC, hDs, fun v z => nomatch z⟩
   have statD : ∀ {H' : Hp}, (∀ b ∈ fp, H' b = none) → ∀ b ∈ fp, FpOk (blk X N' scope C s2 H2 fp pins) [(D, ({ cls := .type "list", data := .seq its.toArray cap } : Obj))] H' b := fun hn b hb => by
     obtain ⟨f0, f1, f2, f3, f4, f5⟩ := stat hn b hb
     obtain ⟨o, ho⟩ := hfo b hb
     refine ⟨f0, f1, f2, f3, f4, fun p hp => ?_⟩
     rcases List.mem_append.mp hp with z | z
     · exact f5 p (List.mem_append_left _ z)
     · have e : p = (D, ({ cls := .type "list", data := .seq its.toArray cap } : Obj)) := by simpa using z
       subst e
       exact Nat.ne_of_gt (Nat.lt_of_lt_of_le (Heap.lt_size ho) hDge)
   rcases turn i n ys H3 w3 with ⟨stop, hz, qn⟩ | ⟨go, hz, step⟩
   · refine wpAny_noRaise (thn (T.done (blk X N' scope C s2 H2 fp pins) rfl rfl rfl hc i _ s3 (pick ix σ) H3 (fun _ _ => False) I3d (statD fr3) st3 stop) fun r s4 ⟨hr, I4⟩ => ?_)
     subst hr
     obtain ⟨e4, n4, _⟩ := I4.pin (D, _) (List.mem_append_right _ (List.mem_singleton.mpr rfl))
     obtain ⟨m, hn, _⟩ := id I4.loc
     have hC4 : H3 C = none := I4.free
     exact hpost C D _ _ m hn (I2.fpOk hCge (by rw [upd_ne (Ne.symm hDC)]; exact hC4)) (fun h' sb => blk_end I2 f2 hCge hDge hDC (Inv.unpinned (pl := [(D, _)]) (pins := []) I4) n4 e4 r3 hz sb) (qn D n4)
   · refine wpAny_noRaise (thn (T.item (blk X N' scope C s2 H2 fp pins) rfl rfl rfl hc i _ s3 (pick ix σ) H3 (fun _ _ => False) I3d (statD fr3) st3 go) fun r s4 ⟨u, hr, h4⟩ => ?_)
     subst hr
     refine wpAny_noRaise (thn h4 fun _ s5 ⟨x, H5, I5, r5, y5, st5, fr5⟩ => ?_)
     have I5' := I5.pinned (statD fr5) (T.obj _ _ st5)
     have again : ∀ {σ7 : St} {H7 : Hp} {s7 : Shared}, Inv (blk X N' scope C s2 H2 fp pins) ([(D, ({ cls := .type "list", data := .seq its.toArray cap } : Obj))] ++ pinsAt fp s5.heap) σ7 H7 s7 →
         H7 D = none ∧ s7.heap.get? D = some { cls := .type "list", data := .seq its.toArray cap } ∧ tn (i + 1) s7.heap ∧ ∀ b ∈ fp, H7 b = none := fun {σ7 H7 s7} I7 => by
       obtain ⟨e7, n7, _⟩ := I7.pin (D, _) (List.mem_append_right _ (List.mem_append_left _ (List.mem_singleton.mpr rfl)))
       refine ⟨n7, e7, T.keep _ _ _ st5 fun b hb o e => (I7.pin (b, o) (List.mem_append_right _ (List.mem_append_right _ (mem_pinsAt hb e)))).1, fun b hb => ?_⟩
       obtain ⟨o, e, d⟩ := T.obj _ _ st5 b hb
       exact (I7.pin (b, o) (List.mem_append_right _ (List.mem_append_right _ (mem_pinsAt hb e)))).2.1
     have forget : ∀ {σ7 : St} {H7 : Hp} {s7 : Shared}, Inv (blk X N' scope C s2 H2 fp pins) ([(D, ({ cls := .type "list", data := .seq its.toArray cap } : Obj))] ++ pinsAt fp s5.heap) σ7 H7 s7 →
         (∀ (k : Nat) v, (pick ix σ)[k]? = some (some v) → σ7[k]? = some (some v)) → σ7.length = (pick ix σ).length → Inv (blk X N' scope C s2 H2 fp pins) [] (pick ix σ) H7 s7 := fun {σ7 H7 s7} I7 hk hl =>
       (I7.pins_of (pins' := []) fun _ z => nomatch z).weak hl.symm hk
     refine wpAny_noRaise (thn (hg C s2 H2 fp pins _ s5 (pick ix σ) H5 x u _ I5' r5 (ow _ _ _ _ _ ⟨rfl, fun _ _ _ => rfl⟩ (step x H5 y5))) fun _ s6 ⟨σ6, H6, I6, q6, l6, k6⟩ => ?_)
     have back : ∀ (k : Nat) v, (pick ix σ)[k]? = some (some v) → σ6[k]? = some (some v) := fun k v e => by
       obtain ⟨j, e1, _⟩ := pick_get e
       rw [k6 k j e1]; exact e
     refine wpAny_noRaise (thn (ht C s2 H2 fp pins _ s6 σ6 H6 _ I6 q6) fun ok s7 ⟨H7, I7, q7⟩ => ?_)
     cases ok with
     | false =>
       rw [if_neg Bool.false_ne_true]
       rw [if_neg Bool.false_ne_true] at q7
       obtain ⟨m', hm, w7⟩ := q7
       obtain ⟨a1, a2, a3, a4⟩ := again I7
       exact ⟨m', hm, i + 1, ys, its, cap, H7, forget I7 back l6, a3, a4, a1, a2, r3, w7⟩
     | true =>
       rw [if_pos rfl]
       rw [if_pos rfl] at q7
       refine wpAny_noRaise (thn (he C s2 H2 fp pins _ s7 σ6 H7 _ I7 q7) fun z s8 ⟨y, H8, I8, r8, m', hm, w8⟩ => ?_)
       obtain ⟨a1, a2, a3, a4⟩ := again I8
       have hl := r3.length
       refine wpAny_noRaise (wpAny_list_append_plain ⟨_, a2⟩ (fun h9 ⟨cap9, p9⟩ sb9 => ?_) (by rw [List.size_toArray, ← hl]; exact Nat.le_of_lt hz))
       have I9 : Inv (blk X N' scope C s2 H2 fp pins) [] (pick ix σ) H8 { s8 with heap := h9 } :=
         (forget I8 back l6).turned (t' := s8.toks) (it := D) (fun b o hb e => sb9.extBut b o hb e) a1 hDC (.inr hDge) (fun x c e => by
           rcases blk_cells I2 S C e with ⟨a1, a2⟩ | ⟨a1, a2⟩
           · exact Nat.ne_of_gt (Nat.lt_trans hDlt a1)
           · obtain ⟨v, z⟩ := I2.cell x c a2
             exact Nat.ne_of_lt (Nat.lt_of_lt_of_le z.lt hDge)) (fun p hp => by
           have hp' : p ∈ (X.pn ++ pins) ++ [] := hp
           exact Nat.ne_of_lt (Nat.lt_of_lt_of_le (Heap.lt_size (I2.pin p (by simpa using hp')).1) hDge))
       refine ⟨m', hm, i + 1, ys ++ [y], its ++ [z], cap9, H8, I9, ?_, a4, a1, ?_, r3.append (.cons r8 .nil), w8⟩
       · refine T.keep _ _ _ a3 fun b hb o e => sb9.extBut b o ?_ e
         obtain ⟨o', ho'⟩ := hfo b hb
         exact Nat.ne_of_lt (Nat.lt_of_lt_of_le (Heap.lt_size ho') hDge)
       · rw [p9]; simp
 exact codeAny_compStart_list (loop _ rfl) (T.self _ _ _ _ _ (T.keep _ _ _ st2 fun b _ o e => old b o e) (loop _ rfl))
theorem pe_comp {elt iter tg : Expr} {ifs : List Expr} {pos : Pos} {wi : TI} {g : TG} {tt : TT} {te : TE} (hc : X.calm = true) (hi : PI X tg iter wi) (S : BlkScope X N' ix scope) (ow : Own ix g)
   (hg : ∀ C s H fp pins, PG (blk X N' scope C s H fp pins) tg g) (ht : ∀ C s H fp pins, PTs (blk X N' scope C s H fp pins) ifs tt) (he : ∀ C s H fp pins, PE (blk X N' scope C s H fp pins) elt te)
   (hs : ∀ x, foldedSetIterable iter X.env x = pure x := by intro _; rfl) :
   PE X (.ListComp elt [⟨tg, iter, ifs, 0⟩] scope pos) (tComp wi ix g tt te) := by
 intro pins s σ H Q I h
 rw [eval_ListComp]
 exact comp_core none (EP X pins σ Q) hc hi S ow hg ht he hs pins s σ H Q I h fun C D H5 s4 m hn _ inv q => ⟨m, hn, fun h' sb => ⟨.ref D, H5, inv h' sb, rfl, q⟩⟩
theorem ps_setC {i : Nat} {x : Str} {elt iter tg : Expr} {ifs : List Expr} {pos pos' spos : Pos} {wi : TI} {g : TG} {tt : TT} {te : TE} (hN : X.N.Nodup) (hi' : X.N[i]? = some x) (hx : Loc X.env.scope x) (hc : X.calm = true) (hi : PI X tg iter wi) (S : BlkScope X N' ix scope) (ow : Own ix g)
   (hg : ∀ C s H fp pins, PG (blk X N' scope C s H fp pins) tg g) (ht : ∀ C s H fp pins, PTs (blk X N' scope C s H fp pins) ifs tt) (he : ∀ C s H fp pins, PE (blk X N' scope C s H fp pins) elt te)
   (hsw : swapsWith (.ListComp elt [⟨tg, iter, ifs, 0⟩] scope pos) (some (.Name x pos')) spos.line X.env = pure true)
   (hs : ∀ x, foldedSetIterable iter X.env x = pure x := by intro _; rfl) (hf : X.fn x = true ∨ X.env.scope.names.lookup x = some .local := by first | exact .inl rfl | exact .inr rfl | assumption) :
   PS X (.Assign [.Name x pos'] (.ListComp elt [⟨tg, iter, ifs, 0⟩] scope pos) spos) (tAsg (tComp wi ix g tt te) (gName i)) := by
 intro pins s σ H D I h
 rw [exec_Assign_Name_used _ _ _ _ hsw]
 refine wpAny_bind (wpAny_standAt (wpAny_bind ?_))
 show wpAny _ X.A (do let _ ← comprehension (.ListComp elt [⟨tg, iter, ifs, 0⟩] scope pos) scope X.env _ (newList []) false (eval iter X.env) (some (assign (.Name x pos') X.env))) _ _ s
 refine wpAny_bind (thn (comp_core (some (assign (.Name x pos') X.env)) (fun _ s' => SP X pins D .next s') hc hi S ow hg ht he hs pins s σ H _ I h ?_) fun _ s' hq => wpAny_pure (wpAny_pure hq))
 intro C D2 H5 s4 m hn fp inv q
 have I5 : Inv X pins σ H5 s4 := inv s4.heap (Heap.SameBut.refl _ _)
 refine wpAny_assign_Name (store_ok2 I5 hN hi' hx (v := .ref D2) rfl (fun s5 I6 ⟨a, sb, ha⟩ => ?_) hf)
 obtain ⟨f0, f1, f2, f3, f4, f5⟩ := fp
 have hac : a ≠ C := by
   rcases ha with rfl | ha
   · exact Ne.symm f1
   · exact f4 x a ha
 refine ⟨m, hn.sameBut sb (Ne.symm hac), fun h' sb' => ⟨_, H5, I6.turned (t' := s5.toks) (it := C) (fun b o hb e => sb'.extBut b o hb e) f0 f1 f3 f4 f5, q⟩⟩
end L2
namespace L2
open PySem PySem.Spec PyProof.Rows
noncomputable def relabelS (scope outer : Scope) : Scope :=
 { scope with names := scope.names.map fun (n, k) => if (k == .free && outer.kind == .function && outer.names.lookup n == some .cell) then (n, .cell) else (n, k) }
theorem relabel_look {scope : Scope} {env : Env} {x : Str} {k : NameKind} (h : (relabel scope env).names.lookup x = some k) (hk : k = .cell ∨ k = .free) : (x, NameKind.free) ∈ scope.names ∨ (x, NameKind.cell) ∈ scope.names := by
 have hm : (x, k) ∈ (relabel scope env).names := PySem.mem_of_lookup h
 unfold relabel at hm
 obtain ⟨⟨n, k0⟩, h1, h2⟩ := List.mem_map.mp hm
 dsimp only at h2
 split at h2
 · rename_i hc
   have e1 : n = x := (Prod.mk.inj h2).1
   subst e1
   have : k0 = NameKind.free := by
     simp only [Bool.and_eq_true, beq_iff_eq] at hc
     exact hc.1.1
   rw [this] at h1; exact .inl h1
 · have e1 := Prod.mk.inj h2
   obtain ⟨rfl, rfl⟩ := e1
   rcases hk with rfl | rfl
   · exact .inr h1
   · exact .inl h1
noncomputable def blkB (outer : Scope) (N N' : List Str) (ix : List (Option Nat)) (scope : Scope) : Bool :=
 decide (scope.kind = .function) && decide (outer.kind = .function) && scope.names.all (fun y => decide (y.2 = .local → scope.names.lookup y.1 = some .local)) &&
 scope.names.all (fun y => decide (y.2 = .free → (outer.names.lookup y.1 = some .cell ∨ outer.names.lookup y.1 = some .free))) && decide (ix.length = N'.length) &&
 (List.range ix.length).all fun i => match ix[i]?, N'[i]? with
   | some (some j), some x => decide (N[j]? = some x) && decide ((x, NameKind.free) ∈ scope.names) && !ownB scope.names x &&
     decide ((relabelS scope outer).names.lookup x = outer.names.lookup x)
   | _, _ => true
theorem blk_scope {X : Cx} {outer scope : Scope} {N N' : List Str} {ix : List (Option Nat)} (h : blkB outer N N' ix scope = true) (ho : X.env.scope = outer) (hN : X.N = N) : BlkScope X N' ix scope := by
 unfold blkB at h
 simp only [Bool.and_eq_true, decide_eq_true_eq, List.all_eq_true] at h
 obtain ⟨⟨⟨⟨⟨h1, h2⟩, h4⟩, h5⟩, h6⟩, h7⟩ := h
 subst ho hN
 refine ⟨h1, h4, h5, fun x k hl hk => relabel_look hl hk, h6, fun i j x e1 e2 => ?_⟩
 have hi : i < ix.length := (List.getElem?_eq_some_iff.mp e1).1
 have q := h7 i (List.mem_range.mpr hi)
 rw [e1, e2] at q
 simp only [Bool.and_eq_true, decide_eq_true_eq, Bool.not_eq_true'] at q
 exact ⟨q.1.1.1, q.1.1.2, q.1.2, q.2⟩
theorem blk_scope2 {X : Cx} {outer scope0 scope : Scope} {N N' N0 : List Str} {ix : List (Option Nat)} {C : Addr} {s : Shared} {H : Hp} {fp : List Addr} {pins : List (Addr × Obj)} (h : blkB (relabelS scope0 outer) N N' ix scope = true) (ho : X.env.scope = outer) (hN : N0 = N) : BlkScope (blk X N0 scope0 C s H fp pins) N' ix scope :=
 blk_scope (outer := relabelS scope0 outer) h (by rw [← ho]; rfl) hN
theorem PE.imp {X : Cx} {e : Expr} {t t' : TE} (h : PE X e t) (f : ∀ σ H Q, t' σ H Q → t σ H Q) : PE X e t' := fun pins s σ H Q I q => h pins s σ H Q I (f σ H Q q)
theorem PT.imp {X : Cx} {e : Expr} {t t' : TT} (h : PT X e t) (f : ∀ σ H Q, t' σ H Q → t σ H Q) : PT X e t' := fun pins s σ H Q I q => h pins s σ H Q I (f σ H Q q)
theorem PA.imp {X : Cx} {e : List Expr} {t t' : TA} (h : PA X e t) (f : ∀ σ H Q, t' σ H Q → t σ H Q) : PA X e t' := fun pos pins s σ H Q I q => h pos pins s σ H Q I (f σ H Q q)
theorem PS.imp {X : Cx} {e : Stmt} {t t' : TS} (h : PS X e t) (f : ∀ D σ H, t' D σ H → t D σ H) : PS X e t' := fun pins s σ H D I q => h pins s σ H D I (f D σ H q)
theorem PSs.imp {X : Cx} {e : List Stmt} {t t' : TS} (h : PSs X e t) (f : ∀ D σ H, t' D σ H → t D σ H) : PSs X e t' := fun pins s σ H D I q => h pins s σ H D I (f D σ H q)
end L2
namespace L2
open PySem PySem.Spec PyProof.Rows
inductive T where
 | non | bl (b : Bool) | int (i : Int) | str (x : Str) | tup (ts : List T) | adr (a : Addr)
 /-- a list that never changes (the script; a module's own) -/
 | rd (ts : List T)
 /-- a dict with int keys that never changes behind its display -/
 | dic (ks : List Int) (ts : List T)
noncomputable def FzL (K : PySem.W.Frag) (H : Hp) (a : Addr) (xs : List V) : Prop :=
 (∃ o, H a = some (.frz o (.lst xs))) ∨
   ∃ (o : Obj) (its : Array Value) (n : Nat), K.lookup a = some o ∧ o.cls = .type "list" ∧ o.dict = none ∧ o.data = .seq its n ∧ its.size ≤ sizeLine ∧ Vals xs its.toList
theorem FzL.sq {K : PySem.W.Frag} {H : Hp} {a : Addr} {xs : List V} (h : FzL K H a xs) : SqL K H a xs := by
 rcases h with ⟨o, h⟩ | h
 · exact .inl (.inr ⟨o, h⟩)
 · exact .inr h
mutual
noncomputable def Rep (K : PySem.W.Frag) (H : Hp) : V → T → Prop
 | v, .non => v = .non
 | v, .bl b => v = .bl b
 | v, .int i => v = .int i
 | v, .str x => v = .str x
 | v, .adr a => v = .ref a
 | v, .tup ts => ∃ a xs, v = .ref a ∧ SqT K H a xs ∧ Reps K H xs ts
 | v, .rd ts => ∃ a xs, v = .ref a ∧ FzL K H a xs ∧ Reps K H xs ts
 | v, .dic _ _ => False
noncomputable def Reps (K : PySem.W.Frag) (H : Hp) : List V → List T → Prop
 | vs, [] => vs = []
 | vs, t :: ts => ∃ v r, vs = v :: r ∧ Rep K H v t ∧ Reps K H r ts
end
structure Kp (K : PySem.W.Frag) (H H' : Hp) : Prop where
 tup : ∀ a xs, SqT K H a xs → SqT K H' a xs
 frz : ∀ a o u, H a = some (.frz o u) → H' a = some (.frz o u)
theorem Kp.refl {K : PySem.W.Frag} {H : Hp} : Kp K H H := ⟨fun _ _ h => h, fun _ _ _ h => h⟩
theorem Kp.trans {K : PySem.W.Frag} {H H1 H2 : Hp} (a : Kp K H H1) (b : Kp K H1 H2) : Kp K H H2 := ⟨fun _ _ h => b.tup _ _ (a.tup _ _ h), fun _ _ _ h => b.frz _ _ _ (a.frz _ _ _ h)⟩
structure KpW (K : PySem.W.Frag) (H H' : Hp) : Prop where
 tup : ∀ a xs, SqT K H a xs → SqT K H' a xs
 frz : ∀ a o u, H a = some (.frz o u) → H' a = some (.frz o u)
theorem Kp.w {K : PySem.W.Frag} {H H' : Hp} (k : Kp K H H') : KpW K H H' := ⟨k.tup, k.frz⟩
theorem KpW.fz {K : PySem.W.Frag} {H H' : Hp} {a : Addr} {xs : List V} (k : KpW K H H') (h : FzL K H a xs) : FzL K H' a xs := by
 rcases h with ⟨o, h⟩ | h
 · exact .inl ⟨o, k.frz _ _ _ h⟩
 · exact .inr h
mutual
theorem Rep.kw {K : PySem.W.Frag} {H H' : Hp} (k : KpW K H H') : ∀ (v : V) (t : T), Rep K H v t → Rep K H' v t
 | v, .non, h => h
 | v, .bl b, h => h
 | v, .int i, h => h
 | v, .str x, h => h
 | v, .adr a, h => h
 | v, .tup ts, h => by
   unfold Rep at h ⊢
   obtain ⟨a, xs, e, h1, h2⟩ := h
   exact ⟨a, xs, e, k.tup _ _ h1, Reps.kw k xs ts h2⟩
 | v, .rd ts, h => by
   unfold Rep at h ⊢
   obtain ⟨a, xs, e, h1, h2⟩ := h
   exact ⟨a, xs, e, k.fz h1, Reps.kw k xs ts h2⟩
 | v, .dic ks ts, h => by
   unfold Rep at h; exact h.elim
theorem Reps.kw {K : PySem.W.Frag} {H H' : Hp} (k : KpW K H H') : ∀ (vs : List V) (ts : List T), Reps K H vs ts → Reps K H' vs ts
 | vs, [], h => h
 | vs, t :: ts, h => by
   unfold Reps at h ⊢
   obtain ⟨v, r, e, h1, h2⟩ := h
   exact ⟨v, r, e, Rep.kw k v t h1, Reps.kw k r ts h2⟩
end
theorem Rep.kp {K : PySem.W.Frag} {H H' : Hp} (k : Kp K H H') (v : V) (t : T) (h : Rep K H v t) : Rep K H' v t := Rep.kw k.w v t h
theorem Reps.kp {K : PySem.W.Frag} {H H' : Hp} (k : Kp K H H') (vs : List V) (ts : List T) (h : Reps K H vs ts) : Reps K H' vs ts := Reps.kw k.w vs ts h
section
variable {K : PySem.W.Frag} {H : Hp}
theorem Reps.cons {v : V} {t : T} {vs : List V} {ts : List T} (h : Rep K H v t) (r : Reps K H vs ts) : Reps K H (v :: vs) (t :: ts) := by
 unfold Reps; exact ⟨v, vs, rfl, h, r⟩
theorem Reps.nil : Reps K H [] [] := by unfold Reps; rfl
theorem Reps.length : ∀ {vs : List V} {ts : List T}, Reps K H vs ts → vs.length = ts.length
 | vs, [], h => by unfold Reps at h; subst h; rfl
 | vs, t :: ts, h => by
   unfold Reps at h
   obtain ⟨v, r, rfl, _, h2⟩ := h
   rw [List.length_cons, List.length_cons, Reps.length h2]
theorem Reps.get : ∀ {vs : List V} {ts : List T} {i : Nat} {t : T}, Reps K H vs ts → ts[i]? = some t → ∃ v, vs[i]? = some v ∧ Rep K H v t
 | _, [], _, _, _, e => by simp at e
 | vs, t :: ts, 0, u, h, e => by
   unfold Reps at h
   obtain ⟨v, r, rfl, h1, _⟩ := h
   simp at e; subst e
   exact ⟨v, rfl, h1⟩
 | vs, t :: ts, i + 1, u, h, e => by
   unfold Reps at h
   obtain ⟨v, r, rfl, _, h2⟩ := h
   obtain ⟨w, q1, q2⟩ := Reps.get (i := i) h2 (by simpa using e)
   exact ⟨w, by simpa using q1, q2⟩
theorem Reps.append : ∀ {vs : List V} {ts : List T} {ws : List V} {us : List T}, Reps K H vs ts → Reps K H ws us → Reps K H (vs ++ ws) (ts ++ us)
 | vs, [], _, _, h, g => by unfold Reps at h; subst h; exact g
 | vs, t :: ts, _, _, h, g => by
   unfold Reps at h
   obtain ⟨v, r, rfl, h1, h2⟩ := h
   exact .cons h1 (Reps.append h2 g)
theorem Reps.take : ∀ {vs : List V} {ts : List T} (n : Nat), Reps K H vs ts → Reps K H (vs.take n) (ts.take n)
 | _, _, 0, _ => .nil
 | vs, [], n + 1, h => by unfold Reps at h; subst h; exact .nil
 | vs, t :: ts, n + 1, h => by
   unfold Reps at h
   obtain ⟨v, r, rfl, h1, h2⟩ := h
   exact .cons h1 (Reps.take n h2)
theorem Reps.drop : ∀ {vs : List V} {ts : List T} (n : Nat), Reps K H vs ts → Reps K H (vs.drop n) (ts.drop n)
 | _, _, 0, h => h
 | vs, [], n + 1, h => by unfold Reps at h; subst h; exact .nil
 | vs, t :: ts, n + 1, h => by
   unfold Reps at h
   obtain ⟨v, r, rfl, h1, h2⟩ := h
   exact Reps.drop n h2
theorem Reps.set {v : V} {t : T} (g : Rep K H v t) : ∀ {vs : List V} {ts : List T} (n : Nat), Reps K H vs ts → Reps K H (vs.set n v) (ts.set n t)
 | vs, [], n, h => by unfold Reps at h; subst h; exact .nil
 | vs, u :: ts, 0, h => by
   unfold Reps at h
   obtain ⟨v, r, rfl, h1, h2⟩ := h
   exact .cons g h2
 | vs, u :: ts, n + 1, h => by
   unfold Reps at h
   obtain ⟨v, r, rfl, h1, h2⟩ := h
   exact .cons h1 (Reps.set g n h2)
theorem Reps.reverse : ∀ {vs : List V} {ts : List T}, Reps K H vs ts → Reps K H vs.reverse ts.reverse
 | vs, [], h => by unfold Reps at h; subst h; exact .nil
 | vs, u :: ts, h => by
   unfold Reps at h
   obtain ⟨v, r, rfl, h1, h2⟩ := h
   rw [List.reverse_cons, List.reverse_cons]
   exact (Reps.reverse h2).append (.cons h1 .nil)
theorem Reps.of_ints : ∀ (ns : List Int), Reps K H (ns.map V.int) (ns.map T.int)
 | [] => .nil
 | n :: ns => .cons (by unfold Rep; rfl) (Reps.of_ints ns)
end
inductive MO where
 /-- a list that may be written -/
 | lst (ts : List T)
 /-- a dict that may be written: keys whole numbers or texts -/
 | dk (kvs : List (Key × T))
 /-- the same, keys tuples of such -/
 | dt (kvs : List (List Key × T))
 /-- the same, walked: it may not be written any more -/
 | fz (kvs : List (List Key × T))
 /-- a dict with keys whole numbers or texts that may not be written any more (a walk may go over it) -/
 | fk (kvs : List (Key × T))
noncomputable abbrev MH := Addr → Option MO
noncomputable def updM (M : MH) (a : Addr) (o : MO) : MH := fun b => if b = a then some o else M b
theorem updM_same {M : MH} {a : Addr} {o : MO} : updM M a o a = some o := if_pos rfl
theorem updM_ne {M : MH} {a b : Addr} {o : MO} (h : b ≠ a) : updM M a o b = M b := if_neg h
noncomputable def Sub (M M' : MH) : Prop := ∀ a o, M a = some o → M' a = some o
theorem Sub.refl {M : MH} : Sub M M := fun _ _ h => h
theorem Sub.trans {M M1 M2 : MH} (a : Sub M M1) (b : Sub M1 M2) : Sub M M2 := fun _ _ h => b _ _ (a _ _ h)
theorem Sub.new {M : MH} {p : Addr} {o : MO} (h : M p = none) : Sub M (updM M p o) := fun b u q => by
 rw [updM_ne]
 · exact q
 · rintro rfl
   rw [h] at q; cases q
noncomputable def KRep {κ : Type} (K : PySem.W.Frag) (H : Hp) : List (κ × V) → List (κ × T) → Prop
 | [], [] => True
 | p :: r, q :: u => p.1 = q.1 ∧ Rep K H p.2 q.2 ∧ KRep K H r u
 | _, _ => False
theorem KRep.kp {κ : Type} {K : PySem.W.Frag} {H H' : Hp} (k : Kp K H H') : ∀ {xs : List (κ × V)} {kvs : List (κ × T)}, KRep K H xs kvs → KRep K H' xs kvs
 | [], [], _ => trivial
 | p :: r, q :: u, h => ⟨h.1, Rep.kp k _ _ h.2.1, KRep.kp k h.2.2⟩
 | [], q :: u, h => h.elim
 | p :: r, [], h => h.elim
theorem KRep.length {κ : Type} {K : PySem.W.Frag} {H : Hp} : ∀ {xs : List (κ × V)} {kvs : List (κ × T)}, KRep K H xs kvs → xs.length = kvs.length
 | [], [], _ => rfl
 | p :: r, q :: u, h => by rw [List.length_cons, List.length_cons, KRep.length h.2.2]
 | [], q :: u, h => h.elim
 | p :: r, [], h => h.elim
noncomputable def MOk (K : PySem.W.Frag) (H : Hp) (a : Addr) : MO → Prop
 | .lst ts => ∃ xs, H a = some (.lst xs) ∧ Reps K H xs ts
 | .dk kvs => ∃ xs, H a = some (.dK xs) ∧ KRep K H xs kvs
 | .dt kvs => ∃ xs, H a = some (.dT xs) ∧ KRep K H xs kvs
 | .fz kvs => ∃ o xs, H a = some (.frz o (.dT xs)) ∧ KRep K H xs kvs
 | .fk kvs => ∃ xs, Rd H a (.dK xs) ∧ KRep K H xs kvs
noncomputable def HR (K : PySem.W.Frag) (H : Hp) (M : MH) : Prop := ∀ a o, M a = some o → MOk K H a o
theorem HR.sub {K : PySem.W.Frag} {H : Hp} {M M' : MH} (h : HR K H M') (s : Sub M M') : HR K H M := fun a o e => h a o (s a o e)
noncomputable abbrev En := List (Option T)
noncomputable def RhoR (K : PySem.W.Frag) (σ : St) (H : Hp) (ρ : En) : Prop := σ.length = ρ.length ∧ ∀ (i : Nat) (t : T), ρ[i]? = some (some t) → ∃ v, σ[i]? = some (some v) ∧ Rep K H v t
theorem RhoR.kp {K : PySem.W.Frag} {σ : St} {H H' : Hp} {ρ : En} (h : RhoR K σ H ρ) (k : Kp K H H') : RhoR K σ H' ρ := ⟨h.1, fun i t e => let ⟨v, a, b⟩ := h.2 i t e; ⟨v, a, Rep.kp k _ _ b⟩⟩
theorem RhoR.set {K : PySem.W.Frag} {σ : St} {H : Hp} {ρ : En} {v : V} {t : T} (h : RhoR K σ H ρ) (i : Nat) (r : Rep K H v t) : RhoR K (σ.set i (some v)) H (ρ.set i (some t)) := by
 refine ⟨by rw [List.length_set, List.length_set, h.1], fun j u e => ?_⟩
 by_cases hj : i = j
 · subst hj
   have hi : i < ρ.length := by
     have := (List.getElem?_eq_some_iff.mp e).1
     rwa [List.length_set] at this
   rw [List.getElem?_set_self hi] at e
   cases e
   exact ⟨v, List.getElem?_set_self (show i < List.length σ by rw [h.1]; exact hi), r⟩
 · rw [List.getElem?_set_ne hj] at e
   rw [List.getElem?_set_ne hj]
   exact h.2 j u e
noncomputable abbrev VK3 := T → MH → Prop
noncomputable abbrev TE3 := En → MH → VK3 → Prop
noncomputable abbrev TT3 := En → MH → (Bool → MH → Prop) → Prop
noncomputable abbrev TA3 := En → MH → (List T → MH → Prop) → Prop
structure Ends3 where
 nx : En → MH → Prop
 rt : VK3
 bk : En → MH → Prop := fun _ _ => False
 ct : En → MH → Prop := fun _ _ => False
noncomputable abbrev TS3 := Ends3 → En → MH → Prop
noncomputable def EndE (K : PySem.W.Frag) (H : Hp) (Q : VK3) (Q2 : VK) : Prop := ∀ t v M' H', Kp K H H' → HR K H' M' → Rep K H' v t → Q t M' → Q2 v H'
theorem EndE.kp {K : PySem.W.Frag} {H H' : Hp} {Q : VK3} {Q2 : VK} (h : EndE K H Q Q2) (k : Kp K H H') : EndE K H' Q Q2 := fun t v M' H1 k1 => h t v M' H1 (k.trans k1)
noncomputable def bE (K : PySem.W.Frag) (ρ : En) (M : MH) (Q : VK3) : TE := fun σ H Q2 => RhoR K σ H ρ ∧ HR K H M ∧ EndE K H Q Q2
noncomputable def HE (X : Cx) (e : Expr) (t : TE3) : Prop := ∀ ρ M Q, t ρ M Q → PE X e (bE X.K ρ M Q)
noncomputable def EndT (K : PySem.W.Frag) (H : Hp) (Q : Bool → MH → Prop) (Q2 : Bool → Hp → Prop) : Prop := ∀ b M' H', Kp K H H' → HR K H' M' → Q b M' → Q2 b H'
noncomputable def bT (K : PySem.W.Frag) (ρ : En) (M : MH) (Q : Bool → MH → Prop) : TT := fun σ H Q2 => RhoR K σ H ρ ∧ HR K H M ∧ EndT K H Q Q2
noncomputable def HT (X : Cx) (e : Expr) (t : TT3) : Prop := ∀ ρ M Q, t ρ M Q → PT X e (bT X.K ρ M Q)
noncomputable def EndA (K : PySem.W.Frag) (H : Hp) (Q : List T → MH → Prop) (Q2 : List V → Hp → Prop) : Prop := ∀ ts vs M' H', Kp K H H' → HR K H' M' → Reps K H' vs ts → Q ts M' → Q2 vs H'
noncomputable def bA (K : PySem.W.Frag) (ρ : En) (M : MH) (Q : List T → MH → Prop) : TA := fun σ H Q2 => RhoR K σ H ρ ∧ HR K H M ∧ EndA K H Q Q2
noncomputable def HA (X : Cx) (es : List Expr) (t : TA3) : Prop := ∀ ρ M Q, t ρ M Q → PA X es (bA X.K ρ M Q)
structure EndS (K : PySem.W.Frag) (H : Hp) (D : Ends3) (D2 : Ends) : Prop where
 nx : ∀ ρ' M' σ' H', Kp K H H' → RhoR K σ' H' ρ' → HR K H' M' → D.nx ρ' M' → D2.nx σ' H'
 rt : EndE K H D.rt D2.rt
 bk : ∀ ρ' M' σ' H', Kp K H H' → RhoR K σ' H' ρ' → HR K H' M' → D.bk ρ' M' → D2.bk σ' H'
 ct : ∀ ρ' M' σ' H', Kp K H H' → RhoR K σ' H' ρ' → HR K H' M' → D.ct ρ' M' → D2.ct σ' H'
theorem EndS.kp {K : PySem.W.Frag} {H H' : Hp} {D : Ends3} {D2 : Ends} (h : EndS K H D D2) (k : Kp K H H') : EndS K H' D D2 :=
 ⟨fun a b c d k1 => h.nx a b c d (k.trans k1), h.rt.kp k, fun a b c d k1 => h.bk a b c d (k.trans k1), fun a b c d k1 => h.ct a b c d (k.trans k1)⟩
noncomputable def bS (K : PySem.W.Frag) (D : Ends3) (ρ : En) (M : MH) : TS := fun D2 σ H => RhoR K σ H ρ ∧ HR K H M ∧ EndS K H D D2
noncomputable def HS (X : Cx) (st : Stmt) (t : TS3) : Prop := ∀ D ρ M, t D ρ M → PS X st (bS X.K D ρ M)
noncomputable def HSs (X : Cx) (st : List Stmt) (t : TS3) : Prop := ∀ D ρ M, t D ρ M → PSs X st (bS X.K D ρ M)
noncomputable def dE (K : PySem.W.Frag) (ρ : En) (t : TE3) : TE := fun σ H Q2 => ∃ M Q, t ρ M Q ∧ bE K ρ M Q σ H Q2
noncomputable def dT (K : PySem.W.Frag) (ρ : En) (t : TT3) : TT := fun σ H Q2 => ∃ M Q, t ρ M Q ∧ bT K ρ M Q σ H Q2
noncomputable def dA (K : PySem.W.Frag) (ρ : En) (t : TA3) : TA := fun σ H Q2 => ∃ M Q, t ρ M Q ∧ bA K ρ M Q σ H Q2
noncomputable def dS (K : PySem.W.Frag) (t : TS3) : TS := fun D2 σ H => ∃ D ρ M, t D ρ M ∧ bS K D ρ M D2 σ H
section
variable {X : Cx} {e : Expr} {es : List Expr} {st : Stmt} {sts : List Stmt} {ρ : En}
theorem HE.d {t : TE3} (h : HE X e t) : PE X e (dE X.K ρ t) := fun pins s σ H Q I ⟨M, Q3, q, b⟩ => h ρ M Q3 q pins s σ H Q I b
theorem HT.d {t : TT3} (h : HT X e t) : PT X e (dT X.K ρ t) := fun pins s σ H Q I ⟨M, Q3, q, b⟩ => h ρ M Q3 q pins s σ H Q I b
theorem HA.d {t : TA3} (h : HA X es t) : PA X es (dA X.K ρ t) := fun pos pins s σ H Q I ⟨M, Q3, q, b⟩ => h ρ M Q3 q pos pins s σ H Q I b
theorem HS.d {t : TS3} (h : HS X st t) : PS X st (dS X.K t) := fun pins s σ H D I ⟨D3, ρ, M, q, b⟩ => h D3 ρ M q pins s σ H D I b
theorem HSs.d {t : TS3} (h : HSs X sts t) : PSs X sts (dS X.K t) := fun pins s σ H D I ⟨D3, ρ, M, q, b⟩ => h D3 ρ M q pins s σ H D I b
end
end L2
namespace L2
open PySem PySem.Spec PyProof.Rows
mutual
noncomputable def eqT : T → T → Bool
 | .non, .non => true
 | .bl a, .bl b => a == b
 | .bl a, .int b => (if a then 1 else 0) == b
 | .int a, .bl b => a == (if b then 1 else 0)
 | .int a, .int b => a == b
 | .str a, .str b => a == b
 | .tup a, .tup b => eqTs a b
 | _, _ => false
noncomputable def eqTs : List T → List T → Bool
 | [], [] => true
 | x :: xs, y :: ys => eqT x y && eqTs xs ys
 | _, _ => false
end
mutual
noncomputable def pureT : T → Bool
 | .adr _ => false
 | .rd _ => false
 | .dic _ _ => false
 | .tup ts => pureTs ts
 | _ => true
noncomputable def pureTs : List T → Bool
 | [] => true
 | t :: ts => pureT t && pureTs ts
end
mutual
noncomputable def depT : T → Nat
 | .tup ts => depTs ts + 1
 | _ => 0
noncomputable def depTs : List T → Nat
 | [] => 0
 | t :: ts => max (depT t) (depTs ts)
end
theorem pureTs_get : ∀ {ts : List T} {j : Nat} {t : T}, pureTs ts = true → ts[j]? = some t → pureT t = true
 | [], _, _, _, e => by simp at e
 | x :: ts, 0, t, h, e => by simp at e; subst e; unfold pureTs at h; exact (Bool.and_eq_true _ _ ▸ h).1
 | x :: ts, j + 1, t, h, e => by
   unfold pureTs at h
   exact pureTs_get (j := j) (Bool.and_eq_true _ _ ▸ h).2 (by simpa using e)
theorem depTs_get : ∀ {ts : List T} {j : Nat} {t : T}, ts[j]? = some t → depT t ≤ depTs ts
 | [], _, _, e => by simp at e
 | x :: ts, 0, t, e => by simp at e; subst e; unfold depTs; exact Nat.le_max_left _ _
 | x :: ts, j + 1, t, e => by
   have := depTs_get (ts := ts) (j := j) (t := t) (by simpa using e)
   unfold depTs; exact Nat.le_trans this (Nat.le_max_right _ _)
noncomputable def eqJ (xs ys : List T) (j : Nat) : Bool := match xs[j]?, ys[j]? with
 | some x, some y => eqT x y
 | _, _ => true
theorem eqTs_range : ∀ (xs ys : List T), (((List.range (min xs.length ys.length)).all (eqJ xs ys)) && (xs.length == ys.length)) = eqTs xs ys
 | [], [] => by unfold eqTs; rfl
 | [], y :: ys => by unfold eqTs; simp
 | x :: xs, [] => by unfold eqTs; simp
 | x :: xs, y :: ys => by
   unfold eqTs
   rw [← eqTs_range xs ys]
   rw [List.length_cons, List.length_cons, Nat.succ_min_succ, List.range_succ_eq_map, List.all_cons, List.all_map]
   have e1 : eqJ (x :: xs) (y :: ys) 0 = eqT x y := rfl
   have e2 : (eqJ (x :: xs) (y :: ys)) ∘ Nat.succ = eqJ xs ys := by
     funext j; simp [eqJ]
   rw [e1, e2, Bool.and_assoc]
   congr 2
   simp
theorem eqTs_len : ∀ {xs ys : List T}, eqTs xs ys = true → xs.length = ys.length
 | [], [], _ => rfl
 | [], y :: ys, h => by unfold eqTs at h; cases h
 | x :: xs, [], h => by unfold eqTs at h; cases h
 | x :: xs, y :: ys, h => by
   unfold eqTs at h
   rw [Bool.and_eq_true] at h
   rw [List.length_cons, List.length_cons, eqTs_len h.2]
mutual
theorem eqT_refl : ∀ (x : T), pureT x = true → eqT x x = true
 | .non, _ => rfl
 | .bl b, _ => by simp [eqT]
 | .int i, _ => by simp [eqT]
 | .str x, _ => by simp [eqT]
 | .adr a, h => by unfold pureT at h; cases h
 | .rd a, h => by unfold pureT at h; cases h
 | .dic ks a, h => by unfold pureT at h; cases h
 | .tup ts, h => by unfold pureT at h; unfold eqT; exact eqTs_refl ts h
theorem eqTs_refl : ∀ (xs : List T), pureTs xs = true → eqTs xs xs = true
 | [], _ => by unfold eqTs; rfl
 | x :: xs, h => by
   unfold pureTs at h
   rw [Bool.and_eq_true] at h
   unfold eqTs
   rw [eqT_refl x h.1, eqTs_refl xs h.2]
   rfl
end
section
variable {X : Cx} {pins : List (Addr × Obj)} {σ : St} {H : Hp} {s : Shared}
theorem rep_det (I : Inv X pins σ H s) : ∀ (x y : T) (v : V), pureT x = true → pureT y = true → Rep X.K H v x → Rep X.K H v y → eqT x y = true := by
 have key : ∀ n (x y : T) (v : V), depT x ≤ n → pureT x = true → pureT y = true → Rep X.K H v x → Rep X.K H v y → eqT x y = true := by
   intro n
   induction n with
   | zero =>
     intro x y v hd px py rx ry
     cases x with
     | tup ts => unfold depT at hd; lia
     | adr a => unfold pureT at px; cases px
     | rd a => unfold pureT at px; cases px
     | dic ks a => unfold pureT at px; cases px
     | _ => unfold Rep at rx; subst rx; cases y <;> unfold Rep at ry <;> first | (obtain ⟨_, _, e, _⟩ := ry; cases e; done) | (unfold pureT at py; cases py; done) | (cases ry <;> simp [eqT])
   | succ n ih =>
     intro x y v hd px py rx ry
     cases x with
     | adr a => unfold pureT at px; cases px
     | rd a => unfold pureT at px; cases px
     | dic ks a => unfold pureT at px; cases px
     | tup ts =>
       unfold Rep at rx
       obtain ⟨a, xs, rfl, h1, h2⟩ := rx
       cases y with
       | adr a => unfold pureT at py; cases py
       | rd a => unfold pureT at py; cases py
       | dic ks a => unfold pureT at py; cases py
       | tup us =>
         unfold Rep at ry
         obtain ⟨a', ys, e, g1, g2⟩ := ry
         cases e
         obtain rfl := I.tuple_inj h1 g1
         unfold pureT at px py
         unfold depT at hd
         unfold eqT
         have hl := h2.length
         have hl2 := g2.length
         rw [← eqTs_range]
         rw [← hl, ← hl2]
         simp only [Nat.min_self, beq_self_eq_true, Bool.and_true, List.all_eq_true, List.mem_range]
         intro j hj
         have e1 : ts[j]? = some ts[j] := List.getElem?_eq_getElem (by lia)
         have e2 : us[j]? = some us[j] := List.getElem?_eq_getElem (by lia)
         obtain ⟨v1, q1, r1⟩ := h2.get e1
         obtain ⟨v2, q2, r2⟩ := g2.get e2
         rw [q1] at q2; cases q2
         unfold eqJ
         rw [e1, e2]
         have := depTs_get e1
         exact ih _ _ _ (by lia) (pureTs_get px e1) (pureTs_get py e2) r1 r2
       | _ => unfold Rep at ry; cases ry
     | _ => unfold Rep at rx; subst rx; cases y <;> unfold Rep at ry <;> first | (obtain ⟨_, _, e, _⟩ := ry; cases e; done) | (unfold pureT at py; cases py; done) | (cases ry <;> simp [eqT])
 exact fun x y v => key (depT x) x y v (Nat.le_refl _)
open SeqAt in
theorem eqAt_scal {A : Around} (x y : T) (v u : V) (a b : Value) (px : pureT x = true) (py : pureT y = true) (rx : Rep X.K H v x) (ry : Rep X.K H u y) (ra : RelV v a) (rb : RelV u b) (nx : ∀ ts, x ≠ .tup ts) (ny : ∀ ts, y ≠ .tup ts) :
   SeqAt.EqAt A s a b (eqT x y) ∧ SeqAt.RcAt A s a b (eqT x y) ∧ SeqAt.RcNeAt A s a b (!(eqT x y)) := by
 cases x with
 | tup ts => exact absurd rfl (nx ts)
 | adr p => unfold pureT at px; cases px
 | rd p => unfold pureT at px; cases px
 | dic ks p => unfold pureT at px; cases px
 | non =>
   unfold Rep at rx; subst rx
   cases ra
   cases y with
   | tup ts => exact absurd rfl (ny ts)
   | adr p => unfold pureT at py; cases py
   | rd p => unfold pureT at py; cases py
   | dic ks p => unfold pureT at py; cases py
   | non =>
     unfold Rep at ry; subst ry
     cases rb
     have e : eqT .non .non = true := rfl
     rw [e]
     exact ⟨EqAt.same _, RcAt.none_none, RcNeAt.none_none⟩
   | bl c0 =>
     unfold Rep at ry; subst ry
     cases rb
     have e : eqT .non (.bl c0) = false := rfl
     rw [e]
     exact ⟨EqAt.none_bool _, RcAt.none_bool _, RcNeAt.none_bool _⟩
   | int c0 =>
     unfold Rep at ry; subst ry
     obtain ⟨t_rb, rfl⟩ := rb
     have e : eqT .non (.int c0) = false := rfl
     rw [e]
     exact ⟨EqAt.none_int _ _, RcAt.none_int _ _, RcNeAt.none_int _ _⟩
   | str c0 =>
     unfold Rep at ry; subst ry
     obtain ⟨t_rb, rfl⟩ := rb
     have e : eqT .non (.str c0) = false := rfl
     rw [e]
     exact ⟨EqAt.none_str _ _, RcAt.none_str _ _, RcNeAt.none_str _ _⟩
 | bl b0 =>
   unfold Rep at rx; subst rx
   cases ra
   cases y with
   | tup ts => exact absurd rfl (ny ts)
   | adr p => unfold pureT at py; cases py
   | rd p => unfold pureT at py; cases py
   | dic ks p => unfold pureT at py; cases py
   | non =>
     unfold Rep at ry; subst ry
     cases rb
     have e : eqT (.bl b0) .non = false := rfl
     rw [e]
     exact ⟨EqAt.bool_none _, RcAt.bool_none _, RcNeAt.bool_none _⟩
   | bl c0 =>
     unfold Rep at ry; subst ry
     cases rb
     have e : eqT (.bl b0) (.bl c0) = (b0 == c0) := rfl
     rw [e]
     exact ⟨EqAt.bool_bool _ _, RcAt.bool_bool _ _, RcNeAt.bool_bool _ _⟩
   | int c0 =>
     unfold Rep at ry; subst ry
     obtain ⟨t_rb, rfl⟩ := rb
     have e : eqT (.bl b0) (.int c0) = ((if b0 then 1 else 0) == c0) := rfl
     rw [e]
     exact ⟨EqAt.bool_int _ _ _, RcAt.bool_int _ _ _, RcNeAt.bool_int _ _ _⟩
   | str c0 =>
     unfold Rep at ry; subst ry
     obtain ⟨t_rb, rfl⟩ := rb
     have e : eqT (.bl b0) (.str c0) = false := rfl
     rw [e]
     exact ⟨EqAt.bool_str _ _ _, RcAt.bool_str _ _ _, RcNeAt.bool_str _ _ _⟩
 | int b0 =>
   unfold Rep at rx; subst rx
   obtain ⟨t_ra, rfl⟩ := ra
   cases y with
   | tup ts => exact absurd rfl (ny ts)
   | adr p => unfold pureT at py; cases py
   | rd p => unfold pureT at py; cases py
   | dic ks p => unfold pureT at py; cases py
   | non =>
     unfold Rep at ry; subst ry
     cases rb
     have e : eqT (.int b0) .non = false := rfl
     rw [e]
     exact ⟨EqAt.int_none _ _, RcAt.int_none _ _, RcNeAt.int_none _ _⟩
   | bl c0 =>
     unfold Rep at ry; subst ry
     cases rb
     have e : eqT (.int b0) (.bl c0) = (b0 == (if c0 then 1 else 0)) := rfl
     rw [e]
     exact ⟨EqAt.int_bool _ _ _, RcAt.int_bool _ _ _, RcNeAt.int_bool _ _ _⟩
   | int c0 =>
     unfold Rep at ry; subst ry
     obtain ⟨t_rb, rfl⟩ := rb
     have e : eqT (.int b0) (.int c0) = (b0 == c0) := rfl
     rw [e]
     exact ⟨EqAt.int_int _ _ _ _, RcAt.int_int _ _ _ _, RcNeAt.int_int _ _ _ _⟩
   | str c0 =>
     unfold Rep at ry; subst ry
     obtain ⟨t_rb, rfl⟩ := rb
     have e : eqT (.int b0) (.str c0) = false := rfl
     rw [e]
     exact ⟨EqAt.int_str _ _ _ _, RcAt.int_str _ _ _ _, RcNeAt.int_str _ _ _ _⟩
 | str b0 =>
   unfold Rep at rx; subst rx
   obtain ⟨t_ra, rfl⟩ := ra
   cases y with
   | tup ts => exact absurd rfl (ny ts)
   | adr p => unfold pureT at py; cases py
   | rd p => unfold pureT at py; cases py
   | dic ks p => unfold pureT at py; cases py
   | non =>
     unfold Rep at ry; subst ry
     cases rb
     have e : eqT (.str b0) .non = false := rfl
     rw [e]
     exact ⟨EqAt.str_none _ _, RcAt.str_none _ _, RcNeAt.str_none _ _⟩
   | bl c0 =>
     unfold Rep at ry; subst ry
     cases rb
     have e : eqT (.str b0) (.bl c0) = false := rfl
     rw [e]
     exact ⟨EqAt.str_bool _ _ _, RcAt.str_bool _ _ _, RcNeAt.str_bool _ _ _⟩
   | int c0 =>
     unfold Rep at ry; subst ry
     obtain ⟨t_rb, rfl⟩ := rb
     have e : eqT (.str b0) (.int c0) = false := rfl
     rw [e]
     exact ⟨EqAt.str_int _ _ _ _, RcAt.str_int _ _ _ _, RcNeAt.str_int _ _ _ _⟩
   | str c0 =>
     unfold Rep at ry; subst ry
     obtain ⟨t_rb, rfl⟩ := rb
     have e : eqT (.str b0) (.str c0) = (b0 == c0) := rfl
     rw [e]
     exact ⟨EqAt.str_str _ _ _ _, RcAt.str_str _ _ _ _, RcNeAt.str_str _ _ _ _⟩
theorem depT0 {x : T} (h : ∀ ts, x ≠ .tup ts) : depT x = 0 := by
 cases x with
 | tup ts => exact absurd rfl (h ts)
 | _ => rfl
open SeqAt in
/-- a tuple against what is none -/
theorem eqAt_tup_r {A : Around} {p : Addr} {its : Array Value} (ht : s.heap.IsTuple p its) (hu : A.units < cLine) (x : T) (us : List T) (v : V) (a : Value) (px : pureT x = true) (rx : Rep X.K H v x) (ra : RelV v a) (nx : ∀ ts, x ≠ .tup ts) :
   SeqAt.EqAt A s a (.ref p) (eqT x (.tup us)) ∧ SeqAt.RcAt A s a (.ref p) (eqT x (.tup us)) ∧ SeqAt.RcNeAt A s a (.ref p) (!(eqT x (.tup us))) := by
 cases x with
 | tup ts => exact absurd rfl (nx ts)
 | adr q => unfold pureT at px; cases px
 | rd q => unfold pureT at px; cases px
 | dic ks q => unfold pureT at px; cases px
 | non =>
   unfold Rep at rx; subst rx; cases ra
   have e : eqT .non (.tup us) = false := rfl
   rw [e]; exact ⟨.none_tuple ht hu, .none_tuple ht hu, .none_tuple ht hu⟩
 | bl b0 =>
   unfold Rep at rx; subst rx; cases ra
   have e : eqT (.bl b0) (.tup us) = false := rfl
   rw [e]; exact ⟨.bool_tuple _ ht hu, .bool_tuple _ ht hu, .bool_tuple _ ht hu⟩
 | int b0 =>
   unfold Rep at rx; subst rx; obtain ⟨t, rfl⟩ := ra
   have e : eqT (.int b0) (.tup us) = false := rfl
   rw [e]; exact ⟨.int_tuple _ _ ht hu, .int_tuple _ _ ht hu, .int_tuple _ _ ht hu⟩
 | str b0 =>
   unfold Rep at rx; subst rx; obtain ⟨t, rfl⟩ := ra
   have e : eqT (.str b0) (.tup us) = false := rfl
   rw [e]; exact ⟨.str_tuple _ _ ht hu, .str_tuple _ _ ht hu, .str_tuple _ _ ht hu⟩
open SeqAt in
theorem eqAt_tup_l {A : Around} {p : Addr} {its : Array Value} (ht : s.heap.IsTuple p its) (hu : A.units < cLine) (x : T) (us : List T) (v : V) (a : Value) (px : pureT x = true) (rx : Rep X.K H v x) (ra : RelV v a) (nx : ∀ ts, x ≠ .tup ts) :
   SeqAt.EqAt A s (.ref p) a (eqT (.tup us) x) ∧ SeqAt.RcAt A s (.ref p) a (eqT (.tup us) x) ∧ SeqAt.RcNeAt A s (.ref p) a (!(eqT (.tup us) x)) := by
 cases x with
 | tup ts => exact absurd rfl (nx ts)
 | adr q => unfold pureT at px; cases px
 | rd q => unfold pureT at px; cases px
 | dic ks q => unfold pureT at px; cases px
 | non =>
   unfold Rep at rx; subst rx; cases ra
   have e : eqT (.tup us) .non = false := rfl
   rw [e]; exact ⟨.tuple_none ht hu, .tuple_none ht hu, .tuple_none ht hu⟩
 | bl b0 =>
   unfold Rep at rx; subst rx; cases ra
   have e : eqT (.tup us) (.bl b0) = false := rfl
   rw [e]; exact ⟨.tuple_bool _ ht hu, .tuple_bool _ ht hu, .tuple_bool _ ht hu⟩
 | int b0 =>
   unfold Rep at rx; subst rx; obtain ⟨t, rfl⟩ := ra
   have e : eqT (.tup us) (.int b0) = false := rfl
   rw [e]; exact ⟨.tuple_int _ _ ht hu, .tuple_int _ _ ht hu, .tuple_int _ _ ht hu⟩
 | str b0 =>
   unfold Rep at rx; subst rx; obtain ⟨t, rfl⟩ := ra
   have e : eqT (.tup us) (.str b0) = false := rfl
   rw [e]; exact ⟨.tuple_str _ _ ht hu, .tuple_str _ _ ht hu, .tuple_str _ _ ht hu⟩
theorem tup_or (x : T) : (∃ ts, x = .tup ts) ∨ ∀ ts, x ≠ .tup ts := by
 cases x with
 | tup ts => exact .inl ⟨ts, rfl⟩
 | _ => exact .inr fun ts e => by cases e
theorem items_eq {A : Around} {n : Nat} {ts us : List T} {xs ys : List V} {its its2 : List Value} (px : pureTs ts = true) (py : pureTs us = true) (hd : depTs ts ≤ n) (h2 : Reps X.K H xs ts) (g2 : Reps X.K H ys us) (r1 : Vals xs its) (r2 : Vals ys its2)
   (ih : ∀ (x y : T) (v u : V) (a b : Value), depT x ≤ n → pureT x = true → pureT y = true → Rep X.K H v x → Rep X.K H u y → RelV v a → RelV u b → SeqAt.EqAt A s a b (eqT x y)) (j : Nat) (hj1 : j < its.toArray.size) (hj2 : j < its2.toArray.size) :
   SeqAt.EqAt A s its.toArray[j] its2.toArray[j] (eqJ ts us j) := by
 have l1 := h2.length
 have l2 := g2.length
 have m1 := r1.length
 have m2 := r2.length
 have hj1' : j < its.length := by simpa using hj1
 have hj2' : j < its2.length := by simpa using hj2
 have e1 : ts[j]? = some (ts[j]'(by lia)) := List.getElem?_eq_getElem (by lia)
 have e2 : us[j]? = some (us[j]'(by lia)) := List.getElem?_eq_getElem (by lia)
 obtain ⟨v1, a1, b1⟩ := h2.get e1
 obtain ⟨v2, a2, b2⟩ := g2.get e2
 obtain ⟨w1, c1, d1⟩ := r1.get a1
 obtain ⟨w2, c2, d2⟩ := r2.get a2
 have f1 : its.toArray[j] = w1 := by
   have : its[j]? = some (its[j]'hj1') := List.getElem?_eq_getElem hj1'
   rw [c1] at this
   simpa using (Option.some.inj this).symm
 have f2 : its2.toArray[j] = w2 := by
   have : its2[j]? = some (its2[j]'hj2') := List.getElem?_eq_getElem hj2'
   rw [c2] at this
   simpa using (Option.some.inj this).symm
 have e3 : eqJ ts us j = eqT (ts[j]'(by lia)) (us[j]'(by lia)) := by unfold eqJ; rw [e1, e2]
 rw [f1, f2, e3]
 have := depTs_get e1
 exact ih _ _ v1 v2 w1 w2 (by lia) (pureTs_get px e1) (pureTs_get py e2) b1 b2 d1 d2
open SeqAt in
/-- == (by identity first), ==, != of two values, by their trees -/
theorem eqAt_T (I : Inv X pins σ H s) : ∀ n (A : Around) (x y : T) (v u : V) (a b : Value), depT x ≤ n → A.units + n + 1 < cLine → pureT x = true → pureT y = true → Rep X.K H v x → Rep X.K H u y → RelV v a → RelV u b →
   SeqAt.EqAt A s a b (eqT x y) ∧ SeqAt.RcAt A s a b (eqT x y) ∧ SeqAt.RcNeAt A s a b (!(eqT x y)) := by
 intro n
 induction n with
 | zero =>
   intro A x y v u a b hd hu px py rx ry ra rb
   rcases tup_or x with ⟨ts, rfl⟩ | nx
   · unfold depT at hd; lia
   · rcases tup_or y with ⟨us, rfl⟩ | ny
     · unfold Rep at ry
       obtain ⟨p, ys, rfl, g1, g2⟩ := ry
       obtain ⟨its, r', ht, _⟩ := I.tuple g1
       have ht' : s.heap.IsTuple p its.toArray := ht
       cases rb
       exact eqAt_tup_r ht' (by lia) x us v a px rx ra nx
     · exact eqAt_scal x y v u a b px py rx ry ra rb nx ny
 | succ n ih =>
   intro A x y v u a b hd hu px py rx ry ra rb
   have hu' : A.units < cLine := by lia
   rcases tup_or x with ⟨ts, rfl⟩ | nx
   · have rx' := rx
     unfold Rep at rx
     obtain ⟨p, xs, rfl, h1, h2⟩ := rx
     cases ra
     obtain ⟨its, r1, ht, _⟩ := I.tuple h1
     have ht' : s.heap.IsTuple p its.toArray := ht
     rcases tup_or y with ⟨us, rfl⟩ | ny
     · have ry' := ry
       unfold Rep at ry
       obtain ⟨q, ys, rfl, g1, g2⟩ := ry
       cases rb
       obtain ⟨its2, r2, ht2, _⟩ := I.tuple g1
       have ht2' : s.heap.IsTuple q its2.toArray := ht2
       have px' := px
       have py' := py
       unfold pureT at px py
       unfold depT at hd
       have he := items_eq (A := A.in1) (s := s) (n := n) px py (by lia) h2 g2 r1 r2 fun x y v u a b hx px py rx ry ra rb => (ih A.in1 x y v u a b hx (by show A.units + 1 + n + 1 < cLine; lia) px py rx ry ra rb).1
       have ee : ((List.range (min its.toArray.size its2.toArray.size)).all (eqJ ts us) && its.toArray.size == its2.toArray.size) = eqT (.tup ts) (.tup us) := by
         have l1 := h2.length
         have l2 := g2.length
         have m1 := r1.length
         have m2 := r2.length
         unfold eqT
         rw [← eqTs_range, List.size_toArray, List.size_toArray, ← m1, ← m2, l1, l2]
       have rc := RcAt.tuples (A := A) (e := eqJ ts us) ht' ht2' hu' he
       have rn := RcNeAt.tuples (A := A) (e := eqJ ts us) ht' ht2' hu' he
       rw [ee] at rc rn
       refine ⟨?_, rc, rn⟩
       by_cases hpq : p = q
       · subst hpq
         have e : eqT (.tup ts) (.tup us) = true := rep_det I (.tup ts) (.tup us) (.ref p) px' py' rx' ry'
         rw [e]; exact .same _
       · exact .of_refs hpq rc
     · exact eqAt_tup_l ht' hu' y ts u b py ry rb ny
   · exact ih A x y v u a b (by rw [depT0 nx]; exact Nat.zero_le _) (by lia) px py rx ry ra rb
end
end L2
namespace L2
open PySem PySem.Spec PyProof.Rows
noncomputable abbrev R3 := T → T → MH → VK3 → Prop
noncomputable def dR (K : PySem.W.Frag) (r : R3) : R2 := fun v u H Q2 => ∃ x y M Q, Rep K H v x ∧ Rep K H u y ∧ HR K H M ∧ r x y M Q ∧ EndE K H Q Q2
noncomputable def dU (K : PySem.W.Frag) (r : T → MH → VK3 → Prop) : V → Hp → VK → Prop := fun v H Q2 => ∃ x M Q, Rep K H v x ∧ HR K H M ∧ r x M Q ∧ EndE K H Q Q2
noncomputable def dL (K : PySem.W.Frag) (r : List T → MH → VK3 → Prop) : List V → Hp → VK → Prop := fun vs H Q2 => ∃ xs M Q, Reps K H vs xs ∧ HR K H M ∧ r xs M Q ∧ EndE K H Q Q2
theorem Kp.new {K : PySem.W.Frag} {H : Hp} {p : Addr} {o : HO} (h : H p = none) : Kp K H (upd H p o) := by
 refine ⟨fun a xs q => ?_, fun a ob u q => by rw [upd_ne (ne_of_none q h)]; exact q⟩
 rcases q with (q | ⟨ob, q⟩) | q
 · exact .inl (.inl (by rw [upd_ne (ne_of_none q h)]; exact q))
 · exact .inl (.inr ⟨ob, by rw [upd_ne (ne_of_none q h)]; exact q⟩)
 · exact .inr q
theorem Kp.lst {K : PySem.W.Frag} {H : Hp} {p : Addr} {xs ys : List V} (h : H p = some (.lst xs)) : Kp K H (upd H p (.lst ys)) := by
 have ne : ∀ {a : Addr} {o : HO}, H a = some o → o ≠ .lst xs → a ≠ p := fun {a o} q hn e => by
   subst e
   rw [h] at q; cases q; exact hn rfl
 refine ⟨fun a zs q => ?_, fun a ob u q => by rw [upd_ne (ne q (by intro z; cases z))]; exact q⟩
 rcases q with (q | ⟨ob, q⟩) | q
 · exact .inl (.inl (by rw [upd_ne (ne q (by intro z; cases z))]; exact q))
 · exact .inl (.inr ⟨ob, by rw [upd_ne (ne q (by intro z; cases z))]; exact q⟩)
 · exact .inr q
theorem Kp.dict {K : PySem.W.Frag} {H : Hp} {p : Addr} {o u : HO} (h : H p = some o) (ho : (∃ kvs, o = .dK kvs) ∨ ∃ kvs, o = .dT kvs) : Kp K H (upd H p u) := by
 have ne : ∀ {a : Addr} {u : HO}, H a = some u → ((∃ xs, u = .tup xs) ∨ ∃ b x, u = .frz b x) → a ≠ p := fun {a u} q hn e => by
   subst e
   rw [h] at q; cases q
   rcases ho with ⟨_, rfl⟩ | ⟨_, rfl⟩ <;> rcases hn with ⟨_, z⟩ | ⟨_, _, z⟩ <;> cases z
 refine ⟨fun a zs q => ?_, fun a ob u q => by rw [upd_ne (ne q (.inr ⟨_, _, rfl⟩))]; exact q⟩
 rcases q with (q | ⟨ob, q⟩) | q
 · exact .inl (.inl (by rw [upd_ne (ne q (.inl ⟨_, rfl⟩))]; exact q))
 · exact .inl (.inr ⟨ob, by rw [upd_ne (ne q (.inr ⟨_, _, rfl⟩))]; exact q⟩)
 · exact .inr q
section
variable {K : PySem.W.Frag} {H : Hp} {M : MH}
noncomputable def Wr : HO → Prop
 | .lst _ => True
 | .dK _ => True
 | .dT _ => True
 | .frz _ _ => True
 | _ => False
theorem MOk.kp {H' : Hp} {a : Addr} {o : MO} (h : MOk K H a o) (k : Kp K H H') (ha : ∀ u, Wr u → H a = some u → H' a = some u) : MOk K H' a o := by
 cases o with
 | lst ts => obtain ⟨xs, e, r⟩ := h; exact ⟨xs, ha _ trivial e, Reps.kp k _ _ r⟩
 | dk kvs => obtain ⟨xs, e, r⟩ := h; exact ⟨xs, ha _ trivial e, r.kp k⟩
 | dt kvs => obtain ⟨xs, e, r⟩ := h; exact ⟨xs, ha _ trivial e, r.kp k⟩
 | fz kvs => obtain ⟨ob, xs, e, r⟩ := h; exact ⟨ob, xs, k.frz _ _ _ e, r.kp k⟩
 | fk kvs =>
   obtain ⟨xs, e, r⟩ := h
   rcases e with e | ⟨ob, e⟩
   · exact ⟨xs, .inl (ha _ trivial e), r.kp k⟩
   · exact ⟨xs, .inr ⟨ob, k.frz _ _ _ e⟩, r.kp k⟩
theorem MOk.some {a : Addr} {o : MO} (h : MOk K H a o) : ∃ u, H a = Option.some u ∧ Wr u := by
 cases o with
 | lst ts => obtain ⟨xs, e, r⟩ := h; exact ⟨_, e, trivial⟩
 | dk kvs => obtain ⟨xs, e, r⟩ := h; exact ⟨_, e, trivial⟩
 | dt kvs => obtain ⟨xs, e, r⟩ := h; exact ⟨_, e, trivial⟩
 | fz kvs => obtain ⟨ob, xs, e, r⟩ := h; exact ⟨_, e, trivial⟩
 | fk kvs =>
   obtain ⟨xs, e, r⟩ := h
   rcases e with e | ⟨ob, e⟩
   · exact ⟨_, e, trivial⟩
   · exact ⟨_, e, trivial⟩
theorem HR.free {p : Addr} (h : HR K H M) (hp : H p = none) : M p = none := by
 cases q : M p with
 | none => rfl
 | some o =>
   obtain ⟨u, e, _⟩ := (h p o q).some
   rw [hp] at e; cases e
theorem HR.keep {p : Addr} {o : HO} (h : HR K H M) (hp : H p = none) : HR K (upd H p o) M := fun a u e =>
 (h a u e).kp (Kp.new hp) fun u _ q => by rw [upd_ne (ne_of_none q hp)]; exact q
theorem HR.newL {p : Addr} {xs : List V} {ts : List T} (h : HR K H M) (hp : H p = none) (r : Reps K H xs ts) : HR K (upd H p (.lst xs)) (updM M p (.lst ts)) := fun a u e => by
 by_cases ha : a = p
 · subst ha
   rw [updM_same] at e; cases e
   exact ⟨xs, upd_same, Reps.kp (Kp.new hp) _ _ r⟩
 · rw [updM_ne ha] at e
   exact (h.keep hp) a u e
theorem HR.setL {p : Addr} {xs ys : List V} {us : List T} (h : HR K H M) (hp : H p = some (.lst xs)) (r : Reps K H ys us) : HR K (upd H p (.lst ys)) (updM M p (.lst us)) := fun a u e => by
 by_cases ha : a = p
 · subst ha
   rw [updM_same] at e; cases e
   exact ⟨ys, upd_same, Reps.kp (Kp.lst hp) _ _ r⟩
 · rw [updM_ne ha] at e
   exact (h a u e).kp (Kp.lst hp) fun u _ q => by rw [upd_ne ha]; exact q
theorem HR.newT {p : Addr} {xs : List (List Key × V)} {kvs : List (List Key × T)} (h : HR K H M) (hp : H p = none) (r : KRep K H xs kvs) : HR K (upd H p (.dT xs)) (updM M p (.dt kvs)) := fun a u e => by
 by_cases ha : a = p
 · subst ha
   rw [updM_same] at e; cases e
   exact ⟨xs, upd_same, r.kp (Kp.new hp)⟩
 · rw [updM_ne ha] at e
   exact (h.keep hp) a u e
theorem HR.setT {p : Addr} {o : HO} {xs : List (List Key × V)} {kvs : List (List Key × T)} (h : HR K H M) (hp : H p = some o) (ho : (∃ kvs, o = .dK kvs) ∨ ∃ kvs, o = .dT kvs) (r : KRep K H xs kvs) : HR K (upd H p (.dT xs)) (updM M p (.dt kvs)) := fun a u e => by
 by_cases ha : a = p
 · subst ha
   rw [updM_same] at e; cases e
   exact ⟨xs, upd_same, r.kp (Kp.dict hp ho)⟩
 · rw [updM_ne ha] at e
   exact (h a u e).kp (Kp.dict hp ho) fun u _ q => by rw [upd_ne ha]; exact q
end
noncomputable def OpR3 (X : Cx) (f : Value → Value → Sem Value) (r : R3) : Prop := OpR X f (dR X.K r)
noncomputable def UnR3 (X : Cx) (f : Value → Sem Value) (r : T → MH → VK3 → Prop) : Prop := UnR X f (dU X.K r)
noncomputable def CallR3 (X : Cx) (f : Value) (r : List T → MH → VK3 → Prop) : Prop := CallR X f (dL X.K r)
noncomputable def IxR3 (X : Cx) (r : R3) : Prop := IxR X (dR X.K r)
noncomputable def tOp3 (r : R3) (ta tb : TE3) : TE3 := fun ρ M Q => ta ρ M fun x M1 => tb ρ M1 fun y M2 => r x y M2 Q
noncomputable def tUn3 (r : T → MH → VK3 → Prop) (ta : TE3) : TE3 := fun ρ M Q => ta ρ M fun x M1 => r x M1 Q
noncomputable def tVar3 (i : Nat) : TE3 := fun ρ M Q => match ρ[i]? with
 | some (some t) => Q t M
 | _ => False
noncomputable def tK (t : T) : TE3 := fun _ M Q => Q t M
section
variable {X : Cx} {a b c e : Expr} {es : List Expr} {ta tb tc te : TE3} {pos : Pos}
theorem dOp {ρ : En} {M : MH} {Q : VK3} {r : R3} (h : tOp3 r ta tb ρ M Q) {σ : St} {H : Hp} {Q2 : VK} (b : bE X.K ρ M Q σ H Q2) : tOp (dR X.K r) (dE X.K ρ ta) (dE X.K ρ tb) σ H Q2 := by
 obtain ⟨hr, hh, en⟩ := b
 refine ⟨M, _, h, hr, hh, fun t v M1 H1 k1 h1 r1 q1 => ⟨M1, _, q1, hr.kp k1, h1, fun t2 v2 M2 H2 k2 h2 r2 q2 => ⟨t, t2, M2, Q, Rep.kp k2 _ _ r1, r2, h2, q2, en.kp (k1.trans k2)⟩⟩⟩
theorem h_bin {op : Operator} {r : R3} (ho : OpR3 X (binaryOp op) r) (ha : HE X a ta) (hb : HE X b tb) : HE X (.BinOp a op b pos) (tOp3 r ta tb) := fun ρ M Q h =>
 (pe_op ho (ha.d (ρ := ρ)) (hb.d (ρ := ρ))).imp fun σ H Q2 b => dOp h b
theorem h_un {op : UnaryOp} {r : T → MH → VK3 → Prop} (ho : UnR3 X (unaryOp op) r) (ha : HE X a ta) : HE X (.UnaryOp op a pos) (tUn3 r ta) := fun ρ M Q h =>
 (pe_un ho (ha.d (ρ := ρ))).imp fun σ H Q2 ⟨hr, hh, en⟩ => ⟨M, _, h, hr, hh, fun t v M1 H1 k1 h1 r1 q1 => ⟨t, M1, Q, r1, h1, q1, en.kp k1⟩⟩
theorem h_var {i : Nat} {x : Str} (hN : X.N[i]? = some x) (hv : Vis X.env.scope x) (hd : (x == ("__debug__" : Str)) = false := by decide) (hcd : (x == ("__classdict__" : Str)) = false := by decide) : HE X (.Name x pos) (tVar3 i) := fun ρ M Q h =>
 (pe_var hN hv hd hcd).imp fun σ H Q2 ⟨hr, hh, en⟩ => by
   unfold tVar3 at h
   split at h
   · rename_i t e
     obtain ⟨v, e1, r⟩ := hr.2 i t e
     exact ⟨v, e1, en t v M H Kp.refl hh r h⟩
   · exact h.elim
theorem hv (i : Nat) {x : Str} {pos : Pos} (hN : X.N[i]? = some x := by rfl) (hv : Vis X.env.scope x := by first | exact Or.inl rfl | exact Or.inr (Or.inl rfl) | exact Or.inr (Or.inr rfl)) (hd : (x == ("__debug__" : Str)) = false := by decide)
   (hcd : (x == ("__classdict__" : Str)) = false := by decide) : HE X (.Name x pos) (tVar3 i) := h_var hN hv hd hcd
theorem rep_int {K : PySem.W.Frag} {H : Hp} {i : Int} : Rep K H (.int i) (.int i) := by unfold Rep; rfl
theorem rep_bl {K : PySem.W.Frag} {H : Hp} {i : Bool} : Rep K H (.bl i) (.bl i) := by unfold Rep; rfl
theorem rep_str {K : PySem.W.Frag} {H : Hp} {i : Str} : Rep K H (.str i) (.str i) := by unfold Rep; rfl
theorem rep_non {K : PySem.W.Frag} {H : Hp} : Rep K H .non .non := by unfold Rep; rfl
theorem rep_adr {K : PySem.W.Frag} {H : Hp} {a : Addr} : Rep K H (.ref a) (.adr a) := by unfold Rep; rfl
theorem rep_tup {K : PySem.W.Frag} {H : Hp} {a : Addr} {xs : List V} {ts : List T} (h : SqT K H a xs) (r : Reps K H xs ts) : Rep K H (.ref a) (.tup ts) := by unfold Rep; exact ⟨a, xs, rfl, h, r⟩
theorem h_const {v : V} {t : T} (h : PE X e (tC v)) (r : ∀ K H, Rep K H v t) : HE X e (tK t) := fun ρ M Q q => h.imp fun σ H Q2 ⟨hr, hh, en⟩ => en t v M H Kp.refl hh (r _ _) q
theorem h_int {i j pos} : HE X (.Constant (.int i) j pos) (tK (.int i)) := h_const pe_int fun _ _ => rep_int
theorem h_bl {b j pos} : HE X (.Constant (.bool b) j pos) (tK (.bl b)) := h_const pe_bl fun _ _ => rep_bl
theorem h_globI {x : Str} {i : Int} {tk : Tok} {pos : Pos} (hm : X.mg x = some (.int i tk)) (hg : Gl X x := by rfl) (hd : (x == ("__debug__" : Str)) = false := by decide) : HE X (.Name x pos) (tK (.int i)) := h_const (v := .int i) (pe_glob hg hm ⟨tk, rfl⟩ hd) fun _ _ => rep_int
theorem inv_int {K : PySem.W.Frag} {H : Hp} {v : V} {i : Int} (r : Rep K H v (.int i)) : v = .int i := by unfold Rep at r; exact r
theorem inv_str {K : PySem.W.Frag} {H : Hp} {v : V} {i : Str} (r : Rep K H v (.str i)) : v = .str i := by unfold Rep at r; exact r
theorem inv_bl {K : PySem.W.Frag} {H : Hp} {v : V} {i : Bool} (r : Rep K H v (.bl i)) : v = .bl i := by unfold Rep at r; exact r
theorem inv_non {K : PySem.W.Frag} {H : Hp} {v : V} (r : Rep K H v .non) : v = .non := by unfold Rep at r; exact r
theorem inv_adr {K : PySem.W.Frag} {H : Hp} {v : V} {a : Addr} (r : Rep K H v (.adr a)) : v = .ref a := by unfold Rep at r; exact r
theorem inv_tup {K : PySem.W.Frag} {H : Hp} {v : V} {ts : List T} (r : Rep K H v (.tup ts)) : ∃ a xs, v = .ref a ∧ SqT K H a xs ∧ Reps K H xs ts := by unfold Rep at r; exact r
noncomputable def rInt (C : Int → Int → Prop) (g : Int → Int → Int) : R3 := fun x y M Q => match x, y with
 | .int i, .int j => C i j ∧ Q (.int (g i j)) M
 | _, _ => False
theorem op3_int {f : Value → Value → Sem Value} {C : Int → Int → Prop} {g : Int → Int → Int} (h : OpR X f (rI C fun i j => .int (g i j))) : OpR3 X f (rInt C g) := by
 intro pins s σ H x y v u Q2 I rx ry q
 obtain ⟨a, b, M, Q, r1, r2, hh, q, en⟩ := q
 unfold rInt at q
 split at q
 · obtain rfl := inv_int r1
   obtain rfl := inv_int r2
   exact h pins s σ H _ _ v u Q2 I rx ry ⟨_, _, rfl, rfl, q.1, en _ _ M H Kp.refl hh rep_int q.2⟩
 · exact q.elim
noncomputable def rSub3 : R3 := fun x y M Q => match x, y with
 | .int i, .int j => Q (.int (i - j)) M
 | _, _ => False
theorem op3_sub : OpR3 X (binaryOp .Sub) rSub3 := by
 intro pins s σ H x y v u Q2 I rx ry q
 obtain ⟨a, b, M, Q, r1, r2, hh, q, en⟩ := q
 unfold rSub3 at q
 split at q
 · obtain rfl := inv_int r1
   obtain rfl := inv_int r2
   exact op_sub pins s σ H _ _ v u Q2 I rx ry ⟨_, _, rfl, rfl, en _ _ M H Kp.refl hh rep_int q⟩
 · exact q.elim
noncomputable def CDivB (i j : Int) : Prop := 0 < j ∧ j.natAbs.log2 < 9000
theorem op_fdivB : OpR X (binaryOp .FloorDiv) (rI CDivB fun i j => .int (i / j)) := opI fun i j _ _ _ _ _ hc q => by
 have e : i.fdiv j = i / j := Int.fdiv_eq_ediv_of_nonneg i (Int.le_of_lt hc.1)
 exact floordiv_int (Int.ne_of_gt hc.1) (by rw [e]; exact q) (.inl (PyProof.noPylong_of_log2 hc.2))
noncomputable def rDiv3 : R3 := rInt CDivB fun i j => i / j
noncomputable def rMod3 : R3 := rInt (fun _ j => 0 < j) fun i j => i % j
noncomputable def rPow3 : R3 := rInt CPow fun i j => i ^ j.toNat
theorem op3_div : OpR3 X (binaryOp .FloorDiv) rDiv3 := op3_int op_fdivB
theorem op3_mod : OpR3 X (binaryOp .Mod) rMod3 := op3_int op_mod
theorem op3_pow : OpR3 X (binaryOp .Pow) rPow3 := op3_int op_pow
noncomputable def rNeg3 : T → MH → VK3 → Prop := fun x M Q => match x with
 | .int i => Q (.int (-i)) M
 | _ => False
theorem un3_neg : UnR3 X (unaryOp .USub) rNeg3 := by
 intro pins s σ H x v Q2 I rx q
 obtain ⟨a, M, Q, r1, hh, q, en⟩ := q
 unfold rNeg3 at q
 split at q
 · obtain rfl := inv_int r1
   exact un_neg pins s σ H _ v Q2 I rx ⟨_, rfl, en _ _ M H Kp.refl hh rep_int q⟩
 · exact q.elim
theorem op_catT0 : OpR X (binaryOp .Add) (fun x y H Q => ∃ a b ys, x = .ref a ∧ y = .ref b ∧ SqT X.K H a [] ∧ SqT X.K H b ys ∧ Q (.ref b) H) := by
 intro pins s σ H x y v u Q I rx ry h
 obtain ⟨a, b, ys, rfl, rfl, hx, hy, q⟩ := h
 cases rx
 cases ry
 obtain ⟨its, r, ht, hz⟩ := I.tuple hx
 obtain ⟨its2, r2, ht2, hz2⟩ := I.tuple hy
 have e : its = [] := r.nil_iff.mpr rfl
 subst e
 obtain ⟨⟨cls, dd, data, sl⟩, ho, hc, n, hd⟩ := id ht
 obtain ⟨⟨cls2, dd2, data2, sl2⟩, ho2, hc2, n2, hd2⟩ := id ht2
 simp only at hc hd hc2 hd2
 subst hc hd hc2 hd2
 exact concat_meets ⟨_, ho, rfl⟩ ⟨_, ho2, rfl⟩ noFill_tuple_add seq_tuple_add PySem.F.slot_tuple_add PySem.F.entry_tuple_add (PySem.F.args_tuple_add_2 _ _)
     (tuple_addW0 a b _ its2.toArray n n2 dd dd2 sl sl2 (by simp)) ⟨ho, ho2, ⟨.ref b, H, I, rfl, q⟩⟩
noncomputable def rAdd3 : R3 := fun x y M Q => match x, y with
 | .int i, .int j => Q (.int (i + j)) M
 | .str a, .str b => a.length + b.length ≤ sizeLine ∧ Q (.str (a ++ b)) M
 | .tup a, .tup b => a.length + b.length ≤ sizeLine ∧ Q (.tup (a ++ b)) M
 | .adr p, .adr q => match M p, M q with
   | some (.lst a), some (.lst b) => a.length + b.length ≤ sizeLine ∧ ∀ r, M r = none → Q (.adr r) (updM M r (.lst (a ++ b)))
   | _, _ => False
 | _, _ => False
theorem op3_add : OpR3 X (binaryOp .Add) rAdd3 := by
 intro pins s σ H x y v u Q2 I rx ry q
 obtain ⟨a, b, M, Q, r1, r2, hh, q, en⟩ := q
 unfold rAdd3 at q
 split at q
 · obtain rfl := inv_int r1
   obtain rfl := inv_int r2
   exact op_add pins s σ H _ _ v u Q2 I rx ry ⟨_, _, rfl, rfl, en _ _ M H Kp.refl hh rep_int q⟩
 · obtain rfl := inv_str r1
   obtain rfl := inv_str r2
   exact op_add_str pins s σ H _ _ v u Q2 I rx ry ⟨_, _, rfl, rfl, q.1, en _ _ M H Kp.refl hh rep_str q.2⟩
 · rename_i ts us
   obtain ⟨p, xs, rfl, h1, h2⟩ := inv_tup r1
   obtain ⟨p', ys, rfl, g1, g2⟩ := inv_tup r2
   have l1 := h2.length
   have l2 := g2.length
   by_cases hx : xs = []
   · subst hx
     have ht : ts = [] := List.eq_nil_of_length_eq_zero (by rw [← l1]; rfl)
     subst ht
     exact op_catT0 pins s σ H _ _ v u Q2 I rx ry ⟨_, _, ys, rfl, rfl, h1, g1, en _ _ M H Kp.refl hh (rep_tup g1 g2) q.2⟩
   · refine op_catT pins s σ H _ _ v u Q2 I rx ry ⟨_, _, xs, ys, rfl, rfl, h1, g1, hx, by rw [l1, l2]; exact q.1, fun hy => ?_, fun hy r hr => ?_⟩
     · subst hy
       have ht : us = [] := List.eq_nil_of_length_eq_zero (by rw [← l2]; rfl)
       subst ht
       have q2 := q.2
       rw [List.append_nil] at q2
       exact en _ _ M H Kp.refl hh (rep_tup h1 h2) q2
     · refine en _ _ M _ (Kp.new hr) (hh.keep hr) (rep_tup (SqT.of upd_same) ?_) q.2
       exact Reps.kp (Kp.new hr) _ _ (h2.append g2)
 · rename_i p p'
   obtain rfl := inv_adr r1
   obtain rfl := inv_adr r2
   split at q
   · rename_i ts us e1 e2
     obtain ⟨xs, h1, h2⟩ := hh _ _ e1
     obtain ⟨ys, g1, g2⟩ := hh _ _ e2
     refine op_cat pins s σ H _ _ v u Q2 I rx ry ⟨_, _, xs, ys, rfl, rfl, h1, g1, by rw [h2.length, g2.length]; exact q.1, fun r hr => ?_⟩
     exact en _ _ _ _ (Kp.new hr) (hh.newL hr (h2.append g2)) rep_adr (q.2 r (hh.free hr))
   · exact q.elim
 · exact q.elim
end
end L2
namespace L2
open PySem PySem.Spec PyProof.Rows
theorem noFill_tuple_mul : fillsNumberSlot (.type "tuple") "mul" = pure false :=
 PySem.fillsNumberSlot_seq (id := "tuple.__mul__") (r := some (.builtin "tuple.__rmul__")) F.slot_tuple_mul.lookup (by decide +kernel) F.slot_tuple_rmul.lookup (by decide +kernel)
theorem repeat_tuple : seqRepeat? (.type "tuple") = pure (some (.builtin "tuple.__mul__")) := by
 unfold seqRepeat?
 rw [PySem.seqSlot_of (T := "tuple") (name := "__mul__") (id := "tuple.__mul__") F.slot_tuple_mul.lookup (by decide +kernel), PySem.seqSlot_of (T := "tuple") (name := "__rmul__") (id := "tuple.__rmul__") F.slot_tuple_rmul.lookup (by decide +kernel)]
 rfl
section
variable (l : Addr) (items : Array Value) (n : Nat) (x : Int) (u : Tok) (dd : Option Addr) (sl : Array (Option Value))
theorem int_rmul_tuple : Meets (Builtin.«int.__rmul__» ⟨[.int x u, .ref l], []⟩) (fun _ R s => s.heap.get? l = some { cls := .type "tuple", dict := dd, data := .seq items n, slots := sl } ∧ R (.ok (.ret Value.notImplemented)) s) :=
 .of_wp fun prog w A R s h => by obtain ⟨hp, g, d, tk, os⟩ := s; obtain ⟨hl, h⟩ := h; wp_walk; exact ⟨_, rfl, h⟩
theorem tuple_mul_0 (h0 : -(2 ^ 63) ≤ x) (h1 : x < 2 ^ 63) (hc : (items.isEmpty || x == 1) = true) :
   Meets (Builtin.«tuple.__mul__» ⟨[.ref l, .int x u], []⟩) (fun _ R s => s.heap.get? l = some { cls := .type "tuple", dict := dd, data := .seq items n, slots := sl } ∧ R (.ok (.ret (Value.ref l))) s) :=
 .of_wp fun prog w A R s h => by
   obtain ⟨hp, g, d, tk, os⟩ := s; obtain ⟨hl, h⟩ := h
   have hb : ¬ (decide (x < -2 ^ 63) || decide (x ≥ 2 ^ 63)) = true := by simp; lia
   wp_walk
   rw [if_neg hb]
   wp_walk
   first | exact ⟨_, rfl, h⟩ | (rw [if_pos hc]; wp_walk; exact ⟨_, rfl, h⟩)
theorem tuple_mul_1 (h0 : -(2 ^ 63) ≤ x) (h1 : x < 2 ^ 63) (hc : ¬ (items.isEmpty || x == 1) = true) (hn : (decide (x ≤ 0) || items.isEmpty) = true) :
   Meets (Builtin.«tuple.__mul__» ⟨[.ref l, .int x u], []⟩) (fun _ R s => s.heap.get? l = some { cls := .type "tuple", dict := dd, data := .seq items n, slots := sl } ∧ R (.ok (.ret (Value.ref s.heap.objs.size))) { s with heap := s.heap.push { cls := .type "tuple", data := .seq #[] }, toks := s.toks }) :=
 .of_wp fun prog w A R s h => by
   obtain ⟨hp, g, d, tk, os⟩ := s; obtain ⟨hl, h⟩ := h
   have hb : ¬ (decide (x < -2 ^ 63) || decide (x ≥ 2 ^ 63)) = true := by simp; lia
   wp_walk
   rw [if_neg hb]
   wp_walk
   first | exact ⟨_, rfl, h⟩ | (rw [if_neg hc, if_pos hn]; wp_walk; exact ⟨_, rfl, h⟩)
theorem tuple_mul_2 (h0 : -(2 ^ 63) ≤ x) (h1 : x < 2 ^ 63) (hc : ¬ (items.isEmpty || x == 1) = true) (hn : ¬ (decide (x ≤ 0) || items.isEmpty) = true) (hm : ¬ items.size * x > (2 ^ 63 - 1) / 8) (hz : ¬ Builtin.Tuple.tupleTooMany (items.size * x) = true) (hf : sizeOk (.seq (List.foldl (fun x1 x2 => x1 ++ x2) #[] (List.replicate x.toNat items)))) :
   Meets (Builtin.«tuple.__mul__» ⟨[.ref l, .int x u], []⟩) (fun _ R s => s.heap.get? l = some { cls := .type "tuple", dict := dd, data := .seq items n, slots := sl } ∧ R (.ok (.ret (Value.ref s.heap.objs.size))) { s with heap := s.heap.push { cls := .type "tuple", data := .seq (List.foldl (fun x1 x2 => x1 ++ x2) #[] (List.replicate x.toNat items)) }, toks := s.toks }) :=
 .of_wp fun prog w A R s h => by
   obtain ⟨hp, g, d, tk, os⟩ := s; obtain ⟨hl, h⟩ := h
   have hb : ¬ (decide (x < -2 ^ 63) || decide (x ≥ 2 ^ 63)) = true := by simp; lia
   wp_walk
   rw [if_neg hb]
   wp_walk
   rw [if_neg hm]
   wp_walk
   first | exact ⟨_, rfl, h⟩ | (rw [if_neg (Nat.not_lt.mpr hf)]; wp_walk; exact ⟨_, rfl, h⟩)
end
section
variable {X : Cx}
noncomputable def rRepT (K : PySem.W.Frag) : R2 := fun x y H Q => ∃ a k xs, x = .ref a ∧ y = .int k ∧ SqT K H a xs ∧ -(2 ^ 63) ≤ k ∧ k < 2 ^ 63 ∧ xs.length * k.toNat ≤ sizeLine ∧
 ∀ p H', SqT K H' p (List.replicate k.toNat xs).flatten → (H' = H ∨ H p = none ∧ H' = upd H p (.tup (List.replicate k.toNat xs).flatten)) → Q (.ref p) H'
theorem foldl_repA (its : List Value) (m : Nat) : List.foldl (fun x1 x2 => x1 ++ x2) #[] (List.replicate m its.toArray) = (List.replicate m its).flatten.toArray := by
 have := foldl_rep its m []
 rw [List.nil_append] at this
 exact this
theorem op_repT : OpR X (binaryOp .Mult) (rRepT X.K) := by
 intro pins s σ H x y v u Q I rx ry h
 obtain ⟨a, k, xs, rfl, rfl, hx, h1, h2, hz, q⟩ := h
 cases rx
 obtain ⟨t, rfl⟩ := ry
 obtain ⟨its, r, p, hl⟩ := I.tuple hx
 have hlen := r.length
 obtain ⟨⟨cls, dd, data, sl⟩, ho, hc, n, hd⟩ := id p
 simp only at hc hd
 subst hc hd
 refine wpAny_binaryOp_repeat_ref (T := "tuple") (U := "int") (by decide) ⟨_, ho, rfl⟩ (fun s' => typeIs_int s' k t) noFill_tuple_mul F.fills_int_mul F.slot_int_rmul repeat_tuple F.slot_int_index.lookup
   (call_meets F.slot_int_rmul (typeIs_int s k t) F.entry_int_rmul (F.args_int_rmul_2 _ _) (int_rmul_tuple a its.toArray n k t dd sl) ⟨ho, rfl, ⟨_, ho, rfl⟩, ?_⟩)
 by_cases hc : (its.toArray.isEmpty || k == 1) = true
 · refine call_meets F.slot_tuple_mul ⟨_, ho, rfl⟩ F.entry_tuple_mul (F.args_tuple_mul_2 _ _) (tuple_mul_0 a its.toArray n k t dd sl h1 h2 hc) ⟨ho, ?_⟩
   have e : (List.replicate k.toNat xs).flatten = xs := by
     simp only [Bool.or_eq_true, beq_iff_eq] at hc
     rcases hc with hc | hc
     · have : its = [] := by simpa using hc
       subst this
       cases r
       simp
     · subst hc
       simp
   exact ⟨.ref a, H, I, rfl, q a H (by rw [e]; exact hx) (.inl rfl)⟩
 · by_cases hn : (decide (k ≤ 0) || its.toArray.isEmpty) = true
   · refine call_meets F.slot_tuple_mul ⟨_, ho, rfl⟩ F.entry_tuple_mul (F.args_tuple_mul_2 _ _) (tuple_mul_1 a its.toArray n k t dd sl h1 h2 hc hn) ⟨ho, ?_⟩
     have hk : k.toNat = 0 := by
       simp only [Bool.or_eq_true, decide_eq_true_eq] at hn hc
       rcases hn with hn | hn
       · lia
       · exact absurd (.inl hn) hc
     have e : (List.replicate k.toNat xs).flatten = [] := by rw [hk]; rfl
     refine ⟨.ref s.heap.objs.size, _, I.laid (t' := s.toks) (o := .tup []) (fun b ob q => Heap.get?_push_of_some _ q) (Nat.le_refl _) ?_, rfl, q _ _ ?_ (.inr ⟨I.hok.fresh (Nat.le_refl _), by rw [e]⟩)⟩
     · exact ⟨Nat.zero_le _, [], .nil, IsTup0.new _ _⟩
     · rw [e]; exact SqT.of upd_same
   · have hm : (its.toArray.size : Int) * k ≤ sizeLine := by
       have : its.toArray.size = xs.length := by rw [hlen]; simp
       rw [this]
       have hk : (0 : Int) ≤ k := by
         simp only [Bool.or_eq_true, decide_eq_true_eq] at hn
         lia
       have e2 : k = ((k.toNat : Nat) : Int) := by lia
       rw [e2, ← Int.natCast_mul]
       exact_mod_cast hz
     have hz2 : ((List.replicate k.toNat its).flatten).length ≤ sizeLine := by rw [len_rep, Nat.mul_comm, ← hlen]; exact hz
     refine call_meets F.slot_tuple_mul ⟨_, ho, rfl⟩ F.entry_tuple_mul (F.args_tuple_mul_2 _ _) (tuple_mul_2 a its.toArray n k t dd sl h1 h2 hc hn ?_ ?_ ?_) ⟨ho, ?_⟩
     · have : (sizeLine : Int) ≤ (2 ^ 63 - 1) / 8 := by decide
       lia
     · unfold Builtin.Tuple.tupleTooMany
       simp only [decide_eq_true_eq]
       lia
     · rw [foldl_repA]
       show (List.replicate k.toNat its).flatten.toArray.size ≤ sizeLine
       rw [List.size_toArray]
       exact hz2
     · rw [foldl_repA]
       refine ⟨.ref s.heap.objs.size, _, I.laid (t' := s.toks) (o := .tup (List.replicate k.toNat xs).flatten) (fun b ob q => Heap.get?_push_of_some _ q) (Nat.le_refl _) ?_, rfl, q _ _ (SqT.of upd_same) (.inr ⟨I.hok.fresh (Nat.le_refl _), rfl⟩)⟩
       exact ⟨by rw [len_rep, Nat.mul_comm]; exact hz, _, r.rep k.toNat, IsTup0.new _ _⟩
end
end L2
namespace L2
open PySem PySem.Spec PyProof.Rows
theorem Reps.atI {K : PySem.W.Frag} {H : Hp} {vs : List V} {ts : List T} {i : Int} {t : T} (h : Reps K H vs ts) (e : atI ts i = some t) : ∃ v, L2.atI vs i = some v ∧ Rep K H v t := by
 unfold L2.atI at e ⊢
 rw [h.length]
 cases q : ixN ts.length i with
 | none => rw [q] at e; cases e
 | some j => rw [q] at e; exact h.get e
section
variable {X : Cx} {a b c e : Expr} {es : List Expr} {ta tb tc te : TE3} {pos : Pos}
noncomputable def rIx3 : R3 := fun x y M Q => match x, y with
 | .tup ts, .int i => (match atI ts i with | some t => Q t M | none => False)
 | .rd ts, .int i => (match atI ts i with | some t => Q t M | none => False)
 | .adr p, .int i => (match M p with | some (.lst ts) => (match atI ts i with | some t => Q t M | none => False) | _ => False)
 | .str z, .int i => z.length ≤ sizeLine ∧ (match atI z.cps.toList i with | some c => Q (.str ⟨#[c]⟩) M | none => False)
 | _, _ => False
theorem inv_rd {K : PySem.W.Frag} {H : Hp} {v : V} {ts : List T} (r : Rep K H v (.rd ts)) : ∃ a xs, v = .ref a ∧ FzL K H a xs ∧ Reps K H xs ts := by unfold Rep at r; exact r
theorem ix3 : IxR3 X rIx3 := by
 intro value slice pins s σ H x y v u Q2 I rx ry q hs
 obtain ⟨a, b, M, Q, r1, r2, hh, q, en⟩ := q
 unfold rIx3 at q
 split at q
 · obtain rfl := inv_int r2
   obtain ⟨p, xs, rfl, h1, h2⟩ := inv_tup r1
   split at q
   · rename_i t e
     obtain ⟨w, ew, rw'⟩ := h2.atI e
     exact ix_tup value slice pins s σ H _ _ v u Q2 I rx ry ⟨_, _, _, w, rfl, rfl, h1, ew, en _ _ M H Kp.refl hh rw' q⟩ hs
   · exact q.elim
 · obtain rfl := inv_int r2
   obtain ⟨p, xs, rfl, h1, h2⟩ := inv_rd r1
   split at q
   · rename_i t e
     obtain ⟨w, ew, rw'⟩ := h2.atI e
     exact ix_list value slice pins s σ H _ _ v u Q2 I rx ry ⟨_, _, _, w, rfl, rfl, h1.sq, ew, en _ _ M H Kp.refl hh rw' q⟩ hs
   · exact q.elim
 · obtain rfl := inv_int r2
   obtain rfl := inv_adr r1
   split at q
   · rename_i ts e0
     obtain ⟨xs, h1, h2⟩ := hh _ _ e0
     split at q
     · rename_i t e
       obtain ⟨w, ew, rw'⟩ := h2.atI e
       exact ix_list value slice pins s σ H _ _ v u Q2 I rx ry ⟨_, _, _, w, rfl, rfl, SqL.of h1, ew, en _ _ M H Kp.refl hh rw' q⟩ hs
     · exact q.elim
   · exact q.elim
 · obtain rfl := inv_int r2
   obtain rfl := inv_str r1
   obtain ⟨hz, q⟩ := q
   split at q
   · rename_i c e
     exact ix_str value slice pins s σ H _ _ v u Q2 I rx ry ⟨_, _, c, rfl, rfl, hz, e, en _ _ M H Kp.refl hh rep_str q⟩ hs
   · exact q.elim
 · exact q.elim
theorem h_ix (ha : HE X a ta) (hb : HE X b tb) (hs : PlainIx b := by intro _ _; rfl) : HE X (.Subscript a b pos) (tOp3 rIx3 ta tb) := fun ρ M Q h =>
 (pe_ix ix3 (ha.d (ρ := ρ)) (hb.d (ρ := ρ)) hs).imp fun σ H Q2 b => dOp h b
noncomputable def rMul3 : R3 := fun x y M Q => match x, y with
 | .int i, .int j => CMul i j ∧ Q (.int (i * j)) M
 | .adr p, .int k => (match M p with
   | some (.lst ts) => -(2 ^ 63) ≤ k ∧ k < 2 ^ 63 ∧ ts.length * k.toNat ≤ sizeLine ∧ ∀ r, M r = none → Q (.adr r) (updM M r (.lst (List.replicate k.toNat ts).flatten))
   | _ => False)
 | .tup ts, .int k => -(2 ^ 63) ≤ k ∧ k < 2 ^ 63 ∧ ts.length * k.toNat ≤ sizeLine ∧ Q (.tup (List.replicate k.toNat ts).flatten) M
 | _, _ => False
theorem Reps.rep {K : PySem.W.Frag} {H : Hp} {vs : List V} {ts : List T} (h : Reps K H vs ts) : ∀ k : Nat, Reps K H (List.replicate k vs).flatten (List.replicate k ts).flatten
 | 0 => .nil
 | k + 1 => by
   rw [List.replicate_succ, List.replicate_succ, List.flatten_cons, List.flatten_cons]
   exact Reps.append h (Reps.rep h k)
theorem op3_mul : OpR3 X (binaryOp .Mult) rMul3 := by
 intro pins s σ H x y v u Q2 I rx ry q
 obtain ⟨a, b, M, Q, r1, r2, hh, q, en⟩ := q
 unfold rMul3 at q
 split at q
 · obtain rfl := inv_int r1
   obtain rfl := inv_int r2
   exact op_mul pins s σ H _ _ v u Q2 I rx ry ⟨_, _, rfl, rfl, q.1, en _ _ M H Kp.refl hh rep_int q.2⟩
 · obtain rfl := inv_adr r1
   obtain rfl := inv_int r2
   split at q
   · rename_i ts e0
     obtain ⟨xs, h1, h2⟩ := hh _ _ e0
     obtain ⟨q1, q2, q3, q4⟩ := q
     refine op_rep pins s σ H _ _ v u Q2 I rx ry ⟨_, _, xs, rfl, rfl, h1, q1, q2, by rw [h2.length]; exact q3, fun r hr => ?_⟩
     exact en _ _ _ _ (Kp.new hr) (hh.newL hr (h2.rep _)) rep_adr (q4 r (hh.free hr))
   · exact q.elim
 · obtain ⟨l, xs, rfl, g1, g2⟩ := inv_tup r1
   obtain rfl := inv_int r2
   obtain ⟨q1, q2, q3, q4⟩ := q
   refine op_repT pins s σ H _ _ v u Q2 I rx ry ⟨_, _, xs, rfl, rfl, g1, q1, q2, by rw [g2.length]; exact q3, fun r H' h' c => ?_⟩
   rcases c with rfl | ⟨c1, rfl⟩
   · exact en _ _ _ _ Kp.refl hh (rep_tup h' (g2.rep _)) q4
   · exact en _ _ _ _ (Kp.new c1) (hh.keep c1) (rep_tup h' (Reps.kp (Kp.new c1) _ _ (g2.rep _))) q4
 · exact q.elim
noncomputable def rCmp3 (g : Int → Int → Bool) : R3 := fun x y M Q => match x, y with
 | .int i, .int j => Q (.bl (g i j)) M
 | _, _ => False
theorem op3_cmp {f : Value → Value → Sem Value} {g : Int → Int → Bool} (h : OpR X f (rI0 fun i j => .bl (g i j))) : OpR3 X f (rCmp3 g) := by
 intro pins s σ H x y v u Q2 I rx ry q
 obtain ⟨a, b, M, Q, r1, r2, hh, q, en⟩ := q
 unfold rCmp3 at q
 split at q
 · obtain rfl := inv_int r1
   obtain rfl := inv_int r2
   exact h pins s σ H _ _ v u Q2 I rx ry ⟨_, _, rfl, rfl, en _ _ M H Kp.refl hh rep_bl q⟩
 · exact q.elim
noncomputable def rLt3 : R3 := rCmp3 fun i j => decide (i < j)
noncomputable def rLe3 : R3 := rCmp3 fun i j => decide (i ≤ j)
noncomputable def rGt3 : R3 := rCmp3 fun i j => decide (j < i)
noncomputable def rGe3 : R3 := rCmp3 fun i j => decide (j ≤ i)
theorem op3_lt : OpR3 X (compareOp .Lt) rLt3 := op3_cmp op_lt
theorem op3_le : OpR3 X (compareOp .LtE) rLe3 := op3_cmp op_le
theorem op3_gt : OpR3 X (compareOp .Gt) rGt3 := op3_cmp op_gt
theorem op3_ge : OpR3 X (compareOp .GtE) rGe3 := op3_cmp op_ge
noncomputable def rEqv (g : Bool → Bool) : R3 := fun x y M Q => match x, y with
 | .adr p, .adr q => (match M p, M q with
   | some (.lst a), some (.lst b) => pureTs a = true ∧ pureTs b = true ∧ depTs a ≤ 30 ∧ Q (.bl (g (eqTs a b))) M
   | _, _ => False)
 | x, y => pureT x = true ∧ pureT y = true ∧ depT x ≤ 30 ∧ Q (.bl (g (eqT x y))) M
noncomputable def rEq3 : R3 := rEqv id
noncomputable def rNe3 : R3 := rEqv not
theorem lists_eqv {pins : List (Addr × Obj)} {σ : St} {H : Hp} {s : Shared} (I : Inv X pins σ H s) (hu : X.A.units + 64 < cLine) {p p' : Addr} {xs ys : List V} {ts us : List T} (h1 : H p = some (.lst xs)) (h2 : Reps X.K H xs ts) (g1 : H p' = some (.lst ys)) (g2 : Reps X.K H ys us)
   (px : pureTs ts = true) (py : pureTs us = true) (hd : depTs ts ≤ 30) :
   SeqAt.RcAt X.A s (.ref p) (.ref p') (eqTs ts us) ∧ SeqAt.RcNeAt X.A s (.ref p) (.ref p') (!(eqTs ts us)) := by
 obtain ⟨its, r1, pl, _⟩ := I.list (SqL.of h1)
 obtain ⟨its2, r2, pl2, _⟩ := I.list (SqL.of g1)
 have l1 := h2.length
 have l2 := g2.length
 have m1 := r1.length
 have m2 := r2.length
 have hu' : X.A.units < cLine := by lia
 by_cases hl : its.length = its2.length
 · have he := items_eq (X := X) (A := X.A.in1) (s := s) (n := 30) px py hd h2 g2 r1 r2 fun x y v u a b hx px py rx ry ra rb => (eqAt_T I 30 X.A.in1 x y v u a b hx (by show X.A.units + 1 + 30 + 1 < cLine; lia) px py rx ry ra rb).1
   have hsz : its.toArray.size = its2.toArray.size := by simpa using hl
   have rc := SeqAt.RcAt.lists (A := X.A) pl.isList pl2.isList hsz hu' he
   have rn := SeqAt.RcNeAt.lists (A := X.A) pl.isList pl2.isList hsz hu' he
   have ee : (List.range its.toArray.size).all (eqJ ts us) = eqTs ts us := by
     rw [← eqTs_range, List.size_toArray, ← l1, ← l2, m1, m2, ← hl]
     simp
   rw [ee] at rc rn
   exact ⟨rc, rn⟩
 · have hne : eqTs ts us = false := by
     cases q : eqTs ts us with
     | false => rfl
     | true => have := eqTs_len q; lia
   have hsz : (its.toArray.size != its2.toArray.size) = true := by simpa using hl
   rw [hne]
   exact ⟨SeqAt.RcAt.lists_lengths pl.isList pl2.isList hsz hu', SeqAt.RcNeAt.lists_lengths pl.isList pl2.isList hsz hu'⟩
theorem op3_eq (hu : X.A.units + 64 < cLine) : OpR3 X (compareOp .Eq) rEq3 := by
 intro pins s σ H x y v u Q2 I rx ry q
 obtain ⟨a, b, M, Q, r1, r2, hh, q, en⟩ := q
 unfold rEq3 rEqv at q
 split at q
 · rename_i p p'
   split at q
   · rename_i ts us e1 e2
     obtain ⟨xs, h1, h2⟩ := hh _ _ e1
     obtain ⟨ys, g1, g2⟩ := hh _ _ e2
     obtain rfl := inv_adr r1
     obtain rfl := inv_adr r2
     cases rx
     cases ry
     exact (lists_eqv I hu h1 h2 g1 g2 q.1 q.2.1 q.2.2.1).1 _ _ _ _ ⟨.bl _, H, I, rfl, en _ _ M H Kp.refl hh rep_bl q.2.2.2⟩
   · exact q.elim
 · obtain ⟨q1, q2, q3, q⟩ := q
   exact (eqAt_T I 30 X.A a b x y v u q3 (by lia) q1 q2 r1 r2 rx ry).2.1 _ _ _ _ ⟨.bl _, H, I, rfl, en _ _ M H Kp.refl hh rep_bl q⟩
theorem op3_ne (hu : X.A.units + 64 < cLine) : OpR3 X (compareOp .NotEq) rNe3 := by
 intro pins s σ H x y v u Q2 I rx ry q
 obtain ⟨a, b, M, Q, r1, r2, hh, q, en⟩ := q
 unfold rNe3 rEqv at q
 split at q
 · rename_i p p'
   split at q
   · rename_i ts us e1 e2
     obtain ⟨xs, h1, h2⟩ := hh _ _ e1
     obtain ⟨ys, g1, g2⟩ := hh _ _ e2
     obtain rfl := inv_adr r1
     obtain rfl := inv_adr r2
     cases rx
     cases ry
     exact (lists_eqv I hu h1 h2 g1 g2 q.1 q.2.1 q.2.2.1).2 _ _ _ _ ⟨.bl _, H, I, rfl, en _ _ M H Kp.refl hh rep_bl q.2.2.2⟩
   · exact q.elim
 · obtain ⟨q1, q2, q3, q⟩ := q
   exact (eqAt_T I 30 X.A a b x y v u q3 (by lia) q1 q2 r1 r2 rx ry).2.2 _ _ _ _ ⟨.bl _, H, I, rfl, en _ _ M H Kp.refl hh rep_bl q⟩
theorem h_cmp {op : CmpOp} {r : R3} (ho : OpR3 X (compareOp op) r) (ha : HE X a ta) (hb : HE X b tb) (hm : behindInMarks op b = false) : HE X (.Compare a [op] [b] pos) (tOp3 r ta tb) := fun ρ M Q h =>
 (pe_cmpR ho (ha.d (ρ := ρ)) (hb.d (ρ := ρ)) hm).imp fun σ H Q2 b => dOp h b
noncomputable def tTest3 (t : TE3) : TT3 := fun ρ M Q => t ρ M fun x M1 => match x with
 | .bl k => Q k M1
 | _ => False
theorem end_test {K : PySem.W.Frag} {H : Hp} {Q : Bool → MH → Prop} {Q2 : Bool → Hp → Prop} (en : EndT K H Q Q2) : EndE K H (fun x M1 => match x with | .bl k => Q k M1 | _ => False) (fun x H' => ∃ k, x = .bl k ∧ Q2 k H') := by
 intro t v M' H' k h r q
 split at q
 · obtain rfl := inv_bl r
   exact ⟨_, rfl, en _ M' H' k h q⟩
 · exact q.elim
theorem h_tcmp {op : CmpOp} {r : R3} (ho : OpR3 X (compareOp op) r) (ha : HE X a ta) (hb : HE X b tb) (hm : behindInMarks op b = false) : HT X (.Compare a [op] [b] pos) (tTest3 (tOp3 r ta tb)) := fun ρ M Q h =>
 (pt_cmpR ho (ha.d (ρ := ρ)) (hb.d (ρ := ρ)) hm).imp fun σ H Q2 ⟨hr, hh, en⟩ => dOp (ta := ta) (tb := tb) (r := r) h ⟨hr, hh, end_test en⟩
noncomputable def tChain3 (r r' : R3) (ta tb tc : TE3) : TE3 := fun ρ M Q => ta ρ M fun x M1 => tb ρ M1 fun y M2 => r x y M2 fun z M3 => match z with
 | .bl k => (if k = true then tc ρ M3 fun w M4 => r' y w M4 Q else Q (.bl false) M3)
 | _ => False
theorem dChain {ρ : En} {M : MH} {Q : VK3} {r r' : R3} (h : tChain3 r r' ta tb tc ρ M Q) {σ : St} {H : Hp} {Q2 : VK} (b : bE X.K ρ M Q σ H Q2) : tChain (dR X.K r) (dR X.K r') (dE X.K ρ ta) (dE X.K ρ tb) (dE X.K ρ tc) σ H Q2 := by
 obtain ⟨hr, hh, en⟩ := b
 refine ⟨M, _, h, hr, hh, fun t v M1 H1 k1 h1 r1 q1 => ⟨M1, _, q1, hr.kp k1, h1, fun t2 v2 M2 H2 k2 h2 r2 q2 => ⟨t, t2, M2, _, Rep.kp k2 _ _ r1, r2, h2, q2, fun z v3 M3 H3 k3 h3 r3 q3 => ?_⟩⟩⟩
 split at q3
 · rename_i k
   obtain rfl := inv_bl r3
   refine ⟨k, rfl, ?_⟩
   have kk := k1.trans (k2.trans k3)
   split
   · rename_i hk
     rw [if_pos hk] at q3
     exact ⟨M3, _, q3, hr.kp kk, h3, fun t4 v4 M4 H4 k4 h4 r4 q4 => ⟨t2, t4, M4, Q, Rep.kp (k3.trans k4) _ _ r2, r4, h4, q4, en.kp (kk.trans k4)⟩⟩
   · rename_i hk
     rw [if_neg hk] at q3
     exact en _ _ M3 H3 kk h3 rep_bl q3
 · exact q3.elim
theorem h_chain {op op' : CmpOp} {r r' : R3} (ho : OpR3 X (compareOp op) r) (ho' : OpR3 X (compareOp op') r') (ha : HE X a ta) (hb : HE X b tb) (hc : HE X c tc)
   (hm : lastMarks [op, op'] [b, c] = false := by with_unfolding_all rfl) : HE X (.Compare a [op, op'] [b, c] pos) (tChain3 r r' ta tb tc) := fun ρ M Q h =>
 (pe_chain ho ho' (ha.d (ρ := ρ)) (hb.d (ρ := ρ)) (hc.d (ρ := ρ)) hm).imp fun σ H Q2 b => dChain h b
theorem h_tchain {op op' : CmpOp} {r r' : R3} (ho : OpR3 X (compareOp op) r) (ho' : OpR3 X (compareOp op') r') (ha : HE X a ta) (hb : HE X b tb) (hc : HE X c tc)
   (hm : lastMarks [op, op'] [b, c] = false := by with_unfolding_all rfl) : HT X (.Compare a [op, op'] [b, c] pos) (tTest3 (tChain3 r r' ta tb tc)) := fun ρ M Q h =>
 (pt_chain ho ho' (ha.d (ρ := ρ)) (hb.d (ρ := ρ)) (hc.d (ρ := ρ)) hm).imp fun σ H Q2 ⟨hr, hh, en⟩ => dChain (ta := ta) (tb := tb) (tc := tc) (r := r) (r' := r') h ⟨hr, hh, end_test en⟩
noncomputable def truT (M : MH) : T → Option Bool
 | .non => some false
 | .bl b => some b
 | .int i => some (i != 0)
 | .str y => if y.length ≤ sizeLine then some (decide (y.length ≠ 0)) else none
 | .tup ts => some (!ts.isEmpty)
 | .rd ts => some (!ts.isEmpty)
 | .dic _ _ => none
 | .adr p => match M p with
   | some (.lst ts) => some (!ts.isEmpty)
   | _ => none
noncomputable def tTru3 (te : TE3) : TT3 := fun ρ M Q => te ρ M fun x M1 => match truT M1 x with
 | some k => Q k M1
 | none => False
theorem empty_of {K : PySem.W.Frag} {H : Hp} {xs : List V} {ts : List T} (h : Reps K H xs ts) : (!xs.isEmpty) = !ts.isEmpty := by
 have := h.length
 cases xs <;> cases ts <;> first | rfl | (simp at this)
theorem h_truth (ha : HE X a ta) (he : ∀ whole, isTrue a X.env whole = (do let v ← whole; standAt a.pos; holding [v] (truthy v)) := by intro _; rfl) : HT X a (tTru3 ta) := fun ρ M Q h =>
 (pt_truth (ha.d (ρ := ρ)) he).imp fun σ H Q2 ⟨hr, hh, en⟩ => ⟨M, _, h, hr, hh, fun t v M1 H1 k1 h1 r1 q1 => by
   have fin : ∀ k, truT M1 t = some k → Q2 k H1 := fun k e => by
     have q : (match truT M1 t with | some k => Q k M1 | none => False) := q1
     rw [e] at q
     exact en k M1 H1 k1 h1 q
   cases t with
   | non => obtain rfl := inv_non r1; exact ⟨false, rfl, fin _ rfl⟩
   | bl b => obtain rfl := inv_bl r1; exact ⟨b, rfl, fin _ rfl⟩
   | int i => obtain rfl := inv_int r1; exact ⟨_, rfl, fin _ rfl⟩
   | str y =>
     obtain rfl := inv_str r1
     by_cases hy : y.length ≤ sizeLine
     · refine ⟨_, ⟨hy, rfl⟩, fin _ ?_⟩
       show (if y.length ≤ sizeLine then some (decide (y.length ≠ 0)) else none) = _
       rw [if_pos hy]
       congr 1
       by_cases h0 : y.length = 0
       · rw [h0]; rfl
       · have : ((y.length : Int) != 0) = true := by simpa using h0
         rw [this]; simpa using h0
     · have q : (match truT M1 (.str y) with | some k => Q k M1 | none => False) := q1
       have e : truT M1 (.str y) = none := if_neg hy
       rw [e] at q
       exact q.elim
   | tup ts =>
     obtain ⟨p, xs, rfl, g1, g2⟩ := inv_tup r1
     exact ⟨!xs.isEmpty, .inr (.inl ⟨xs, g1, rfl⟩), fin _ (by rw [empty_of g2]; rfl)⟩
   | rd ts =>
     obtain ⟨p, xs, rfl, g1, g2⟩ := inv_rd r1
     exact ⟨!xs.isEmpty, .inl ⟨xs, g1.sq, rfl⟩, fin _ (by rw [empty_of g2]; rfl)⟩
   | dic ks ts =>
     have q : (match truT M1 (.dic ks ts) with | some k => Q k M1 | none => False) := q1
     exact q.elim
   | adr p =>
     obtain rfl := inv_adr r1
     cases e0 : M1 p with
     | none =>
       have q : (match truT M1 (.adr p) with | some k => Q k M1 | none => False) := q1
       have e : truT M1 (.adr p) = none := by show (match M1 p with | some (.lst ts) => some (!ts.isEmpty) | _ => none) = none; rw [e0]
       rw [e] at q
       exact q.elim
     | some o =>
       cases o with
       | lst ts =>
         obtain ⟨xs, g1, g2⟩ := h1 _ _ e0
         exact ⟨!xs.isEmpty, .inl ⟨xs, SqL.of g1, rfl⟩, fin _ (by show (match M1 p with | some (.lst ts) => some (!ts.isEmpty) | _ => none) = _; rw [e0, empty_of g2])⟩
       | dk kvs =>
         have q : (match truT M1 (.adr p) with | some k => Q k M1 | none => False) := q1
         have e : truT M1 (.adr p) = none := by show (match M1 p with | some (.lst ts) => some (!ts.isEmpty) | _ => none) = none; rw [e0]
         rw [e] at q
         exact q.elim
       | dt kvs =>
         have q : (match truT M1 (.adr p) with | some k => Q k M1 | none => False) := q1
         have e : truT M1 (.adr p) = none := by show (match M1 p with | some (.lst ts) => some (!ts.isEmpty) | _ => none) = none; rw [e0]
         rw [e] at q
         exact q.elim
       | fz kvs =>
         have q : (match truT M1 (.adr p) with | some k => Q k M1 | none => False) := q1
         have e : truT M1 (.adr p) = none := by show (match M1 p with | some (.lst ts) => some (!ts.isEmpty) | _ => none) = none; rw [e0]
         rw [e] at q
         exact q.elim
       | fk kvs =>
         have q : (match truT M1 (.adr p) with | some k => Q k M1 | none => False) := q1
         have e : truT M1 (.adr p) = none := by show (match M1 p with | some (.lst ts) => some (!ts.isEmpty) | _ => none) = none; rw [e0]
         rw [e] at q
         exact q.elim⟩
end
end L2
namespace L2
open PySem PySem.Spec PyProof.Rows
section
variable {X : Cx} {a b c e : Expr} {es rest : List Expr} {ta tb tc te : TE3} {tA tB : TT3} {t : TA3} {pos : Pos}
noncomputable def HW (X : Cx) (e : Expr) (t : TT3) : Prop := ∀ ρ M Q, t ρ M Q → PW X e (bT X.K ρ M Q)
theorem HW.d {t : TT3} {ρ : En} (h : HW X e t) : PW X e (dT X.K ρ t) := fun wh pins s σ H Q I ⟨M, Q3, q, b⟩ => h ρ M Q3 q wh pins s σ H Q I b
theorem PW.imp {t t' : TT} (h : PW X e t) (f : ∀ σ H Q, t' σ H Q → t σ H Q) : PW X e t' := fun wh pins s σ H Q I q => h wh pins s σ H Q I (f σ H Q q)
theorem HW.ht {t : TT3} (h : HW X e t) : HT X e t := fun ρ M Q q => (h ρ M Q q).pt
noncomputable def tAnd3 (t u : TT3) : TT3 := fun ρ M Q => t ρ M fun c M1 => if c = true then u ρ M1 Q else Q false M1
noncomputable def tOr3 (t u : TT3) : TT3 := fun ρ M Q => t ρ M fun c M1 => if c = true then Q true M1 else u ρ M1 Q
noncomputable def tNot3 (t : TT3) : TT3 := fun ρ M Q => t ρ M fun c M1 => Q (!c) M1
theorem h_not (ha : HT X a tA) : HT X (.UnaryOp .Not a pos) (tNot3 tA) := fun ρ M Q h =>
 (pt_not (ha.d (ρ := ρ))).imp fun σ H Q2 ⟨hr, hh, en⟩ => ⟨M, _, h, hr, hh, fun b M1 H1 k1 h1 q1 => en _ M1 H1 k1 h1 q1⟩
theorem w_and1 (ha : HT X a tA) : HW X (.BoolOp .And [a] pos) tA := fun ρ M Q h => (pw_and1 (ha.d (ρ := ρ))).imp fun σ H Q2 b => ⟨M, Q, h, b⟩
theorem w_or1 (ha : HT X a tA) : HW X (.BoolOp .Or [a] pos) tA := fun ρ M Q h => (pw_or1 (ha.d (ρ := ρ))).imp fun σ H Q2 b => ⟨M, Q, h, b⟩
theorem w_and (ha : HT X a tA) (hb : HW X (.BoolOp .And (b :: rest) pos) tB) : HW X (.BoolOp .And (a :: b :: rest) pos) (tAnd3 tA tB) := fun ρ M Q h =>
 (pw_and (ha.d (ρ := ρ)) (hb.d (ρ := ρ))).imp fun σ H Q2 ⟨hr, hh, en⟩ => ⟨M, _, h, hr, hh, fun b M1 H1 k1 h1 q1 => by
   dsimp only at q1 ⊢
   split
   · rename_i hb; rw [if_pos hb] at q1
     exact ⟨M1, Q, q1, hr.kp k1, h1, fun b' M2 H2 k2 => en b' M2 H2 (k1.trans k2)⟩
   · rename_i hb; rw [if_neg hb] at q1
     exact en _ M1 H1 k1 h1 q1⟩
theorem w_or (ha : HT X a tA) (hb : HW X (.BoolOp .Or (b :: rest) pos) tB) : HW X (.BoolOp .Or (a :: b :: rest) pos) (tOr3 tA tB) := fun ρ M Q h =>
 (pw_or (ha.d (ρ := ρ)) (hb.d (ρ := ρ))).imp fun σ H Q2 ⟨hr, hh, en⟩ => ⟨M, _, h, hr, hh, fun b M1 H1 k1 h1 q1 => by
   dsimp only at q1 ⊢
   split
   · rename_i hb; rw [if_pos hb] at q1
     exact en _ M1 H1 k1 h1 q1
   · rename_i hb; rw [if_neg hb] at q1
     exact ⟨M1, Q, q1, hr.kp k1, h1, fun b' M2 H2 k2 => en b' M2 H2 (k1.trans k2)⟩⟩
noncomputable def tAndV3 (ta tb : TE3) : TE3 := fun ρ M Q => ta ρ M fun x M1 => match x with
 | .bl c => (if c = true then tb ρ M1 Q else Q (.bl false) M1)
 | _ => False
noncomputable def tNotV3 (ta : TE3) : TE3 := fun ρ M Q => ta ρ M fun x M1 => match x with
 | .bl c => Q (.bl (!c)) M1
 | _ => False
theorem h_one {op} (ha : HE X a ta) : HE X (.BoolOp op [a] pos) ta := fun ρ M Q h => pe_one (ha ρ M Q h)
theorem h_and (ha : HE X a ta) (hb : HE X (.BoolOp .And (b :: rest) pos) tb) : HE X (.BoolOp .And (a :: b :: rest) pos) (tAndV3 ta tb) := fun ρ M Q h =>
 (pe_and (ha.d (ρ := ρ)) (hb.d (ρ := ρ))).imp fun σ H Q2 ⟨hr, hh, en⟩ => ⟨M, _, h, hr, hh, fun x v M1 H1 k1 h1 r1 q1 => by
   dsimp only at q1 ⊢
   split at q1
   · rename_i c
     obtain rfl := inv_bl r1
     refine ⟨c, rfl, ?_⟩
     split
     · rename_i hc; rw [if_pos hc] at q1
       exact ⟨M1, Q, q1, hr.kp k1, h1, en.kp k1⟩
     · rename_i hc; rw [if_neg hc] at q1
       exact en _ _ M1 H1 k1 h1 rep_bl q1
   · exact q1.elim⟩
theorem h_notV (ha : HE X a ta) : HE X (.UnaryOp .Not a pos) (tNotV3 ta) := fun ρ M Q h =>
 (pe_not (ha.d (ρ := ρ))).imp fun σ H Q2 ⟨hr, hh, en⟩ => ⟨M, _, h, hr, hh, fun x v M1 H1 k1 h1 r1 q1 => by
   dsimp only at q1 ⊢
   split at q1
   · rename_i c
     obtain rfl := inv_bl r1
     exact ⟨c, rfl, en _ _ M1 H1 k1 h1 rep_bl q1⟩
   · exact q1.elim⟩
noncomputable def tNil3 : TA3 := fun _ M Q => Q [] M
noncomputable def tCons3 (ta : TE3) (tr : TA3) : TA3 := fun ρ M Q => ta ρ M fun x M1 => tr ρ M1 fun xs M2 => Q (x :: xs) M2
theorem a_nil : HA X [] tNil3 := fun ρ M Q h => pa_nil.imp fun σ H Q2 ⟨hr, hh, en⟩ => en [] [] M H Kp.refl hh .nil h
theorem a_cons (ha : HE X a ta) (hr : HA X es t) (hs : starEach (a :: es) X.env = (false, eval a X.env) :: starEach es X.env := by rfl) : HA X (a :: es) (tCons3 ta t) := fun ρ M Q h =>
 (pa_cons (ha.d (ρ := ρ)) (hr.d (ρ := ρ)) hs).imp fun σ H Q2 ⟨hr, hh, en⟩ => ⟨M, _, h, hr, hh, fun x v M1 H1 k1 h1 r1 q1 => ⟨M1, _, q1, hr.kp k1, h1, fun ts vs M2 H2 k2 h2 r2 q2 =>
   en _ _ M2 H2 (k1.trans k2) h2 (.cons (Rep.kp k2 _ _ r1) r2) q2⟩⟩
noncomputable def tTup3 (t : TA3) : TE3 := fun ρ M Q => t ρ M fun xs M1 => xs.length ≤ sizeLine ∧ Q (.tup xs) M1
noncomputable def tLst3 (t : TA3) : TE3 := fun ρ M Q => t ρ M fun xs M1 => xs.length ≤ sizeLine ∧ ∀ p, M1 p = none → Q (.adr p) (updM M1 p (.lst xs))
theorem h_tup {x1} (h : HA X es t) : HE X (.Tuple es x1 pos) (tTup3 t) := fun ρ M Q q =>
 (pe_tup (h.d (ρ := ρ))).imp fun σ H Q2 ⟨hr, hh, en⟩ => ⟨M, _, q, hr, hh, fun ts vs M1 H1 k1 h1 r1 q1 =>
   ⟨by rw [r1.length]; exact q1.1, fun p hp => en _ _ M1 _ (k1.trans (Kp.new hp)) (h1.keep hp) (rep_tup (SqT.of upd_same) (Reps.kp (Kp.new hp) _ _ r1)) q1.2⟩⟩
theorem h_lst (h : HA X es t) : HE X (.List es pos) (tLst3 t) := fun ρ M Q q =>
 (pe_lst (h.d (ρ := ρ))).imp fun σ H Q2 ⟨hr, hh, en⟩ => ⟨M, _, q, hr, hh, fun ts vs M1 H1 k1 h1 r1 q1 =>
   ⟨by rw [r1.length]; exact q1.1, fun p hp => en _ _ _ _ (k1.trans (Kp.new hp)) (h1.newL hp r1) rep_adr (q1.2 p (h1.free hp))⟩⟩
noncomputable abbrev Sp3 := List T → MH → VK3 → Prop
noncomputable def dSp (K : PySem.W.Frag) (sp : Sp3) : Sp := fun vs H Q2 _ => ∃ ts M Q, Reps K H vs ts ∧ HR K H M ∧ sp ts M Q ∧ EndE K H Q Q2
structure Df (P : Program) (w : World) (K : PySem.W.Frag) (mg : Str → Option Value) (base : Heap) (n : Nat) (x : Str) (ps : List Str) (sp : Sp3) : Prop where
 out : ∃ f fd, FnOk P w K mg base CX0 n f fd ps (dSp K sp) ∧ mg x = some (.ref f) ∧ PySem.W.keepIn K (.ref f) = true ∧ Binds K fd ps []
theorem Df.mono {P : Program} {w : World} {K : PySem.W.Frag} {mg : Str → Option Value} {base : Heap} {n m : Nat} {x : Str} {ps : List Str} {sp : Sp3} (D : Df P w K mg base n x ps sp) (h : n ≤ m) : Df P w K mg base m x ps sp := by
 obtain ⟨f, fd, F, a, b, c⟩ := D.out
 exact ⟨f, fd, F.mono h, a, b, c⟩
noncomputable def tCall3 (sp : Sp3) (t : TA3) : TE3 := fun ρ M Q => t ρ M fun ts M1 => sp ts M1 Q
theorem h_call {n : Nat} {x : Str} {ps : List Str} {sp : Sp3} {p : Pos} (D : Df X.prog X.w X.K X.mg X.base n x ps sp) (hr : Room n X.A) (ha : HA X (e :: es) t) (hg : Gl X x := by rfl) (hdb : (x == ("__debug__" : Str)) = false := by decide)
   (he : starEach (e :: es) X.env = (false, eval e X.env) :: starEach es X.env := by rfl) (hpl : (backTo pos (starEach es X.env)).any (·.1) = false := by rfl) :
   HE X (.Call (.Name x p) (e :: es) [] pos) (tCall3 sp t) := fun ρ M Q h => by
 obtain ⟨f, fd, F, hm, hk, hb⟩ := D.out
 exact (pe_call F hr hg hm hk hb .nil pass0 (ha.d (ρ := ρ)) hdb he hpl).imp fun σ H Q2 ⟨hr, hh, en⟩ => ⟨M, _, h, hr, hh, fun ts vs M1 H1 k1 h1 r1 q1 =>
   ⟨ts, M1, Q, by rw [List.append_nil]; exact r1, h1, q1, en.kp k1⟩⟩
noncomputable def tCB3 (r : List T → MH → VK3 → Prop) (t : TA3) : TE3 := fun ρ M Q => t ρ M fun ts M1 => r ts M1 Q
theorem h_callB {x : Str} {id : String} {r : List T → MH → VK3 → Prop} {p : Pos} (hc : CallR3 X (.builtin id) r) (hm : X.mg x = none) (hv : bootBuiltins x = some (.builtin id)) (ha : HA X (e :: es) t) (hg : Gl X x := by rfl) (hn : x ≠ "__name__" := by decide) (hdb : (x == ("__debug__" : Str)) = false := by decide)
   (he : starEach (e :: es) X.env = (false, eval e X.env) :: starEach es X.env := by rfl) (hpl : (backTo pos (starEach es X.env)).any (·.1) = false := by rfl) : HE X (.Call (.Name x p) (e :: es) [] pos) (tCB3 r t) := fun ρ M Q h =>
 (pe_callB hc hg hm hv (ha.d (ρ := ρ)) hn hdb he hpl).imp fun σ H Q2 ⟨hr, hh, en⟩ => ⟨M, _, h, hr, hh, fun ts vs M1 H1 k1 h1 r1 q1 => ⟨ts, M1, Q, r1, h1, q1, en.kp k1⟩⟩
theorem h_callT {x : Str} {ty : String} {r : List T → MH → VK3 → Prop} {p : Pos} (hc : CallR3 X (.type ty) r) (hm : X.mg x = none) (hv : bootBuiltins x = some (.type ty)) (ha : HA X (e :: es) t) (hg : Gl X x := by rfl) (hn : x ≠ "__name__" := by decide) (hdb : (x == ("__debug__" : Str)) = false := by decide)
   (he : starEach (e :: es) X.env = (false, eval e X.env) :: starEach es X.env := by rfl) (hpl : (backTo pos (starEach es X.env)).any (·.1) = false := by rfl) : HE X (.Call (.Name x p) (e :: es) [] pos) (tCB3 r t) := fun ρ M Q h =>
 (pe_callTy hc hg hm hv (ha.d (ρ := ρ)) hn hdb he hpl).imp fun σ H Q2 ⟨hr, hh, en⟩ => ⟨M, _, h, hr, hh, fun ts vs M1 H1 k1 h1 r1 q1 => ⟨ts, M1, Q, r1, h1, q1, en.kp k1⟩⟩
end
section
variable {X : Cx}
theorem reps1 {K : PySem.W.Frag} {H : Hp} {vs : List V} {x : T} (r : Reps K H vs [x]) : ∃ v, vs = [v] ∧ Rep K H v x := by
 unfold Reps at r
 obtain ⟨v, w, rfl, h, r⟩ := r
 unfold Reps at r
 subst r
 exact ⟨v, rfl, h⟩
theorem reps2 {K : PySem.W.Frag} {H : Hp} {vs : List V} {x y : T} (r : Reps K H vs [x, y]) : ∃ v w, vs = [v, w] ∧ Rep K H v x ∧ Rep K H w y := by
 unfold Reps at r
 obtain ⟨v, r', rfl, h, r⟩ := r
 obtain ⟨w, rfl, h'⟩ := reps1 r
 exact ⟨v, w, rfl, h, h'⟩
noncomputable def rLen3 : List T → MH → VK3 → Prop := fun xs M Q => match xs with
 | [.tup ts] => Q (.int ts.length) M
 | [.rd ts] => Q (.int ts.length) M
 | [.adr p] => (match M p with | some (.lst ts) => Q (.int ts.length) M | _ => False)
 | [.str z] => z.length ≤ sizeLine ∧ Q (.int z.length) M
 | _ => False
theorem call3_len : CallR3 X (.builtin "len") rLen3 := by
 intro pins s σ H vs us Q2 I r h
 obtain ⟨xs, M, Q, rr, hh, q, en⟩ := h
 unfold rLen3 at q
 split at q
 · obtain ⟨v, rfl, r1⟩ := reps1 rr
   obtain ⟨p, ys, rfl, g1, g2⟩ := inv_tup r1
   exact call_len_seq pins s σ H _ us Q2 I r ⟨p, ys, rfl, .inr g1, by rw [g2.length]; exact en _ _ M H Kp.refl hh rep_int q⟩
 · obtain ⟨v, rfl, r1⟩ := reps1 rr
   obtain ⟨p, ys, rfl, g1, g2⟩ := inv_rd r1
   exact call_len_seq pins s σ H _ us Q2 I r ⟨p, ys, rfl, .inl g1.sq, by rw [g2.length]; exact en _ _ M H Kp.refl hh rep_int q⟩
 · obtain ⟨v, rfl, r1⟩ := reps1 rr
   obtain rfl := inv_adr r1
   split at q
   · rename_i ts e0
     obtain ⟨ys, g1, g2⟩ := hh _ _ e0
     exact call_len_seq pins s σ H _ us Q2 I r ⟨_, ys, rfl, .inl (SqL.of g1), by rw [g2.length]; exact en _ _ M H Kp.refl hh rep_int q⟩
   · exact q.elim
 · obtain ⟨v, rfl, r1⟩ := reps1 rr
   obtain rfl := inv_str r1
   exact call_len_str pins s σ H _ us Q2 I r ⟨_, rfl, q.1, en _ _ M H Kp.refl hh rep_int q.2⟩
 · exact q.elim
noncomputable def rAbs3 : List T → MH → VK3 → Prop := fun xs M Q => match xs with
 | [.int i] => Q (.int i.natAbs) M
 | _ => False
theorem call3_abs : CallR3 X (.builtin "abs") rAbs3 := by
 intro pins s σ H vs us Q2 I r h
 obtain ⟨xs, M, Q, rr, hh, q, en⟩ := h
 unfold rAbs3 at q
 split at q
 · rename_i i
   obtain ⟨v, rfl, r1⟩ := reps1 rr
   obtain rfl := inv_int r1
   refine call_abs pins s σ H _ us Q2 I r ⟨_, rfl, en _ _ M H Kp.refl hh ?_ q⟩
   have e : (if i < 0 then -i else i) = (i.natAbs : Int) := by split <;> lia
   rw [e]; exact rep_int
 · exact q.elim
noncomputable def rTuple3 : List T → MH → VK3 → Prop := fun xs M Q => match xs with
 | [.tup ts] => Q (.tup ts) M
 | [.rd ts] => Q (.tup ts) M
 | [.adr p] => (match M p with | some (.lst ts) => Q (.tup ts) M | _ => False)
 | _ => False
theorem call3_tuple : CallR3 X (.type "tuple") rTuple3 := by
 intro pins s σ H vs us Q2 I r h
 obtain ⟨xs, M, Q, rr, hh, q, en⟩ := h
 unfold rTuple3 at q
 split at q
 · obtain ⟨v, rfl, r1⟩ := reps1 rr
   obtain ⟨p, ys, rfl, g1, g2⟩ := inv_tup r1
   exact call_tuple_of pins s σ H _ us Q2 I r ⟨p, ys, rfl, .inr ⟨g1, en _ _ M H Kp.refl hh r1 q⟩⟩
 · obtain ⟨v, rfl, r1⟩ := reps1 rr
   obtain ⟨p, ys, rfl, g1, g2⟩ := inv_rd r1
   exact call_tuple_of pins s σ H _ us Q2 I r ⟨p, ys, rfl, .inl ⟨g1.sq, fun l hl => en _ _ M _ (Kp.new hl) (hh.keep hl) (rep_tup (SqT.of upd_same) (Reps.kp (Kp.new hl) _ _ g2)) q⟩⟩
 · obtain ⟨v, rfl, r1⟩ := reps1 rr
   obtain rfl := inv_adr r1
   split at q
   · rename_i ts e0
     obtain ⟨ys, g1, g2⟩ := hh _ _ e0
     exact call_tuple_of pins s σ H _ us Q2 I r ⟨_, ys, rfl, .inl ⟨SqL.of g1, fun l hl => en _ _ M _ (Kp.new hl) (hh.keep hl) (rep_tup (SqT.of upd_same) (Reps.kp (Kp.new hl) _ _ g2)) q⟩⟩
   · exact q.elim
 · exact q.elim
noncomputable def rList3 : List T → MH → VK3 → Prop := fun xs M Q => match xs with
 | [.tup ts] => ∀ r, M r = none → Q (.adr r) (updM M r (.lst ts))
 | [.rd ts] => ∀ r, M r = none → Q (.adr r) (updM M r (.lst ts))
 | [.adr p] => (match M p with | some (.lst ts) => ∀ r, M r = none → Q (.adr r) (updM M r (.lst ts)) | _ => False)
 | _ => False
theorem call3_list : CallR3 X (.type "list") rList3 := by
 intro pins s σ H vs us Q2 I r h
 obtain ⟨xs, M, Q, rr, hh, q, en⟩ := h
 unfold rList3 at q
 split at q
 · obtain ⟨v, rfl, r1⟩ := reps1 rr
   obtain ⟨p, ys, rfl, g1, g2⟩ := inv_tup r1
   exact call_list_of pins s σ H _ us Q2 I r ⟨p, ys, rfl, .inr g1, fun l hl => en _ _ _ _ (Kp.new hl) (hh.newL hl g2) rep_adr (q l (hh.free hl))⟩
 · obtain ⟨v, rfl, r1⟩ := reps1 rr
   obtain ⟨p, ys, rfl, g1, g2⟩ := inv_rd r1
   exact call_list_of pins s σ H _ us Q2 I r ⟨p, ys, rfl, .inl g1.sq, fun l hl => en _ _ _ _ (Kp.new hl) (hh.newL hl g2) rep_adr (q l (hh.free hl))⟩
 · obtain ⟨v, rfl, r1⟩ := reps1 rr
   obtain rfl := inv_adr r1
   split at q
   · rename_i ts e0
     obtain ⟨ys, g1, g2⟩ := hh _ _ e0
     exact call_list_of pins s σ H _ us Q2 I r ⟨_, ys, rfl, .inl (SqL.of g1), fun l hl => en _ _ _ _ (Kp.new hl) (hh.newL hl g2) rep_adr (q l (hh.free hl))⟩
   · exact q.elim
 · exact q.elim
noncomputable def rInt3 : List T → MH → VK3 → Prop := fun xs M Q => match xs with
 | [.int i] => Q (.int i) M
 | [.bl k] => Q (.int (if k = true then 1 else 0)) M
 | [.str x] => ∃ n, PySem.intText? x = some n ∧ x.length ≤ 640 ∧ Q (.int n) M
 | _ => False
theorem call3_int : CallR3 X (.type "int") rInt3 := by
 intro pins s σ H vs us Q2 I r h
 obtain ⟨xs, M, Q, rr, hh, q, en⟩ := h
 unfold rInt3 at q
 split at q
 · obtain ⟨v, rfl, r1⟩ := reps1 rr
   obtain rfl := inv_int r1
   exact call_int1 pins s σ H _ us Q2 I r (.inl ⟨_, rfl, en _ _ M H Kp.refl hh rep_int q⟩)
 · obtain ⟨v, rfl, r1⟩ := reps1 rr
   obtain rfl := inv_bl r1
   exact call_int1 pins s σ H _ us Q2 I r (.inr ⟨_, rfl, en _ _ M H Kp.refl hh rep_int q⟩)
 · obtain ⟨n, hn, hl, q⟩ := q
   obtain ⟨v, rfl, r1⟩ := reps1 rr
   obtain rfl := inv_str r1
   obtain ⟨u, rfl, ru⟩ := vals1 r
   obtain ⟨t, rfl⟩ := ru
   exact PySem.W.KIN.call_text hn hl ⟨.int n, H, I.kept fun b o e => e, ⟨_, rfl⟩, en _ _ M H Kp.refl hh rep_int q⟩
 · exact q.elim
theorem call_all_bools (hc : X.calm = true) : CallR X (.builtin "all") (fun xs H Q => ∃ (p : Addr) (bs : List Bool), xs = [.ref p] ∧ SqL X.K H p (bs.map V.bl) ∧ Q (.bl (bs.all id)) H) := by
 intro pins s σ H xs us Q I r h
 obtain ⟨p, bs, rfl, hq, q⟩ := h
 obtain ⟨u, rfl, rx⟩ := vals1 r
 cases rx
 obtain ⟨its, r', pl, hz⟩ := I.list hq
 have hlen := r'.length
 refine call_all_walk (wpAny_pyIter_list pl.isList ?_)
 have hp : p < s.heap.objs.size := by obtain ⟨o, n, e, _⟩ := pl; exact Heap.lt_size e
 refine ⟨s.heap.objs.size, _, _, _, _, _, fun i => (bs[i]?).getD true, rfl, Walks.list (A := X.A.in1) (I.ok.hd hc) s.heap.objs.size p (Nat.ne_of_lt hp) its.toArray, ⟨⟨_, Heap.get?_push_size _ rfl, rfl, rfl⟩, pl.isList.push _⟩, ?_, fun h' tk hk => ?_⟩
 · intro i v s' Q' E' hP hQ
   have hP' : its[i]? = some v := by simpa using hP
   have hi : i < bs.length := by
     have := (List.getElem?_eq_some_iff.mp hP').1
     rw [List.length_map] at hlen; lia
   obtain ⟨w, hw, rw'⟩ := r'.get (i := i) (x := .bl bs[i]) (by rw [List.getElem?_map, List.getElem?_eq_getElem hi] <;> rfl)
   rw [hP'] at hw; cases hw
   obtain rfl : v = Value.bool bs[i] := rw'
   refine wpAny_truthy_bool ?_
   have e : (bs[i]?).getD true = bs[i] := by rw [List.getElem?_eq_getElem hi] <;> rfl
   dsimp only at hQ; rw [e] at hQ; exact hQ
 · have e : (List.range its.toArray.size).all (fun i => (bs[i]?).getD true) = bs.all id := by
     rw [List.length_map] at hlen
     rw [List.size_toArray, ← hlen]
     rw [Bool.eq_iff_iff]
     simp only [List.all_eq_true, List.mem_range, id]
     constructor
     · intro h b hb
       obtain ⟨i, hi, rfl⟩ := List.getElem_of_mem hb
       have := h i hi
       rw [List.getElem?_eq_getElem hi] at this; exact this
     · intro h i hi
       rw [List.getElem?_eq_getElem hi]; exact h _ (List.getElem_mem hi)
   rw [e]
   have I1 : Inv X pins σ H { s with heap := h', toks := tk } := I.kept fun b o eb => hk b o (by
     intro hm
     have : b = s.heap.objs.size := by simpa using hm
     rw [this] at eb
     exact absurd (Heap.lt_size eb) (Nat.lt_irrefl _)) (Heap.get?_push_of_some _ eb)
   exact ⟨.bl _, H, I1, rfl, q⟩
noncomputable def bools : List T → Option (List Bool)
 | [] => some []
 | .bl b :: ts => (bools ts).map (b :: ·)
 | _ :: _ => none
theorem bools_reps {K : PySem.W.Frag} {H : Hp} : ∀ {vs : List V} {ts : List T} {bs : List Bool}, Reps K H vs ts → bools ts = some bs → vs = bs.map V.bl
 | vs, [], bs, h, e => by unfold bools at e; cases e; unfold Reps at h; exact h
 | vs, t :: ts, bs, h, e => by
   unfold Reps at h
   obtain ⟨v, r, rfl, h1, h2⟩ := h
   cases t with
   | bl b =>
     unfold bools at e
     cases q : bools ts with
     | none => rw [q] at e; cases e
     | some cs =>
       rw [q] at e; cases e
       obtain rfl := inv_bl h1
       rw [bools_reps h2 q]; rfl
   | _ => unfold bools at e; cases e
noncomputable def rAll3 : List T → MH → VK3 → Prop := fun xs M Q => match xs with
 | [.adr p] => (match M p with | some (.lst ts) => (match bools ts with | some bs => Q (.bl (bs.all id)) M | none => False) | _ => False)
 | _ => False
theorem call3_all (hc : X.calm = true) : CallR3 X (.builtin "all") rAll3 := by
 intro pins s σ H vs us Q2 I r h
 obtain ⟨xs, M, Q, rr, hh, q, en⟩ := h
 unfold rAll3 at q
 split at q
 · obtain ⟨v, rfl, r1⟩ := reps1 rr
   obtain rfl := inv_adr r1
   split at q
   · rename_i ts e0
     obtain ⟨ys, g1, g2⟩ := hh _ _ e0
     split at q
     · rename_i bs eb
       obtain rfl := bools_reps g2 eb
       exact call_all_bools hc pins s σ H _ us Q2 I r ⟨_, bs, rfl, SqL.of g1, en _ _ M H Kp.refl hh rep_bl q⟩
     · exact q.elim
   · exact q.elim
 · exact q.elim
inductive Ki where
 | non | bool | int | str | tup | list | dict
noncomputable def kiName : Ki → String
 | .non => "NoneType" | .bool => "bool" | .int => "int" | .str => "str" | .tup => "tuple" | .list => "list" | .dict => "dict"
noncomputable def isiK : Ki → Ki → Bool
 | .bool, .int => true
 | .non, .non => true
 | .bool, .bool => true
 | .int, .int => true
 | .str, .str => true
 | .tup, .tup => true
 | .list, .list => true
 | .dict, .dict => true
 | _, _ => false
theorem kit_of (K : PySem.W.Frag) (a b : Ki) (hb : b ≠ .non) : PySem.W.kitOne K (.type (kiName a)) (.type (kiName b)) = some (isiK a b) := by
 cases b with
 | non => exact absurd rfl hb
 | _ => cases a <;> rfl
noncomputable def tyK : MH → T → Option Ki
 | _, .non => some .non
 | _, .bl _ => some .bool
 | _, .int _ => some .int
 | _, .str _ => some .str
 | _, .tup _ => some .tup
 | _, .rd _ => some .list
 | _, .dic _ _ => some .dict
 | M, .adr p => match M p with
   | some (.lst _) => some .list
   | some (.dk _) => some .dict
   | some (.dt _) => some .dict
   | some (.fz _) => none
   | some (.fk _) => none
   | none => none
theorem tyK_adr (M : MH) (p : Addr) : tyK M (.adr p) = (match M p with | some (.lst _) => some Ki.list | some (.dk _) => some Ki.dict | some (.dt _) => some Ki.dict | some (.fz _) => none | some (.fk _) => none | none => none) := rfl
theorem isi3 {pins : List (Addr × Obj)} {σ : St} {H : Hp} {s : Shared} {M : MH} {x : T} {v : V} {u : Value} {n c : Ki} {Q : Value → Shared → Prop} (I : Inv X pins σ H s) (hh : HR X.K H M) (r : Rep X.K H v x) (rv : RelV v u) (ht : tyK M x = some n) (hc : c ≠ .non)
   (h : ∀ tk, Q (.bool (isiK n c)) { s with toks := tk }) : wpAny (model X.prog X.w) X.A (call (.builtin "isinstance") [u, .type (kiName c)]) Q X.xe s := by
 have e := kit_of X.K n c hc
 cases x with
 | non => obtain rfl := inv_non r; cases ht; exact isinst_ok I rv .non e h
 | bl k => obtain rfl := inv_bl r; cases ht; exact isinst_ok I rv (.bl k) e h
 | int i => obtain rfl := inv_int r; cases ht; exact isinst_ok I rv (.int i) e h
 | str z => obtain rfl := inv_str r; cases ht; exact isinst_ok I rv (.str z) e h
 | tup ts =>
   obtain ⟨p, xs, rfl, g1, g2⟩ := inv_tup r
   cases ht
   cases rv
   obtain ⟨its, _, pt, _⟩ := I.tuple g1
   obtain ⟨o, h1, h2, _⟩ := pt
   exact PySem.W.kia_one PySem.W.kitx_tuple I.kIn ⟨o, h1, h2⟩ e (fun z => nomatch z) h
 | rd ts =>
   obtain ⟨p, xs, rfl, g1, g2⟩ := inv_rd r
   cases ht
   cases rv
   obtain ⟨its, _, pl, _⟩ := I.list g1.sq
   obtain ⟨o, n, h1, h2, _⟩ := pl
   exact PySem.W.kia_one PySem.W.kitx_list I.kIn ⟨o, h1, h2⟩ e (fun z => nomatch z) h
 | dic ks ts =>
   unfold Rep at r
   exact r.elim
 | adr p =>
   obtain rfl := inv_adr r
   cases e0 : M p with
   | none =>
     have q : tyK M (.adr p) = none := by rw [tyK_adr, e0]
     rw [q] at ht; cases ht
   | some o =>
     cases o with
     | lst ts =>
       have q : tyK M (.adr p) = some .list := by rw [tyK_adr, e0]
       rw [q] at ht; cases ht
       obtain ⟨xs, g1, _⟩ := hh _ _ e0
       exact isinst_ok I rv (.lst g1) e h
     | dk kvs =>
       have q : tyK M (.adr p) = some .dict := by rw [tyK_adr, e0]
       rw [q] at ht; cases ht
       obtain ⟨xs, g1, _⟩ := hh _ _ e0
       exact isinst_ok I rv (.dK g1) e h
     | dt kvs =>
       have q : tyK M (.adr p) = some .dict := by rw [tyK_adr, e0]
       rw [q] at ht; cases ht
       obtain ⟨xs, g1, _⟩ := hh _ _ e0
       exact isinst_ok I rv (.dT g1) e h
     | fz kvs =>
       have q : tyK M (.adr p) = none := by rw [tyK_adr, e0]
       rw [q] at ht; cases ht
     | fk kvs =>
       have q : tyK M (.adr p) = none := by rw [tyK_adr, e0]
       rw [q] at ht; cases ht
noncomputable def tIsi (c : Ki) (ta : TE3) : TE3 := fun ρ M Q => ta ρ M fun x M1 => match tyK M1 x with
 | some n => Q (.bl (isiK n c)) M1
 | none => False
theorem h_isi {e : Expr} {te : TE3} {y : Str} {p p' pos : Pos} (c : Ki) (he : HE X e te) (hm : X.mg "isinstance" = none) (hm' : X.mg y = none) (hv : bootBuiltins y = some (.type (kiName c))) (hc : c ≠ .non := by intro z; cases z) (hg : Gl X "isinstance" := by rfl) (hg' : Gl X y := by rfl) (hn : y ≠ "__name__" := by decide)
   (hdb : (y == ("__debug__" : Str)) = false := by decide) (hs : starEach [e, .Name y p'] X.env = (false, eval e X.env) :: starEach [.Name y p'] X.env := by rfl) (hs2 : starEach [.Name y p'] X.env = (false, eval (.Name y p') X.env) :: starEach [] X.env := by rfl)
   (hpl : (backTo pos (starEach [.Name y p'] X.env)).any (·.1) = false := by rfl) :
   HE X (.Call (.Name "isinstance" p) [e, .Name y p'] [] pos) (tIsi c te) := by
 intro ρ M Q h pins s σ H Q2 I b
 obtain ⟨hr, hh, en⟩ := b
 have pa := pa_cons (X := X) (he.d (ρ := ρ)) (pa_cons (pe_bltn (v := .ty (kiName c)) (pos := p') hg' hm' hv rfl hn hdb) pa_nil hs2) hs
 refine wpAny_Call_Name_kw (ld_blt I hg hm boot_isinstance ?_ (by decide) (by decide))
 refine PyProof.Rows.callWith_builtin1 (thn (pa pos pins s σ H (fun vs H1 => ∃ v t M1, vs = [v, .ty (kiName c)] ∧ Rep X.K H1 v t ∧ HR X.K H1 M1 ∧ Kp X.K H H1 ∧ (match tyK M1 t with
 | some n => Q (.bl (isiK n c)) M1
 | none => False)) I ⟨M, _, h, hr, hh, fun t v M1 H1 k1 h1 r1 q1 => ⟨v, t, M1, rfl, r1, h1, k1, q1⟩⟩) fun us s1 ⟨vs, H1, I1, rv, v, t, M1, ev, r1, h1, k1, q1⟩ => ?_) hs hpl
 subst ev
 obtain ⟨u, w', rfl, ru, rw'⟩ := vals2 rv
 obtain rfl : w' = Value.type (kiName c) := rw'
 split at q1
 · rename_i n e1
   exact isi3 I1 h1 r1 ru e1 hc fun tk => ⟨.bl _, H1, I1.tok _, rfl, en _ _ M1 H1 k1 h1 rep_bl q1⟩
 · exact q1.elim
end
end L2
namespace L2
open PySem PySem.Spec PyProof.Rows
section
variable {X : Cx} {a b c e : Expr} {st : Stmt} {rest ba bb body : List Stmt} {ta tb te : TE3} {tA : TT3} {t u : TS3} {pos : Pos}
noncomputable def tNext3 : TS3 := fun D ρ M => D.nx ρ M
noncomputable def tSeq3 (t u : TS3) : TS3 := fun D ρ M => t { D with nx := u D } ρ M
theorem EndS.nx' {K : PySem.W.Frag} {H : Hp} {D : Ends3} {D2 : Ends} {t : TS3} (h : EndS K H D D2) : EndS K H { D with nx := t D } { D2 with nx := dS K t D2 } :=
 ⟨fun ρ' M' σ' H' k r hh q => ⟨D, ρ', M', q, r, hh, h.kp k⟩, h.rt, h.bk, h.ct⟩
theorem ss_nil : HSs X [] tNext3 := fun D ρ M h => pss_nil.imp fun D2 σ H ⟨hr, hh, en⟩ => en.nx ρ M σ H Kp.refl hr hh h
theorem ss_cons (h1 : HS X st t) (h2 : HSs X rest u) : HSs X (st :: rest) (tSeq3 t u) := fun D ρ M h =>
 (pss_cons h1.d h2.d).imp fun D2 σ H ⟨hr, hh, en⟩ => ⟨{ D with nx := u D }, ρ, M, h, hr, hh, en.nx'⟩
theorem ss_one (h1 : HS X st t) : HSs X [st] t := fun D ρ M h => pss_one (h1 D ρ M h)
noncomputable def tRet3 (te : TE3) : TS3 := fun D ρ M => te ρ M D.rt
theorem s_ret (he : HE X e te) : HS X (.Return (some e) pos) (tRet3 te) := fun D ρ M h =>
 (ps_ret (he.d (ρ := ρ))).imp fun D2 σ H ⟨hr, hh, en⟩ => ⟨M, _, h, hr, hh, en.rt⟩
noncomputable def tIfS3 (c : TT3) (t u : TS3) : TS3 := fun D ρ M => c ρ M fun b M1 => if b = true then t D ρ M1 else u D ρ M1
theorem s_if (hc : HT X c tA) (ha : HSs X ba t) (hb : HSs X bb u) : HS X (.If c ba bb pos) (tIfS3 tA t u) := fun D ρ M h =>
 (ps_if (hc.d (ρ := ρ)) ha.d hb.d).imp fun D2 σ H ⟨hr, hh, en⟩ => ⟨M, _, h, hr, hh, fun b M1 H1 k1 h1 q1 => by
   dsimp only at q1 ⊢
   split
   · rename_i hb; rw [if_pos hb] at q1
     exact ⟨D, ρ, M1, q1, hr.kp k1, h1, en.kp k1⟩
   · rename_i hb; rw [if_neg hb] at q1
     exact ⟨D, ρ, M1, q1, hr.kp k1, h1, en.kp k1⟩⟩
noncomputable def tNever3 : TS3 := fun _ _ _ => False
theorem s_never : HS X st tNever3 := fun _ _ _ h => h.elim
noncomputable def tDrop3 (te : TE3) : TS3 := fun D ρ M => te ρ M fun _ M1 => D.nx ρ M1
theorem s_expr (he : HE X e te) (hs : swapsWith e none pos.line X.env = pure false := by rfl) : HS X (.Expr e pos) (tDrop3 te) := fun D ρ M h =>
 (ps_expr (he.d (ρ := ρ)) hs).imp fun D2 σ H ⟨hr, hh, en⟩ => ⟨M, _, h, hr, hh, fun x v M1 H1 k1 h1 r1 q1 => en.nx ρ M1 σ H1 k1 (hr.kp k1) h1 q1⟩
noncomputable def tSet3 (i : Nat) (te : TE3) : TS3 := fun D ρ M => te ρ M fun x M1 => D.nx (ρ.set i (some x)) M1
theorem s_set {i : Nat} {x : Str} {pos' : Pos} (he : HE X e te) (hN : X.N.Nodup) (hi : X.N[i]? = some x := by rfl) (hx : Loc X.env.scope x := by first | exact Or.inl rfl | exact Or.inr rfl) (hs : swapsWith e (some (.Name x pos')) pos.line X.env = pure false := by rfl)
   (hf : X.fn x = true ∨ X.env.scope.names.lookup x = some .local := by first | exact .inl rfl | exact .inr rfl | assumption) : HS X (.Assign [.Name x pos'] e pos) (tSet3 i te) := fun D ρ M h =>
 (ps_set hN hi hx (he.d (ρ := ρ)) hs hf).imp fun D2 σ H ⟨hr, hh, en⟩ => ⟨M, _, h, hr, hh, fun t v M1 H1 k1 h1 r1 q1 => en.nx _ M1 _ H1 k1 ((hr.kp k1).set i r1) h1 q1⟩
noncomputable abbrev TG3 := T → En → MH → (En → MH → Prop) → Prop
noncomputable abbrev TGs3 := List T → En → MH → (En → MH → Prop) → Prop
noncomputable def EndG (K : PySem.W.Frag) (H : Hp) (Q : En → MH → Prop) (Q2 : St → Hp → Prop) : Prop := ∀ ρ' M' σ' H', Kp K H H' → RhoR K σ' H' ρ' → HR K H' M' → Q ρ' M' → Q2 σ' H'
noncomputable def dG (K : PySem.W.Frag) (g : TG3) : TG := fun v σ H Q2 => ∃ t ρ M Q, g t ρ M Q ∧ Rep K H v t ∧ RhoR K σ H ρ ∧ HR K H M ∧ EndG K H Q Q2
noncomputable def dGs (K : PySem.W.Frag) (g : TGs3) : TGs := fun vs σ H Q2 => ∃ ts ρ M Q, g ts ρ M Q ∧ Reps K H vs ts ∧ RhoR K σ H ρ ∧ HR K H M ∧ EndG K H Q Q2
noncomputable def HG (X : Cx) (tg : Expr) (g : TG3) : Prop := PG X tg (dG X.K g)
noncomputable def HGs (X : Cx) (tgs : List Expr) (g : TGs3) : Prop := PGs X tgs (dGs X.K g)
noncomputable def gName3 (i : Nat) : TG3 := fun t ρ M Q => Q (ρ.set i (some t)) M
theorem PG.imp {tg : Expr} {g g' : TG} (h : PG X tg g) (f : ∀ v σ H Q, g' v σ H Q → g v σ H Q) : PG X tg g' := fun pins s σ H v u Q I r q => h pins s σ H v u Q I r (f v σ H Q q)
theorem PGs.imp {tg : List Expr} {g g' : TGs} (h : PGs X tg g) (f : ∀ v σ H Q, g' v σ H Q → g v σ H Q) : PGs X tg g' := fun pins s σ H v u Q I r q => h pins s σ H v u Q I r (f v σ H Q q)
theorem g_name {i : Nat} {x : Str} (hN : X.N.Nodup) (hi : X.N[i]? = some x := by rfl) (hx : Loc X.env.scope x := by first | exact Or.inl rfl | exact Or.inr rfl) (hf : X.fn x = true ∨ X.env.scope.names.lookup x = some .local := by first | exact .inl rfl | exact .inr rfl | assumption) : HG X (.Name x pos) (gName3 i) :=
 (pg_name hN hi hx hf).imp fun v σ H Q2 ⟨t, ρ, M, Q, q, r, hr, hh, en⟩ => en _ M _ H Kp.refl (hr.set i r) hh q
noncomputable def gNil3 : TGs3 := fun ts ρ M Q => ts = [] ∧ Q ρ M
noncomputable def gCons3 (g : TG3) (gs : TGs3) : TGs3 := fun ts ρ M Q => match ts with
 | t :: r => g t ρ M fun ρ1 M1 => gs r ρ1 M1 Q
 | [] => False
theorem gs_nil : HGs X [] gNil3 := pgs_nil.imp fun v σ H Q2 ⟨ts, ρ, M, Q, ⟨e, q⟩, r, hr, hh, en⟩ => by
 subst e
 unfold Reps at r
 exact ⟨r, en ρ M σ H Kp.refl hr hh q⟩
theorem gs_cons {es : List Expr} {g : TG3} {gs : TGs3} (h1 : HG X e g) (h2 : HGs X es gs) (hs : (assignEach (e :: es) X.env).map (·.2) = assign e X.env :: (assignEach es X.env).map (·.2) := by rfl) : HGs X (e :: es) (gCons3 g gs) :=
 (pgs_cons h1 h2 hs).imp fun vs σ H Q2 ⟨ts, ρ, M, Q, q, r, hr, hh, en⟩ => by
   unfold gCons3 at q
   split at q
   · rename_i t r'
     unfold Reps at r
     obtain ⟨v, vr, rfl, r1, r2⟩ := r
     exact ⟨v, vr, rfl, t, ρ, M, _, q, r1, hr, hh, fun ρ' M' σ' H' k hr' hh' q' => ⟨r', ρ', M', Q, q', Reps.kp k _ _ r2, hr', hh', fun ρ2 M2 σ2 H2 k2 => en ρ2 M2 σ2 H2 (k.trans k2)⟩⟩
   · exact q.elim
noncomputable def gTup3 (n : Nat) (gs : TGs3) : TG3 := fun t ρ M Q => match t with
 | .tup ts => ts.length = n ∧ gs ts ρ M Q
 | _ => False
theorem g_tup {es : List Expr} {k : Nat} {gs : TGs3} {n : Nat} (hc : X.calm = true) (h : HGs X es gs) (hn : (assignEach es X.env).length = n := by rfl) (hst : (assignEach es X.env).findIdx? (·.1) = none := by rfl) : HG X (.Tuple es k pos) (gTup3 n gs) :=
 (pg_tup hc h hn hst).imp fun v σ H Q2 ⟨t, ρ, M, Q, q, r, hr, hh, en⟩ => by
   unfold gTup3 at q
   split at q
   · rename_i ts
     obtain ⟨a, xs, rfl, g1, g2⟩ := inv_tup r
     exact ⟨a, xs, rfl, g1, by rw [g2.length]; exact q.1, ts, ρ, M, Q, q.2, g2, hr, hh, en⟩
   · exact q.elim
noncomputable def gSub3 (to ti : TE3) : TG3 := fun v ρ M Q => to ρ M fun o M1 => ti ρ M1 fun i M2 => match o, i with
 | .adr p, .int k => (match M2 p with
   | some (.lst ts) => (match ixN ts.length k with | some j => Q ρ (updM M2 p (.lst (ts.set j v))) | none => False)
   | _ => False)
 | _, _ => False
theorem g_sub {o i : Expr} {to ti : TE3} (ho : HE X o to) (hi : HE X i ti)
   (ha : ∀ v, assign (.Subscript o i pos) X.env v = (do
     let ov ← holding [v] (eval o X.env)
     let iv ← holding [v, ov] (eval i X.env)
     standAt pos
     holding [v, ov, iv] (setItem ov iv v)
     release [v, ov, iv] []) := by intro _; rfl) : HG X (.Subscript o i pos) (gSub3 to ti) := by
 intro pins s σ H v u Q2 I r h
 obtain ⟨t, ρ, M, Q, q, rt, hr, hh, en⟩ := h
 refine pg_sub (ho.d (ρ := ρ)) (hi.d (ρ := ρ)) set_list ha pins s σ H v u Q2 I r ?_
 refine ⟨M, _, q, hr, hh, fun ot ov M1 H1 k1 h1 r1 q1 => ⟨M1, _, q1, hr.kp k1, h1, fun it iv M2 H2 k2 h2 r2 q2 => ?_⟩⟩
 dsimp only at q2
 split at q2
 · obtain rfl := inv_adr r1
   obtain rfl := inv_int r2
   split at q2
   · rename_i ts e0
     obtain ⟨xs, g1, g2⟩ := h2 _ _ e0
     split at q2
     · rename_i j ej
       have kk := k1.trans k2
       refine ⟨_, xs, _, j, rfl, rfl, g1, by rw [g2.length]; exact ej, en _ _ σ _ (kk.trans (Kp.lst g1)) (hr.kp (kk.trans (Kp.lst g1))) (h2.setL g1 (g2.set (Rep.kp kk _ _ rt) j)) q2⟩
     · exact q2.elim
   · exact q2.elim
 · exact q2.elim
noncomputable def tAsg3 (te : TE3) (g : TG3) : TS3 := fun D ρ M => te ρ M fun x M1 => g x ρ M1 D.nx
theorem s_asg {tg : Expr} {g : TG3} (he : HE X e te) (hg : HG X tg g) (hs : swapsWithSole [tg] e pos.line X.env = pure false := by rfl) (hw : swappedStores [tg] e X.env = pure none := by rfl)
   (h1 : (assignEach [tg] X.env).map (·.2) = [assign tg X.env] := by rfl) : HS X (.Assign [tg] e pos) (tAsg3 te g) := fun D ρ M h =>
 (ps_asg (he.d (ρ := ρ)) hg hs hw h1).imp fun D2 σ H ⟨hr, hh, en⟩ => ⟨M, _, h, hr, hh, fun t v M1 H1 k1 h1 r1 q1 => ⟨t, ρ, M1, D.nx, q1, r1, hr.kp k1, h1, fun ρ' M' σ' H' k r hh' q => en.nx ρ' M' σ' H' (k1.trans k) r hh' q⟩⟩
structure It3 where
 items : List T
 stay : MH → Prop := fun _ => True
noncomputable abbrev TI3 := En → MH → (It3 → MH → Prop) → Prop
structure ItOk (K : PySem.W.Frag) (H : Hp) (J2 : It) (J : It3) : Prop where
 stop : ∀ H' M', Kp K H H' → HR K H' M' → J.stay M' → J2.stop J.items.length H'
 go : ∀ (i : Nat) (x : T) H' M', J.items[i]? = some x → Kp K H H' → HR K H' M' → J.stay M' → J2.go i H' ∧ ∀ v H'', J2.yld i H' v H'' → Kp K H' H'' ∧ HR K H'' M' ∧ Rep K H'' v x
noncomputable def HI (X : Cx) (tg iter : Expr) (wi : TI3) : Prop := ∀ ρ M R, wi ρ M R → PI X tg iter (fun σ H R2 => RhoR X.K σ H ρ ∧ HR X.K H M ∧ ∀ J J2 M' H', Kp X.K H H' → HR X.K H' M' → ItOk X.K H' J2 J → R J M' → R2 J2 H')
noncomputable def dI (K : PySem.W.Frag) (ρ : En) (wi : TI3) : TI := fun σ H R2 => ∃ M R, wi ρ M R ∧ RhoR K σ H ρ ∧ HR K H M ∧ ∀ J J2 M' H', Kp K H H' → HR K H' M' → ItOk K H' J2 J → R J M' → R2 J2 H'
theorem HI.d {tg iter : Expr} {wi : TI3} {ρ : En} (h : HI X tg iter wi) : PI X tg iter (dI X.K ρ wi) := fun pins s σ H R I ⟨M, R3, q, b⟩ => h ρ M R3 q pins s σ H R I b
theorem PI.imp {tg iter : Expr} {w w' : TI} (h : PI X tg iter w) (f : ∀ σ H R, w' σ H R → w σ H R) : PI X tg iter w' := fun pins s σ H R I q => h pins s σ H R I (f σ H R q)
noncomputable def iSeq3 (tl : TE3) : TI3 := fun ρ M R => tl ρ M fun x M1 => match x with
 | .tup ts => R ⟨ts, fun _ => True⟩ M1
 | .adr p => (match M1 p with | some (.lst ts) => R ⟨ts, fun M' => M' p = some (.lst ts)⟩ M1 | _ => False)
 | _ => False
theorem itok_tup {K : PySem.W.Frag} {H : Hp} {a : Addr} {xs : List V} {ts : List T} (h : SqT K H a xs) (r : Reps K H xs ts) : ItOk K H (Itt K a) ⟨ts, fun _ => True⟩ := by
 refine ⟨fun H' M' k hh _ => ⟨xs, k.tup _ _ h, by rw [r.length]; exact Nat.le_refl _⟩, fun i x H' M' e k hh _ => ?_⟩
 obtain ⟨v, e1, r1⟩ := r.get e
 refine ⟨⟨xs, v, k.tup _ _ h, e1⟩, fun v' H'' y => ?_⟩
 obtain ⟨rfl, y⟩ := y
 have := y xs (k.tup _ _ h)
 rw [e1] at this; cases this
 exact ⟨Kp.refl, hh, Rep.kp k _ _ r1⟩
theorem itok_lst {K : PySem.W.Frag} {H : Hp} {a : Addr} {ts : List T} : ItOk K H (Itl K a) ⟨ts, fun M' => M' a = some (.lst ts)⟩ := by
 refine ⟨fun H' M' k hh st => ?_, fun i x H' M' e k hh st => ?_⟩
 · obtain ⟨xs, g1, g2⟩ := hh _ _ st
   exact ⟨xs, SqL.of g1, by rw [g2.length]; exact Nat.le_refl _⟩
 · obtain ⟨xs, g1, g2⟩ := hh _ _ st
   obtain ⟨v, e1, r1⟩ := g2.get e
   refine ⟨⟨xs, v, SqL.of g1, e1⟩, fun v' H'' y => ?_⟩
   obtain ⟨rfl, y⟩ := y
   have := y xs (SqL.of g1)
   rw [e1] at this; cases this
   exact ⟨Kp.refl, hh, r1⟩
noncomputable def rangeT (lo : Int) (n : Nat) : List T := (List.range n).map fun i => T.int (lo + (i : Nat))
theorem itok_range {K : PySem.W.Frag} {H : Hp} {lo : Int} {n : Nat} : ItOk K H (Itr lo n) ⟨rangeT lo n, fun _ => True⟩ := by
 have hl : (rangeT lo n).length = n := by unfold rangeT; simp
 refine ⟨fun H' M' k hh _ => by show n ≤ (rangeT lo n).length; rw [hl]; exact Nat.le_refl _, fun i x H' M' e k hh _ => ?_⟩
 have hi : i < n := by have := (List.getElem?_eq_some_iff.mp e).1; rwa [hl] at this
 have ex : x = .int (lo + (i : Nat)) := by
   unfold rangeT at e
   rw [List.getElem?_map, List.getElem?_range hi] at e
   exact (Option.some.inj e).symm
 subst ex
 refine ⟨hi, fun v H'' y => ?_⟩
 obtain ⟨rfl, rfl⟩ := y
 exact ⟨Kp.refl, hh, rep_int⟩
theorem i_seq {tg l : Expr} {tl : TE3} (hl : HE X l tl) : HI X tg l (iSeq3 tl) := by
 intro ρ M R h pins s σ H R2 I b
 obtain ⟨hr, hh, en⟩ := b
 refine thn (hl ρ M _ h pins s σ H (fun v H1 => ∃ t M1, Kp X.K H H1 ∧ HR X.K H1 M1 ∧ Rep X.K H1 v t ∧ (match t with
   | .tup ts => R ⟨ts, fun _ => True⟩ M1
   | .adr p => (match M1 p with | some (.lst ts) => R ⟨ts, fun M' => M' p = some (.lst ts)⟩ M1 | _ => False)
   | _ => False)) I ⟨hr, hh, fun t v M1 H1 k1 h1 r1 q1 => ⟨t, M1, k1, h1, r1, q1⟩⟩) fun v s1 ⟨x, H1, I1, rv, t, M1, k1, h1, r1, q1⟩ => ?_
 split at q1
 · rename_i ts
   obtain ⟨a, xs, rfl, g1, g2⟩ := inv_tup r1
   cases rv
   obtain ⟨its, rv, p, hz⟩ := I1.tuple g1
   refine wpAny_pyIter_tuple (show s1.heap.IsTuple a its.toArray from p) ?_
   refine ⟨s1.heap.objs.size, [s1.heap.objs.size], _, _, H1, rfl, I1.kept (t' := s1.toks) fun b o e => Heap.get?_push_of_some _ e, turn_tuple a _, ⟨_, Heap.get?_push_size _ rfl, rfl, rfl⟩, fun b hb => ?_, en _ _ M1 H1 k1 h1 (itok_tup g1 g2) q1⟩
   have e : b = s1.heap.objs.size := by simpa using hb
   subst e
   exact I1.fpOk (Nat.le_refl _) (I1.hok.fresh (Nat.le_refl _))
 · rename_i a
   obtain rfl := inv_adr r1
   cases rv
   split at q1
   · rename_i ts e0
     obtain ⟨xs, g1, g2⟩ := h1 _ _ e0
     obtain ⟨its, rv, p, hz⟩ := I1.list (SqL.of g1)
     refine wpAny_pyIter_list p.isList ?_
     refine ⟨s1.heap.objs.size, [s1.heap.objs.size], _, _, H1, rfl, I1.kept (t' := s1.toks) fun b o e => Heap.get?_push_of_some _ e, turn_list a _, ⟨_, Heap.get?_push_size _ rfl, rfl, rfl⟩, fun b hb => ?_, en _ _ M1 H1 k1 h1 itok_lst q1⟩
     have e : b = s1.heap.objs.size := by simpa using hb
     subst e
     exact I1.fpOk (Nat.le_refl _) (I1.hok.fresh (Nat.le_refl _))
   · exact q1.elim
 · exact q1.elim
noncomputable def iRng1_3 (t : TA3) : TI3 := fun ρ M R => t ρ M fun xs M1 => match xs with
 | [.int j] => -(2 ^ 62) ≤ j ∧ j < 2 ^ 62 ∧ R ⟨rangeT 0 j.toNat, fun _ => True⟩ M1
 | _ => False
noncomputable def iRng2_3 (t : TA3) : TI3 := fun ρ M R => t ρ M fun xs M1 => match xs with
 | [.int i, .int j] => (-(2 ^ 62) ≤ i ∧ i < 2 ^ 62 ∧ -(2 ^ 62) ≤ j ∧ j < 2 ^ 62) ∧ R ⟨rangeT i (j - i).toNat, fun _ => True⟩ M1
 | _ => False
theorem i_range1 {tg : Expr} {t : TA3} {p : Pos} (hm : X.mg "range" = none) (ha : HA X [a] t) (hg : Gl X "range" := by rfl) (hs : starEach [a] X.env = [(false, eval a X.env)] := by rfl) : HI X tg (.Call (.Name "range" p) [a] [] pos) (iRng1_3 t) := fun ρ M R h =>
 (pi_range1 hg hm (ha.d (ρ := ρ)) hs).imp fun σ H R2 ⟨hr, hh, en⟩ => ⟨M, _, h, hr, hh, fun ts vs M1 H1 k1 h1 r1 q1 => by
   dsimp only at q1
   split at q1
   · rename_i j
     obtain ⟨v, rfl, rv⟩ := reps1 r1
     obtain rfl := inv_int rv
     exact ⟨j, rfl, q1.1, q1.2.1, en _ _ M1 H1 k1 h1 itok_range q1.2.2⟩
   · exact q1.elim⟩
theorem i_range2 {tg : Expr} {t : TA3} {p : Pos} (hm : X.mg "range" = none) (ha : HA X [a, b] t) (hg : Gl X "range" := by rfl) (hs : starEach [a, b] X.env = [(false, eval a X.env), (false, eval b X.env)] := by rfl) (hs2 : starEach [b] X.env = [(false, eval b X.env)] := by rfl) : HI X tg (.Call (.Name "range" p) [a, b] [] pos) (iRng2_3 t) := fun ρ M R h =>
 (pi_range2 hg hm (ha.d (ρ := ρ)) hs hs2).imp fun σ H R2 ⟨hr, hh, en⟩ => ⟨M, _, h, hr, hh, fun ts vs M1 H1 k1 h1 r1 q1 => by
   dsimp only at q1
   split at q1
   · rename_i i j
     obtain ⟨v, w', rfl, rv, rw'⟩ := reps2 r1
     obtain rfl := inv_int rv
     obtain rfl := inv_int rw'
     exact ⟨i, j, rfl, q1.1, en _ _ M1 H1 k1 h1 itok_range q1.2⟩
   · exact q1.elim⟩
noncomputable def tFor3 (wi : TI3) (g : TG3) (tb : TS3) : TS3 := fun D ρ M => wi ρ M fun J M1 => ∃ W : Nat → En → MH → Prop, W 0 ρ M1 ∧ (∀ i ρ M, W i ρ M → J.stay M) ∧
 (∀ i x ρ M, J.items[i]? = some x → W i ρ M → g x ρ M fun ρ2 M2 => tb { D with nx := W (i + 1), ct := W (i + 1), bk := D.nx } ρ2 M2) ∧ ∀ ρ M, W J.items.length ρ M → D.nx ρ M
theorem s_for {tg iter : Expr} {wi : TI3} {g : TG3} {tb : TS3} (hp : PassesOwn (model X.prog X.w) X.A X.env X.xe) (hc : X.calm = true) (hi : HI X tg iter wi) (hg : HG X tg g) (hb : HSs X body tb)
   (hs : ∀ x, foldedSetIterable iter X.env x = pure x := by intro _; rfl) : HS X (.For tg iter body [] pos) (tFor3 wi g tb) := fun D ρ0 M0 h =>
 (ps_for hp hc (hi.d (ρ := ρ0)) hg hb.d hs).imp fun D2 σ0 H0 ⟨hr0, hh0, en⟩ => ⟨M0, _, h, hr0, hh0, fun J J2 M1 H1 k1 h1 ok q1 => by
   obtain ⟨W, w0, wst, turn, fin⟩ := q1
   refine ⟨fun i m σ H => m = J.items.length - i ∧ i ≤ J.items.length ∧ Kp X.K H1 H ∧ ∃ ρ M, RhoR X.K σ H ρ ∧ HR X.K H M ∧ W i ρ M, ⟨_, rfl, Nat.zero_le _, Kp.refl, ρ0, M1, hr0.kp k1, h1, w0⟩, ?_⟩
   rintro i m σ H ⟨rfl, hi, kk, ρ, M, hr, hh, w⟩
   have st := wst i ρ M w
   by_cases hlt : i < J.items.length
   · have e : J.items[i]? = some J.items[i] := List.getElem?_eq_getElem hlt
     obtain ⟨go, yl⟩ := ok.go i _ H M e kk hh st
     refine .inr ⟨go, fun σ' H' => i + 1 ≤ J.items.length ∧ Kp X.K H1 H' ∧ ∃ ρ M, RhoR X.K σ' H' ρ ∧ HR X.K H' M ∧ W (i + 1) ρ M, fun σ' H' ⟨a, b, c⟩ => ⟨_, by lia, rfl, a, b, c⟩, fun v H' y => ?_⟩
     obtain ⟨k2, h2, r2⟩ := yl v H' y
     refine ⟨J.items[i], ρ, M, _, turn i _ ρ M e w, r2, hr.kp k2, h2, fun ρ3 M3 σ3 H3 k3 hr3 hh3 q3 => ⟨_, ρ3, M3, q3, hr3, hh3, ?_⟩⟩
     have kall := kk.trans (k2.trans k3)
     refine ⟨fun ρ4 M4 σ4 H4 k4 hr4 hh4 q4 => ⟨hlt, kall.trans k4, ρ4, M4, hr4, hh4, q4⟩, fun t v M4 H4 k4 h4 r4 q4 => en.rt t v M4 H4 (k1.trans (kall.trans k4)) h4 r4 q4, fun ρ4 M4 σ4 H4 k4 hr4 hh4 q4 => en.nx ρ4 M4 σ4 H4 (k1.trans (kall.trans k4)) hr4 hh4 q4, fun ρ4 M4 σ4 H4 k4 hr4 hh4 q4 => ⟨hlt, kall.trans k4, ρ4, M4, hr4, hh4, q4⟩⟩
   · have e : i = J.items.length := by lia
     subst e
     exact .inl ⟨ok.stop H M kk hh st, en.nx ρ M σ H (k1.trans kk) hr hh (fin ρ M w)⟩⟩
noncomputable def pick3 (ix : List (Option Nat)) (ρ : En) : En := ix.map fun o => match o with | some j => (ρ[j]?).join | none => none
theorem rho_pick {K : PySem.W.Frag} {σ : St} {H : Hp} {ρ : En} (ix : List (Option Nat)) (h : RhoR K σ H ρ) : RhoR K (pick ix σ) H (pick3 ix ρ) := by
 refine ⟨by unfold pick pick3; simp, fun i t e => ?_⟩
 unfold pick3 at e
 unfold pick
 rw [List.getElem?_map] at e ⊢
 cases hx : ix[i]? with
 | none => rw [hx] at e; cases e
 | some o =>
   rw [hx] at e
   cases o with
   | none =>
     have e' : (none : Option T) = some t := Option.some.inj e
     cases e'
   | some j =>
     have e' : (ρ[j]?).join = some t := Option.some.inj e
     cases hj : ρ[j]? with
     | none => rw [hj] at e'; cases e'
     | some u =>
       rw [hj] at e'
       have e2 : u = some t := e'
       subst e2
       obtain ⟨v, a, b⟩ := h.2 j t hj
       exact ⟨v, by show some ((σ[j]?).join) = some (some v); rw [a] <;> rfl, b⟩
noncomputable def tComp3 (wi : TI3) (ix : List (Option Nat)) (g : TG3) (tt : TT3) (te : TE3) : TE3 := fun ρ M Q => wi ρ M fun J M1 => ∃ W : Nat → List T → MH → Prop, W 0 [] M1 ∧ (∀ i ys M, W i ys M → J.stay M) ∧ J.items.length < sizeLine ∧
 (∀ i x ys M, J.items[i]? = some x → W i ys M → g x (pick3 ix ρ) M fun ρ2 M2 => tt ρ2 M2 fun ok M3 => if ok = true then te ρ2 M3 fun y M4 => W (i + 1) (ys ++ [y]) M4 else W (i + 1) ys M3) ∧
 ∀ ys M, W J.items.length ys M → ∀ p, M p = none → Q (.adr p) (updM M p (.lst ys))
noncomputable def HTs (X : Cx) (ifs : List Expr) (t : TT3) : Prop := ∀ ρ M Q, t ρ M Q → PTs X ifs (bT X.K ρ M Q)
noncomputable def tYes3 : TT3 := fun _ M Q => Q true M
theorem ts_nil : HTs X [] tYes3 := fun ρ M Q h pins s σ H Q2 I ⟨hr, hh, en⟩ => pts_nil pins s σ H Q2 I (en true M H Kp.refl hh h)
theorem ts_one {c : Expr} {t : TT3} (h : HT X c t) : HTs X [c] t := fun ρ M Q q => pts_one (h ρ M Q q)
end
end L2
namespace L2
open PySem PySem.Spec PyProof.Rows
noncomputable def dEx (K : PySem.W.Frag) (t : TE3) : TE := fun σ H Q2 => ∃ ρ M Q, t ρ M Q ∧ bE K ρ M Q σ H Q2
noncomputable def dTx (K : PySem.W.Frag) (t : TT3) : TT := fun σ H Q2 => ∃ ρ M Q, t ρ M Q ∧ bT K ρ M Q σ H Q2
section
variable {X : Cx} {e : Expr}
theorem HE.dx {t : TE3} (h : HE X e t) : PE X e (dEx X.K t) := fun pins s σ H Q I ⟨ρ, M, Q3, q, b⟩ => h ρ M Q3 q pins s σ H Q I b
theorem HTs.dx {ifs : List Expr} {t : TT3} (h : HTs X ifs t) : PTs X ifs (dTx X.K t) := fun pins s σ H Q I ⟨ρ, M, Q3, q, b⟩ => h ρ M Q3 q pins s σ H Q I b
structure BTg (K : PySem.W.Frag) (ix : List (Option Nat)) (g2 : TG) (g3 : TG3) : Prop where
 own : Own ix g2
 br : ∀ (t : T) (v : V) (ρ : En) (M : MH) (σ : St) (H : Hp) (Q3 : En → MH → Prop) (Q2 : St → Hp → Prop), Rep K H v t → RhoR K σ H ρ → HR K H M → g3 t ρ M Q3 → EndG K H Q3 Q2 → g2 v σ H Q2
theorem bt_name {K : PySem.W.Frag} {ix : List (Option Nat)} {i : Nat} (h : ix[i]? = some none := by rfl) : BTg K ix (gName i) (gName3 i) :=
 ⟨own_name h, fun t v ρ M σ H Q3 Q2 r hr hh q en => en _ M _ H Kp.refl (hr.set i r) hh q⟩
theorem bt_tup2 {K : PySem.W.Frag} {ix : List (Option Nat)} {i j : Nat} (h : ix[i]? = some none := by rfl) (h' : ix[j]? = some none := by rfl) : BTg K ix (gTup K 2 (gCons (gName i) (gCons (gName j) gNil))) (gTup3 2 (gCons3 (gName3 i) (gCons3 (gName3 j) gNil3))) := by
 refine ⟨own_tup (owns_cons gmono_name (own_name h) (owns_cons gmono_name (own_name h') owns_nil)), fun t v ρ M σ H Q3 Q2 r hr hh q en => ?_⟩
 unfold gTup3 at q
 split at q
 · rename_i ts
   obtain ⟨a, xs, rfl, g1, g2⟩ := inv_tup r
   obtain ⟨hl, q⟩ := q
   match ts, hl, g2, q with
   | [x, y], _, g2, q =>
     obtain ⟨v1, v2, rfl, r1, r2⟩ := reps2 g2
     refine ⟨a, _, rfl, g1, rfl, v1, [v2], rfl, v2, [], rfl, rfl, ?_⟩
     exact en _ M _ H Kp.refl ((hr.set i r1).set j r2) hh q.2
 · exact q.elim
variable {elt iter tg : Expr} {ifs : List Expr} {pos : Pos} {scope : Scope} {N' : List Str} {ix : List (Option Nat)} {wi : TI3} {g2 : TG} {g3 : TG3} {tt : TT3} {te : TE3}
theorem comp_red {X : Cx} {N' : List Str} {ix : List (Option Nat)} {wi : TI3} {g2 : TG} {g3 : TG3} {tt : TT3} {te : TE3} (bt : BTg X.K ix g2 g3) (ρ0 : En) (M0 : MH) (Q : VK3) (h : tComp3 wi ix g3 tt te ρ0 M0 Q) (σ0 : St) (H0 : Hp) (Q2 : VK) (bb : bE X.K ρ0 M0 Q σ0 H0 Q2) :
   tComp (dI X.K ρ0 wi) ix g2 (dTx X.K tt) (dEx X.K te) σ0 H0 Q2 := by
 obtain ⟨hr0, hh0, en⟩ := bb
 exact ⟨M0, _, h, hr0, hh0, fun J J2 M1 H1 k1 h1 ok q1 => by
   obtain ⟨W, w0, wst, hsz, turn, fin⟩ := q1
   refine ⟨fun i m ys H => m = J.items.length - i ∧ i ≤ J.items.length ∧ ys.length ≤ i ∧ Kp X.K H1 H ∧ ∃ ts M, Reps X.K H ys ts ∧ HR X.K H M ∧ W i ts M, ⟨_, rfl, Nat.zero_le _, Nat.zero_le _, Kp.refl, [], M1, .nil, h1, w0⟩, ?_⟩
   rintro i m ys H ⟨rfl, hi, hy, kk, ts, M, rts, hh, w⟩
   have st := wst i ts M w
   by_cases hlt : i < J.items.length
   · have e : J.items[i]? = some J.items[i] := List.getElem?_eq_getElem hlt
     obtain ⟨go, yl⟩ := ok.go i _ H M e kk hh st
     refine .inr ⟨go, by lia, fun v H' y => ?_⟩
     obtain ⟨k2, h2, r2⟩ := yl v H' y
     have kk2 := kk.trans k2
     refine bt.br J.items[i] v _ M _ H' _ _ r2 (rho_pick ix (hr0.kp (k1.trans kk2))) h2 (turn i _ ts M e w) fun ρ3 M3 σ3 H3 k3 hr3 hh3 q3 => ⟨ρ3, M3, _, q3, hr3, hh3, fun b M4 H4 k4 h4 q4 => ?_⟩
     have kk4 := kk2.trans (k3.trans k4)
     dsimp only at q4 ⊢
     cases b with
     | true =>
       rw [if_pos rfl] at q4 ⊢
       refine ⟨ρ3, M4, _, q4, hr3.kp k4, h4, fun t5 v5 M5 H5 k5 h5 r5 q5 => ⟨_, Nat.sub_lt_sub_left hlt (Nat.lt_succ_self i), rfl, hlt, ?_, kk4.trans k5, ts ++ [t5], M5, ?_, h5, q5⟩⟩
       · rw [List.length_append, List.length_singleton]; lia
       · exact (Reps.kp (k2.trans (k3.trans (k4.trans k5))) _ _ rts).append (.cons r5 .nil)
     | false =>
       rw [if_neg Bool.false_ne_true] at q4 ⊢
       exact ⟨_, Nat.sub_lt_sub_left hlt (Nat.lt_succ_self i), rfl, hlt, by lia, kk4, ts, M4, Reps.kp (k2.trans (k3.trans k4)) _ _ rts, h4, q4⟩
   · have e : i = J.items.length := by lia
     subst e
     refine .inl ⟨ok.stop H M kk hh st, by lia, fun p hp => ?_⟩
     exact en _ _ _ _ (k1.trans (kk.trans (Kp.new hp))) (hh.newL hp rts) rep_adr (fin ts M w p (hh.free hp))⟩
theorem h_comp (hc : X.calm = true) (hi : HI X tg iter wi) (S : BlkScope X N' ix scope) (bt : BTg X.K ix g2 g3) (hg : ∀ C s H fp pins, PG (blk X N' scope C s H fp pins) tg g2)
   (ht : ∀ C s H fp pins, HTs (blk X N' scope C s H fp pins) ifs tt) (he : ∀ C s H fp pins, HE (blk X N' scope C s H fp pins) elt te)
   (hs : ∀ x, foldedSetIterable iter X.env x = pure x := by intro _; rfl) :
   HE X (.ListComp elt [⟨tg, iter, ifs, 0⟩] scope pos) (tComp3 wi ix g3 tt te) := fun ρ0 M0 Q h =>
 (pe_comp (tt := dTx X.K tt) (te := dEx X.K te) hc (hi.d (ρ := ρ0)) S bt.own hg (fun C s H fp pins => (ht C s H fp pins).dx) (fun C s H fp pins => (he C s H fp pins).dx) hs).imp fun σ0 H0 Q2 bb => comp_red (X := X) (N' := N') bt ρ0 M0 Q h σ0 H0 Q2 bb
theorem s_setC {i : Nat} {x : Str} {pos' spos : Pos} (hc : X.calm = true) (hi : HI X tg iter wi) (S : BlkScope X N' ix scope) (bt : BTg X.K ix g2 g3) (hg : ∀ C s H fp pins, PG (blk X N' scope C s H fp pins) tg g2)
   (ht : ∀ C s H fp pins, HTs (blk X N' scope C s H fp pins) ifs tt) (he : ∀ C s H fp pins, HE (blk X N' scope C s H fp pins) elt te) (hN : X.N.Nodup) (hi' : X.N[i]? = some x := by rfl) (hx : Loc X.env.scope x := by first | exact Or.inl rfl | exact Or.inr rfl)
   (hsw : swapsWith (.ListComp elt [⟨tg, iter, ifs, 0⟩] scope pos) (some (.Name x pos')) spos.line X.env = pure true := by rfl)
   (hs : ∀ x, foldedSetIterable iter X.env x = pure x := by intro _; rfl) (hf : X.fn x = true ∨ X.env.scope.names.lookup x = some .local := by first | exact .inl rfl | exact .inr rfl | assumption) :
   HS X (.Assign [.Name x pos'] (.ListComp elt [⟨tg, iter, ifs, 0⟩] scope pos) spos) (tSet3 i (tComp3 wi ix g3 tt te)) := fun D ρ M h =>
 (ps_setC (tt := dTx X.K tt) (te := dEx X.K te) hN hi' hx hc (hi.d (ρ := ρ)) S bt.own hg (fun C s H fp pins => (ht C s H fp pins).dx) (fun C s H fp pins => (he C s H fp pins).dx) hsw hs hf).imp fun D2 σ H ⟨hr, hh, en⟩ =>
   comp_red (X := X) (N' := N') bt ρ M (fun x M1 => D.nx (ρ.set i (some x)) M1) h σ H _ ⟨hr, hh, fun t v M1 H1 k1 h1 r1 q1 => en.nx _ M1 _ H1 k1 ((hr.kp k1).set i r1) h1 q1⟩
noncomputable def start3 (N : List Str) (ts : List T) : En := ts.map some ++ List.replicate (N.length - ts.length) none
theorem rho_start {K : PySem.W.Frag} {H : Hp} {N : List Str} {vs : List V} {ts : List T} (r : Reps K H vs ts) : RhoR K (start N vs) H (start3 N ts) := by
 have hl := r.length
 refine ⟨by unfold start start3; simp [hl], fun i t e => ?_⟩
 unfold start3 at e
 unfold start
 by_cases hi : i < ts.length
 · rw [List.getElem?_append_left (by simpa using hi), List.getElem?_map] at e
   cases q : ts[i]? with
   | none => rw [q] at e; cases e
   | some u =>
     rw [q] at e
     cases e
     obtain ⟨v, a, b⟩ := r.get q
     refine ⟨v, ?_, b⟩
     rw [List.getElem?_append_left (by simpa [hl] using hi), List.getElem?_map, a]
     rfl
 · rw [List.getElem?_append_right (by simpa using hi), List.getElem?_replicate] at e
   split at e <;> cases e
noncomputable def rt3 (M : MH) (Q : VK3) : VK3 := fun t M' => ∃ M0, Sub M0 M' ∧ Q t M0
end
section
variable {P : Program} {w : World} {K : PySem.W.Frag} {mg : Str → Option Value} {base : Heap}
theorem Fun.fnk {x qual : Str} {st : Stmt} {f : Addr} {fd : FuncData} {N ps : List Str} {n : Nat} {sp : Sp3} (F : Fun K x qual st f fd) (S : FnScope N ps (defScope st)) (len : ∀ ts M Q, sp ts M Q → ts.length = ps.length)
   (hbody : ∃ t : TS3, (∀ (cdv : Value) (A : Around) (outer : List Env) (s : Shared) (H : Hp) (E : XK), Room n (A.deeper (envOfC qual (defScope st) s.heap.objs.size f cdv)) →
     HSs (cxOf CX0 P w K mg base N qual (defScope st) f cdv A outer s H E).nox (defBody st) t) ∧
     ∀ ts M Q, sp ts M Q → t { nx := fun _ M' => rt3 M Q .non M', rt := rt3 M Q } (start3 N ts) M) : FnOk P w K mg base CX0 (n + 1) f fd ps (dSp K sp) := by
 obtain ⟨t, hbody, rd⟩ := hbody
 refine F.ok S (fun vs H Q E ⟨ts, M, Q3, r, _, q, _⟩ => by rw [r.length]; exact len _ _ _ q) (fun cdv A outer s H vs Q E hr ⟨ts, M, Q3, r, hh, q, en⟩ => ?_)
 refine ⟨_, hbody cdv A outer s H E hr _ _ _ (rd ts M Q3 q), rho_start r, hh, ⟨?_, ?_, fun _ _ _ _ _ _ _ z => z.elim, fun _ _ _ _ _ _ _ z => z.elim⟩⟩
 · rintro ρ' M' σ' H' k hr' hh' ⟨M0, hs, q'⟩
   exact en .non .non M0 H' k (hh'.sub hs) rep_non q'
 · rintro t' v' M' H' k hh' r' ⟨M0, hs, q'⟩
   exact en t' v' M0 H' k (hh'.sub hs) r' q'
theorem Fun.dfn {x qual : Str} {st : Stmt} {f : Addr} {fd : FuncData} {N ps : List Str} {n : Nat} {sp : Sp3} (F : Fun K x qual st f fd) (hm : mg x = some (.ref f)) (hb : Binds K fd ps []) (S : FnScope N ps (defScope st)) (len : ∀ ts M Q, sp ts M Q → ts.length = ps.length)
   (hbody : ∃ t : TS3, (∀ (cdv : Value) (A : Around) (outer : List Env) (s : Shared) (H : Hp) (E : XK), Room n (A.deeper (envOfC qual (defScope st) s.heap.objs.size f cdv)) →
     HSs (cxOf CX0 P w K mg base N qual (defScope st) f cdv A outer s H E).nox (defBody st) t) ∧
     ∀ ts M Q, sp ts M Q → t { nx := fun _ M' => rt3 M Q .non M', rt := rt3 M Q } (start3 N ts) M) : Df P w K mg base (n + 1) x ps sp :=
 ⟨f, fd, F.fnk S len hbody, hm, F.kp, hb⟩
end
theorem law_walk {l : PySem.W.OpenLaw} {k : Nat} {q : Program} {loose : List Str} {XP : (Str → Option Value) → Heap → Prop} {YP : World → Heap → Prop} {d : DefRec} {K : Params → PySem.W.Frag} {sp : Sp3}
   (hn : l.most = some 63) (hdf : d.params.defaults = []) (hr : Room k callerA) (hY : ∀ (w : World) (h : Heap), YP w h → (K w.params).In h)
   (hs : ∀ (ns : List Int) M Q, ns.length ≤ 63 → Q (.bl true) M → sp [.rd (ns.map .int)] M Q)
   (F : ∀ (w : World) (mg : Str → Option Value) (fa : Addr) (h : Heap), (K w.params).In h → h.Ns mainGlobals mg → mg d.name = some (.ref fa) →
     ∃ fd : FuncData, (∀ (s : Shared) (u : Value), BindsTo s fd ⟨[u], []⟩ [("script", u)]) ∧ ∀ base : Heap, (K w.params).In base → base.Ns mainGlobals mg → FnOk l.prog w (K w.params) mg base CX0 k fa fd ["script"] (dSp (K w.params) sp)) :
   PySem.W.WalkO q loose XP YP l.row.toRowW d [] (fun f vs => PySem.call f vs) := by
 refine L2.walk_of (n := 63) (k := k) (x := "script") (CX := fun _ => CX0) (sp := fun w => dSp (K w.params) sp) hn (by decide) hdf hr hY F (fun w H a ns hl hO hS => ?_) fun _ _ _ _ _ z => z
 have fz : FzL (K w.params) H a (ns.map V.int) := by
   rcases hS with (h | ⟨o, h⟩) | h
   · rcases hO a with z | ⟨ob, xs, z⟩
     · rw [h] at z; cases z
     · rw [h] at z; cases z
   · exact .inl ⟨o, h⟩
   · exact .inr h
 refine ⟨[.rd (ns.map .int)], fun _ => none, fun t _ => t = .bl true, .cons ?_ .nil, (fun _ _ z => by cases z), hs ns _ (fun t _ => t = .bl true) hl rfl, fun t v M' H' _ _ r e => ?_⟩
 · unfold Rep
   exact ⟨a, _, rfl, fz, Reps.of_ints ns⟩
 · subst e
   exact inv_bl r
end L2
namespace L2
open PySem PySem.Spec PyProof.Rows
theorem vals_of_get : ∀ {xs : List V} {us : List Value}, xs.length = us.length → (∀ (j : Nat) x, xs[j]? = some x → ∃ u, us[j]? = some u ∧ RelV x u) → Vals xs us
 | [], [], _, _ => .nil
 | [], _ :: _, h, _ => by simp at h
 | _ :: _, [], h, _ => by simp at h
 | x :: xs, u :: us, h, g => by
   refine .cons ?_ (vals_of_get (by simpa using h) fun j y e => ?_)
   · obtain ⟨w, e, r⟩ := g 0 x rfl
     have : u = w := by simpa using e
     subst this; exact r
   · obtain ⟨w, e', r⟩ := g (j + 1) y (by simpa using e)
     exact ⟨w, by simpa using e', r⟩
noncomputable def rangeV (lo : Int) (n : Nat) : List V := (List.range n).map fun i => V.int (lo + (i : Nat))
theorem rangeV_reps {K : PySem.W.Frag} {H : Hp} (lo : Int) (n : Nat) : Reps K H (rangeV lo n) (rangeT lo n) := by
 have e1 : rangeV lo n = ((List.range n).map fun i => lo + ((i : Nat) : Int)).map V.int := by unfold rangeV; rw [List.map_map]; rfl
 have e2 : rangeT lo n = ((List.range n).map fun i => lo + ((i : Nat) : Int)).map T.int := by unfold rangeT; rw [List.map_map]; rfl
 rw [e1, e2]; exact Reps.of_ints _
section
variable {X : Cx} {a b e : Expr} {es : List Expr} {ta te : TE3} {t : TA3} {pos : Pos}
noncomputable def tLRng1 (t : TA3) : TE3 := fun ρ M Q => t ρ M fun xs M1 => match xs with
 | [.int j] => (-(2 ^ 62) ≤ j ∧ j < 2 ^ 24) ∧ ∀ p, M1 p = none → Q (.adr p) (updM M1 p (.lst (rangeT 0 j.toNat)))
 | _ => False
theorem h_listRange1 {t : TA3} {p p' pos' : Pos} (hm : X.mg "list" = none) (hm' : X.mg "range" = none) (ha : HA X [a] t) (hc : X.calm = true := by rfl) (hg : Gl X "list" := by rfl) (hg' : Gl X "range" := by rfl) (hs : starEach [a] X.env = [(false, eval a X.env)] := by rfl)
   (he : starEach [.Call (.Name "range" p') [a] [] pos'] X.env = (false, eval (.Call (.Name "range" p') [a] [] pos') X.env) :: starEach [] X.env := by rfl) :
   HE X (.Call (.Name "list" p) [.Call (.Name "range" p') [a] [] pos'] [] pos) (tLRng1 t) := by
 intro ρ M Q h pins s σ H Q2 I bb
 obtain ⟨hr, hh, en⟩ := bb
 refine wpAny_Call_Name_kw (ld_blt I hg hm boot_list ?_ (by decide) (by decide))
 refine PyProof.Rows.callWith_type1 ?_ he rfl
 rw [he]
 refine Calls.spliced_cons ?_
 refine Call_ (ld_blt I hg' hm' boot_range (PyProof.Rows.callWith_type1 (thn (ha ρ M _ h pos' pins s σ H (fun vs H1 => ∃ j M1, vs = [V.int j] ∧ HR X.K H1 M1 ∧ Kp X.K H H1 ∧ (-(2 ^ 62) ≤ j ∧ j < 2 ^ 24) ∧ ∀ p, M1 p = none → Q (.adr p) (updM M1 p (.lst (rangeT 0 j.toNat)))) I
   ⟨hr, hh, fun ts vs M1 H1 k1 h1 r1 q1 => by
     dsimp only at q1
     split at q1
     · rename_i j
       obtain ⟨v, rfl, rv⟩ := reps1 r1
       obtain rfl := inv_int rv
       exact ⟨j, M1, rfl, h1, k1, q1.1, q1.2⟩
     · exact q1.elim⟩) fun us s1 ⟨vs, H1, I1, rv, j, M1, e1, h1, k1, hj, q1⟩ => ?_) hs rfl))
 subst e1
 obtain ⟨u, rfl, t', rfl⟩ := vals1 rv
 refine call_range_1 (Calls.spliced_nil ?_)
 have I2 : Inv X pins σ H1 { s1 with heap := s1.heap.push { cls := .type "range", data := .fields #[.int 0 s1.toks, .int j t', .int 1 (s1.toks + 1)] }, toks := s1.toks + 2 } := I1.kept fun b o e => Heap.get?_push_of_some _ e
 have hn : Builtin.Range.rangeSize 0 j 1 = ((j.toNat : Nat) : Int) := by rw [rangeSize_one]; split <;> lia
 refine call_list_range (I1.ok.hd hc) (IsRange.new ..) (small_one (by lia) (by lia) (by lia) (by lia)) hn (by lia) fun h' tk acc' c' kp e ito => ?_
 have hz : j.toNat ≤ sizeLine := by rw [sizeLine_eq]; lia
 have vr : Vals (rangeV 0 j.toNat) acc'.toList := by
   refine vals_of_get (by unfold rangeV; simp [ito.1]) fun i x ex => ?_
   have hi : i < j.toNat := by have := (List.getElem?_eq_some_iff.mp ex).1; simpa [rangeV] using this
   have hi' : i < acc'.size := by rw [ito.1]; exact hi
   have ea : acc'[i]? = some acc'[i] := Array.getElem?_eq_getElem hi'
   obtain ⟨tt, et⟩ := ito.2 i _ ea
   refine ⟨acc'[i], by rw [Array.getElem?_toList]; exact ea, ?_⟩
   unfold rangeV at ex
   rw [List.getElem?_map, List.getElem?_range hi] at ex
   have := Option.some.inj ex
   subst this
   exact ⟨tt, by rw [et, Int.mul_one]⟩
 have I3 := I2.laid (a := { s1 with heap := s1.heap.push { cls := .type "range", data := .fields #[.int 0 s1.toks, .int j t', .int 1 (s1.toks + 1)] }, toks := s1.toks + 2 }.heap.objs.size) (o := .lst (rangeV 0 j.toNat)) (t' := tk) kp (Nat.le_refl _)
   (show ObjOk X.prog X.w _ h' _ (.lst (rangeV 0 j.toNat)) from ⟨by unfold rangeV; simpa using hz, acc'.toList, c', vr, by simpa using e⟩)
 have hf := I2.hok.fresh (Nat.le_refl _)
 exact ⟨.ref _, _, I3, rfl, en _ _ _ _ (k1.trans (Kp.new hf)) (h1.newL hf (rangeV_reps 0 j.toNat)) rep_adr (q1 _ (h1.free hf))⟩
noncomputable def isLst (M : MH) (x : T) : Prop := match x with
 | .adr p => (match M p with | some (.lst _) => True | _ => False)
 | _ => False
noncomputable abbrev RM3 := T → List T → MH → VK3 → Prop
noncomputable def dM (K : PySem.W.Frag) (r : RM3) : V → List V → Hp → VK → Prop := fun v vs H Q2 => ∃ x xs M Q, Rep K H v x ∧ Reps K H vs xs ∧ HR K H M ∧ r x xs M Q ∧ EndE K H Q Q2
noncomputable def MtR3 (X : Cx) (id : String) (r : RM3) : Prop := MtR X id (dM X.K r)
noncomputable def tLM3 (r : RM3) (to : TE3) (t : TA3) : TE3 := fun ρ M Q => to ρ M fun x M1 => isLst M1 x ∧ t ρ M1 fun xs M2 => r x xs M2 Q
theorem isLst_ty {K : PySem.W.Frag} {H : Hp} {M : MH} {x : T} {v : V} (hh : HR K H M) (r : Rep K H v x) (h : isLst M x) : tyV K "list" v H := by
 unfold isLst at h
 split at h
 · rename_i p
   split at h
   · rename_i ts e
     obtain ⟨xs, g1, _⟩ := hh _ _ e
     obtain rfl := inv_adr r
     exact .inl ⟨rfl, xs, SqL.of g1⟩
   · exact h.elim
 · exact h.elim
theorem h_lm {o : Expr} {to : TE3} {name : Str} {apos cpos : Pos} {id : String} {r : RM3} (slot : Slot "list" name id) (hty : typeOf (.builtin id) = pure (.type "method_descriptor")) (hm : MtR3 X id r) (ho : HE X o to) (ha : HA X (e :: es) t)
   (hbase : attributeBase o name X.env (eval o X.env) = eval o X.env := by rfl)
   (hfew : ((backTo cpos (starEach (e :: es) X.env)).all (fun x => !x.1) && (backToKw cpos (keywordEach [] X.env)).all (fun x => x.1.isSome)
     && decide ((e :: es).length + ([] : List Keyword).length + (if ([] : List Keyword).isEmpty then 0 else 1) < 30)) = true := by rfl)
   (hline : (apos.endLine == cpos.line) = true := by rfl) (hs : starEach (e :: es) X.env = (false, eval e X.env) :: starEach es X.env := by rfl) (hplain : (backTo cpos (starEach es X.env)).any (·.1) = false := by rfl) :
   HE X (.Call (.Attribute o name apos) (e :: es) [] cpos) (tLM3 r to t) := fun ρ M Q h =>
 (pe_bm PySem.F.plainAttrs_list slot hty hm (ho.d (ρ := ρ)) (ha.d (ρ := ρ)) hbase hfew hline hs hplain).imp fun σ H Q2 ⟨hr, hh, en⟩ => ⟨M, _, h, hr, hh, fun x v M1 H1 k1 h1 r1 q1 => ⟨isLst_ty h1 r1 q1.1, M1, _, q1.2, hr.kp k1, h1, fun ts vs M2 H2 k2 h2 r2 q2 =>
   ⟨x, ts, M2, Q, Rep.kp k2 _ _ r1, r2, h2, q2, en.kp (k1.trans k2)⟩⟩⟩
noncomputable def rApp3 : RM3 := fun x xs M Q => match x, xs with
 | .adr p, [y] => (match M p with | some (.lst ts) => ts.length < sizeLine ∧ Q .non (updM M p (.lst (ts ++ [y]))) | _ => False)
 | _, _ => False
theorem mt3_append : MtR3 X "list.append" rApp3 := by
 intro pins s σ H v vs u us Q2 I rv rvs h
 obtain ⟨x, xs, M, Q, r1, r2, hh, q, en⟩ := h
 unfold rApp3 at q
 split at q
 · rename_i p y
   split at q
   · rename_i ts e0
     obtain ⟨ys, g1, g2⟩ := hh _ _ e0
     obtain rfl := inv_adr r1
     obtain ⟨w, rfl, rw'⟩ := reps1 r2
     exact mt_append pins s σ H _ _ u us Q2 I rv rvs ⟨_, ys, w, rfl, rfl, g1, by rw [g2.length]; exact q.1, en _ _ _ _ (Kp.lst g1) (hh.setL g1 (g2.append (.cons rw' .nil))) rep_non q.2⟩
   · exact q.elim
 · exact q.elim
noncomputable def intsT : List T → Option (List Int)
 | [] => some []
 | .int i :: ts => (intsT ts).map (i :: ·)
 | _ :: _ => none
theorem intsT_map : ∀ (ns : List Int), intsT (ns.map T.int) = some ns
 | [] => rfl
 | n :: ns => by show (intsT (ns.map T.int)).map (n :: ·) = _; rw [intsT_map ns]; rfl
theorem h_m_append {o : Expr} {to : TE3} {apos cpos : Pos} (ho : HE X o to) (ha : HA X (e :: es) t)
   (hbase : attributeBase o "append" X.env (eval o X.env) = eval o X.env := by rfl)
   (hfew : ((backTo cpos (starEach (e :: es) X.env)).all (fun x => !x.1) && (backToKw cpos (keywordEach [] X.env)).all (fun x => x.1.isSome)
     && decide ((e :: es).length + ([] : List Keyword).length + (if ([] : List Keyword).isEmpty then 0 else 1) < 30)) = true := by rfl)
   (hline : (apos.endLine == cpos.line) = true := by rfl) (hs : starEach (e :: es) X.env = (false, eval e X.env) :: starEach es X.env := by rfl) (hplain : (backTo cpos (starEach es X.env)).any (·.1) = false := by rfl) :
   HE X (.Call (.Attribute o "append" apos) (e :: es) [] cpos) (tLM3 rApp3 to t) := h_lm PySem.F.slot_list_append PySem.F.type_list_append mt3_append ho ha hbase hfew hline hs hplain
end
end L2
namespace LM
noncomputable def LetOK (n l : Int) : Prop := 1 ≤ (l.natAbs : Int) ∧ (l.natAbs : Int) < n
noncomputable def WordOK (n : Int) (w : List Int) : Prop := ∀ l ∈ w, LetOK n l
noncomputable def isLet (n l : Int) : Bool := decide (1 ≤ l.natAbs) && decide ((l.natAbs : Int) < n)
noncomputable def isPl (n : Int) (w : List Int) : Bool := decide (1 ≤ n) && decide (n ≤ 6) && decide (w.length ≤ 16) && w.all (isLet n)
noncomputable def PlOK (n : Int) (w : List Int) : Prop := 1 ≤ n ∧ n ≤ 6 ∧ w.length ≤ 16 ∧ WordOK n w
theorem isLet_iff {n l : Int} : isLet n l = true ↔ LetOK n l := by
 unfold isLet LetOK
 simp only [Bool.and_eq_true, decide_eq_true_eq]
 lia
theorem PlOK.is {n : Int} {w : List Int} (h : PlOK n w) : isPl n w = true := by
 obtain ⟨h1, h2, h3, h4⟩ := h
 unfold isPl
 simp only [Bool.and_eq_true, decide_eq_true_eq, List.all_eq_true]
 exact ⟨⟨⟨h1, h2⟩, h3⟩, fun l hl => isLet_iff.mpr (h4 l hl)⟩
theorem WordOK.nil {n : Int} : WordOK n [] := fun _ z => nomatch z
theorem WordOK.append {n : Int} {u v : List Int} (h : WordOK n u) (g : WordOK n v) : WordOK n (u ++ v) := fun l hl => (List.mem_append.mp hl).elim (h l) (g l)
theorem take_succ_map {α β : Type} (f : α → β) {L : List α} {i : Nat} {x : α} (h : L[i]? = some x) : (L.take i).map f ++ [f x] = (L.take (i + 1)).map f := by
 rw [List.take_add_one, h]; simp
theorem get_map_int {α β : Type} {f : α → β} {L : List α} {i : Nat} {y : β} (h : (L.map f)[i]? = some y) : ∃ x, L[i]? = some x ∧ f x = y := by
 rw [List.getElem?_map] at h
 cases q : L[i]? with
 | none => rw [q] at h; cases h
 | some x => rw [q] at h; exact ⟨x, rfl, Option.some.inj h⟩
noncomputable def range0 (n : Int) : List Int := (List.range n.toNat).map fun i => ((i : Nat) : Int)
theorem range0_length (n : Int) : (range0 n).length = n.toNat := by unfold range0; simp
theorem mem_range0 {n s : Int} (h : s ∈ range0 n) : 0 ≤ s ∧ s < n := by
 unfold range0 at h
 obtain ⟨i, hi, rfl⟩ := List.mem_map.mp h
 have := List.mem_range.mp hi
 lia
theorem range0_get (n : Int) (s : Int) (h0 : 0 ≤ s) (h1 : s < n) : (range0 n).getD s.toNat 0 = s := by
 unfold range0
 rw [List.getD_eq_getElem?_getD, List.getElem?_map, List.getElem?_range (by lia)]
 show ((s.toNat : Nat) : Int) = s
 lia
theorem range0_nodup (n : Int) : (range0 n).Nodup := by
 unfold range0
 refine List.Pairwise.map _ (fun (a b : Nat) (h : a ≠ b) => ?_) List.nodup_range
 show (a : Int) ≠ (b : Int)
 lia
noncomputable def contrL (w : List Int) : List Int := w.reverse.map fun l => -l
theorem WordOK.map {n : Int} {w : List Int} {f : Int → Int} (hf : ∀ l, LetOK n l → LetOK n (f l)) (h : WordOK n w) : WordOK n (w.map f) := fun l hl => by
 obtain ⟨k, hk, rfl⟩ := List.mem_map.mp hl
 exact hf k (h k hk)
theorem WordOK.reverse {n : Int} {w : List Int} (h : WordOK n w) : WordOK n w.reverse := fun l hl => h l (List.mem_reverse.mp hl)
theorem PlOK.map {n : Int} {w : List Int} {f : Int → Int} (hf : ∀ l, LetOK n l → LetOK n (f l)) (h : PlOK n w) : PlOK n (w.map f) := ⟨h.1, h.2.1, by rw [List.length_map]; exact h.2.2.1, h.2.2.2.map hf⟩
theorem range0_mem {n s : Int} (h0 : 0 ≤ s) (h1 : s < n) : s ∈ range0 n := by
 unfold range0
 exact List.mem_map.mpr ⟨s.toNat, List.mem_range.mpr (by lia), by lia⟩
noncomputable def stepL (st : List Int) (l : Int) : List Int := match st with
 | [] => [l]
 | x :: t => if x = -l then t else l :: x :: t
noncomputable def redS (st w : List Int) : List Int := w.foldl stepL st
noncomputable def redL (w : List Int) : List Int := (redS [] w).reverse
noncomputable def Red : List Int → Prop
 | [] => True
 | [_] => True
 | x :: y :: t => x ≠ -y ∧ Red (y :: t)
theorem Red.tail {x : Int} {t : List Int} (h : Red (x :: t)) : Red t := by
 cases t with
 | nil => trivial
 | cons y t => exact h.2
theorem Red.get : ∀ {s : List Int} (j : Nat), Red s → j + 1 < s.length → s.getD j 0 + s.getD (j + 1) 0 ≠ 0
 | [], _, _, h => by simp at h
 | [_], j, _, h => by simp at h
 | x :: y :: t, 0, h, _ => by
   have := h.1
   show x + y ≠ 0
   lia
 | x :: y :: t, j + 1, h, hj => by
   have := Red.get (s := y :: t) j h.2 (by simpa using hj)
   exact this
theorem getD_reverse (s : List Int) (k : Nat) (h : k < s.length) : s.reverse.getD k 0 = s.getD (s.length - 1 - k) 0 := by
 rw [List.getD_eq_getElem?_getD, List.getD_eq_getElem?_getD, List.getElem?_reverse h]
theorem Red.of_get : ∀ {s : List Int}, (∀ j, j + 1 < s.length → s.getD j 0 + s.getD (j + 1) 0 ≠ 0) → Red s
 | [], _ => trivial
 | [_], _ => trivial
 | x :: y :: t, h => by
   refine ⟨?_, Red.of_get fun j hj => h (j + 1) (by simpa using hj)⟩
   have : x + y ≠ 0 := h 0 (by simp)
   lia
theorem Red.reverse {s : List Int} (h : Red s) : Red s.reverse := Red.of_get fun j hj => by
 rw [List.length_reverse] at hj
 rw [getD_reverse s j (by lia), getD_reverse s (j + 1) hj]
 have := Red.get (s := s) (s.length - 1 - (j + 1)) h (by lia)
 have e2 : s.length - 1 - (j + 1) + 1 = s.length - 1 - j := by lia
 rw [e2] at this
 lia
end LM
namespace LM
noncomputable def Eqv (u v : List Int) : Prop := redL u = redL v
theorem Eqv.refl {u : List Int} : Eqv u u := rfl
theorem Eqv.symm {u v : List Int} (h : Eqv u v) : Eqv v u := Eq.symm h
theorem Eqv.trans {u v w : List Int} (h : Eqv u v) (g : Eqv v w) : Eqv u w := Eq.trans h g
noncomputable def mkL (l : Int) (x : Int) : List Int :=
 let i : Int := l.natAbs
 let a : List Int := if l > 0 then [i, i + 1, -i] else [i + 1]
 let b : List Int := if l > 0 then [i] else [-(i + 1), i, i + 1]
 if x = i then a else if x = i + 1 then b else if x = -i then contrL a else if x = -(i + 1) then contrL b else [x]
noncomputable def subW (w : List Int) (u : List Int) : List Int := w.foldl (fun u l => u.flatMap (mkL l)) u
noncomputable def NZ (w : List Int) : Prop := ∀ l ∈ w, l ≠ 0
theorem NZ.tail {l : Int} {w : List Int} (h : NZ (l :: w)) : NZ w := fun x hx => h x (List.mem_cons_of_mem _ hx)
theorem NZ.head {l : Int} {w : List Int} (h : NZ (l :: w)) : l ≠ 0 := h l List.mem_cons_self
noncomputable def imgL (w : List Int) (j : Int) : List Int := redL (subW w [j])
end LM
namespace LM
noncomputable def rowL (k : Nat) : List Int := (List.range k).map fun i => ((i : Nat) : Int) + 1
end LM
namespace LM
end LM
namespace LM
noncomputable def SameW (w v : List Int) : Prop := ∀ u, Eqv (subW w u) (subW v u)
theorem SameW.refl {w : List Int} : SameW w w := fun _ => Eqv.refl
theorem SameW.symm {w v : List Int} (h : SameW w v) : SameW v w := fun u => (h u).symm
theorem SameW.trans {w v x : List Int} (h : SameW w v) (g : SameW v x) : SameW w x := fun u => (h u).trans (g u)
end LM
namespace LM
end LM
namespace L2
open PySem PySem.Spec PyProof.Rows LM
theorem start3_cons (x : Str) (N : List Str) (t : T) (ts : List T) : start3 (x :: N) (t :: ts) = some t :: start3 N ts := by
 unfold start3
 simp only [List.map_cons, List.length_cons, Nat.add_sub_add_right, List.cons_append]
theorem start3_none (x : Str) (N : List Str) : start3 (x :: N) [] = none :: start3 N [] := by
 unfold start3
 simp only [List.map_nil, List.length_cons, List.length_nil, Nat.sub_zero, List.nil_append, List.replicate_succ]
theorem start3_nil : start3 [] [] = [] := rfl
theorem pick3_none (ix : List (Option Nat)) (ρ : En) : pick3 (none :: ix) ρ = none :: pick3 ix ρ := rfl
theorem pick3_some (j : Nat) (ix : List (Option Nat)) (ρ : En) : pick3 (some j :: ix) ρ = (ρ[j]?).join :: pick3 ix ρ := rfl
theorem pick3_nil (ρ : En) : pick3 [] ρ = [] := rfl
theorem join_some {α : Type} (a : Option α) : (some a).join = a := rfl
theorem rt3_here {M : MH} {Q : VK3} {t : T} {M' : MH} (h : Q t M') : rt3 M Q t M' := ⟨M', Sub.refl, h⟩
theorem atI_0 {α : Type} (x : α) (xs : List α) : atI (x :: xs) 0 = some x := by
 have := atI_nat (xs := x :: xs) (j := 0) (v := x) rfl
 simpa using this
theorem atI_1 {α : Type} (x y : α) (xs : List α) : atI (x :: y :: xs) 1 = some y := by
 have := atI_nat (xs := x :: y :: xs) (j := 1) (v := y) rfl
 simpa using this
theorem atI_2 {α : Type} (x y z : α) (xs : List α) : atI (x :: y :: z :: xs) 2 = some z := by
 have := atI_nat (xs := x :: y :: z :: xs) (j := 2) (v := z) rfl
 simpa using this
theorem ixN_0 (n : Nat) : ixN (n + 1) 0 = some 0 := by
 unfold ixN
 rw [if_pos (by lia), if_pos (by lia)]; rfl
theorem updM_updM {M : MH} {a : Addr} {o u : MO} : updM (updM M a o) a u = updM M a u := by
 funext b; unfold updM; split <;> rfl
theorem atI_ints (ns : List Int) (i : Int) (h0 : 0 ≤ i) (h : i < ns.length) : atI (ns.map T.int) i = some (.int (ns.getD i.toNat 0)) := by
 have e : i = ((i.toNat : Nat) : Int) := by lia
 have hl : i.toNat < ns.length := by lia
 have := atI_nat (xs := ns.map T.int) (j := i.toNat) (v := .int (ns.getD i.toNat 0)) (by
   rw [List.getElem?_map, List.getElem?_eq_getElem hl]
   simp [List.getD, List.getElem?_eq_getElem hl])
 rw [← e] at this
 exact this
theorem bools_map (bs : List Bool) : bools (bs.map T.bl) = some bs := by
 induction bs with
 | nil => rfl
 | cons b bs ih => show (bools (bs.map T.bl)).map (b :: ·) = _; rw [ih]; rfl
theorem pureTs_ints (ns : List Int) : pureTs (ns.map T.int) = true := by
 induction ns with
 | nil => rfl
 | cons n ns ih => show (pureT (.int n) && pureTs (ns.map T.int)) = true; rw [ih]; rfl
theorem depTs_ints (ns : List Int) : depTs (ns.map T.int) = 0 := by
 induction ns with
 | nil => rfl
 | cons n ns ih => show max (depT (.int n)) (depTs (ns.map T.int)) = 0; rw [ih]; rfl
theorem eqTs_ints (a b : List Int) : eqTs (a.map T.int) (b.map T.int) = decide (a = b) := by
 induction a generalizing b with
 | nil => cases b <;> simp [eqTs]
 | cons x a ih =>
   cases b with
   | nil => simp [eqTs]
   | cons y b =>
     show (eqT (.int x) (.int y) && eqTs (a.map T.int) (b.map T.int)) = _
     rw [ih]
     have : eqT (.int x) (.int y) = (x == y) := rfl
     rw [this]
     by_cases h1 : x = y <;> by_cases h2 : a = b <;> simp [h1, h2]
theorem eqT_tup (a b : List T) : eqT (.tup a) (.tup b) = eqTs a b := rfl
theorem eqT_int (a b : Int) : eqT (.int a) (.int b) = decide (a = b) := by
 show (a == b) = _
 by_cases h : a = b <;> simp [h]
theorem eqTs_cons (x y : T) (a b : List T) : eqTs (x :: a) (y :: b) = (eqT x y && eqTs a b) := rfl
theorem eqTs_nil : eqTs [] [] = true := rfl
theorem pureTs_cons (x : T) (a : List T) : pureTs (x :: a) = (pureT x && pureTs a) := rfl
theorem pureTs_nil : pureTs [] = true := rfl
theorem pureT_int (i : Int) : pureT (.int i) = true := rfl
theorem pureT_bl (i : Bool) : pureT (.bl i) = true := rfl
theorem pureT_tup (i : List T) : pureT (.tup i) = pureTs i := rfl
theorem depT_int (i : Int) : depT (.int i) = 0 := rfl
theorem depT_bl (i : Bool) : depT (.bl i) = 0 := rfl
theorem depT_tup (i : List T) : depT (.tup i) = depTs i + 1 := rfl
theorem depTs_cons (x : T) (a : List T) : depTs (x :: a) = max (depT x) (depTs a) := rfl
theorem depTs_nil : depTs [] = 0 := rfl
theorem Sub.set {M M' : MH} {p : Addr} {o u : MO} (h : Sub (updM M p o) M') : Sub (updM M p u) (updM M' p u) := fun a v e => by
 by_cases ha : a = p
 · subst ha; rw [updM_same] at e ⊢; exact e
 · rw [updM_ne ha] at e ⊢
   exact h a v (by rw [updM_ne ha]; exact e)
theorem Sub.newr {M M' : MH} {r : Addr} {o : MO} (h : Sub M M') (hr : M' r = none) : Sub M (updM M' r o) := h.trans (Sub.new hr)
theorem rt3_sub {M : MH} {Q : VK3} {t : T} {M0 M' : MH} (h : Q t M0) (s : Sub M0 M') : rt3 M Q t M' := ⟨M0, s, h⟩
theorem ixN_nat {n : Nat} {k : Int} (h0 : 0 ≤ k) (h : k < n) : ixN n k = some k.toNat := by
 unfold ixN
 rw [if_pos h0, if_pos h]
theorem rangeT_length (a : Int) (n : Nat) : (rangeT a n).length = n := by unfold rangeT; simp
theorem Sub.updF {M M' : MH} {p : Addr} {o : MO} (h : Sub M M') (hp : M p = none) : Sub M (updM M' p o) := fun a v e => by
 have ha : a ≠ p := by rintro rfl; rw [hp] at e; cases e
 rw [updM_ne ha]; exact h a v e
end L2
namespace L2
open PySem PySem.Spec PyProof.Rows
section
variable {prog : Program} {w : World} {A : Around} {E : Value → Shared → Prop} {s : Shared}
end
section
variable {X : Cx}
end
theorem rangeT0_get {n i : Nat} {x : T} (h : (rangeT 0 n)[i]? = some x) : i < n ∧ x = .int i := by
 have hl := (List.getElem?_eq_some_iff.mp h).1
 rw [rangeT_length] at hl
 unfold rangeT at h
 rw [List.getElem?_map, List.getElem?_range hl] at h
 have e := Option.some.inj h
 refine ⟨hl, ?_⟩
 rw [← e]
 simp
theorem line_len {n : Nat} (h : n < 10000) : n < sizeLine := Nat.lt_of_le_of_lt (by lia : n ≤ 10000) (by decide)
theorem line_len' {n : Nat} (h : n < 10000) : n ≤ sizeLine := Nat.le_of_lt (line_len h)
end L2
namespace HT
open PySem PySem.Spec PyProof.Rows
section
variable {prog : Program} {w : World} {A : Around} {E : Value → Shared → Prop} {s : Shared}
theorem getItem_tuple_all {t sl : Addr} {items : Array Value} {vl vu : Value} {lo hi : Option Int} {Q : Value → Shared → Prop} (ht : IsTup s.heap t items) (hs : s.heap.IsSliceOf sl vl vu .none) (pl : IsPart vl lo) (pu : IsPart vu hi)
   (hw : sIx items.size 0 lo = 0 ∧ sIx items.size items.size hi = items.size) (h : Q (.ref t) s)
   (hsz : items.size ≤ sizeLine) : wpAny (model prog w) A (getItem (.ref t) (.ref sl)) Q E s := by
 obtain ⟨os, hos, hcs, hds⟩ := id hs
 have hTs : s.TypeIs (.ref sl) "slice" := ⟨os, hos, hcs⟩
 unfold getItem
 try with_reducible refine wpAny_holding ?_
 first | refine wpAny_bind (wpAny_pure ?_) | skip
 refine wpAny_bind (wpAny_sequenceKey ht.typeIs (by decide) ?_)
 refine wpAny_bind (wpAny_callSpecial?_slot (name := Str.ofString "__getitem__") ht.typeIs PyProof.Rows.slot_tuple_getitem
   (wpAny_call_entry PyProof.Rows.slot_tuple_getitem ht.typeIs entry_tuple_getitem ?_ (args_tuple_getitem _ _)))
 show wpAny _ _ (Builtin.Tuple.tupleItemsOf (.ref t) >>= _) _ _ s
 refine wpAny_bind (tupleItemsOf_ ht ?_)
 refine wpAny_bind (wpAny_typeOf hTs ?_)
 rw [if_pos (by decide)]
 refine wpAny_bind (sliceApplied_gen hs pl pu ?_)
 have hyes : (((sIx items.size 0 lo : Nat) : Int) == 0 && (1 : Int) == 1 && (sIx items.size items.size hi - sIx items.size 0 lo) == items.size) = true := by
   rw [hw.1, hw.2]
   simp
 show wpAny _ _ (if (((sIx items.size 0 lo : Nat) : Int) == 0 && (1 : Int) == 1 && (sIx items.size items.size hi - sIx items.size 0 lo) == items.size) = true then _ else _) _ _ s
 rw [if_pos hyes]
 refine wpAny_bind (m := Builtin.Tuple.tupleIsExact (.ref t)) (wpAny_bind (wpAny_typeOf ht.typeIs (wpAny_pure ?_)))
 rw [if_pos (by decide)]
 refine wpAny_bind (wpAny_rule ?_)
 first
   | exact wpAny_pure ⟨_, rfl, wpAny_pure h⟩
   | exact wpAny_bind (wpAny_pure (wpAny_pure ⟨_, rfl, wpAny_pure h⟩))
end
end HT
namespace L2
open PySem PySem.Spec PyProof.Rows
section
variable {X : Cx}
noncomputable def cutT (xs : List T) (lo hi : Option Int) : List T := (xs.drop (HT.sIx xs.length 0 lo)).take (HT.sIx xs.length xs.length hi - HT.sIx xs.length 0 lo)
noncomputable def rSlT' (K : PySem.W.Frag) : V → Option Int → Option Int → Hp → VK → Prop := fun x lo hi H Q => ∃ a xs, x = .ref a ∧ SqT K H a xs ∧
 ∀ p H', SqT K H' p (cutV xs lo hi) → (H' = H ∨ H p = none ∧ H' = upd H p (.tup (cutV xs lo hi))) → Q (.ref p) H'
theorem sl_tup' : SlR X (rSlT' X.K) := by
 intro pins s σ H x v vl vu lo hi sl Q I rx hs pl pu h
 obtain ⟨a, xs, rfl, hx, q⟩ := h
 by_cases hw : HT.sIx xs.length 0 lo = 0 ∧ HT.sIx xs.length xs.length hi = xs.length
 · cases rx
   obtain ⟨its, r, ht, hz⟩ := I.tuple hx
   have hlen : its.toArray.size = xs.length := by rw [List.size_toArray]; exact r.length.symm
   refine ⟨"tuple", _, PyProof.Rows.slot_tuple_getitem.lookup, ht.typeIs, ?_⟩
   refine HT.getItem_tuple_all ht hs pl pu (by rw [hlen]; exact hw) ?_ (by rw [hlen]; exact hz)
   have e : cutV xs lo hi = xs := by
     unfold cutV
     rw [hw.1, hw.2]
     simp
   exact ⟨.ref a, H, I, rfl, q a H (by rw [e]; exact hx) (.inl rfl)⟩
 · exact sl_tup pins s σ H _ v vl vu lo hi sl Q I rx hs pl pu ⟨a, xs, rfl, hx, hw, fun p hp => q p _ (SqT.of upd_same) (.inr ⟨hp, rfl⟩)⟩
theorem Reps.cut {K : PySem.W.Frag} {H : Hp} {xs : List V} {ts : List T} (r : Reps K H xs ts) (lo hi : Option Int) : Reps K H (cutV xs lo hi) (cutT ts lo hi) := by
 unfold cutV cutT
 rw [r.length]
 exact (r.drop _).take _
noncomputable abbrev TO3 := En → MH → (Option Int → MH → Prop) → Prop
noncomputable def HPo (X : Cx) (e : Option Expr) (t : TO3) : Prop := ∀ ρ M Q, t ρ M Q → PO X e (fun σ H Q2 => RhoR X.K σ H ρ ∧ HR X.K H M ∧ ∀ o M' H', Kp X.K H H' → HR X.K H' M' → Q o M' → Q2 o H')
noncomputable def dPo (K : PySem.W.Frag) (ρ : En) (t : TO3) : TO := fun σ H Q2 => ∃ M Q, t ρ M Q ∧ RhoR K σ H ρ ∧ HR K H M ∧ ∀ o M' H', Kp K H H' → HR K H' M' → Q o M' → Q2 o H'
theorem HPo.d {e : Option Expr} {t : TO3} {ρ : En} (h : HPo X e t) : PO X e (dPo X.K ρ t) := fun pins s σ H Q I ⟨M, Q3, q, b⟩ => h ρ M Q3 q pins s σ H Q I b
theorem PO.imp {e : Option Expr} {w w' : TO} (h : PO X e w) (f : ∀ σ H Q, w' σ H Q → w σ H Q) : PO X e w' := fun pins s σ H Q I q => h pins s σ H Q I (f σ H Q q)
noncomputable def tPt3 (t : TE3) : TO3 := fun ρ M Q => t ρ M fun x M1 => match x with
 | .int i => Q (some i) M1
 | _ => False
theorem o_some {e : Expr} {t : TE3} (he : HE X e t) : HPo X (some e) (tPt3 t) := fun ρ M Q h => (po_some (he.d (ρ := ρ))).imp fun σ H Q2 ⟨hr, hh, en⟩ =>
 ⟨M, _, h, hr, hh, fun x v M1 H1 k1 h1 r1 q1 => by
   dsimp only at q1
   split at q1
   · obtain rfl := inv_int r1
     exact ⟨_, rfl, en _ _ _ k1 h1 q1⟩
   · exact q1.elim⟩
noncomputable def rSlS : V → Option Int → Option Int → Hp → VK → Prop := fun x lo hi H Q => ∃ z, x = .str z ∧ z.length ≤ sizeLine ∧ Q (.str (Txt.slice z lo hi)) H
theorem sl_str : SlR X rSlS := by
 intro pins s σ H x v vl vu lo hi sl Q I rx hs pl pu h
 obtain ⟨z, rfl, hz, q⟩ := h
 obtain ⟨t, rfl⟩ := rx
 refine ⟨"str", _, F.slot_str_getitem.lookup, typeIs_str _ _ _, ?_⟩
 have fin : ∀ t' k, EP X pins σ Q (.str (Txt.slice z lo hi) t') { s with toks := k } := fun t' k => ⟨.str _, H, I.kept fun b o e => e, ⟨_, rfl⟩, q⟩
 have hl : (Txt.slice z lo hi).length ≤ sizeLine := Nat.le_trans (Txt.slice_le z _ _) hz
 cases pl with
 | none => cases pu with
   | none => exact wpAny_getItem_str_slice (l := none) (u := none) (st := none) hs rfl (post_val_or_str ⟨hl, fin⟩)
   | int j uj => exact wpAny_getItem_str_slice (l := none) (u := some (j, uj)) (st := none) hs rfl (post_val_or_str ⟨hl, fin⟩)
 | int i ui => cases pu with
   | none => exact wpAny_getItem_str_slice (l := some (i, ui)) (u := none) (st := none) hs rfl (post_val_or_str ⟨hl, fin⟩)
   | int j uj => exact wpAny_getItem_str_slice (l := some (i, ui)) (u := some (j, uj)) (st := none) hs rfl (post_val_or_str ⟨hl, fin⟩)
noncomputable def tSl3 (te : TE3) (tl th : TO3) : TE3 := fun ρ M Q => te ρ M fun x M1 => tl ρ M1 fun l M2 => th ρ M2 fun u M3 => match x with
 | .tup ts => Q (.tup (cutT ts l u)) M3
 | .adr p => (match M3 p with
   | some (.lst ts) => ∀ r, M3 r = none → Q (.adr r) (updM M3 r (.lst (cutT ts l u)))
   | _ => False)
 | .str z => z.length ≤ sizeLine ∧ Q (.str (Txt.slice z l u)) M3
 | _ => False
theorem h_slice {e : Expr} {lo hi : Option Expr} {te : TE3} {tl th : TO3} {pos p2 : Pos} (he : HE X e te) (hl : HPo X lo tl) (hu : HPo X hi th) : HE X (.Subscript e (.Slice lo hi none p2) pos) (tSl3 te tl th) := fun ρ M Q h =>
 (pe_slice ((sl_tup'.or sl_list).or sl_str) (he.d (ρ := ρ)) (hl.d (ρ := ρ)) (hu.d (ρ := ρ))).imp fun σ H Q2 ⟨hr, hh, en⟩ =>
   ⟨M, _, h, hr, hh, fun x v M1 H1 k1 h1 r1 q1 => ⟨M1, _, q1, hr.kp k1, h1, fun l M2 H2 k2 h2 q2 => ⟨M2, _, q2, hr.kp (k1.trans k2), h2, fun u M3 H3 k3 h3 q3 => by
     have r3 := Rep.kp (k2.trans k3) _ _ r1
     have k13 := (k1.trans k2).trans k3
     split at q3
     · rename_i ts
       obtain ⟨a, xs, rfl, g1, g2⟩ := inv_tup r3
       refine .inl (.inl ⟨a, xs, rfl, g1, fun p H' h' c => ?_⟩)
       rcases c with rfl | ⟨c1, rfl⟩
       · exact en _ _ _ _ k13 h3 (rep_tup h' (g2.cut l u)) q3
       · exact en _ _ _ _ (k13.trans (Kp.new c1)) (h3.keep c1) (rep_tup h' (Reps.kp (Kp.new c1) _ _ (g2.cut l u))) q3
     · obtain rfl := inv_adr r3
       split at q3
       · rename_i ts e0
         obtain ⟨xs, g1, g2⟩ := h3 _ _ e0
         refine .inl (.inr ⟨_, xs, rfl, SqL.of g1, fun p hp => ?_⟩)
         exact en _ _ _ _ (k13.trans (Kp.new hp)) (h3.newL hp (g2.cut l u)) rep_adr (q3 p (h3.free hp))
       · exact q3.elim
     · obtain rfl := inv_str r3
       exact .inr ⟨_, rfl, q3.1, en _ _ _ _ k13 h3 rep_str q3.2⟩
     · exact q3.elim⟩⟩⟩
end
end L2
namespace HT
open PySem PySem.Spec PyProof.Rows
section
variable {prog : Program} {w : World} {A : Around} {E : Value → Shared → Prop} {s : Shared}
end
end HT
namespace L2
open PySem PySem.Spec PyProof.Rows
section
variable {X : Cx}
end
end L2
namespace L2
open PySem PySem.Spec PyProof.Rows
section
variable {X : Cx}
end
end L2
namespace L2
open PySem PySem.Spec PyProof.Rows
section
variable {X : Cx}
end
end L2
namespace L2
open PySem PySem.Spec PyProof.Rows
section
variable {X : Cx}
end
end L2
namespace L2
open PySem PySem.Spec PyProof.Rows
section
variable {X : Cx} {es : List Expr} {e : Expr} {t : TA3}
end
end L2
namespace L2
open PySem PySem.Spec PyProof.Rows
section
variable {X : Cx} {es : List Expr} {e : Expr} {t : TA3}
noncomputable def strsT : List T → Option (List Str)
 | [] => some []
 | .str i :: ts => (strsT ts).map (i :: ·)
 | _ :: _ => none
theorem strsT_map : ∀ (ns : List Str), strsT (ns.map T.str) = some ns
 | [] => rfl
 | n :: ns => by show (strsT (ns.map T.str)).map (n :: ·) = _; rw [strsT_map ns]; rfl
end
end L2
namespace L2
open PySem PySem.Spec PyProof.Rows LM
end L2
namespace L2
open PySem PySem.Spec PyProof.Rows
section
variable {prog : Program} {w : World} {A : Around} {E : Value → Shared → Prop} {s : Shared}
end
section
open AutoSeq1 (wpAny_loadPart')
open SeqAt (EqAt)
end
section
variable {X : Cx} {a b e : Expr} {es : List Expr} {ta te : TE3} {t : TA3} {pos : Pos}
end
end L2
namespace L2
open PySem PySem.Spec PyProof.Rows
section
open AutoSeq1
theorem extend_tupleL (l : Addr) (items : Array Value) (n : Nat) (b : Addr) (items2 : Array Value) (n2 : Nat) (sl : Array (Option Value)) (hs0 : ¬(!items.isEmpty && Builtin.List.listTooLong (items.size + items2.size)) = true) (hs1 : items.size ≤ sizeLine) (hs2 : items.size + items2.size ≤ sizeLine + 1) :
   Meets (Builtin.«list.extend» ⟨[.ref l, .ref b], []⟩) (fun _ R s => s.heap.get? l = some { cls := .type "list", dict := none, data := .seq items n, slots := #[] } ∧ s.heap.get? b = some { cls := .type "tuple", dict := none, data := .seq items2 n2, slots := sl } ∧ R (.ok (.ret Value.none)) { s with heap := s.heap.update l (Obj.mapSeq fun x => x ++ items2), toks := s.toks }) :=
 .of_wp fun prog w A R s h => by
   obtain ⟨hp, g, d, tk, os⟩ := s; obtain ⟨hl, hb, h⟩ := h; have f1 := idx_int; have f2 := AutoSeq1.sub_tuple_tuple; have f3 := AutoSeq1.sub_list_list; have f4 := AutoSeq1.sub_tuple_list; have f5 := AutoSeq1.sub_list_tuple;
   have hz' : (items ++ items2).size ≤ sizeLine + 1 := by rw [Array.size_append]; exact hs2
   wp_walk using (wpAny_updateSeq hl rfl (hz := hs1) (_hz' := hz')), wpAny_loadPart' hl, wpAny_loadPart' hb; exact ⟨_, rfl, h⟩
end
section
variable {X : Cx} {a b e f : Expr} {es : List Expr} {ta te : TE3} {t : TA3} {pos : Pos}
noncomputable def rExt3 : RM3 := fun x xs M Q => match x, xs with
 | .adr p, [.tup us] => (match M p with | some (.lst ts) => ts.length + us.length ≤ sizeLine ∧ Q .non (updM M p (.lst (ts ++ us))) | _ => False)
 | .adr p, [.adr q] => (match M p, M q with | some (.lst ts), some (.lst us) => ts.length + us.length ≤ sizeLine ∧ Q .non (updM M p (.lst (ts ++ us))) | _, _ => False)
 | _, _ => False
theorem mt3_extend : MtR3 X "list.extend" rExt3 := by
 intro pins s σ H v vs u us Q2 I rv rvs h
 obtain ⟨x, xs, M, Q, r1, r2, hh, q, en⟩ := h
 unfold rExt3 at q
 split at q
 · rename_i p ys
   split at q
   · rename_i ts e0
     obtain ⟨zs, g1, g2⟩ := hh _ _ e0
     obtain rfl := inv_adr r1
     obtain ⟨w, rfl, rw'⟩ := reps1 r2
     obtain ⟨b1, ws, rfl, k1, k2⟩ := inv_tup rw'
     cases rv
     obtain ⟨u2, rfl, ru⟩ := rvs.one
     cases ru
     obtain ⟨z, its, n, r, hl, e⟩ := I.lstM g1
     obtain ⟨its2, r2', ⟨o, eo, ec, ed, n2, edd⟩, hz2⟩ := I.tuple0 k1
     obtain ⟨cls, dd, data, sl⟩ := o
     simp only at ec ed edd
     subst ec ed edd
     have l2 := r2'.length
     have l3 := g2.length
     have l4 := k2.length
     have hsz : its.toArray.size + its2.toArray.size ≤ sizeLine := by rw [List.size_toArray, List.size_toArray]; lia
     have hlong : ¬ (!its.toArray.isEmpty && Builtin.List.listTooLong (its.toArray.size + its2.toArray.size)) = true := by
       rw [notLongL hsz, Bool.and_false]
       exact Bool.false_ne_true
     refine call_meets F.slot_list_extend ⟨_, e, rfl⟩ F.entry_list_extend (F.args_list_extend_2 _ _)
       (extend_tupleL p its.toArray n b1 its2.toArray n2 sl hlong (by rw [List.size_toArray]; lia) (by lia)) ⟨e, eo, ?_⟩
     refine ⟨.non, _, I.lset (its' := its ++ its2) g1 e (by simp) (r.append r2') ?_, rfl, en _ _ _ _ (Kp.lst g1) (hh.setL g1 (g2.append k2)) rep_non q.2⟩
     rw [List.length_append]
     lia
   · exact q.elim
 · rename_i p b1
   split at q
   · rename_i ts us' e0 e1
     obtain ⟨zs, g1, g2⟩ := hh _ _ e0
     obtain ⟨ws, k1, k2⟩ := hh _ _ e1
     obtain rfl := inv_adr r1
     obtain ⟨w, rfl, rw'⟩ := reps1 r2
     obtain rfl := inv_adr rw'
     have l3 := g2.length
     have l4 := k2.length
     exact mt_extend pins s σ H _ _ u us Q2 I rv rvs ⟨_, _, zs, ws, rfl, rfl, g1, k1, by lia, en _ _ _ _ (Kp.lst g1) (hh.setL g1 (g2.append k2)) rep_non q.2⟩
   · exact q.elim
 · exact q.elim
theorem h_m_extend {o : Expr} {to : TE3} {apos cpos : Pos} (ho : HE X o to) (ha : HA X (e :: es) t)
   (hbase : attributeBase o "extend" X.env (eval o X.env) = eval o X.env := by rfl)
   (hfew : ((backTo cpos (starEach (e :: es) X.env)).all (fun x => !x.1) && (backToKw cpos (keywordEach [] X.env)).all (fun x => x.1.isSome)
     && decide ((e :: es).length + ([] : List Keyword).length + (if ([] : List Keyword).isEmpty then 0 else 1) < 30)) = true := by rfl)
   (hline : (apos.endLine == cpos.line) = true := by rfl) (hs : starEach (e :: es) X.env = (false, eval e X.env) :: starEach es X.env := by rfl) (hplain : (backTo cpos (starEach es X.env)).any (·.1) = false := by rfl) :
   HE X (.Call (.Attribute o "extend" apos) (e :: es) [] cpos) (tLM3 rExt3 to t) := h_lm PySem.F.slot_list_extend PySem.F.type_list_extend mt3_extend ho ha hbase hfew hline hs hplain
noncomputable def keyT : Key → T
 | .inl i => .int i
 | .inr x => .str x
theorem rep_key {K : PySem.W.Frag} {H : Hp} {v : V} {k : Key} (r : Rep K H v (keyT k)) : v = kV k := by
 cases k with
 | inl i => exact inv_int r
 | inr x => exact inv_str r
theorem rep_keys {K : PySem.W.Frag} {H : Hp} : ∀ {ks : List Key} {vs : List V}, Reps K H vs (ks.map keyT) → vs = ks.map kV
 | [], _, r => by rw [List.map_nil] at r; unfold Reps at r; exact r
 | k :: ks, _, r => by
   rw [List.map_cons] at r
   unfold Reps at r
   obtain ⟨v, w, rfl, r1, r2⟩ := r
   rw [rep_key r1, rep_keys r2]
   rfl
noncomputable def valT {κ : Type} [DecidableEq κ] (kvs : List (κ × T)) (k : κ) : Option T := (kvs.find? fun kv => decide (kv.1 = k)).map (·.2)
noncomputable def putT {κ : Type} [DecidableEq κ] (kvs : List (κ × T)) (k : κ) (v : T) : List (κ × T) :=
 if (kvs.any fun kv => decide (kv.1 = k)) = true then kvs.map (fun kv => if kv.1 = k then (kv.1, v) else kv) else kvs ++ [(k, v)]
theorem KRep.val {κ : Type} [DecidableEq κ] {K : PySem.W.Frag} {H : Hp} (k : κ) : ∀ {xs : List (κ × V)} {kvs : List (κ × T)}, KRep K H xs kvs → (match valT kvs k with | some t => ∃ v, valV xs k = some v ∧ Rep K H v t | none => valV xs k = none)
 | [], [], _ => rfl
 | p :: r, q :: u, h => by
   have ih := KRep.val k h.2.2
   unfold valT valV at ih ⊢
   rw [List.find?_cons, List.find?_cons, h.1]
   by_cases c : q.1 = k
   · simp only [c, decide_true, Option.map_some]
     exact ⟨p.2, rfl, h.2.1⟩
   · simp only [c, decide_false]
     exact ih
 | [], q :: u, h => h.elim
 | p :: r, [], h => h.elim
theorem KRep.any {κ : Type} [DecidableEq κ] {K : PySem.W.Frag} {H : Hp} (k : κ) : ∀ {xs : List (κ × V)} {kvs : List (κ × T)}, KRep K H xs kvs → (xs.any fun kv => decide (kv.1 = k)) = kvs.any fun kv => decide (kv.1 = k)
 | [], [], _ => rfl
 | p :: r, q :: u, h => by rw [List.any_cons, List.any_cons, h.1, KRep.any k h.2.2]
 | [], q :: u, h => h.elim
 | p :: r, [], h => h.elim
theorem KRep.repl {κ : Type} [DecidableEq κ] {K : PySem.W.Frag} {H : Hp} (k : κ) {v : V} {z : T} (rz : Rep K H v z) : ∀ {xs : List (κ × V)} {kvs : List (κ × T)}, KRep K H xs kvs → KRep K H (xs.map fun kv => if kv.1 = k then (kv.1, v) else kv) (kvs.map fun kv => if kv.1 = k then (kv.1, z) else kv)
 | [], [], _ => trivial
 | p :: r, q :: u, h => by
   rw [List.map_cons, List.map_cons]
   refine ⟨?_, ?_, KRep.repl k rz h.2.2⟩
   · rw [h.1]
     by_cases c : q.1 = k
     · rw [if_pos c, if_pos c]
     · rw [if_neg c, if_neg c]; exact h.1
   · rw [h.1]
     by_cases c : q.1 = k
     · rw [if_pos c, if_pos c]; exact rz
     · rw [if_neg c, if_neg c]; exact h.2.1
 | [], q :: u, h => h.elim
 | p :: r, [], h => h.elim
theorem KRep.snoc {κ : Type} {K : PySem.W.Frag} {H : Hp} (k : κ) {v : V} {z : T} (rz : Rep K H v z) : ∀ {xs : List (κ × V)} {kvs : List (κ × T)}, KRep K H xs kvs → KRep K H (xs ++ [(k, v)]) (kvs ++ [(k, z)])
 | [], [], _ => ⟨rfl, rz, trivial⟩
 | p :: r, q :: u, h => ⟨h.1, h.2.1, KRep.snoc k rz h.2.2⟩
 | [], q :: u, h => h.elim
 | p :: r, [], h => h.elim
theorem KRep.put {κ : Type} [DecidableEq κ] {K : PySem.W.Frag} {H : Hp} (k : κ) {v : V} {z : T} (rz : Rep K H v z) {xs : List (κ × V)} {kvs : List (κ × T)} (h : KRep K H xs kvs) : KRep K H (putK xs k v) (putT kvs k z) := by
 unfold putK putT
 rw [h.any k]
 split
 · exact h.repl k rz
 · exact h.snoc k rz
noncomputable def tDicE (tup : Bool) : TE3 := fun _ M Q => ∀ p, M p = none → Q (.adr p) (updM M p (if tup then .dt [] else .dk []))
theorem h_dicT {pos : Pos} : HE X (.Dict [] [] pos) (tDicE true) := fun ρ M Q h =>
 (pe_dnewT).imp fun σ H Q2 ⟨hr, hh, en⟩ => fun p hp => en _ _ _ _ (Kp.new hp) (hh.newT hp (kvs := []) (xs := []) trivial) rep_adr (h p (hh.free hp))
noncomputable def tDGT (td : TE3) (t : TA3) : TE3 := fun ρ M Q => td ρ M fun x M1 => t ρ M1 fun ks M2 => ks.length ≤ sizeLine ∧ (match x with
 | .adr p => (match M2 p with
   | some (.dt kvs) => ∃ (kk : List Key) (t : T), ks = kk.map keyT ∧ valT kvs kk = some t ∧ Q t M2
   | _ => False)
 | _ => False)
theorem h_dgt {o : Expr} {es : List Expr} {x1} {p1 : Pos} {td : TE3} {t : TA3} {pos : Pos} (hu : X.A.units + 64 < cLine) (ho : HE X o td) (ha : HA X es t) (hs : NoSl (.Tuple es x1 p1) := by intro _ _; rfl) : HE X (.Subscript o (.Tuple es x1 p1) pos) (tDGT td t) := fun ρ M Q h =>
 (pe_dget (by lia) (ho.d (ρ := ρ)) (pe_tup (ha.d (ρ := ρ))) hs).imp fun σ H Q2 ⟨hr, hh, en⟩ => ⟨M, _, h, hr, hh, fun x v M1 H1 k1 h1 r1 q1 => ⟨M1, _, q1, hr.kp k1, h1, fun ks vs M2 H2 k2 h2 r2 q2 => by
   obtain ⟨hz, q2⟩ := q2
   refine ⟨by rw [r2.length]; exact hz, fun b hb => ?_⟩
   cases x with
   | adr p =>
     cases r1
     dsimp only at q2
     split at q2
     · rename_i kvs e
       obtain ⟨kk, t, rfl, ev, q2⟩ := q2
       obtain rfl := rep_keys r2
       obtain ⟨xs, g1, g2⟩ := h2 _ _ e
       have hv := g2.val kk
       rw [ev] at hv
       obtain ⟨u, e1, e2⟩ := hv
       have np : p ≠ b := fun z => by rw [← z, g1] at hb; cases hb
       exact ⟨_, u, rfl, by rw [← e1]; exact DGet.t (by rw [upd_ne np]; exact g1) upd_same, en _ _ M2 _ ((k1.trans k2).trans (Kp.new hb)) (h2.keep hb) (Rep.kp (Kp.new hb) _ _ e2) q2⟩
     · exact q2.elim
   | _ => exact q2.elim⟩⟩
noncomputable def sDPT (td : TE3) (t : TA3) (tv : TE3) : TS3 := fun D ρ M => tv ρ M fun z M1 => td ρ M1 fun x M2 => t ρ M2 fun ks M3 => ks.length ≤ sizeLine ∧ (match x with
 | .adr p => (match M3 p with
   | some (.dt kvs) => ∃ kk : List Key, ks = kk.map keyT ∧ kvs.length < sizeLine ∧ D.nx ρ (updM M3 p (.dt (putT kvs kk z)))
   | _ => False)
 | _ => False)
theorem s_dpt {o value : Expr} {es : List Expr} {x1} {p1 : Pos} {td tv : TE3} {t : TA3} {pos pos' : Pos} (hu : X.A.units + 64 < cLine) (hv : HE X value tv) (ho : HE X o td) (ha : HA X es t) (hs : swapsWith value (some (.Subscript o (.Tuple es x1 p1) pos')) pos.line X.env = pure false := by rfl) :
   HS X (.Assign [.Subscript o (.Tuple es x1 p1) pos'] value pos) (sDPT td t tv) := fun D ρ M h =>
 (ps_dput (by lia) (ho.d (ρ := ρ)) (pe_tup (ha.d (ρ := ρ))) (hv.d (ρ := ρ)) hs).imp fun D2 σ H ⟨hr, hh, en⟩ => ⟨M, _, h, hr, hh, fun z v M1 H1 k1 h1 r1 q1 => ⟨M1, _, q1, hr.kp k1, h1, fun x v2 M2 H2 k2 h2 r2 q2 => ⟨M2, _, q2, hr.kp (k1.trans k2), h2, fun ks vs M3 H3 k3 h3 r3 q3 => by
   obtain ⟨hz, q3⟩ := q3
   refine ⟨by rw [r3.length]; exact hz, fun b hb => ?_⟩
   cases x with
   | adr p =>
     cases r2
     dsimp only at q3
     split at q3
     · rename_i kvs e
       obtain ⟨kk, rfl, hl, q3⟩ := q3
       obtain rfl := rep_keys r3
       obtain ⟨xs, g1, g2⟩ := h3 _ _ e
       have np : p ≠ b := fun z => by rw [← z, g1] at hb; cases hb
       have kb := Kp.new (K := X.K) (o := .tup (kk.map kV)) hb
       have g1' : upd H3 b (.tup (kk.map kV)) p = some (.dT xs) := by rw [upd_ne np]; exact g1
       have kk' := Kp.dict (K := X.K) (u := .dT (putK xs kk v)) g1' (.inr ⟨_, rfl⟩)
       have kall := (k1.trans k2).trans (k3.trans (kb.trans kk'))
       refine ⟨_, _, rfl, DPut.t g1' upd_same (by rw [g2.length]; exact hl), en.nx _ _ _ _ kall (hr.kp kall) ((h3.keep hb).setT g1' (.inr ⟨_, rfl⟩) ((g2.kp kb).put kk (Rep.kp ((k2.trans k3).trans kb) _ _ r1))) q3⟩
     · exact q3.elim
   | _ => exact q3.elim⟩⟩⟩
end
end L2
namespace L2
open PySem PySem.Spec PyProof.Rows LM
noncomputable def swapN (st : List Int) (k : Nat) : List Int := (st.set k (st.getD (k + 1) 0)).set (k + 1) (st.getD k 0)
noncomputable def isWd (n : Int) (w : List Int) (k : Int) : Bool := decide (1 ≤ n) && decide (n ≤ 6) && decide ((w.length : Int) ≤ k) && w.all (isLet n)
theorem isWd_16 (n : Int) (w : List Int) : isWd n w 16 = isPl n w := by
 unfold isWd isPl
 rw [show decide ((w.length : Int) ≤ 16) = decide (w.length ≤ 16) from decide_eq_decide.mpr (by lia)]
theorem valT_cons {κ : Type} [DecidableEq κ] (p : κ × T) (r : List (κ × T)) (k : κ) : valT (p :: r) k = if p.1 = k then some p.2 else valT r k := by
 unfold valT
 rw [List.find?_cons]
 by_cases c : p.1 = k
 · simp [c]
 · simp [c]
end L2
namespace L2
open PySem PySem.Spec PyProof.Rows LM
theorem atI_last2 {α : Type} (xs : List α) (a b : α) : atI (xs ++ [a, b]) (-2) = some a := by
 have e : (xs ++ [a, b]).length = xs.length + 2 := by simp
 unfold atI
 rw [e]
 have : ixN (xs.length + 2) (-2) = some xs.length := by
   unfold ixN
   simp
   lia
 rw [this]
 simp
end L2
namespace L2
open PySem PySem.Spec PyProof.Rows LM
end L2
namespace L2
open PySem PySem.Spec PyProof.Rows LM
end L2
namespace L2
open PySem PySem.Spec PyProof.Rows LM
theorem WordOK.take {n : Int} {w : List Int} (h : WordOK n w) (k : Nat) : WordOK n (w.take k) := fun l hl => h l (List.mem_of_mem_take hl)
theorem WordOK.drop {n : Int} {w : List Int} (h : WordOK n w) (k : Nat) : WordOK n (w.drop k) := fun l hl => h l (List.mem_of_mem_drop hl)
end L2
namespace L2
open PySem PySem.Spec PyProof.Rows LM
end L2
namespace L2
open PySem PySem.Spec PyProof.Rows LM
theorem cutT_mid' (xs : List T) (a b : Int) (h0 : 0 ≤ a) (h1 : a ≤ b) (h2 : a ≤ xs.length) : cutT xs (some a) (some b) = (xs.drop a.toNat).take (b - a).toNat := by
 unfold cutT
 have e : a = ((a.toNat : Nat) : Int) := by lia
 have e' : b = ((b.toNat : Nat) : Int) := by lia
 rw [e, e', HT.sIx_nat, HT.sIx_nat, ← e, ← e', Nat.min_eq_left (show a.toNat ≤ xs.length by lia)]
 by_cases h : b.toNat ≤ xs.length
 · rw [Nat.min_eq_left h, show (b - a).toNat = b.toNat - a.toNat by lia]
 · rw [Nat.min_eq_right (by lia), List.take_of_length_le (by rw [List.length_drop]; exact Nat.le_refl _), List.take_of_length_le (by rw [List.length_drop]; lia)]
end L2
namespace L2
open PySem PySem.Spec PyProof.Rows LM
end L2
namespace LM
noncomputable def AL (n : Int) (w v : List Int) : Prop := ∀ j : Int, 1 ≤ j → j ≤ n → imgL w j = imgL v j
theorem AL.refl {n : Int} {w : List Int} : AL n w w := fun _ _ _ => rfl
theorem AL.symm {n : Int} {w v : List Int} (h : AL n w v) : AL n v w := fun j a b => (h j a b).symm
theorem AL.trans {n : Int} {w v x : List Int} (h : AL n w v) (g : AL n v x) : AL n w x := fun j a b => (h j a b).trans (g j a b)
end LM
namespace LM
noncomputable def twL (n : Int) (i : Nat) : List Int := (List.range i).flatMap fun k => rowL (n.toNat - 1 - k)
end LM
namespace LM
end LM
namespace LM
end LM
namespace L2
open PySem PySem.Spec PyProof.Rows LM
noncomputable def gI (w : List Int) (k : Int) : Int := w.getD k.toNat 0
end L2
namespace L2
open PySem PySem.Spec PyProof.Rows LM
theorem gI_at {w : List Int} {a : Int} (h0 : 0 ≤ a) (h1 : a < w.length) : atI (w.map T.int) a = some (.int (gI w a)) := atI_ints w a h0 h1
end L2
namespace L2
open PySem PySem.Spec PyProof.Rows LM
theorem Sub.mk1 {A M : MH} {q : Nat} {o : MO} (h : Sub A M) (hq : M q = some o) : Sub (updM A q o) M := by
 intro x v hx
 by_cases e : x = q
 · rw [e] at hx ⊢
   rw [updM_same] at hx
   rw [hq, ← hx]
 · rw [updM_ne e] at hx
   exact h x v hx
end L2
namespace L2
open PySem PySem.Spec PyProof.Rows LM
end L2
namespace L2
open PySem PySem.Spec PyProof.Rows LM
end L2
namespace L2
open PySem PySem.Spec PyProof.Rows LM
noncomputable def sw (l x : Int) : Int := if x = l - 1 then l else if x = l then l - 1 else x
noncomputable def IsP (n : Int) (r : List Int) : Prop := r.Perm (range0 n)
noncomputable def mvC (one other : List Int) (l : Nat) : Bool := decide (gI other ((l : Int) - 1) > gI other l) && decide (one.idxOf ((l : Int) - 1) < one.idxOf (l : Int))
noncomputable def mvS (one other : List Int) (m : Nat) : List Nat := (List.range m).filter fun i => mvC one other (i + 1)
noncomputable def mvL (one other : List Int) : Nat := match mvS one other (one.length - 1) with
 | [] => 0
 | i :: _ => i + 1
noncomputable def begL (row : List Int) (l : Nat) : List Int := row.take (l - 1) ++ [gI row l, gI row ((l : Int) - 1)] ++ row.drop (l + 1)
theorem rangeT_range0 (n : Int) : rangeT 0 n.toNat = (range0 n).map .int := by
 unfold rangeT range0
 rw [List.map_map]
 exact List.map_congr_left fun i _ => by show T.int (0 + (i : Nat)) = T.int (i : Nat); rw [Int.zero_add]
theorem range0_sorted (n : Int) : (range0 n).Pairwise (· ≤ ·) := by
 unfold range0
 rw [List.pairwise_map]
 exact List.Pairwise.imp (fun h => by lia) List.pairwise_lt_range
theorem sorted_is {n : Int} {ns ms : List Int} (h : ms.Perm ns) (s : ms.Pairwise (· ≤ ·)) : decide (ms = range0 n) = decide (ns.Perm (range0 n)) := by
 rw [Bool.eq_iff_iff, decide_eq_true_eq, decide_eq_true_eq]
 constructor
 · rintro rfl
   exact h.symm
 · intro g
   exact List.Perm.eq_of_pairwise (fun a b _ _ h1 h2 => Int.le_antisymm h1 h2) s (range0_sorted n) (h.trans g)
noncomputable def tupT (r : List Int) : T := .tup (r.map .int)
noncomputable def stillB (R : List (List Int)) : Bool := (List.range (R.length - 1)).all fun i => decide (mvL (R.getD i []) (R.getD (i + 1) []) = 0)
theorem get_tupT {R : List (List Int)} {i : Nat} {x : T} (h : (R.map tupT)[i]? = some x) : ∃ r, R[i]? = some r ∧ x = tupT r := by
 rw [List.getElem?_map] at h
 cases e : R[i]? with
 | none => rw [e] at h; cases h
 | some s => rw [e] at h; exact ⟨s, rfl, (Option.some.inj h).symm⟩
theorem tupT_at {R : List (List Int)} {i : Nat} (h : i < R.length) : atI (R.map tupT) (i : Nat) = some (tupT (R.getD i [])) := by
 refine atI_nat ?_
 rw [List.getElem?_map, List.getD_eq_getElem?_getD, List.getElem?_eq_getElem h]
 rfl
end L2
namespace L2
open PySem PySem.Spec PyProof.Rows LM
end L2
namespace L2
open PySem PySem.Spec PyProof.Rows LM
end L2
namespace L2
open PySem PySem.Spec PyProof.Rows LM
noncomputable def flO (n : Int) (ws : List Int) : List Int := ws.reverse.map fun x => n - 1 - x
end L2
namespace L2
open PySem PySem.Spec PyProof.Rows LM
end L2
namespace L2
open PySem PySem.Spec PyProof.Rows LM
end L2
namespace L2
open PySem PySem.Spec PyProof.Rows LM
theorem seq_cut {a b : TS3} {D : Ends3} {ρ : En} {M : MH} (h : ∀ K : En → MH → Prop, K = b D → a { D with nx := K } ρ M) : tSeq3 a b D ρ M := h _ rfl
theorem seq_cut2 {a b c : TS3} {D : Ends3} {ρ : En} {M : MH} (h : ∀ K : En → MH → Prop, K = c D → tSeq3 a b { D with nx := K } ρ M) : tSeq3 a (tSeq3 b c) D ρ M := h _ rfl
theorem seq_cut3 {a b c d : TS3} {D : Ends3} {ρ : En} {M : MH} (h : ∀ K : En → MH → Prop, K = d D → tSeq3 a (tSeq3 b c) { D with nx := K } ρ M) : tSeq3 a (tSeq3 b (tSeq3 c d)) D ρ M := h _ rfl
end L2
namespace L2
open PySem PySem.Spec PyProof.Rows LM
end L2
namespace L2
open PySem PySem.Spec PyProof.Rows LM
end L2
namespace L2
open PySem PySem.Spec PyProof.Rows LM
end L2
namespace L2
open PySem PySem.Spec PyProof.Rows LM
noncomputable def setp (R : List (List Int)) (i : Nat) (a b : List Int) : List (List Int) := (R.set i a).set (i + 1) b
noncomputable def StepR (n : Int) (R R' : List (List Int)) : Prop := ∃ (i l : Nat) (a b : List Int), R[i]? = some a ∧ R[i + 1]? = some b ∧ 1 ≤ l ∧ (l : Int) < n ∧ mvC a b l = true ∧ R' = setp R i (a.map (sw l)) (begL b l)
inductive Go (n : Int) : List (List Int) → List (List Int) → Prop where
 | refl (R : List (List Int)) : Go n R R
 | head {R R1 R2 : List (List Int)} (h : StepR n R R1) (g : Go n R1 R2) : Go n R R2
theorem Go.trans {n : Int} {R R1 R2 : List (List Int)} (a : Go n R R1) (b : Go n R1 R2) : Go n R R2 := by
 induction a with
 | refl _ => exact b
 | head h _ ih => exact .head h (ih b)
noncomputable def okR (n : Int) (R : List (List Int)) : Prop := ∀ r ∈ R, IsP n r
end L2
namespace L2
open PySem PySem.Spec PyProof.Rows LM
end L2
namespace L2
open PySem PySem.Spec PyProof.Rows LM
end L2
namespace L2
open PySem PySem.Spec PyProof.Rows LM
end L2
namespace L2
open PySem PySem.Spec PyProof.Rows LM
end L2
namespace L2
open PySem PySem.Spec PyProof.Rows LM
end L2
namespace L2
open PySem PySem.Spec PyProof.Rows LM
noncomputable def ordF (n l : Int) : List Int := if l > 0 then swapN (range0 n) (l - 1).toNat else swapN (range0 n).reverse (n + l - 1).toNat
end L2
namespace L2
open PySem PySem.Spec PyProof.Rows LM
noncomputable def rowsL (n : Int) (ws : List Int) : List (List Int) := ws.foldl (fun R l => if l > 0 then R ++ [ordF n l] else R.map (flO n) ++ [ordF n l]) []
end L2
namespace L2
open PySem PySem.Spec PyProof.Rows LM
end L2
namespace L2
open PySem PySem.Spec PyProof.Rows LM
structure Hd (n : Int) (S R : List (List Int)) (c : Nat) : Prop where
 ok : okR n R
 st : stillB R = true
 dr : S.drop c = R
 ct : S.count (range0 n).reverse = c + R.count (range0 n).reverse
theorem Hd.nil {n : Int} {S : List (List Int)} {c : Nat} (h : Hd n S [] c) : S.count (range0 n).reverse = c := by
 rw [h.ct, List.count_nil, Nat.add_zero]
end L2
namespace L2
open PySem PySem.Spec PyProof.Rows LM
structure FS (n : Int) (R S : List (List Int)) : Prop where
 ok : okR n S
 st : stillB S = true
 np : ∀ r ∈ S, r ≠ range0 n
 go : ∃ k, Go n R (S ++ List.replicate k (range0 n))
theorem FS.self {n : Int} {S : List (List Int)} (ok : okR n S) (st : stillB S = true) (np : ∀ r ∈ S, r ≠ range0 n) : FS n S S := ⟨ok, st, np, 0, by rw [List.replicate_zero, List.append_nil]; exact .refl _⟩
end L2
namespace L2
open PySem PySem.Spec PyProof.Rows LM
noncomputable def negs (ws : List Int) : Nat := (ws.filter fun l => decide (l < 0)).length
noncomputable abbrev PR := Int × List (List Int)
noncomputable def Fo (n : Int) (x f : PR) : Prop := ∃ S, FS n x.2 S ∧ f = (x.1 + (S.count (range0 n).reverse : Nat), S.drop (S.count (range0 n).reverse))
noncomputable def flz (n p : Int) (R : List (List Int)) : List (List Int) := if p % 2 = 0 then R else R.map (flO n)
noncomputable def mulP (n : Int) (x y : PR) : PR := (x.1 + y.1, flz n y.1 x.2 ++ y.2)
noncomputable def EqP (n : Int) (x y : PR) : Prop := ∀ A B : PR, okR n A.2 → okR n B.2 → ∀ f, Fo n (mulP n (mulP n A x) B) f ↔ Fo n (mulP n (mulP n A y) B) f
theorem EqP.symm {n : Int} {x y : PR} (h : EqP n x y) : EqP n y x := fun A B a b f => (h A B a b f).symm
theorem EqP.trans {n : Int} {x y z : PR} (h : EqP n x y) (g : EqP n y z) : EqP n x z := fun A B a b f => (h A B a b f).trans (g A B a b f)
theorem okR_nil (n : Int) : okR n [] := fun r hr => by cases hr
noncomputable def wp (n : Int) (w : List Int) : PR := (-(negs w : Nat), rowsL n w)
end L2
namespace L2
open PySem PySem.Spec PyProof.Rows LM
end L2
namespace LM
end LM
namespace L2
open PySem PySem.Spec PyProof.Rows LM
noncomputable def EqW (n : Int) (w v : List Int) : Prop := EqP n (wp n w) (wp n v)
theorem EqW.symm {n : Int} {w v : List Int} (h : EqW n w v) : EqW n v w := EqP.symm h
theorem EqW.trans {n : Int} {w v x : List Int} (h : EqW n w v) (g : EqW n v x) : EqW n w x := EqP.trans h g
end L2
namespace LM
end LM
namespace L2
open PySem PySem.Spec PyProof.Rows LM
section
variable {n : Int} (h6 : n ≤ 6)
include h6
end
end L2
namespace L2
open PySem PySem.Spec PyProof.Rows LM
end L2
namespace L2
open PySem PySem.Spec PyProof.Rows LM
theorem Fo.nil {n p : Int} : Fo n (p, []) (p, []) := ⟨[], FS.self (okR_nil n) rfl (fun r hr => by cases hr), by show (p, []) = (p + ((0 : Nat) : Int), []); rw [Int.natCast_zero, Int.add_zero]⟩
end L2
namespace L2
open PySem PySem.Spec PyProof.Rows LM
end L2
namespace L2
open PySem PySem.Spec PyProof.Rows LM
end L2
namespace L2
open PySem PySem.Spec PyProof.Rows LM
section
variable {n : Int}
end
end L2
namespace L2
open PySem PySem.Spec PyProof.Rows LM
section
variable {n : Int}
end
end L2
namespace L2
open PySem PySem.Spec PyProof.Rows LM
end L2
namespace L2
open PySem PySem.Spec PyProof.Rows LM
section
variable {n : Int}
end
end L2
namespace L2
open PySem PySem.Spec PyProof.Rows
noncomputable def rangeD (hi : Int) (n : Nat) : List T := (List.range n).map fun i => T.int (hi - (i : Nat))
section
variable {X : Cx} {a b c : Expr} {t : TA3} {pos : Pos}
noncomputable def iRng3_3 (t : TA3) : TI3 := fun ρ M R => t ρ M fun xs M1 => match xs with
 | [.int i, .int j, .int s] => (s = -1 ∧ -(2 ^ 62) ≤ i ∧ i < 2 ^ 62 ∧ -(2 ^ 62) ≤ j ∧ j < 2 ^ 62) ∧ R ⟨rangeD i (i - j).toNat, fun _ => True⟩ M1
 | _ => False
end
end L2
namespace L2
open PySem PySem.Spec PyProof.Rows
section
variable {X : Cx}
end
end L2
namespace L2
open PySem PySem.Spec PyProof.Rows LM
end L2
namespace L2
open PySem PySem.Spec PyProof.Rows
theorem Inv.turnNew {X : Cx} {pins : List (Addr × Obj)} {σ : St} {H : Hp} {s : Shared} {h' : Heap} {t' : Nat} {e it T : Addr} {xs : List V} (I : Inv X pins σ H s) (fe : FpOk X pins H e) (fi : FpOk X pins H it)
   (k : ∀ b o, b ≠ e → b ≠ it → s.heap.get? b = some o → h'.get? b = some o) (hT : s.heap.objs.size ≤ T) (new : ObjOk X.prog X.w (upd H T (.tup xs)) h' T (.tup xs)) :
   Inv X pins σ (upd H T (.tup xs)) { s with heap := h', toks := t' } := by
 have hn : H T = none := I.hok.fresh hT
 have ne : ∀ b u, H b = some u → b ≠ e ∧ b ≠ it := fun b u q => ⟨fun z => (by rw [z, fe.1] at q; cases q), fun z => (by rw [z, fi.1] at q; cases q)⟩
 have nc : ∀ {b : Addr}, b ∉ [e, it] → b ≠ e ∧ b ≠ it := fun hc => ⟨fun z => hc (by simp [z]), fun z => hc (by simp [z])⟩
 refine I.step (g' := s.gens) (d' := s.drawn) (ch := [e, it]) (fun b hb => ?_) (fun b o _ _ hc q _ => k b o (nc hc).1 (nc hc).2 q) (fun b o _ _ hc q _ => ⟨o.slots, k b o (nc hc).1 (nc hc).2 q⟩)
   (fun b o _ q n => by rw [upd_ne (Nat.ne_of_lt (Nat.lt_of_lt_of_le (Heap.lt_size q) hT))]; exact n)
   (fun b o hc q => ⟨o, k b o (nc hc).1 (nc hc).2 q⟩) (fun b xs q => by rw [upd_ne (ne_of_none q hn)]; exact q) (fun b o u q => by rw [upd_ne (ne_of_none q hn)]; exact q) (fun b ps q => ⟨#[], by rw [upd_ne (ne_of_none q hn), q]; simp⟩) (fun m hm => ?_) (fun b u q => ?_) I.bare
 · have z : b = e ∨ b = it := by simpa using hb
   rcases z with rfl | rfl
   · exact ⟨fe.2.2.2.1, fe.2.1, fe.2.2.2.2.1, fe.2.2.2.2.2⟩
   · exact ⟨fi.2.2.2.1, fi.2.1, fi.2.2.2.2.1, fi.2.2.2.2.2⟩
 · obtain ⟨o, es, ep, ho, r⟩ := hm
   exact ⟨o, es, ep, k _ o (Ne.symm fe.2.1) (Ne.symm fi.2.1) ho, r⟩
 · by_cases hb : b = T
   · subst hb; rw [upd_same] at q; cases q; exact new
   · rw [upd_ne hb] at q
     refine (I.hok b u q).stay (fun c v hc z => ?_) (fun c z => by rw [upd_ne (ne_of_none z hn)]; exact z) fun c xs z => by rw [upd_ne (ne_of_none z hn)]; exact z
     rcases hc with y | y
     · rw [y] at z ⊢; exact k b v (ne b u q).1 (ne b u q).2 z
     · exact k c v (ne c _ y).1 (ne c _ y).2 z
theorem for_cut {i : TI3} {g : TG3} {b : TS3} {D : Ends3} {ρ : En} {M : MH} (h : ∀ B : TS3, B = b → tFor3 i g B D ρ M) : tFor3 i g b D ρ M := h _ rfl
section
variable {X : Cx}
noncomputable def enT (ts : List T) : List T := (List.range ts.length).map fun i => .tup [.int (i : Nat), ts.getD i .non]
theorem enT_length (ts : List T) : (enT ts).length = ts.length := by unfold enT; rw [List.length_map, List.length_range]
theorem enT_get {ts : List T} {i : Nat} {x : T} (h : (enT ts)[i]? = some x) : ∃ t, ts[i]? = some t ∧ x = .tup [.int i, t] := by
 have hi : i < ts.length := by have := (List.getElem?_eq_some_iff.mp h).1; rwa [enT_length] at this
 unfold enT at h
 rw [List.getElem?_map, List.getElem?_range hi] at h
 refine ⟨ts[i], List.getElem?_eq_getElem hi, ?_⟩
 have e : ts.getD i .non = ts[i] := by rw [List.getD_eq_getElem?_getD, List.getElem?_eq_getElem hi]; rfl
 rw [← e]
 exact (Option.some.inj h).symm
end
end L2
namespace L2
open PySem PySem.Spec PyProof.Rows
section
variable {X : Cx} {pins : List (Addr × Obj)} {σ : St} {H : Hp} {s : Shared}
end
end L2
namespace L2
open PySem PySem.Spec PyProof.Rows
section
variable {X : Cx} {Ha : Hp} {a b c e : Expr} {es : List Expr} {st : Stmt} {rest ba bb body : List Stmt} {ta tb te : TE3} {tA : TT3} {t u : TS3} {pos : Pos}
end
section
variable {X : Cx} {Ha : Hp} {e : Expr} {es : List Expr} {t : TA3} {pos : Pos}
end
end L2
namespace L2
open PySem PySem.Spec PyProof.Rows
section
variable {X : Cx} {Ha : Hp} {e : Expr} {te : TE3} {pos : Pos}
end
section
variable {P : Program} {w : World} {K : PySem.W.Frag} {mg : Str → Option Value} {base : Heap}
end
end L2
namespace L2
open PySem PySem.Spec PyProof.Rows
section
variable {prog : Program} {w : World} {A : Around} {E : Value → Shared → Prop} {s : Shared} {h : Heap} {g : Array GenState} {d : Drawn} {t : Nat} {os : OsState} {a C : Addr} {o : Obj} {K : PySem.W.Frag}
local macro_rules | `(tactic| walk_at "xc") => `(tactic| (repeat any_goals (first | wp_step | assumption)))
end
end L2
namespace L2
open PySem PySem.Spec PyProof.Rows
end L2
namespace L2
open PySem PySem.Spec PyProof.Rows
section
variable {X : Cx} {pos : Pos}
end
end L2
namespace L2
open PySem PySem.Spec PyProof.Rows
section
variable {X : Cx} {pins : List (Addr × Obj)} {σ : St} {H : Hp} {s : Shared}
end
end L2
namespace L2
open PySem PySem.Spec PyProof.Rows
local macro_rules | `(tactic| walk_at "xc") => `(tactic| (repeat any_goals (first | wp_step | assumption)))
section
variable {X : Cx} {pos : Pos}
end
end L2
namespace L2
open PySem PySem.Spec PyProof.Rows
section
variable {X : Cx} {pins : List (Addr × Obj)} {σ σ' : St} {H : Hp} {s : Shared}
end
end L2
namespace L2
open PySem PySem.Spec PyProof.Rows
section
variable {X : Cx} {body : List Stmt}
end
end L2
namespace L2
open PySem PySem.Spec PyProof.Rows
section
variable {K : PySem.W.Frag} {mg : Str → Option Value} {P : Addr} {cs : List (Str × Addr)}
end
section
variable {X : Cx}
end
end L2
namespace L2
open PySem PySem.Spec PyProof.Rows
end L2
namespace L2
open PySem PySem.Spec PyProof.Rows
section
variable {X : Cx}
end
end L2
namespace L2
open PySem PySem.Spec PyProof.Rows
noncomputable def tAugI3 (i : Nat) (te : TE3) (f : Int → Int → Int) : TS3 := fun D ρ M => match ρ[i]? with
 | some (some (.int a)) => te ρ M fun y M1 => match y with
   | .int b => D.nx (ρ.set i (some (.int (f a b)))) M1
   | _ => False
 | _ => False
theorem s_augI {X : Cx} {i : Nat} {x : Str} {e : Expr} {te : TE3} {op : Operator} {f : Int → Int → Int} {pos pos' : Pos} (ho : PIp X op (ipI f)) (he : HE X e te) (hN : X.N.Nodup) (hi : X.N[i]? = some x := by rfl) (hx : Loc X.env.scope x := by first | exact Or.inl rfl | exact Or.inr rfl)
   (hf : X.fn x = true ∨ X.env.scope.names.lookup x = some .local := by first | exact .inl rfl | exact .inr rfl | assumption) : HS X (.AugAssign (.Name x pos') op e pos) (tAugI3 i te f) := fun D ρ M h =>
 (ps_aug hN hi hx (he.d (ρ := ρ)) ho hf).imp fun D2 σ H ⟨hr, hh, en⟩ => by
   unfold tAugI3 at h
   split at h
   · rename_i a e
     obtain ⟨v, ev, rv⟩ := hr.2 i _ e
     obtain rfl := inv_int rv
     refine ⟨_, ev, M, _, h, hr, hh, fun t v M1 H1 k1 h1 r1 q1 => ?_⟩
     dsimp only at q1
     split at q1
     · obtain rfl := inv_int r1
       exact ⟨a, _, rfl, rfl, en.nx _ M1 _ H1 k1 ((hr.kp k1).set i rep_int) h1 q1⟩
     · exact q1.elim
   · exact h.elim
end L2
namespace L2
open PySem PySem.Spec PyProof.Rows
section
variable {X : Cx} {d : Addr} {ks : List (Str × Addr)}
end
section
variable {X : Cx} {d : Addr} {ks : List (Str × Addr)}
end
end L2
namespace L2
open PySem PySem.Spec PyProof.Rows
section
variable {X : Cx}
end
end L2
namespace L2
open PySem PySem.Spec PyProof.Rows
section
variable {X : Cx} {Ha : Hp} {body : List Stmt} {pos : Pos}
end
end L2
namespace L2
open PySem PySem.Spec PyProof.Rows
open AutoSeq1 (wpAny_loadPart')
theorem meets_enumT (t : Addr) (items : Array Value) (n : Nat) (dct : Option Addr) (sl : Array (Option Value)) :
   Meets (Builtin.«enumerate.__new__» ⟨[.type "enumerate", .ref t], []⟩) (fun _ R s => s.heap.get? t = some { cls := .type "tuple", dict := dct, data := .seq items n, slots := sl } ∧
     R (.ok (.ret (.ref (s.heap.push { cls := .type "tuple_iterator", data := .fields #[.ref t, .int 0 0] }).objs.size)))
       { s with heap := (s.heap.push { cls := .type "tuple_iterator", data := .fields #[.ref t, .int 0 0] }).push { cls := .type "enumerate", data := .fields #[.none, .bool false, .ref s.heap.objs.size, rawInt 0, .none, .none] } }) :=
 .of_wp fun prog w A R s h => by
   obtain ⟨hp, g, d, tk, os⟩ := s; obtain ⟨hl, h⟩ := h
   have hsub := sub_enumerate
   have hL : Heap.IsTuple (Shared.heap ⟨hp, g, d, tk, os⟩) t items := ⟨_, hl, rfl, n, rfl⟩
   wp_walk using wpAny_loadPart' hl
   refine wpAny_stack_any fun st => wpAny_pure ?_
   split
   · rename_i c _ _ _ _ _
     cases (c == Value.type "enumerate")
     · wp_walk using wpAny_loadPart' hl, wpAny_pyIter_tuple hL
       exact ⟨_, rfl, h⟩
     · wp_walk using wpAny_loadPart' hl, wpAny_pyIter_tuple hL
       exact ⟨_, rfl, h⟩
   · wp_walk using wpAny_loadPart' hl, wpAny_pyIter_tuple hL
     exact ⟨_, rfl, h⟩
section
variable {prog : Program} {w : World} {A : Around} {E : Value → Shared → Prop} {s : Shared}
theorem call_enumT {l : Addr} {items : Array Value} {Q : Value → Shared → Prop} (hL : s.heap.IsTuple l items)
   (h : ∀ h', IsEnum h' (s.heap.objs.size + 1) s.heap.objs.size 0 .none → h'.IsTupleIter s.heap.objs.size l 0 → h'.objs.size = s.heap.objs.size + 2 →
     (∀ b o, s.heap.get? b = some o → h'.get? b = some o) → Q (.ref (s.heap.objs.size + 1)) { s with heap := h' }) :
   wpAny (model prog w) A (call (.type "enumerate") [.ref l]) Q E s := by
 obtain ⟨⟨c, dct, dt, sl⟩, hl, hc, n, hd⟩ := hL
 replace hc : c = .type "tuple" := hc
 replace hd : dt = .seq items n := hd
 subst hc hd
 refine callType_new F.called_enumerate (by decide) (F.typeCall_enumerate_1 _) (F.newCall_enumerate_1 _) (fun obj => F.args_object_init_2 obj _) F.entry_enumerate_new
   (meets_enumT l items n dct sl) ⟨hl, ?_⟩
 have hz : (s.heap.push { cls := .type "tuple_iterator", data := .fields #[.ref l, .int 0 0] }).objs.size = s.heap.objs.size + 1 := Heap.size_push ..
 show _ ∧ _
 rw [hz]
 have he : IsEnum ((s.heap.push { cls := .type "tuple_iterator", data := .fields #[.ref l, .int 0 0] }).push
     { cls := .type "enumerate", data := .fields #[.none, .bool false, .ref s.heap.objs.size, rawInt 0, .none, .none] }) (s.heap.objs.size + 1) s.heap.objs.size 0 .none := by
   have := Heap.get?_push_size (s.heap.push { cls := .type "tuple_iterator", data := .fields #[.ref l, .int 0 0] })
     (o := { cls := .type "enumerate", data := .fields #[.none, .bool false, .ref s.heap.objs.size, rawInt 0, .none, .none] }) rfl
   rw [hz] at this; exact this
 refine ⟨⟨_, he, rfl⟩, h _ he ⟨_, Heap.get?_push_of_some _ (Heap.get?_push_size _ rfl), rfl, rfl⟩ (by rw [Heap.size_push, hz]) fun b o x => Heap.get?_push_of_some _ (Heap.get?_push_of_some _ x)⟩
theorem nextOf_tup_item {it l : Addr} {i : Nat} {items} {x : Value} {Q : Value → Shared → Prop} (hit : s.heap.IsTupleIter it l i)
   (hl : s.heap.IsTuple l items) (hx : items[i]? = some x)
   (hQ : ∀ h', h'.IsTupleIter it l (i + 1) → Heap.SameBut it s.heap h' → Q x { s with heap := h' }) :
   wpAny (model prog w) A (Builtin.SmallTypes.nextOf (.ref it)) Q E s := by
 obtain ⟨o, ho, hc, hd⟩ := id hit
 obtain ⟨ol, hol, _, nl, hdl⟩ := hl
 unfold Builtin.SmallTypes.nextOf
 refine wpAny_bind (wpAny_callSpecial?_slot (name := Str.ofString "__next__") hit.typeIs F.slot_tuple_iterator_next
   (wpAny_call_entry F.slot_tuple_iterator_next hit.typeIs F.entry_tuple_iterator_next ?_ (F.args_tuple_iterator_next_1 _)))
 show wpAny _ _ (field (.ref it) 0 >>= _) _ _ s
 refine wpAny_bind (wpAny_field ho hd (x := .ref l) rfl ?_)
 show wpAny _ _ (if (Value.ref l == Value.none) = true then _ else _) _ _ s
 rw [if_neg (show ¬ ((Value.ref l == Value.none) = true) from Bool.false_ne_true)]
 show wpAny _ _ (field (.ref it) 1 >>= _) _ _ s
 refine wpAny_bind (wpAny_field ho hd (x := .int i 0) rfl ?_)
 show wpAny _ _ (seqItems? (.ref l) >>= _) _ _ s
 refine wpAny_bind (wpAny_seqItems hol hdl ?_)
 simp only [Int.toNat_natCast, hx]
 refine wpAny_bind (wpAny_setField ho hd (by simp) (wpAny_pure ⟨x, rfl, wpAny_pure (hQ _ ?_ (Heap.SameBut.update ..))⟩))
 exact ⟨_, Heap.get?_update_self _ ho (Obj.isFreed_of_fields (Obj.data_mapFields hd _)), (Obj.cls_mapFields ..).trans hc, by
   rw [Obj.data_mapFields hd]; simp [rawInt]⟩
theorem nextOf_tup_end {it l : Addr} {i : Nat} {items} {Q : Value → Shared → Prop} (hh : A.handled = none)
   (hit : s.heap.IsTupleIter it l i) (hl : s.heap.IsTuple l items) (hx : items[i]? = none)
   (hE : ∀ h' e, Heap.ExtBut it s.heap h' → (∃ o, h'.get? e = some o ∧ o.cls = .type "StopIteration") → E (.ref e) { s with heap := h' }) :
   wpAny (model prog w) A (Builtin.SmallTypes.nextOf (.ref it)) Q E s := by
 obtain ⟨o, ho, hc, hd⟩ := id hit
 obtain ⟨ol, hol, _, nl, hdl⟩ := hl
 unfold Builtin.SmallTypes.nextOf
 refine wpAny_bind (wpAny_callSpecial?_slot (name := Str.ofString "__next__") hit.typeIs F.slot_tuple_iterator_next
   (wpAny_call_entry F.slot_tuple_iterator_next hit.typeIs F.entry_tuple_iterator_next ?_ (F.args_tuple_iterator_next_1 _)))
 show wpAny _ _ (field (.ref it) 0 >>= _) _ _ s
 refine wpAny_bind (wpAny_field ho hd (x := .ref l) rfl ?_)
 show wpAny _ _ (if (Value.ref l == Value.none) = true then _ else _) _ _ s
 rw [if_neg (show ¬ ((Value.ref l == Value.none) = true) from Bool.false_ne_true)]
 show wpAny _ _ (field (.ref it) 1 >>= _) _ _ s
 refine wpAny_bind (wpAny_field ho hd (x := .int i 0) rfl ?_)
 show wpAny _ _ (seqItems? (.ref l) >>= _) _ _ s
 refine wpAny_bind (wpAny_seqItems hol hdl ?_)
 simp only [Int.toNat_natCast, hx]
 refine wpAny_bind (wpAny_rule (wpAny_bind (wpAny_setField ho hd (by simp) ?_)))
 show wpAny _ _ (newExc (.type "StopIteration") [] >>= _) _ _ _
 refine wpAny_bind ?_
 simp only [newExc, newTuple]
 refine wpAny_bind (wpAny_newObj_type ?_ (by size_fits))
 refine wpAny_bind (m := firstArgMember _ _) (wpAny_of_eq (a := Value.none) (by first | rfl | (simp only [firstArgMember]; rfl)) ?_)
 refine wpAny_newObj_type ?_ (by size_fits)
 simp only [raiseNew]
 refine wpAny_bind (wpAny_handled ?_)
 first | rw [show A.in1.handled = none from hh] | rw [hh]
 refine wpAny_bind (wpAny_pure (wpAny_throw ?_))
 exact hE _ _ (((Heap.SameBut.update ..).extBut.push _).push _) ⟨_, Heap.get?_push_size _ rfl, rfl⟩
theorem draws_tup (hh : A.handled = none) (it l : Addr) (hne : l ≠ it) (items : Array Value) :
   Draws prog w A it [it, l] items.size (fun i v => items[i]? = some v) (fun i h => h.IsTupleIter it l i ∧ h.IsTuple l items) where
 live := fun _ _ st => let ⟨o, ho, _⟩ := st.1; ⟨o, ho⟩
 frame := fun _ _ _ st hk => ⟨st.1.at fun o e => hk it (by simp) o e, st.2.at fun o e => hk l (by simp) o e⟩
 item := fun i s Q E hi st hQ => by
   refine nextOf_tup_item st.1 st.2 (x := items[i]) (by simp [hi]) fun h' hit' hs' => ?_
   exact hQ _ h' s.toks (by simp [hi]) ⟨hit', st.2.extBut hs'.extBut hne⟩ hs'
 done := fun s Q E st hE => nextOf_tup_end hh st.1 st.2 (by simp) hE
end
noncomputable def IttE (K : PySem.W.Frag) (a : Addr) (n : Nat) : It :=
 ⟨fun i H => i < n ∧ ∃ xs, SqT K H a xs ∧ xs.length = n, fun i H x H' => ∃ T y, x = .ref T ∧ H T = none ∧ H' = upd H T (.tup [.int i, y]) ∧ ∀ xs, SqT K H a xs → xs[i]? = some y, fun i H => i = n ∧ ∃ xs, SqT K H a xs ∧ xs.length = n⟩
theorem turn_enumT {P : Program} {w : World} {K : PySem.W.Frag} {es : List Expr} {x1} {tp : Pos} (a e it : Addr) (n : Nat) (hne : e ≠ it) (hai : a ≠ it) (hae : a ≠ e) : Turn P w K (.Tuple es x1 tp) (IttE K a n) [e, it] e (fun i h => (∃ old, IsEnum h e it (i : Int) old) ∧ Heap.IsTupleIter h it a i) where
 mem := by simp
 obj := fun i h st b hb => by
   obtain ⟨⟨old, he⟩, hit⟩ := st
   have z : b = e ∨ b = it := by simpa using hb
   rcases z with rfl | rfl
   · exact ⟨_, he, fun v z => by cases z⟩
   · obtain ⟨o, q, c, d⟩ := hit
     exact ⟨o, q, fun v z => by rw [d] at z; cases z⟩
 keep := fun i h h' st k => by
   obtain ⟨⟨old, he⟩, hit⟩ := st
   exact ⟨⟨old, k e (by simp) _ he⟩, hit.at fun o q => k it (by simp) o q⟩
 item := by
   intro X hP hw hK hc i pins s σ H E I hf st hg
   subst hP hw hK
   obtain ⟨⟨old, he⟩, hit⟩ := st
   obtain ⟨hi, xs, hq, hxn⟩ := hg
   subst hxn
   obtain ⟨its, rv, p, hz⟩ := I.tuple hq
   obtain ⟨x, hx⟩ : ∃ x, xs[i]? = some x := ⟨_, List.getElem?_eq_getElem hi⟩
   obtain ⟨u, hu, ru⟩ := rv.get hx
   have fe := hf e (by simp)
   have fi := hf it (by simp)
   have hpt : s.heap.IsTuple a its.toArray := p
   have hsz0 : i < its.toArray.size := by have := rv.length; simp; lia
   refine wpAny_pyNext_enum_itemD (draws_tup (A := X.A.in1) (show X.A.in1.handled = none from I.ok.hd hc) it a hai its.toArray) he ⟨hit, hpt⟩ hsz0 hne (by simp [hne, hae.symm]) fun x' h1 tk hx' ho hit1 hT hsz hk => ?_
   obtain rfl : u = x' := by
     have e1 : its.toArray[i]? = some u := by simpa using hu
     exact Option.some.inj (e1.symm.trans hx')
   refine ⟨_, rfl, wpAny_letOwnedTupleGo_enum ho fun h2 he2 hs2 => ?_⟩
   have neT : s.heap.objs.size ≠ e := Nat.ne_of_gt (Heap.lt_size he)
   have k2 : ∀ b o, b ≠ e → b ≠ it → s.heap.get? b = some o → h2.get? b = some o := fun b o h3 h4 q => (hs2.2 b h3).trans (hk b o h3 h4 q)
   have hT2 : h2.get? s.heap.objs.size = some { cls := .type "tuple", data := .seq #[.int i tk, u] } := (hs2.2 _ neT).trans hT
   have hn : H s.heap.objs.size = none := I.hok.fresh (Nat.le_refl _)
   have I2 : Inv X pins σ (upd H s.heap.objs.size (.tup [.int i, x])) { s with heap := h2, toks := tk + 1 } := I.turnNew fe fi k2 (Nat.le_refl _)
     ⟨by simp only [List.length_cons, List.length_nil]; rw [sizeLine_eq]; decide, [.int i tk, u], .cons ⟨_, rfl⟩ (.cons ru .nil), _, hT2, rfl, rfl, _, rfl⟩
   refine ⟨.ref s.heap.objs.size, _, I2, rfl, ⟨_, x, rfl, hn, rfl, fun ys hy => by rw [I.tuple_inj hy hq]; exact hx⟩, ⟨⟨_, he2⟩, hit1.1.at fun o q => (hs2.2 it hne.symm).trans q⟩, fun b hb => ?_⟩
   have z : b = e ∨ b = it := by simpa using hb
   have hb' : b < s.heap.objs.size := by
     rcases z with rfl | rfl
     · exact Heap.lt_size he
     · obtain ⟨o, q, _⟩ := hit
       exact Heap.lt_size q
   rw [upd_ne (Nat.ne_of_lt hb')]
   exact (hf b hb).1
 done := by
   intro X hP hw hK hc i pins s σ H E I hf st hg
   subst hP hw hK
   obtain ⟨⟨old, he⟩, hit⟩ := st
   obtain ⟨hi, xs, hq, hxn⟩ := hg
   subst hi
   obtain ⟨its, rv, p, hz⟩ := I.tuple hq
   have hl := rv.length
   obtain ⟨f0, f1, f2, f3, f4, f5⟩ := hf it (by simp)
   have hpt : s.heap.IsTuple a its.toArray := p
   have hn2 : i = its.toArray.size := by simp; lia
   rw [hn2] at hit
   exact wpAny_pyNext_enum_endD (draws_tup (A := X.A.in1) (show X.A.in1.handled = none from I.ok.hd hc) it a hai its.toArray) he ⟨hit, hpt⟩ fun h' eb => ⟨rfl, I.turned (t' := s.toks) (fun b o hb e => eb b o hb e) f0 f1 f3 f4 f5⟩
 self := fun A i s Q E st h => by
   obtain ⟨⟨old, he⟩, _⟩ := st
   exact wpAny_pyIter_enum he h
section
variable {X : Cx}
theorem itok_enumT {K : PySem.W.Frag} {H : Hp} {a : Addr} {xs : List V} {ts : List T} (h : SqT K H a xs) (r : Reps K H xs ts) : ItOk K H (IttE K a ts.length) ⟨enT ts, fun _ => True⟩ := by
 refine ⟨fun H' M' k hh _ => ⟨by show (enT ts).length = _; rw [enT_length], xs, k.tup _ _ h, r.length⟩, fun i x H' M' e k hh _ => ?_⟩
 obtain ⟨t, ht, rfl⟩ := enT_get e
 obtain ⟨v, e1, r1⟩ := r.get ht
 refine ⟨⟨(List.getElem?_eq_some_iff.mp ht).1, xs, k.tup _ _ h, r.length⟩, fun v' H'' y => ?_⟩
 obtain ⟨p, y, rfl, hn, rfl, hy⟩ := y
 have e2 := hy xs (k.tup _ _ h)
 rw [e1] at e2
 cases e2
 refine ⟨Kp.new hn, hh.keep hn, rep_tup (SqT.of upd_same) ?_⟩
 unfold Reps
 refine ⟨_, _, rfl, rep_int, ?_⟩
 unfold Reps
 refine ⟨_, _, rfl, Rep.kp (Kp.new hn) _ _ (Rep.kp k _ _ r1), ?_⟩
 unfold Reps
 rfl
noncomputable def iEnumT (tl : TE3) : TI3 := fun ρ M R => tl ρ M fun x M1 => match x with
 | .tup ts => R ⟨enT ts, fun _ => True⟩ M1
 | _ => False
theorem i_enumT {es : List Expr} {x1} {tp pos : Pos} {l : Expr} {tl : TE3} {p : Pos} (hm : X.mg "enumerate" = none) (hl : HE X l tl) (hg : Gl X "enumerate" := by rfl) (hs : starEach [l] X.env = [(false, eval l X.env)] := by rfl) : HI X (.Tuple es x1 tp) (.Call (.Name "enumerate" p) [l] [] pos) (iEnumT tl) := by
 intro ρ M R h pins s σ H R2 I b
 obtain ⟨hr, hh, en⟩ := b
 have pa := pa_cons (X := X) (hl.d (ρ := ρ)) pa_nil hs
 refine Call_ (ld_blt I hg hm PyProof.Rows.boot_enumerate (PyProof.Rows.callWith_type1 (thn (pa pos pins s σ H (fun vs H1 => ∃ v t M1, vs = [v] ∧ Kp X.K H H1 ∧ HR X.K H1 M1 ∧ Rep X.K H1 v t ∧ (match t with
   | .tup ts => R ⟨enT ts, fun _ => True⟩ M1
   | _ => False)) I ⟨M, _, h, hr, hh, fun t v M1 H1 k1 h1 r1 q1 => ⟨v, t, M1, rfl, k1, h1, r1, q1⟩⟩) fun us s1 ⟨vs, H1, I1, r1, v, t, M1, e, k1, h1, rt, q1⟩ => ?_) hs rfl))
 subst e
 cases r1 with
 | cons r rr =>
   cases rr
   split at q1
   · rename_i ts
     obtain ⟨a, xs, rfl, g1, g2⟩ := inv_tup rt
     cases r
     obtain ⟨its, rv, p, hz⟩ := I1.tuple g1
     have hpt : s1.heap.IsTuple a its.toArray := p
     have ha : a < s1.heap.objs.size := by obtain ⟨o, ho, _⟩ := hpt; exact Heap.lt_size ho
     refine call_enumT hpt fun h' he hit hsz hk => ?_
     refine wpAny_pyIter_enum (s := { s1 with heap := h' }) he ?_
     refine ⟨s1.heap.objs.size + 1, [s1.heap.objs.size + 1, s1.heap.objs.size], _, _, H1, rfl, I1.kept (t' := s1.toks) hk, turn_enumT a _ _ ts.length (Nat.succ_ne_self _) (Nat.ne_of_lt ha) (Nat.ne_of_lt (Nat.lt_succ_of_lt ha)), ⟨⟨_, he⟩, hit⟩, fun b hb => ?_, en _ _ M1 H1 k1 h1 (itok_enumT g1 g2) q1⟩
     have z : b = s1.heap.objs.size + 1 ∨ b = s1.heap.objs.size := by simpa using hb
     rcases z with rfl | rfl
     · exact I1.fpOk (Nat.le_succ _) (I1.hok.fresh (Nat.le_succ _))
     · exact I1.fpOk (Nat.le_refl _) (I1.hok.fresh (Nat.le_refl _))
   · exact q1.elim
end
theorem starEach_tup {es rest : List Expr} {x1} {pos : Pos} {env : Env} : starEach (.Tuple es x1 pos :: rest) env = (false, eval (.Tuple es x1 pos) env) :: starEach rest env := rfl
theorem a_consT {X : Cx} {es1 es : List Expr} {x1} {pos : Pos} {ta : TE3} {t : TA3} (ha : HE X (.Tuple es1 x1 pos) ta) (hr : HA X es t) : HA X (.Tuple es1 x1 pos :: es) (tCons3 ta t) := a_cons ha hr (hs := starEach_tup)
end L2
namespace L2
open PySem PySem.Spec PyProof.Rows
section
variable {prog : Program} {w : World} {A : Around} {E : Value → Shared → Prop} {s : Shared}
theorem collect_tup {l : Addr} {vs : List Value} {Q : List Value → Shared → Prop} (hl : s.heap.IsTuple l vs.toArray)
   (h : Q vs { s with heap := (s.heap.push (seqObj "list" #[] 0)).update s.heap.objs.size (Obj.mapSeq (· ++ vs.toArray)) }) (hsz : vs.length ≤ sizeLine) :
   wpAny (model prog w) A (collect (.ref l)) Q E s := by
 obtain ⟨o, ho, hc, n, hd⟩ := id hl
 unfold collect
 refine wpAny_bind (wpAny_runValue (codeAny_builtin entry_proto_collect' ?_))
 show wpAny _ _ (do again (.builtin "list.__iadd__" ⟨[← newList [], .ref l], []⟩)) _ _ s
 refine wpAny_bind (wpAny_newList (wpAny_pure ⟨Code.quiet_builtin _ (by decide +kernel), codeAny_builtin entry_list_iadd' ?_⟩))
 show wpAny _ _ (Builtin.List.listExtendWith (.ref s.heap.objs.size) (.ref l) (.ref s.heap.objs.size)) _ _ { s with heap := s.heap.push (seqObj "list" #[] 0) }
 unfold Builtin.List.listExtendWith
 have ho' : (s.heap.push (seqObj "list" #[] 0)).get? l = some o := Heap.get?_push_of_some _ ho
 refine wpAny_bind (wpAny_typeOf (T := "tuple") ⟨o, ho', hc⟩ ?_)
 have ht : (Value.type "tuple" == Value.type "tuple") = true := by rfl
 rw [if_pos (by rw [ht]; simp)]
 refine wpAny_bind (listItems_at ho' hd ?_)
 refine wpAny_bind (listItems_at (xs := #[]) (n := 0) (Heap.get?_push_size _ rfl) rfl ?_)
 rw [if_neg (by simp)]
 refine wpAny_bind (listUpdate_at (xs := #[]) (n := 0) (Heap.get?_push_size _ rfl) rfl ?_ (Nat.zero_le _) (by show (#[] ++ vs.toArray).size ≤ sizeLine + 1; simp only [Array.size_append, List.size_toArray, List.length_nil]; lia))
 refine wpAny_pure ?_
 show wpAny (model prog w) A (do
     let o ← load s.heap.objs.size
     match o.data with
     | .seq xs _ => pure xs.toList
     | _ => unsupported "internal:collect") Q E { s with heap := (s.heap.push (seqObj "list" #[] 0)).update s.heap.objs.size (Obj.mapSeq (· ++ vs.toArray)) }
 refine wpAny_bind (wpAny_load (get?_update_seq (Heap.get?_push_size _ rfl) _) ?_)
 show wpAny _ _ (pure ((#[] : Array Value) ++ vs.toArray).toList) Q E _
 rw [show ((#[] : Array Value) ++ vs.toArray).toList = vs by simp]
 exact wpAny_pure h
theorem sorted_of {l : Addr} {vs : List Value} {ns : List Int} {Q : Value → Shared → Prop} (hI : IntsAre vs ns) (h64 : vs.length < 64)
   (hcol : ∀ (Q' : List Value → Shared → Prop), Q' vs { s with heap := (s.heap.push (seqObj "list" #[] 0)).update s.heap.objs.size (Obj.mapSeq (· ++ vs.toArray)) } → wpAny (model prog w) A.in1 (collect (.ref l)) Q' E s)
   (h : ∀ (out : Array Value) (ns' : List Int), IntsAre out.toList ns' → ns'.Perm ns → ns'.Pairwise (· ≤ ·) → Q (.ref (s.heap.objs.size + 1)) { s with heap := sortedAll s.heap vs out }) :
   wpAny (model prog w) A (call (.builtin "sorted") [.ref l]) Q E s := by
 refine Calls.call_function_entry kind_sorted plain_sorted entry_sorted (args_sorted1 _) ?_
 unfold Builtin.«sorted»
 refine wpAny_bind (m := checkCount "sorted" 1 1 _) (wpAny_pure ?_)
 refine wpAny_bind (hcol _ ?_)
 refine wpAny_bind (wpAny_newList ?_)
 have hsz : ((s.heap.push (seqObj "list" #[] 0)).update s.heap.objs.size (Obj.mapSeq (· ++ vs.toArray))).objs.size = s.heap.objs.size + 1 := by
   rw [Heap.size_update, size_push']
 have hoL : (((s.heap.push (seqObj "list" #[] 0)).update s.heap.objs.size (Obj.mapSeq (· ++ vs.toArray))).push (seqObj "list" vs.toArray 0)).get? (s.heap.objs.size + 1) = some (seqObj "list" vs.toArray 0) := by
   rw [← hsz]; exact Heap.get?_push_size _ rfl
 show wpAny _ _ _ _ _ { s with heap := ((s.heap.push (seqObj "list" #[] 0)).update s.heap.objs.size (Obj.mapSeq (· ++ vs.toArray))).push (seqObj "list" vs.toArray 0) }
 rw [hsz]
 refine wpAny_bind (wpAny_holding (wpAny_call_entry slot_list_sort ⟨_, hoL, rfl⟩ entry_list_sort (list_sort_tree hoL hI h64 fun out ns' a1 a2 a3 => ⟨_, rfl, ?_⟩) (args_list_sort _)))
 exact wpAny_pure ⟨_, rfl, h out ns' a1 a2 a3⟩
end
section
variable {X : Cx}
theorem call_sorted_of : CallR X (.builtin "sorted") (fun xs H Q => ∃ p ns, xs = [.ref p] ∧ (SqL X.K H p (ns.map V.int) ∨ SqT X.K H p (ns.map V.int)) ∧ ns.length < 64 ∧ ∀ ms : List Int, ms.Perm ns → ms.Pairwise (· ≤ ·) → ∀ l, H l = none → Q (.ref l) (upd H l (.lst (ms.map V.int)))) := by
 intro pins s σ H xs us Q I r h
 obtain ⟨p, ns, rfl, hq, h64, q⟩ := h
 obtain ⟨u, rfl, rx⟩ := vals1 r
 cases rx
 have fin : ∀ (its : List Value), its.length = ns.length → ∀ (out : Array Value) (ns' : List Int), IntsAre out.toList ns' → ns'.Perm ns → ns'.Pairwise (· ≤ ·) → EP X pins σ Q (.ref (s.heap.objs.size + 1)) { s with heap := sortedAll s.heap its out } := by
   intro its hl out ns' h1 h2 h3
   obtain ⟨e, he⟩ := sortedAll_at s.heap its out
   have hv := vals_ints h1
   have hn : ns'.length ≤ sizeLine := by rw [h2.length_eq, sizeLine_eq]; lia
   refine ⟨.ref (s.heap.objs.size + 1), _, I.laid (t' := s.toks) (fun b o hb => sortedAll_old hb) (Nat.le_succ _) (show ObjOk X.prog X.w _ (sortedAll s.heap its out) _ (.lst (ns'.map V.int)) from ⟨by rw [List.length_map]; exact hn, out.toList, e, hv, by rw [Array.toArray_toList]; exact he⟩), rfl, q ns' h2 h3 _ (I.hok.fresh (Nat.le_succ _))⟩
 rcases hq with hq | hq
 · obtain ⟨its, r', pl, hz⟩ := I.list hq
   have hlen : its.length = ns.length := by have := r'.length; rw [List.length_map] at this; lia
   have hl := pl.isList
   exact sorted_of (vs := its) (intsAre_of r') (by lia) (fun Q' q' => collect_list (by simpa using hl) q' (by rw [sizeLine_eq]; lia)) (fin its hlen)
 · obtain ⟨its, r', pl, hz⟩ := I.tuple hq
   have hlen : its.length = ns.length := by have := r'.length; rw [List.length_map] at this; lia
   have hl : s.heap.IsTuple p its.toArray := pl
   exact sorted_of (vs := its) (intsAre_of r') (by lia) (fun Q' q' => collect_tup hl q' (by rw [sizeLine_eq]; lia)) (fin its hlen)
noncomputable def rSorted3 : List T → MH → VK3 → Prop := fun xs M Q => match xs with
 | [.tup ts] => ∃ ns : List Int, ts = ns.map .int ∧ ns.length < 64 ∧ ∀ ms : List Int, ms.Perm ns → ms.Pairwise (· ≤ ·) → ∀ r, M r = none → Q (.adr r) (updM M r (.lst (ms.map .int)))
 | [.adr p] => (match M p with | some (.lst ts) => ∃ ns : List Int, ts = ns.map .int ∧ ns.length < 64 ∧ ∀ ms : List Int, ms.Perm ns → ms.Pairwise (· ≤ ·) → ∀ r, M r = none → Q (.adr r) (updM M r (.lst (ms.map .int))) | _ => False)
 | _ => False
theorem reps_ints {K : PySem.W.Frag} {H : Hp} : ∀ {ns : List Int} {vs : List V}, Reps K H vs (ns.map .int) → vs = ns.map V.int
 | [], _, r => by unfold Reps at r; exact r
 | n :: ns, _, r => by
   rw [List.map_cons] at r
   unfold Reps at r
   obtain ⟨v, w, rfl, r1, r2⟩ := r
   obtain rfl := inv_int r1
   rw [reps_ints r2]
   rfl
theorem ints_reps {K : PySem.W.Frag} {H : Hp} : ∀ ns : List Int, Reps K H (ns.map V.int) (ns.map .int)
 | [] => by rw [List.map_nil, List.map_nil]; unfold Reps; rfl
 | n :: ns => by
   rw [List.map_cons, List.map_cons]
   unfold Reps
   exact ⟨_, _, rfl, rep_int, ints_reps ns⟩
theorem call3_sorted : CallR3 X (.builtin "sorted") rSorted3 := by
 intro pins s σ H vs us Q2 I r h
 obtain ⟨xs, M, Q, rr, hh, q, en⟩ := h
 unfold rSorted3 at q
 split at q
 · obtain ⟨v, rfl, r1⟩ := reps1 rr
   obtain ⟨p, ys, rfl, g1, g2⟩ := inv_tup r1
   obtain ⟨ns, rfl, h64, q⟩ := q
   obtain rfl := reps_ints g2
   exact call_sorted_of pins s σ H _ us Q2 I r ⟨p, ns, rfl, .inr g1, h64, fun ms h1 h2 l hl => en _ _ _ _ (Kp.new hl) (hh.newL hl (ints_reps ms)) rep_adr (q ms h1 h2 l (hh.free hl))⟩
 · obtain ⟨v, rfl, r1⟩ := reps1 rr
   obtain rfl := inv_adr r1
   split at q
   · rename_i ts e0
     obtain ⟨ns, rfl, h64, q⟩ := q
     obtain ⟨ys, g1, g2⟩ := hh _ _ e0
     obtain rfl := reps_ints g2
     exact call_sorted_of pins s σ H _ us Q2 I r ⟨_, ns, rfl, .inl (SqL.of g1), h64, fun ms h1 h2 l hl => en _ _ _ _ (Kp.new hl) (hh.newL hl (ints_reps ms)) rep_adr (q ms h1 h2 l (hh.free hl))⟩
   · exact q.elim
 · exact q.elim
end
theorem len_1 {α : Type} {us : List α} {P : List α → Prop} (hl : us.length = 1) (h : ∀ a : α, P [a]) : P us := by
 obtain ⟨a, rfl⟩ := List.length_eq_one_iff.mp hl
 exact h a
theorem len_2 {α : Type} {us : List α} {P : List α → Prop} (hl : us.length = 2) (h : ∀ a b : α, P [a, b]) : P us := by
 obtain ⟨a, r, rfl⟩ := List.exists_cons_of_length_eq_add_one hl
 exact len_1 (P := fun r => P (a :: r)) (Nat.succ.inj hl) (h a)
theorem len_3 {α : Type} {us : List α} {P : List α → Prop} (hl : us.length = 3) (h : ∀ a b c : α, P [a, b, c]) : P us := by
 obtain ⟨a, r, rfl⟩ := List.exists_cons_of_length_eq_add_one hl
 exact len_2 (P := fun r => P (a :: r)) (Nat.succ.inj hl) (h a)
theorem len_4 {α : Type} {us : List α} {P : List α → Prop} (hl : us.length = 4) (h : ∀ a b c d : α, P [a, b, c, d]) : P us := by
 obtain ⟨a, r, rfl⟩ := List.exists_cons_of_length_eq_add_one hl
 exact len_3 (P := fun r => P (a :: r)) (Nat.succ.inj hl) (h a)
end L2
namespace L2
open PySem PySem.Spec PyProof.Rows
section
variable {X : Cx}
end
end L2
namespace L2
open PySem PySem.Spec PyProof.Rows
section
variable {X : Cx}
end
end L2
namespace L2
open PySem PySem.Spec PyProof.Rows LM
section
variable {κ : Type} [DecidableEq κ]
theorem valT_map (k j : κ) (y : T) : ∀ kvs : List (κ × T), valT (kvs.map fun kv => if kv.1 = k then (kv.1, y) else kv) j = if j = k then (valT kvs j).map (fun _ => y) else valT kvs j
 | [] => by show (none : Option T) = _; split <;> rfl
 | p :: r => by
   have ih := valT_map k j y r
   rw [List.map_cons, valT_cons, valT_cons, ih]
   by_cases c : p.1 = k
   · rw [if_pos c]
     by_cases d : p.1 = j
     · rw [if_pos d, if_pos d, if_pos (d.symm.trans c)]; rfl
     · rw [if_neg d, if_neg d]
   · rw [if_neg c]
     by_cases d : p.1 = j
     · rw [if_pos d, if_pos d, if_neg (fun z => c (d.trans z))]
     · rw [if_neg d, if_neg d]
theorem valT_snoc (k j : κ) (y : T) : ∀ kvs : List (κ × T), valT (kvs ++ [(k, y)]) j = match valT kvs j with | some t => some t | none => if k = j then some y else none
 | [] => by rw [List.nil_append, valT_cons]; rfl
 | p :: r => by
   rw [List.cons_append, valT_cons, valT_cons, valT_snoc k j y r]
   by_cases d : p.1 = j
   · rw [if_pos d, if_pos d]
   · rw [if_neg d, if_neg d]
theorem valT_any (k : κ) : ∀ kvs : List (κ × T), (kvs.any fun kv => decide (kv.1 = k)) = (valT kvs k).isSome
 | [] => rfl
 | p :: r => by
   rw [List.any_cons, valT_cons, valT_any k r]
   by_cases e : p.1 = k
   · rw [if_pos e, decide_eq_true e]; rfl
   · rw [if_neg e, decide_eq_false e]; rfl
theorem valT_put (kvs : List (κ × T)) (k j : κ) (y : T) : valT (putT kvs k y) j = if j = k then some y else valT kvs j := by
 unfold putT
 rw [valT_any]
 by_cases c : (valT kvs k).isSome = true
 · rw [if_pos c, valT_map]
   by_cases d : j = k
   · rw [if_pos d, if_pos d]
     subst d
     cases e : valT kvs j with
     | none => rw [e] at c; cases c
     | some t => rfl
   · rw [if_neg d, if_neg d]
 · rw [if_neg c, valT_snoc]
   have hn : valT kvs k = none := by
     cases e : valT kvs k with
     | none => rfl
     | some t => rw [e] at c; exact absurd rfl c
   by_cases d : j = k
   · subst d
     rw [hn]
   · rw [if_neg d]
     cases valT kvs j with
     | none => rw [if_neg (fun z => d z.symm)]
     | some t => rfl
theorem putT_len (kvs : List (κ × T)) (k : κ) (y : T) : (putT kvs k y).length ≤ kvs.length + 1 := by
 unfold putT
 split
 · rw [List.length_map]; lia
 · rw [List.length_append]; exact Nat.le_refl _
end
section
variable {X : Cx}
end
end L2
namespace L2
open PySem PySem.Spec PyProof.Rows LM
noncomputable def g2 (tab : List (List Int)) (a b : Int) : Int := gI (tab.getD a.toNat []) b
noncomputable def shB (tab : List (List Int)) : Bool := decide (1 ≤ tab.length) && decide (tab.length ≤ 7) && tab.all fun r => decide (r.length = tab.length)
noncomputable def coB (tab : List (List Int)) (c : Int) : Bool := decide (g2 tab c c = c) && decide ((tab.map fun r => gI r c).Perm (range0 tab.length))
noncomputable def thA (tab : List (List Int)) (c a : Int) : Bool := (range0 tab.length).all fun b => decide (g2 tab (g2 tab a b) c = g2 tab (g2 tab a c) (g2 tab b c))
noncomputable def thB (tab : List (List Int)) (c : Int) : Bool := (range0 tab.length).all (thA tab c)
noncomputable def tabB (tab : List (List Int)) : Bool := shB tab && ((range0 tab.length).all (coB tab)) && ((range0 tab.length).all (thB tab))
noncomputable def InM (m c : Int) : Prop := 0 ≤ c ∧ c < m
structure TabQ (tab : List (List Int)) : Prop where
 l1 : 1 ≤ tab.length
 rows : ∀ r ∈ tab, r.length = tab.length
 idem : ∀ c, InM tab.length c → g2 tab c c = c
 col : ∀ c, InM tab.length c → (tab.map fun r => gI r c).Perm (range0 tab.length)
 third : ∀ a b c, InM tab.length a → InM tab.length b → InM tab.length c → g2 tab (g2 tab a b) c = g2 tab (g2 tab a c) (g2 tab b c)
structure TabOK (tab : List (List Int)) : Prop extends TabQ tab where
 l7 : tab.length ≤ 7
instance {tab : List (List Int)} : Coe (TabOK tab) (TabQ tab) := ⟨TabOK.toTabQ⟩
theorem shB_iff {tab : List (List Int)} : shB tab = true ↔ 1 ≤ tab.length ∧ tab.length ≤ 7 ∧ ∀ r ∈ tab, r.length = tab.length := by
 unfold shB
 rw [Bool.and_eq_true, Bool.and_eq_true, decide_eq_true_eq, decide_eq_true_eq, List.all_eq_true]
 simp only [decide_eq_true_eq, and_assoc]
theorem range0_iff {m c : Int} : c ∈ range0 m ↔ InM m c := ⟨mem_range0, fun h => range0_mem h.1 h.2⟩
theorem tabB_ok {tab : List (List Int)} (h : tabB tab = true) : TabOK tab := by
 unfold tabB at h
 rw [Bool.and_eq_true, Bool.and_eq_true, List.all_eq_true, List.all_eq_true] at h
 obtain ⟨⟨h1, h2⟩, h3⟩ := h
 obtain ⟨a, b, c⟩ := shB_iff.mp h1
 refine ⟨⟨a, c, fun x hx => ?_, fun x hx => ?_, fun x y z hx hy hz => ?_⟩, b⟩
 · have := h2 x (range0_iff.mpr hx)
   unfold coB at this
   rw [Bool.and_eq_true, decide_eq_true_eq] at this
   exact this.1
 · have := h2 x (range0_iff.mpr hx)
   unfold coB at this
   rw [Bool.and_eq_true, decide_eq_true_eq, decide_eq_true_eq] at this
   exact this.2
 · have := h3 z (range0_iff.mpr hz)
   unfold thB at this
   rw [List.all_eq_true] at this
   have := this x (range0_iff.mpr hx)
   unfold thA at this
   rw [List.all_eq_true] at this
   exact of_decide_eq_true (this y (range0_iff.mpr hy))
theorem tab_row {tab : List (List Int)} (hr : ∀ r ∈ tab, r.length = tab.length) {a : Int} (ha : InM tab.length a) : atI (tab.map tupT) a = some (T.tup ((tab.getD a.toNat []).map T.int)) ∧ (tab.getD a.toNat []).length = tab.length := by
 obtain ⟨i, rfl⟩ := Int.eq_ofNat_of_zero_le ha.1
 have hi : i < tab.length := by have := ha.2; lia
 rw [Int.toNat_natCast]
 refine ⟨tupT_at hi, hr _ ?_⟩
 rw [List.getD_eq_getElem?_getD, List.getElem?_eq_getElem hi]
 exact List.getElem_mem hi
theorem tab_at {tab : List (List Int)} (hr : ∀ r ∈ tab, r.length = tab.length) {a b : Int} (ha : InM tab.length a) (hb : InM tab.length b) : atI ((tab.getD a.toNat []).map T.int) b = some (.int (g2 tab a b)) :=
 gI_at hb.1 (by rw [(tab_row hr ha).2]; exact hb.2)
theorem col_in {tab : List (List Int)} {c : Int} (h : (tab.map fun r => gI r c).Perm (range0 tab.length)) {a : Int} (ha : InM tab.length a) : InM tab.length (g2 tab a c) := by
 have hl : a.toNat < tab.length := by have := ha.1; have := ha.2; lia
 have hm : g2 tab a c ∈ tab.map fun r => gI r c := by
   refine List.mem_map.mpr ⟨tab.getD a.toNat [], ?_, rfl⟩
   rw [List.getD_eq_getElem?_getD, List.getElem?_eq_getElem hl]
   exact List.getElem_mem hl
 exact mem_range0 (h.mem_iff.mp hm)
theorem TabQ.rng {tab : List (List Int)} (h : TabQ tab) {a c : Int} (ha : InM tab.length a) (hc : InM tab.length c) : InM tab.length (g2 tab a c) := col_in (h.col c hc) ha
theorem col_get {tab : List (List Int)} {c a : Int} (ha : InM tab.length a) : (tab.map fun r => gI r c)[a.toNat]? = some (g2 tab a c) := by
 have hl : a.toNat < tab.length := by have := ha.1; have := ha.2; lia
 rw [List.getElem?_map, List.getElem?_eq_getElem hl]
 unfold g2
 rw [List.getD_eq_getElem?_getD, List.getElem?_eq_getElem hl]
 rfl
theorem TabQ.inj {tab : List (List Int)} (h : TabQ tab) {a b c : Int} (ha : InM tab.length a) (hb : InM tab.length b) (hc : InM tab.length c) (e : g2 tab a c = g2 tab b c) : a = b := by
 have nd : (tab.map fun r => gI r c).Nodup := (h.col c hc).nodup_iff.mpr (range0_nodup _)
 have x := col_get (tab := tab) (c := c) ha
 have y := col_get (tab := tab) (c := c) hb
 obtain ⟨l1, x⟩ := List.getElem?_eq_some_iff.mp x
 obtain ⟨l2, y⟩ := List.getElem?_eq_some_iff.mp y
 have q : a.toNat = b.toNat := by
   have pw := List.pairwise_iff_getElem.mp nd
   rcases Nat.lt_trichotomy a.toNat b.toNat with z | z | z
   · exact absurd (x.trans (e.trans y.symm)) (pw _ _ l1 l2 z)
   · exact z
   · exact absurd (y.trans (e.symm.trans x.symm)) (pw _ _ l2 l1 z)
 have := ha.1; have := hb.1; lia
theorem TabQ.surj {tab : List (List Int)} (h : TabQ tab) {d c : Int} (hd : InM tab.length d) (hc : InM tab.length c) : ∃ a, InM tab.length a ∧ g2 tab a c = d := by
 have hm : d ∈ tab.map fun r => gI r c := (h.col c hc).mem_iff.mpr (range0_iff.mpr hd)
 obtain ⟨i, hi, e⟩ := List.getElem_of_mem hm
 rw [List.length_map] at hi
 have ha : InM tab.length (i : Int) := ⟨by lia, by lia⟩
 refine ⟨i, ha, ?_⟩
 have := col_get (tab := tab) (c := c) ha
 rw [Int.toNat_natCast] at this
 rw [List.getElem?_eq_getElem (by rw [List.length_map]; exact hi)] at this
 exact (Option.some.inj this).symm.trans e
noncomputable def iv (tab : List (List Int)) (d c : Int) : Int := ((range0 tab.length).find? fun a => decide (g2 tab a c = d)).getD 0
theorem TabQ.iv_spec {tab : List (List Int)} (h : TabQ tab) {d c : Int} (hd : InM tab.length d) (hc : InM tab.length c) : InM tab.length (iv tab d c) ∧ g2 tab (iv tab d c) c = d := by
 obtain ⟨a, ha, e⟩ := h.surj hd hc
 unfold iv
 cases q : (range0 tab.length).find? fun a => decide (g2 tab a c = d) with
 | none =>
   have := List.find?_eq_none.mp q a (range0_iff.mpr ha)
   rw [decide_eq_true e] at this
   exact absurd rfl this
 | some x =>
   exact ⟨range0_iff.mp (List.mem_of_find?_eq_some q), of_decide_eq_true (List.find?_some q :)⟩
theorem TabQ.iv_g {tab : List (List Int)} (h : TabQ tab) {a c : Int} (ha : InM tab.length a) (hc : InM tab.length c) : iv tab (g2 tab a c) c = a :=
 let q := h.iv_spec (h.rng ha hc) hc
 h.inj q.1 ha hc q.2
theorem col_row {tab : List (List Int)} (hr : ∀ r ∈ tab, r.length = tab.length) {r : List Int} {i : Nat} {c : Int} (h : tab[i]? = some r) (hc : InM tab.length c) : atI (r.map T.int) c = some (.int (gI r c)) :=
 gI_at hc.1 (by rw [hr r (List.mem_of_getElem? h)]; exact hc.2)
theorem coB_not {tab : List (List Int)} {c : Int} (hc : InM tab.length c) (h : coB tab c ≠ true) : tabB tab = false := by
 refine Bool.eq_false_iff.mpr fun z => h ?_
 unfold tabB at z
 rw [Bool.and_eq_true, Bool.and_eq_true] at z
 exact List.all_eq_true.mp z.1.2 c (range0_iff.mpr hc)
theorem coB_col {tab : List (List Int)} (h : ∀ c, InM tab.length c → coB tab c = true) {a b : Int} (ha : InM tab.length a) (hb : InM tab.length b) : InM tab.length (g2 tab a b) := by
 have := h b hb
 unfold coB at this
 rw [Bool.and_eq_true, decide_eq_true_eq, decide_eq_true_eq] at this
 exact col_in this.2 ha
noncomputable def pr1 (tab : List (List Int)) (l a b : Int) : Int := if l > 0 then b else iv tab b a
noncomputable def pr2 (tab : List (List Int)) (l a b : Int) : Int := if l > 0 then g2 tab a b else a
noncomputable def dn1 (tab : List (List Int)) (cs : List Int) (l : Int) : List Int := (cs.set (l.natAbs - 1) (pr1 tab l (cs.getD (l.natAbs - 1) 0) (cs.getD l.natAbs 0))).set l.natAbs (pr2 tab l (cs.getD (l.natAbs - 1) 0) (cs.getD l.natAbs 0))
noncomputable def dn (tab : List (List Int)) (w cs : List Int) : List Int := w.foldl (dn1 tab) cs
theorem dn_append (tab : List (List Int)) (u v cs : List Int) : dn tab (u ++ v) cs = dn tab v (dn tab u cs) := List.foldl_append
theorem dn_succ (tab : List (List Int)) {w : List Int} {i : Nat} {l : Int} (h : w[i]? = some l) (cs : List Int) : dn tab (w.take (i + 1)) cs = dn1 tab (dn tab (w.take i) cs) l := by
 rw [List.take_add_one, h, dn_append]
 rfl
theorem dn1_at {tab : List (List Int)} {ds : List Int} {l : Int} {k : Nat} (hk : l.natAbs = k + 1) (h : k + 1 < ds.length) : (dn1 tab ds l).map T.int = ((ds.map T.int).set k (.int (pr1 tab l (gI ds k) (gI ds (k + 1))))).set (k + 1) (.int (pr2 tab l (gI ds k) (gI ds (k + 1)))) := by
 unfold dn1 gI
 rw [hk, Nat.add_sub_cancel, List.map_set, List.map_set, Int.toNat_natCast, show ((k : Int) + 1).toNat = k + 1 by lia]
theorem dn1_length (tab : List (List Int)) (cs : List Int) (l : Int) : (dn1 tab cs l).length = cs.length := by unfold dn1; rw [List.length_set, List.length_set]
theorem dn_length (tab : List (List Int)) : ∀ (w cs : List Int), (dn tab w cs).length = cs.length
 | [], _ => rfl
 | l :: w, cs => (dn_length tab w (dn1 tab cs l)).trans (dn1_length tab cs l)
theorem dn1_cut {tab : List (List Int)} {p q : List Int} {a b l : Int} (h : p.length + 1 = l.natAbs) : dn1 tab (p ++ a :: b :: q) l = p ++ pr1 tab l a b :: pr2 tab l a b :: q := by
 unfold dn1
 have e1 : l.natAbs - 1 = p.length := by lia
 have g1 : (p ++ a :: b :: q).getD p.length 0 = a := by simp
 have g2' : (p ++ a :: b :: q).getD (p.length + 1) 0 = b := by rw [List.getD_eq_getElem?_getD, List.getElem?_append_right (by lia)]; simp
 rw [e1, ← h, g1, g2']
 simp
theorem cutC {cs : List Int} {k : Nat} (h : k + 1 < cs.length) : ∃ p a b q, cs = p ++ a :: b :: q ∧ p.length = k := by
 refine ⟨cs.take k, cs[k], cs[k + 1], cs.drop (k + 2), ?_, by rw [List.length_take]; lia⟩
 rw [List.getElem_cons_drop, List.getElem_cons_drop, List.take_append_drop]
noncomputable def InA (m : Int) (cs : List Int) : Prop := ∀ c ∈ cs, InM m c
theorem pr_in {tab : List (List Int)} (h : TabQ tab) {l a b : Int} (ha : InM tab.length a) (hb : InM tab.length b) : InM tab.length (pr1 tab l a b) ∧ InM tab.length (pr2 tab l a b) := by
 unfold pr1 pr2
 split
 · exact ⟨hb, h.rng ha hb⟩
 · exact ⟨(h.iv_spec hb ha).1, ha⟩
theorem inA_cut {m a b : Int} {p q : List Int} : InA m (p ++ a :: b :: q) ↔ InA m p ∧ InM m a ∧ InM m b ∧ InA m q := by
 constructor
 · intro h
   exact ⟨fun c hc => h c (by simp [hc]), h a (by simp), h b (by simp), fun c hc => h c (by simp [hc])⟩
 · rintro ⟨h1, h2, h3, h4⟩ c hc
   simp only [List.mem_append, List.mem_cons] at hc
   rcases hc with hc | rfl | rfl | hc
   · exact h1 c hc
   · exact h2
   · exact h3
   · exact h4 c hc
theorem dn1_in {tab : List (List Int)} (h : TabQ tab) {cs : List Int} {l : Int} (hl : LetOK cs.length l) (hc : InA tab.length cs) : InA tab.length (dn1 tab cs l) := by
 obtain ⟨l1, l2⟩ := hl
 obtain ⟨p, a, b, q, rfl, e⟩ := cutC (cs := cs) (k := l.natAbs - 1) (by lia)
 rw [dn1_cut (by lia)]
 obtain ⟨h1, h2, h3, h4⟩ := inA_cut.mp hc
 exact inA_cut.mpr ⟨h1, (pr_in h h2 h3).1, (pr_in h h2 h3).2, h4⟩
theorem dn_in {tab : List (List Int)} (h : TabQ tab) : ∀ {w cs : List Int}, WordOK cs.length w → InA tab.length cs → InA tab.length (dn tab w cs)
 | [], _, _, hc => hc
 | l :: w, cs, hw, hc => dn_in h (w := w) (cs := dn1 tab cs l) (by rw [dn1_length]; exact fun x hx => hw x (List.mem_cons_of_mem _ hx)) (dn1_in h (hw l List.mem_cons_self) hc)
end L2
namespace L2
open PySem PySem.Spec PyProof.Rows LM
end L2
namespace L2
open PySem PySem.Spec PyProof.Rows LM
section
variable {X : Cx}
end
theorem perm_of_sub : ∀ (l r : List Int), l.Nodup → (∀ x ∈ l, x ∈ r) → r.length ≤ l.length → l.Perm r
 | [], r, _, _, h => by
   rw [List.length_nil] at h
   rw [List.eq_nil_of_length_eq_zero (by lia : r.length = 0)]
 | x :: l, r, nd, hs, h => by
   have hx := hs x List.mem_cons_self
   have nd' := List.nodup_cons.mp nd
   refine (List.Perm.cons x (perm_of_sub l (r.erase x) nd'.2 (fun y hy => ?_) ?_)).trans (List.perm_cons_erase hx).symm
   · exact (List.mem_erase_of_ne (fun z => nd'.1 (by rw [← z]; exact hy))).mpr (hs y (List.mem_cons_of_mem _ hy))
   · rw [List.length_erase_of_mem hx]
     rw [List.length_cons] at h
     lia
noncomputable def longT (m : Int) (row : List Int) : List (List Int) := (range0 m).map fun c => row ++ [c]
noncomputable def alR (m : Int) : Nat → List (List Int)
 | 0 => [[]]
 | k + 1 => (alR m k).flatMap (longT m)
theorem longT_len (m : Int) (row : List Int) : (longT m row).length = m.toNat := by unfold longT; rw [List.length_map, range0_length]
theorem flt_len (m : Int) : ∀ R : List (List Int), (R.flatMap (longT m)).length = R.length * m.toNat
 | [] => by simp
 | r :: R => by rw [List.flatMap_cons, List.length_append, longT_len, flt_len m R, List.length_cons, Nat.succ_mul, Nat.add_comm]
theorem alR_len (m : Int) : ∀ k, (alR m k).length = m.toNat ^ k
 | 0 => rfl
 | k + 1 => by show ((alR m k).flatMap (longT m)).length = _; rw [flt_len, alR_len m k, Nat.pow_succ]
theorem alR_mem {m : Int} : ∀ {k : Nat} {r : List Int}, r ∈ alR m k → r.length = k ∧ InA m r
 | 0, r, h => by
   rw [List.mem_singleton.mp h]
   exact ⟨rfl, fun _ z => absurd z List.not_mem_nil⟩
 | k + 1, r, h => by
   obtain ⟨q, hq, hr⟩ := List.mem_flatMap.mp h
   obtain ⟨c, hc, rfl⟩ := List.mem_map.mp hr
   obtain ⟨a, b⟩ := alR_mem hq
   refine ⟨by rw [List.length_append, a]; rfl, fun x hx => ?_⟩
   rcases List.mem_append.mp hx with z | z
   · exact b x z
   · rw [List.mem_singleton.mp z]; exact range0_iff.mp hc
theorem flt_take {m : Int} {R : List (List Int)} {j : Nat} {r : List Int} (h : R[j]? = some r) : (R.take (j + 1)).flatMap (longT m) = (R.take j).flatMap (longT m) ++ longT m r := by
 rw [List.take_add_one, h, List.flatMap_append]
 simp
end L2
namespace L2
open PySem PySem.Spec PyProof.Rows LM
section
variable {prog : Program} {w : World} {A : Around} {E : Value → Shared → Prop} {s : Shared}
theorem draw_listM {it t : Addr} {items : Array Value} (hne : t ≠ it) : ∀ (n i : Nat) (s : Shared) (Q : List Value → Shared → Prop), s.heap.IsListIter it t i → s.heap.IsList t items → i + n ≤ items.size →
   (∀ h', h'.IsListIter it t (i + n) → Heap.SameBut it s.heap h' → Q ((items.toList.drop i).take n) { s with heap := h' }) → wpAny (model prog w) A (draw (.ref it) n) Q E s
 | 0, i, s, Q, hit, _, _, hQ => by
   show wpAny _ _ (pure []) Q E s
   exact wpAny_pure (by simpa using hQ s.heap hit (Heap.SameBut.refl ..))
 | n + 1, i, s, Q, hit, ht, hle, hQ => by
   have hlt : i < items.size := by lia
   show wpAny _ _ (pyNext (.ref it) >>= _) Q E s
   refine wpAny_bind (wpAny_pyNext_list_item hit ht (x := items[i]) (by simp [hlt]) fun h₁ hit₁ hs₁ => ?_)
   refine wpAny_bind (wpAny_holding (draw_listM hne n (i + 1) _ _ hit₁ (ht.extBut hs₁.extBut hne) (by lia) fun h₂ hit₂ hs₂ => wpAny_pure ?_))
   have hd : items.toList.drop i = items[i] :: items.toList.drop (i + 1) := by simp [List.drop_eq_getElem_cons, hlt]
   have := hQ h₂ (by rw [show i + (n + 1) = i + 1 + n by lia]; exact hit₂) (hs₁.trans hs₂)
   rw [hd, List.take_succ_cons] at this
   exact this
theorem unpackItems_listM {t : Addr} {items : Array Value} {Q : List Value → Shared → Prop} (hh : A.handled = none) (ht : s.heap.IsList t items)
   (hQ : ∀ h', Heap.ExtBut s.heap.objs.size s.heap h' → Q items.toList { s with heap := h' }) : wpAny (model prog w) A (unpackItems (.ref t) items.size none) Q E s := by
 have hlt : t ≠ s.heap.objs.size := by obtain ⟨o, ho, _⟩ := ht; exact Nat.ne_of_lt (Heap.lt_size ho)
 unfold unpackItems
 refine wpAny_bind ?_
 · unfold notIterableAtAll
   refine wpAny_bind (wpAny_specialOf ht.typeIs slot_list_iter.lookup ?_)
   refine wpAny_pure ?_
   simp only [Bool.false_eq_true, if_false]
   refine wpAny_bind (wpAny_holding (wpAny_pyIter_list ht ?_))
   refine wpAny_bind (wpAny_holding (draw_listM hlt items.size 0 _ _ ⟨_, Heap.get?_push_size _ rfl, rfl, rfl⟩ (ht.push _) (by lia) fun h₁ hit₁ hs₁ => ?_))
   have hall : List.take items.size (List.drop 0 items.toList) = items.toList := by
     rw [List.drop_zero]; exact List.take_of_length_le (by simp)
   rw [hall]
   rw [if_neg (by simp)]
   have ht₁ : h₁.IsList t items := (ht.push _).extBut hs₁.extBut hlt
   refine wpAny_bind (wpAny_holding (wpAny_pyNext_list_end hh hit₁ ht₁ (by simp) fun h₂ he₂ => ?_))
   simp only [Option.isSome_none, Bool.false_eq_true, if_false]
   refine wpAny_pure (hQ h₂ fun b o hb e => he₂ b o hb (hs₁.extBut b o hb (Heap.get?_push_of_some _ e)))
theorem assign_Tuple_listM {env : Env} {elts : List Expr} {x1} {pos : Pos} {t : Addr} {items : Array Value} {Q : Unit → Shared → Prop} (hh : A.handled = none) (ht : s.heap.IsList t items)
   (hn : (assignEach elts env).length = items.size) (hstar : (assignEach elts env).findIdx? (·.1) = none)
   (h : ∀ h', Heap.ExtBut s.heap.objs.size s.heap h' → wpAny (model prog w) A (assignInOrder ((assignEach elts env).map (·.2)) items.toList) Q E { s with heap := h' }) :
   wpAny (model prog w) A (assign (.Tuple elts x1 pos) env (.ref t)) Q E s := by
 rw [assign_Tuple]
 refine wpAny_bind (wpAny_standAt ?_)
 unfold unpack
 rw [hn, hstar]
 exact wpAny_bind (wpAny_holding (unpackItems_listM hh ht h))
theorem setItem_sliceM {l sl lv : Addr} {items : List Value} {n : Nat} {new : Array Value} {vl vu : Value} {i j : Nat} {Q : Unit → Shared → Prop}
   (ho : s.heap.get? l = some { cls := .type "list", data := .seq items.toArray n }) (hs : s.heap.IsSliceOf sl vl vu .none) (pl : IsPart vl (some (i : Int))) (pu : IsPart vu (some (j : Int)))
   (hij : i ≤ j) (hj : j ≤ items.length) (hnew : s.heap.IsList lv new) (hz : items.length + new.size ≤ sizeLine)
   (h : Q () { s with heap := s.heap.update l (Obj.mapSeq fun xs => xs.extract 0 i ++ new ++ xs.extract j xs.size) }) : wpAny (model prog w) A (setItem (.ref l) (.ref sl) (.ref lv)) Q E s := by
 have hl : s.heap.IsList l items.toArray := ⟨_, ho, rfl, _, rfl⟩
 obtain ⟨os, hos, hcs, hds⟩ := id hs
 have hTs : s.TypeIs (.ref sl) "slice" := ⟨os, hos, hcs⟩
 obtain ⟨ov, hov, hcv, nv, hdv⟩ := id hnew
 unfold setItem
 try with_reducible refine wpAny_holding ?_
 first | refine wpAny_bind (wpAny_pure ?_) | skip
 refine wpAny_bind (wpAny_sequenceKey hl.typeIs (by decide) ?_)
 refine wpAny_bind (wpAny_callSpecial?_slot (name := Str.ofString "__setitem__") hl.typeIs slot_list_setitem
   (wpAny_call_entry slot_list_setitem hl.typeIs entry_list_setitem ?_ (args_list_setitem _ _ _)))
 show wpAny _ _ (Builtin.List.listSubscript? (.ref sl) >>= _) _ _ s
 refine wpAny_bind ?_
 unfold Builtin.List.listSubscript?
 refine wpAny_bind (wpAny_specialOf hTs slice_no_index ?_)
 simp only [Option.isNone_none, if_true]
 refine wpAny_pure ?_
 show wpAny _ _ (typeOf (.ref sl) >>= _) _ _ s
 refine wpAny_bind (wpAny_typeOf hTs ?_)
 rw [if_neg (by decide)]
 rw [listSliceParts_eq]
 refine wpAny_bind (wpAny_bind (wpAny_field hos hds (x := .none) rfl (wpAny_bind (wpAny_listPart .none ?_))))
 rw [if_neg (show ¬ ((rawPart none == rawInt 0) = true) from Bool.false_ne_true)]
 refine wpAny_bind (wpAny_field hos hds (x := vl) rfl (wpAny_bind (wpAny_listPart pl ?_)))
 refine wpAny_bind (wpAny_field hos hds (x := vu) rfl (wpAny_bind (wpAny_listPart pu (wpAny_pure ?_))))
 have hsl : sliceIndices (rawPart (some (i : Int))) (rawPart (some (j : Int))) (rawPart none) items.toArray.size = pure ((i : Int), (j : Int), 1) := by
   rw [sliceIndices_raw _ _ _ _ (by simp)]
   congr 1
   simp only [sliceBounds, Option.getD_none, List.size_toArray]
   have h1 : ¬ ((i : Int) < 0) := by lia
   have h2 : ¬ ((j : Int) < 0) := by lia
   simp only [h1, h2, if_false, show (1 : Int) > 0 by decide, if_true]
   congr 1
   · lia
   · congr 1; lia
 have fin : ∀ {Z : Nat}, Z = items.length + new.size → Builtin.List.listTooLong Z = false := fun {Z} z => by
   subst z
   unfold Builtin.List.listTooLong
   exact decide_eq_false (by lia)
 split
 case isTrue =>
   refine wpAny_bind (m := Builtin.List.listItems (.ref lv)) ?_
   refine PySem.wpAny_listItems hov hdv ?_
   refine wpAny_bind (m := Builtin.List.listItems (.ref l)) ?_
   refine PySem.wpAny_listItems ho rfl ?_
   refine wpAny_bind ?_
   rw [hsl]
   refine wpAny_pure ?_
   dsimp only
   rw [if_pos (by decide)]
   refine wpAny_bind (wpAny_rule ?_)
   rw [fin (by rw [List.size_toArray]), if_neg (by decide)]
   rw [Int.toNat_natCast, show (max (i : Int) (j : Int)).toNat = j by lia]
   refine wpAny_bind (m := updateSeq l _) (wpAny_updateSeq ho rfl ?_ (by rw [List.size_toArray]; lia) (by
     simp only [Array.size_append, Array.size_extract, List.size_toArray]
     lia))
   refine wpAny_bind (wpAny_letGo ?_)
   exact wpAny_pure ⟨_, rfl, wpAny_pure h⟩
 case isFalse =>
   refine wpAny_bind (m := Builtin.List.listAllItems (.ref lv) _) ?_
   unfold Builtin.List.listAllItems
   refine wpAny_bind (wpAny_typeOf hnew.typeIs ?_)
   rw [if_pos (by decide)]
   refine PySem.wpAny_listItems hov hdv ?_
   refine wpAny_bind (m := Builtin.List.listItems (.ref l)) ?_
   refine PySem.wpAny_listItems ho rfl ?_
   refine wpAny_bind ?_
   rw [hsl]
   refine wpAny_pure ?_
   dsimp only
   rw [if_pos (by decide)]
   refine wpAny_bind (wpAny_rule ?_)
   rw [fin (by rw [List.size_toArray]), if_neg (by decide)]
   rw [Int.toNat_natCast, show (max (i : Int) (j : Int)).toNat = j by lia]
   refine wpAny_bind (m := updateSeq l _) (wpAny_updateSeq ho rfl ?_ (by rw [List.size_toArray]; lia) (by
     simp only [Array.size_append, Array.size_extract, List.size_toArray]
     lia))
   refine wpAny_bind (wpAny_letGo ?_)
   exact wpAny_pure ⟨_, rfl, wpAny_pure h⟩
end
section
variable {X : Cx} {pos : Pos}
noncomputable def gTupL (K : PySem.W.Frag) (n : Nat) (t : TGs) : TG := fun v σ H Q => ∃ a xs, v = .ref a ∧ SqL K H a xs ∧ xs.length = n ∧ t xs σ H Q
theorem pg_tupL {es : List Expr} {k : Nat} {t : TGs} {n : Nat} (hc : X.calm = true) (h : PGs X es t)
   (hn : (assignEach es X.env).length = n := by rfl) (hst : (assignEach es X.env).findIdx? (·.1) = none := by rfl) : PG X (.Tuple es k pos) (gTupL X.K n t) := by
 intro pins s σ H v u Q I r hw
 obtain ⟨a, xs, e1, hq, hl, hw⟩ := hw
 subst e1
 cases r
 obtain ⟨its, rv, ht, hz⟩ := I.list hq
 refine assign_Tuple_listM (I.ok.hd hc) ht.isList (by simp [hn, ← hl, rv.length]) hst fun h' hx => ?_
 have I1 : Inv X pins σ H { s with heap := h' } := I.kept (t' := s.toks) fun b o e => hx b o (Nat.ne_of_lt (Heap.lt_size e)) e
 exact h pins _ σ H xs _ Q I1 (by simpa using rv) hw
noncomputable def gTupL3 (n : Nat) (gs : TGs3) : TG3 := fun t ρ M Q => match t with
 | .adr p => (match M p with
   | some (.lst ts) => ts.length = n ∧ gs ts ρ M Q
   | _ => False)
 | _ => False
theorem g_tupL {es : List Expr} {k : Nat} {gs : TGs3} {n : Nat} (hc : X.calm = true) (h : HGs X es gs) (hn : (assignEach es X.env).length = n := by rfl) (hst : (assignEach es X.env).findIdx? (·.1) = none := by rfl) : HG X (.Tuple es k pos) (gTupL3 n gs) :=
 (pg_tupL hc h hn hst).imp fun v σ H Q2 ⟨t, ρ, M, Q, q, r, hr, hh, en⟩ => by
   unfold gTupL3 at q
   split at q
   · rename_i p
     obtain rfl := inv_adr r
     split at q
     · rename_i ts e
       obtain ⟨xs, g1, g2⟩ := hh _ _ e
       exact ⟨p, xs, rfl, SqL.of g1, by rw [g2.length]; exact q.1, ts, ρ, M, Q, q.2, g2, hr, hh, en⟩
     · exact q.elim
   · exact q.elim
noncomputable def gSl (K : PySem.W.Frag) (to : TE) (tl th : TO) : TG := fun v σ H Q => to σ H fun o H1 => tl σ H1 fun lo H2 => th σ H2 fun hi H3 => ∃ (p q : Addr) (xs ys : List V) (i j : Nat), o = .ref p ∧ v = .ref q ∧ lo = some (i : Int) ∧ hi = some (j : Int) ∧ H3 p = some (.lst xs) ∧ SqL K H3 q ys ∧ i ≤ j ∧ j ≤ xs.length ∧ xs.length + ys.length ≤ sizeLine ∧ Q σ (upd H3 p (.lst (xs.take i ++ ys ++ xs.drop j)))
theorem pg_sl {o : Expr} {lo hi : Option Expr} {p2 : Pos} {to : TE} {tl th : TO} (ho : PE X o to) (hl : PO X lo tl) (hu : PO X hi th)
   (ha : ∀ v, assign (.Subscript o (.Slice lo hi none p2) pos) X.env v = (do
     let ov ← holding [v] (eval o X.env)
     let iv ← holding [v, ov] (eval (.Slice lo hi none p2) X.env)
     standAt pos
     holding [v, ov, iv] (setItem ov iv v)
     release [iv, v, ov] []) := by intro _; rfl) : PG X (.Subscript o (.Slice lo hi none p2) pos) (gSl X.K to tl th) := by
 intro pins s σ H v u Q I r h
 rw [ha]
 refine wpAny_bind (wpAny_holding (thn (ho pins s σ H _ I h) fun ov s1 ⟨x, H1, I1, r1, q1⟩ => ?_))
 refine wpAny_bind (wpAny_holding ?_)
 refine wpAny_Slice (thn (hl pins s1 σ H1 _ I1 q1) fun vl s2 ⟨l, H2, I2, pl, q2⟩ => thn (hu pins s2 σ H2 _ I2 q2) fun vu s3 ⟨w, H3, I3, pu, q3⟩ => ?_)
 rw [evalPart_none]
 refine wpAny_pure ?_
 have I4 : Inv X pins σ H3 { s3 with heap := s3.heap.push { cls := .type "slice", data := .fields #[vl, vu, .none] } } := I3.kept (t' := s3.toks) fun b ob q => Heap.get?_push_of_some _ q
 obtain ⟨p, q, xs, ys, i, j, rfl, rfl, rfl, rfl, g1, g2, hij, hj, hz, q3⟩ := q3
 cases r
 cases r1
 obtain ⟨its, n, rx, hox, hzx⟩ := I4.lst g1
 obtain ⟨its2, ry, hy, hzy⟩ := I4.list g2
 have lx := rx.length
 have ly := ry.length
 refine wpAny_bind (wpAny_standAt (wpAny_bind (wpAny_holding ?_)))
 refine setItem_sliceM hox (Heap.IsSliceOf.new ..) pl pu hij (by lia) hy.isList (by rw [List.size_toArray]; lia) ?_
 refine wpAny_release ⟨σ, _, ?_, q3⟩
 refine I4.lstUpd (its' := its.take i ++ its2 ++ its.drop j) (n' := if (its.toArray.extract 0 i ++ its2.toArray ++ its.toArray.extract j its.toArray.size).size == its.toArray.size then n else n + 1) g1 hox ?_ (((rx.take i).append ry).append (rx.drop j)) (by simp only [List.length_append, List.length_take, List.length_drop]; lia) _
 have ea : its.toArray.extract 0 i ++ its2.toArray ++ its.toArray.extract j its.toArray.size = (its.take i ++ its2 ++ its.drop j).toArray := by
   apply Array.ext'
   simp only [Array.toList_append, Array.toList_extract, List.extract_eq_drop_take, List.size_toArray, Nat.sub_zero, List.drop_zero]
   rw [show (its.drop j).take (its.length - j) = its.drop j from List.take_of_length_le (by rw [List.length_drop]; exact Nat.le_refl _)]
 unfold Obj.mapSeq
 dsimp only
 rw [ea]
noncomputable def gSl3 (to : TE3) (tl th : TO3) : TG3 := fun v ρ M Q => to ρ M fun o M1 => tl ρ M1 fun lo M2 => th ρ M2 fun hi M3 => match o, v with
 | .adr p, .adr q => (match M3 p, M3 q with
   | some (.lst ts), some (.lst us) => ∃ i j : Nat, lo = some (i : Int) ∧ hi = some (j : Int) ∧ i ≤ j ∧ j ≤ ts.length ∧ ts.length + us.length ≤ sizeLine ∧ Q ρ (updM M3 p (.lst (ts.take i ++ us ++ ts.drop j)))
   | _, _ => False)
 | _, _ => False
theorem g_sl {o : Expr} {lo hi : Option Expr} {p2 : Pos} {to : TE3} {tl th : TO3} (ho : HE X o to) (hl : HPo X lo tl) (hu : HPo X hi th)
   (ha : ∀ v, assign (.Subscript o (.Slice lo hi none p2) pos) X.env v = (do
     let ov ← holding [v] (eval o X.env)
     let iv ← holding [v, ov] (eval (.Slice lo hi none p2) X.env)
     standAt pos
     holding [v, ov, iv] (setItem ov iv v)
     release [iv, v, ov] []) := by intro _; rfl) : HG X (.Subscript o (.Slice lo hi none p2) pos) (gSl3 to tl th) := by
 intro pins s σ H v u Q2 I r h
 obtain ⟨t, ρ, M, Q, q0, rt, hr, hh, en⟩ := h
 refine pg_sl (ho.d (ρ := ρ)) (hl.d (ρ := ρ)) (hu.d (ρ := ρ)) ha pins s σ H v u Q2 I r ?_
 refine ⟨M, _, q0, hr, hh, fun ot ov M1 H1 k1 h1 r1 q1 => ⟨M1, _, q1, hr.kp k1, h1, fun l M2 H2 k2 h2 q2 => ⟨M2, _, q2, hr.kp (k1.trans k2), h2, fun w M3 H3 k3 h3 q3 => ?_⟩⟩⟩
 split at q3
 · rename_i p q
   obtain rfl := inv_adr r1
   obtain rfl := inv_adr rt
   split at q3
   · rename_i ts us e1 e2
     obtain ⟨xs, g1, g2⟩ := h3 _ _ e1
     obtain ⟨ys, g3, g4⟩ := h3 _ _ e2
     obtain ⟨i, j, rfl, rfl, hij, hj, hz, q3⟩ := q3
     have kk := (k1.trans k2).trans k3
     exact ⟨p, q, xs, ys, i, j, rfl, rfl, rfl, rfl, g1, SqL.of g3, hij, by rw [g2.length]; exact hj, by rw [g2.length, g4.length]; exact hz, en _ _ σ _ (kk.trans (Kp.lst g1)) (hr.kp (kk.trans (Kp.lst g1))) (h3.setL g1 (((g2.take i).append g4).append (g2.drop j))) q3⟩
   · exact q3.elim
 · exact q3.elim
end
theorem cut_two (p r : List Int) (a b : Int) : cutT ((p ++ a :: b :: r).map T.int) (some (p.length : Int)) (some ((p.length : Int) + 2)) = [.int a, .int b] := by
 rw [cutT_mid' _ _ _ (by lia) (by lia) (by rw [List.length_map, List.length_append]; lia), Int.toNat_natCast, show ((p.length : Int) + 2 - p.length).toNat = 2 by lia, List.map_append]
 rw [show p.length = (p.map T.int).length by rw [List.length_map], List.drop_left]
 rfl
theorem put_two (p r : List Int) (a b x y : Int) : ((p ++ a :: b :: r).map T.int).take p.length ++ [.int x, .int y] ++ ((p ++ a :: b :: r).map T.int).drop (p.length + 2) = (p ++ x :: y :: r).map T.int := by
 rw [List.map_append, ← List.drop_drop]
 rw [show p.length = (p.map T.int).length by rw [List.length_map], List.take_left, List.drop_left]
 simp
theorem filt_snoc {α : Type} (f : α → Bool) {L : List α} {i : Nat} {x : α} (h : L[i]? = some x) : (L.take (i + 1)).filter f = (L.take i).filter f ++ if f x = true then [x] else [] := by
 rw [List.take_add_one, h, List.filter_append]
 congr 1
 show List.filter f [x] = _
 rw [List.filter_cons]
 rfl
end L2
namespace L2
open PySem PySem.Spec PyProof.Rows LM
section
variable {X : Cx} {Ha : Hp} {a b : Expr} {ta tb : TE3} {tA : TT3} {pos : Pos}
end
section
variable {X : Cx} {Ha : Hp}
end
section
variable {X : Cx} {pos : Pos}
noncomputable def rGetL (K : PySem.W.Frag) : V → V → Hp → VK → Prop := fun x y H Q => ∃ p xs i v, x = .ref p ∧ y = .int i ∧ SqL K H p xs ∧ 0 ≤ i ∧ xs[i.toNat]? = some v ∧ Q v H
theorem get_listM : PGet X (rGetL X.K) := by
 intro pins s σ H o i ov iv Q I ro ri h
 obtain ⟨p, xs, k, z, rfl, rfl, hq, h0, he, q⟩ := h
 cases ro
 obtain ⟨t, rfl⟩ := ri
 obtain ⟨its, r, pl, hz⟩ := I.list hq
 obtain ⟨w, ew, rw'⟩ := r.get he
 have hl := r.length
 have hn := line63
 have hk : k.toNat < xs.length := (List.getElem?_eq_some_iff.mp he).1
 exact wpAny_getItem_list pl.isList h0 (by lia) (by simpa using ew) ⟨z, H, I, rw', q⟩
noncomputable def sAug3 (to ti te : TE3) (f : Int → Int → Int) : TS3 := fun D ρ M => to ρ M fun o M1 => ti ρ M1 fun k M2 => match o, k with
 | .adr p, .int k => (match M2 p with
   | some (.lst ts) => ∃ x : Int, 0 ≤ k ∧ ts[k.toNat]? = some (.int x) ∧ te ρ M2 fun y M3 => match y with
     | .int z => M3 p = some (.lst ts) ∧ D.nx ρ (updM M3 p (.lst (ts.set k.toNat (.int (f x z)))))
     | _ => False
   | _ => False)
 | _, _ => False
theorem s_augSub {o i e : Expr} {to ti te : TE3} {op : Operator} {f : Int → Int → Int} {tpos : Pos} (hp : PIp X op (ipI f)) (ho : HE X o to) (hi : HE X i ti) (he : HE X e te)
   (ha : ∀ ov iv new, augStore i ov iv new = (do holding [new, ov, iv] (setItem ov iv new); release [new, ov, iv] []; pure .next) := by intros; rfl) : HS X (.AugAssign (.Subscript o i tpos) op e pos) (sAug3 to ti te f) := fun D ρ M h =>
 (ps_augS (ho.d (ρ := ρ)) (hi.d (ρ := ρ)) get_listM (he.d (ρ := ρ)) hp set_list ha).imp fun D2 σ H ⟨hr, hh, en⟩ => ⟨M, _, h, hr, hh, fun x v M1 H1 k1 h1 r1 q1 => ⟨M1, _, q1, hr.kp k1, h1, fun y w M2 H2 k2 h2 r2 q2 => by
   dsimp only at q2
   split at q2
   · rename_i p k
     obtain rfl := inv_adr r1
     obtain rfl := inv_int r2
     split at q2
     · rename_i ts e
       obtain ⟨x, k0, hx, q2⟩ := q2
       obtain ⟨xs, g1, g2⟩ := h2 _ _ e
       obtain ⟨v, ev, rv⟩ := g2.get hx
       obtain rfl := inv_int rv
       refine ⟨p, xs, k, _, rfl, rfl, SqL.of g1, k0, ev, M2, _, q2, hr.kp (k1.trans k2), h2, fun y w M3 H3 k3 h3 r3 q3 => ?_⟩
       dsimp only at q3
       split at q3
       · rename_i z
         obtain rfl := inv_int r3
         obtain ⟨e3, q3⟩ := q3
         obtain ⟨ys, g3, g4⟩ := h3 _ _ e3
         have hk : k.toNat < ts.length := (List.getElem?_eq_some_iff.mp hx).1
         have kk := (k1.trans k2).trans k3
         refine ⟨x, z, rfl, rfl, p, ys, k, k.toNat, rfl, rfl, g3, ixN_nat k0 (by rw [g4.length]; lia), ?_⟩
         exact en.nx _ _ σ _ (kk.trans (Kp.lst g3)) (hr.kp (kk.trans (Kp.lst g3))) (h3.setL g3 (g4.set (t := .int (f x z)) rep_int k.toNat)) q3
       · exact q3.elim
     · exact q2.elim
   · exact q2.elim⟩⟩
end
end L2
namespace L2
open PySem PySem.Spec PyProof.Rows LM
theorem Inv.turnFp {X : Cx} {pins : List (Addr × Obj)} {σ : St} {H : Hp} {s : Shared} {h' : Heap} {t' : Nat} {T : Addr} {xs : List V} {fp : List Addr} (I : Inv X pins σ H s) (fe : ∀ b ∈ fp, FpOk X pins H b)
   (k : ∀ b o, b ∉ fp → s.heap.get? b = some o → h'.get? b = some o) (hT : s.heap.objs.size ≤ T) (new : ObjOk X.prog X.w (upd H T (.tup xs)) h' T (.tup xs)) :
   Inv X pins σ (upd H T (.tup xs)) { s with heap := h', toks := t' } := by
 have hn : H T = none := I.hok.fresh hT
 have ne : ∀ b u, H b = some u → b ∉ fp := fun b u q z => by rw [(fe b z).1] at q; cases q
 refine I.step (g' := s.gens) (d' := s.drawn) (ch := fp) (fun b hb => ?_) (fun b o _ _ hc q _ => k b o hc q) (fun b o _ _ hc q _ => ⟨o.slots, k b o hc q⟩)
   (fun b o _ q n => by rw [upd_ne (Nat.ne_of_lt (Nat.lt_of_lt_of_le (Heap.lt_size q) hT))]; exact n)
   (fun b o hc q => ⟨o, k b o hc q⟩) (fun b xs q => by rw [upd_ne (ne_of_none q hn)]; exact q) (fun b o u q => by rw [upd_ne (ne_of_none q hn)]; exact q) (fun b ps q => ⟨#[], by rw [upd_ne (ne_of_none q hn), q]; simp⟩) (fun m hm => ?_) (fun b u q => ?_) I.bare
 · have fe := fe b hb
   exact ⟨fe.2.2.2.1, fe.2.1, fe.2.2.2.2.1, fe.2.2.2.2.2⟩
 · obtain ⟨o, es, ep, ho, r⟩ := hm
   exact ⟨o, es, ep, k _ o (fun z => (fe _ z).2.1 rfl) ho, r⟩
 · by_cases hb : b = T
   · subst hb; rw [upd_same] at q; cases q; exact new
   · rw [upd_ne hb] at q
     refine (I.hok b u q).stay (fun c v hc z => ?_) (fun c z => by rw [upd_ne (ne_of_none z hn)]; exact z) fun c xs z => by rw [upd_ne (ne_of_none z hn)]; exact z
     rcases hc with y | y
     · rw [y] at z ⊢; exact k b v (ne b u q) z
     · exact k c v (ne c _ y) z
theorem Inv.turnedFp {X : Cx} {pins : List (Addr × Obj)} {σ : St} {H : Hp} {s : Shared} {h' : Heap} {t' : Nat} {fp : List Addr} (I : Inv X pins σ H s) (fe : ∀ b ∈ fp, FpOk X pins H b) (k : ∀ b o, b ∉ fp → s.heap.get? b = some o → h'.get? b = some o) : Inv X pins σ H { s with heap := h', toks := t' } := by
 have nit : ∀ b u, H b = some u → b ∉ fp := fun b u e z => by rw [(fe b z).1] at e; cases e
 refine I.step (g' := s.gens) (d' := s.drawn) (ch := fp) (fun b hb => ?_) (fun b o _ _ hc e _ => k b o hc e) (fun b o _ _ hc e _ => ⟨o.slots, k b o hc e⟩) (fun _ _ _ _ n => n)
   (fun b o hc e => ⟨o, k b o hc e⟩) (fun _ _ e => e) (fun _ _ _ e => e) (fun b ps e => ⟨#[], by rw [e]; simp⟩) (fun m hm => ?_) (fun b u e => ?_) I.bare
 · have fe := fe b hb
   exact ⟨fe.2.2.2.1, fe.2.1, fe.2.2.2.2.1, fe.2.2.2.2.2⟩
 · obtain ⟨o, es, ep, ho, r⟩ := hm
   exact ⟨o, es, ep, k _ o (fun z => (fe _ z).2.1 rfl) ho, r⟩
 · refine (I.hok b u e).stay (fun c v hc q => k c v ?_ q) (fun _ q => q) fun _ _ q => q
   rcases hc with z | z
   · rw [z]; exact nit b u e
   · exact nit c _ z
noncomputable def Izip (K : PySem.W.Frag) (a b : Addr) (n : Nat) : It :=
 ⟨fun i H => i < n ∧ ∃ xs ys, SqL K H a xs ∧ SqL K H b ys ∧ xs.length = n ∧ ys.length = n, fun i H v H' => ∃ T x y, v = .ref T ∧ H T = none ∧ H' = upd H T (.tup [x, y]) ∧ (∀ xs, SqL K H a xs → xs[i]? = some x) ∧ (∀ ys, SqL K H b ys → ys[i]? = some y),
   fun i H => i = n ∧ ∃ xs ys, SqL K H a xs ∧ SqL K H b ys ∧ xs.length = n ∧ ys.length = n⟩
noncomputable def ZipSt (a b z TI TO i1 i2 : Addr) (i : Nat) (h : Heap) : Prop := ∃ u v, IsZip h z TI TO .none ∧ IsPair h TI (.ref i1) (.ref i2) ∧ IsPair h TO u v ∧ h.IsListIter i1 a i ∧ h.IsListIter i2 b i
theorem turn_zip {P : Program} {w : World} {K : PySem.W.Frag} {es : List Expr} {x1} {tp : Pos} (a b z TI TO i1 i2 : Addr) (n : Nat) (D : ZipApart z TI TO i1 i2 a b) : Turn P w K (.Tuple es x1 tp) (Izip K a b n) [z, TI, TO, i1, i2] z (ZipSt a b z TI TO i1 i2) where
 mem := by simp
 obj := fun i h st c hc => by
   obtain ⟨u, v, e1, e2, e3, e4, e5⟩ := st
   have q : c = z ∨ c = TI ∨ c = TO ∨ c = i1 ∨ c = i2 := by simpa using hc
   rcases q with rfl | rfl | rfl | rfl | rfl
   · exact ⟨_, e1, fun v z => by cases z⟩
   · exact ⟨_, e2, fun v z => by cases z⟩
   · exact ⟨_, e3, fun v z => by cases z⟩
   · obtain ⟨o, q, c, d⟩ := e4
     exact ⟨o, q, fun v z => by rw [d] at z; cases z⟩
   · obtain ⟨o, q, c, d⟩ := e5
     exact ⟨o, q, fun v z => by rw [d] at z; cases z⟩
 keep := fun i h h' st k => by
   obtain ⟨u, v, e1, e2, e3, e4, e5⟩ := st
   exact ⟨u, v, k _ (by simp) _ e1, k _ (by simp) _ e2, k _ (by simp) _ e3, e4.at fun o q => k _ (by simp) o q, e5.at fun o q => k _ (by simp) o q⟩
 item := by
   intro X hP hw hK hc i pins s σ H E I hf st hg
   subst hP hw hK
   obtain ⟨u, v, e1, e2, e3, e4, e5⟩ := st
   obtain ⟨hi, xs, ys, hq, hq2, hxn, hyn⟩ := hg
   obtain ⟨its, rv, p, hz⟩ := I.list hq
   obtain ⟨its2, rv2, p2, hz2⟩ := I.list hq2
   obtain ⟨x, hx⟩ : ∃ x, xs[i]? = some x := ⟨_, List.getElem?_eq_getElem (by lia)⟩
   obtain ⟨y, hy⟩ : ∃ y, ys[i]? = some y := ⟨_, List.getElem?_eq_getElem (by lia)⟩
   obtain ⟨u1, hu1, ru1⟩ := rv.get hx
   obtain ⟨u2, hu2, ru2⟩ := rv2.get hy
   refine wpAny_pyNext_zip_item D e1 e2 e3 e4 e5 p.isList p2.isList (x := u1) (y := u2) (by simpa using hu1) (by simpa using hu2) fun h1 a1 a2 a3 a4 a5 a6 a7 => ?_
   refine ⟨_, rfl, wpAny_letOwnedTupleGo_zip a1 fun h2 b1 hs2 => ?_⟩
   have k2 : ∀ b o, b ∉ [z, TI, TO, i1, i2] → s.heap.get? b = some o → h2.get? b = some o := fun c o hc q => by
     simp only [List.mem_cons, List.not_mem_nil, or_false, not_or] at hc
     exact (hs2.2 c hc.1).trans (a7 c o hc.1 hc.2.2.1 hc.2.2.2.1 hc.2.2.2.2 q)
   have nz : s.heap.objs.size ≠ z := Nat.ne_of_gt (Heap.lt_size e1)
   have hT2 : h2.get? s.heap.objs.size = some { cls := .type "tuple", data := .seq #[u1, u2] } := (hs2.2 _ nz).trans a5
   have hn : H s.heap.objs.size = none := I.hok.fresh (Nat.le_refl _)
   have I2 : Inv X pins σ (upd H s.heap.objs.size (.tup [x, y])) { s with heap := h2, toks := s.toks } := I.turnFp hf k2 (Nat.le_refl _)
     ⟨by simp only [List.length_cons, List.length_nil]; rw [sizeLine_eq]; decide, [u1, u2], .cons ru1 (.cons ru2 .nil), _, hT2, rfl, rfl, _, rfl⟩
   have up : ∀ {c : Addr} {o : Obj}, c ≠ z → h1.get? c = some o → h2.get? c = some o := fun hc q => (hs2.2 _ hc).trans q
   have hTI : h1.get? TI = some { cls := .type "tuple", data := .seq #[.ref i1, .ref i2] } := a7 TI _ D.TIz D.TITO D.TIi1 D.TIi2 e2
   refine ⟨.ref s.heap.objs.size, _, I2, rfl, ⟨_, x, y, rfl, hn, rfl, fun ws hw => by rw [I.list_inj hw hq]; exact hx, fun ws hw => by rw [I.list_inj hw hq2]; exact hy⟩, ⟨u1, u2, b1, up D.TIz hTI, up D.TOz a2, a3.at fun o q => up D.i1z q, a4.at fun o q => up D.i2z q⟩, fun c hc => ?_⟩
   have hc' : c < s.heap.objs.size := by
     have q : c = z ∨ c = TI ∨ c = TO ∨ c = i1 ∨ c = i2 := by simpa using hc
     rcases q with rfl | rfl | rfl | rfl | rfl
     · exact Heap.lt_size e1
     · exact Heap.lt_size e2
     · exact Heap.lt_size e3
     · obtain ⟨o, q, _⟩ := e4; exact Heap.lt_size q
     · obtain ⟨o, q, _⟩ := e5; exact Heap.lt_size q
   rw [upd_ne (Nat.ne_of_lt hc')]
   exact (hf c hc).1
 done := by
   intro X hP hw hK hc i pins s σ H E I hf st hg
   subst hP hw hK
   obtain ⟨u, v, e1, e2, e3, e4, e5⟩ := st
   obtain ⟨hi, xs, ys, hq, hq2, hxn, hyn⟩ := hg
   obtain ⟨its, rv, p, hz⟩ := I.list hq
   obtain ⟨its2, rv2, p2, hz2⟩ := I.list hq2
   have hl := rv.length
   refine wpAny_pyNext_zip_end (I.ok.hd hc) D e1 e2 e3 e4 e5 p.isList p2.isList (.inl (Array.getElem?_eq_none (by simp; lia))) fun h' eb => ⟨rfl, I.turnedFp (t' := s.toks) hf fun c o hc q => ?_⟩
   simp only [List.mem_cons, List.not_mem_nil, or_false, not_or] at hc
   exact eb c o hc.1 hc.2.2.1 hc.2.2.2.1 hc.2.2.2.2 q
 self := fun A i s Q E st h => by
   obtain ⟨u, v, e1, _⟩ := st
   exact wpAny_pyIter_zip e1 h
noncomputable def zpT (ts us : List T) : List T := List.zipWith (fun a b => .tup [a, b]) ts us
theorem zpT_len {ts us : List T} (h : ts.length = us.length) : (zpT ts us).length = ts.length := by unfold zpT; rw [List.length_zipWith, h, Nat.min_self]
theorem zpT_get {ts us : List T} {i : Nat} {x : T} (h : (zpT ts us)[i]? = some x) : ∃ a b, ts[i]? = some a ∧ us[i]? = some b ∧ x = .tup [a, b] := by
 unfold zpT at h
 rw [List.getElem?_zipWith] at h
 cases e1 : ts[i]? with
 | none => rw [e1] at h; cases us[i]? <;> cases h
 | some a =>
   cases e2 : us[i]? with
   | none => rw [e1, e2] at h; cases h
   | some b => rw [e1, e2] at h; exact ⟨a, b, rfl, rfl, (Option.some.inj h).symm⟩
theorem itok_zip {K : PySem.W.Frag} {H : Hp} {a b : Addr} {ts us : List T} (hl : ts.length = us.length) : ItOk K H (Izip K a b ts.length) ⟨zpT ts us, fun M' => M' a = some (.lst ts) ∧ M' b = some (.lst us)⟩ := by
 refine ⟨fun H' M' k hh st => ?_, fun i x H' M' e k hh st => ?_⟩
 · obtain ⟨xs, g1, g2⟩ := hh _ _ st.1
   obtain ⟨ys, g3, g4⟩ := hh _ _ st.2
   exact ⟨zpT_len hl, xs, ys, SqL.of g1, SqL.of g3, g2.length, by rw [g4.length, hl]⟩
 · obtain ⟨t, u, ht, hu, rfl⟩ := zpT_get e
   obtain ⟨xs, g1, g2⟩ := hh _ _ st.1
   obtain ⟨ys, g3, g4⟩ := hh _ _ st.2
   obtain ⟨v, e1, r1⟩ := g2.get ht
   obtain ⟨w, e2, r2⟩ := g4.get hu
   refine ⟨⟨(List.getElem?_eq_some_iff.mp ht).1, xs, ys, SqL.of g1, SqL.of g3, g2.length, by rw [g4.length, hl]⟩, fun v' H'' y => ?_⟩
   obtain ⟨p, x, y, rfl, hn, rfl, hx, hy⟩ := y
   have q1 := hx xs (SqL.of g1)
   have q2 := hy ys (SqL.of g3)
   rw [e1] at q1
   rw [e2] at q2
   cases q1
   cases q2
   exact ⟨Kp.new hn, hh.keep hn, rep_tup (SqT.of upd_same) (.cons (Rep.kp (Kp.new hn) _ _ r1) (.cons (Rep.kp (Kp.new hn) _ _ r2) .nil))⟩
section
variable {X : Cx}
noncomputable def iZip3 (t : TA3) : TI3 := fun ρ M R => t ρ M fun xs M1 => match xs with
 | [.adr p, .adr q] => (match M1 p, M1 q with | some (.lst ts), some (.lst us) => ts.length = us.length ∧ R ⟨zpT ts us, fun M' => M' p = some (.lst ts) ∧ M' q = some (.lst us)⟩ M1 | _, _ => False)
 | _ => False
theorem i_zip {es : List Expr} {x1} {tp pos : Pos} {a b : Expr} {t : TA3} {p : Pos} (hm : X.mg "zip" = none) (ha : HA X [a, b] t) (hg : Gl X "zip" := by rfl) (hs : starEach [a, b] X.env = [(false, eval a X.env), (false, eval b X.env)] := by rfl) (hs2 : starEach [b] X.env = [(false, eval b X.env)] := by rfl) : HI X (.Tuple es x1 tp) (.Call (.Name "zip" p) [a, b] [] pos) (iZip3 t) := by
 intro ρ M R h pins s σ H R2 I b
 obtain ⟨hr, hh, en⟩ := b
 refine Call_ (ld_blt I hg hm PyProof.Rows.boot_zip (PyProof.Rows.callWith_type1 (thn ((ha.d (ρ := ρ)) pos pins s σ H (fun vs H1 => ∃ ts M1, Kp X.K H H1 ∧ HR X.K H1 M1 ∧ Reps X.K H1 vs ts ∧ (match ts with
   | [.adr p, .adr q] => (match M1 p, M1 q with | some (.lst ts), some (.lst us) => ts.length = us.length ∧ R ⟨zpT ts us, fun M' => M' p = some (.lst ts) ∧ M' q = some (.lst us)⟩ M1 | _, _ => False)
   | _ => False)) I ⟨M, _, h, hr, hh, fun ts vs M1 H1 k1 h1 r1 q1 => ⟨ts, M1, k1, h1, r1, q1⟩⟩) fun us s1 ⟨vs, H1, I1, r1, ts, M1, k1, h1, rt, q1⟩ => ?_) (by rw [hs, hs2]) (by rw [hs2]; rfl)))
 split at q1
 · rename_i p q
   obtain ⟨v, w, rfl, rv, rw'⟩ := reps2 rt
   obtain rfl := inv_adr rv
   obtain rfl := inv_adr rw'
   split at q1
   · rename_i ts us e1 e2
     obtain ⟨hl, q1⟩ := q1
     obtain ⟨xs, g1, g2⟩ := h1 _ _ e1
     obtain ⟨ys, g3, g4⟩ := h1 _ _ e2
     cases r1 with
     | cons ra rr =>
       cases rr with
       | cons rb rr =>
         cases rr
         cases ra
         cases rb
         obtain ⟨its, rva, pa, hza⟩ := I1.list (SqL.of g1)
         obtain ⟨its2, rvb, pb, hzb⟩ := I1.list (SqL.of g3)
         have la : p < s1.heap.objs.size := by obtain ⟨o, e, _⟩ := pa.isList; exact Heap.lt_size e
         have lb : q < s1.heap.objs.size := by obtain ⟨o, e, _⟩ := pb.isList; exact Heap.lt_size e
         refine call_zip_2 pa.isList pb.isList fun h' a1 a2 a3 a4 a5 a6 a7 => ?_
         refine wpAny_pyIter_zip (s := { s1 with heap := h' }) a1 ?_
         refine ⟨s1.heap.objs.size + 4, [s1.heap.objs.size + 4, s1.heap.objs.size + 2, s1.heap.objs.size + 3, s1.heap.objs.size, s1.heap.objs.size + 1], _, _, H1, rfl, I1.kept (t' := s1.toks) a7,
           turn_zip p q _ _ _ _ _ ts.length ⟨by lia, by lia, by lia, by lia, by lia, by lia, by lia, by lia, by lia, by lia, by lia, by lia, by lia, by lia, by lia, by lia, by lia, by lia⟩, ⟨_, _, a1, a2, a3, a4, a5⟩, fun c hc => ?_, en _ _ M1 H1 k1 h1 (itok_zip hl) q1⟩
         have hc2 : s1.heap.objs.size ≤ c := by
           simp only [List.mem_cons, List.not_mem_nil, or_false] at hc
           lia
         exact I1.fpOk hc2 (I1.hok.fresh hc2)
   · exact q1.elim
 · exact q1.elim
end
end L2
namespace L2
open PySem PySem.Spec PyProof.Rows LM
section
variable {X : Cx}
end
end L2
namespace L2
open PySem PySem.Spec PyProof.Rows LM
section
variable {X : Cx} {e : Expr} {te : TE3} {p p2 pos pos2 : Pos}
end
end L2
namespace L2
open PySem PySem.Spec PyProof.Rows LM
end L2
namespace L2
open PySem PySem.Spec PyProof.Rows LM
section
variable {X : Cx}
end
end L2
namespace L2
open PySem PySem.Spec PyProof.Rows LM
end L2
namespace L2
open PySem PySem.Spec PyProof.Rows LM
section
variable {P : Program} {w : World} {A : Around} {E : Value → Shared → Prop} {s : Shared}
end
section
variable {X : Cx}
end
end L2
namespace L2
open PySem PySem.Spec PyProof.Rows LM
end L2
namespace L2
open PySem PySem.Spec PyProof.Rows LM
end L2
namespace L2
open PySem PySem.Spec PyProof.Rows LM
section
variable {X : Cx}
end
end L2
namespace L2
open PySem PySem.Spec PyProof.Rows LM
end L2
namespace L2
open PySem PySem.Spec PyProof.Rows LM
end L2
namespace L2
open PySem PySem.Spec PyProof.Rows LM
section
variable {P : Program} {w : World} {A : Around} {E : Value → Shared → Prop} {s : Shared}
end
end L2
namespace L2
open PySem PySem.Spec PyProof.Rows LM
section
variable {P : Program} {w : World} {A : Around} {E : Value → Shared → Prop} {s : Shared} {K : Type} [DecidableEq K] {knd : KeyKind P w K}
end
end L2
namespace L2
open PySem PySem.Spec PyProof.Rows LM
section
variable {X : Cx}
end
section
variable {P : Program} {w : World} {A : Around} {E : Value → Shared → Prop} {s : Shared}
end
section
variable {X : Cx}
end
end L2
namespace L2
open PySem PySem.Spec PyProof.Rows LM
noncomputable abbrev Po := List (Int × Int)
noncomputable def co : Po → Int → Int
 | [], _ => 0
 | x :: r, k => (if x.1 = k then x.2 else 0) + co r k
noncomputable def CanP (p : Po) : Prop := p.Pairwise (fun a b => a.1 < b.1) ∧ ∀ x ∈ p, x.2 ≠ 0
theorem co_append (p q : Po) (k : Int) : co (p ++ q) k = co p k + co q k := by
 induction p with
 | nil => show co q k = 0 + co q k; lia
 | cons x r ih =>
   show (if x.1 = k then x.2 else 0) + co (r ++ q) k = ((if x.1 = k then x.2 else 0) + co r k) + co q k
   rw [ih]; lia
theorem co_zero {p : Po} {k : Int} (h : ∀ x ∈ p, x.1 ≠ k) : co p k = 0 := by
 induction p with
 | nil => rfl
 | cons x r ih =>
   show (if x.1 = k then x.2 else 0) + co r k = 0
   rw [if_neg (h x (.head _)), ih fun y hy => h y (.tail _ hy)]; rfl
theorem co_mem {p : Po} (h : p.Pairwise (fun a b => a.1 < b.1)) {x : Int × Int} (hx : x ∈ p) : co p x.1 = x.2 := by
 induction p with
 | nil => cases hx
 | cons y r ih =>
   obtain ⟨h1, h2⟩ := List.pairwise_cons.mp h
   show (if y.1 = x.1 then y.2 else 0) + co r x.1 = x.2
   rcases List.mem_cons.mp hx with e | e
   · subst e
     rw [if_pos rfl, co_zero fun z hz => Int.ne_of_gt (h1 z hz)]; lia
   · rw [if_neg (Int.ne_of_lt (h1 x e)), ih h2 e]; lia
theorem canP_ext : ∀ {p q : Po}, CanP p → CanP q → (∀ k, co p k = co q k) → p = q
 | [], [], _, _, _ => rfl
 | [], y :: q, _, hq, h => by
   have e := co_mem hq.1 (List.mem_cons_self (a := y) (l := q))
   rw [← h] at e
   exact absurd e.symm (hq.2 y (.head _))
 | x :: p, [], hp, _, h => by
   have e := co_mem hp.1 (List.mem_cons_self (a := x) (l := p))
   rw [h] at e
   exact absurd e.symm (hp.2 x (.head _))
 | x :: p, y :: q, hp, hq, h => by
   obtain ⟨p1, p2⟩ := List.pairwise_cons.mp hp.1
   obtain ⟨q1, q2⟩ := List.pairwise_cons.mp hq.1
   have ex := co_mem hp.1 (List.mem_cons_self (a := x) (l := p))
   have ey := co_mem hq.1 (List.mem_cons_self (a := y) (l := q))
   have nx := hp.2 x (.head _)
   have ny := hq.2 y (.head _)
   have e1 : x.1 = y.1 := by
     rcases Int.lt_trichotomy x.1 y.1 with z | z | z
     · rw [h, co_zero] at ex
       · exact absurd ex.symm nx
       · intro w hw
         rcases List.mem_cons.mp hw with e | e
         · rw [e]; exact Int.ne_of_gt z
         · exact Int.ne_of_gt (Int.lt_trans z (q1 w e))
     · exact z
     · rw [← h, co_zero] at ey
       · exact absurd ey.symm ny
       · intro w hw
         rcases List.mem_cons.mp hw with e | e
         · rw [e]; exact Int.ne_of_gt z
         · exact Int.ne_of_gt (Int.lt_trans z (p1 w e))
   have e2 : x.2 = y.2 := by rw [← ex, ← ey, e1, h]
   have exy : x = y := Prod.ext e1 e2
   subst exy
   refine congrArg (x :: ·) (canP_ext ⟨p2, fun z hz => hp.2 z (.tail _ hz)⟩ ⟨q2, fun z hz => hq.2 z (.tail _ hz)⟩ fun k => ?_)
   have := h k
   have t : (if x.1 = k then x.2 else 0) + co p k = (if x.1 = k then x.2 else 0) + co q k := this
   lia
noncomputable def putP (k c : Int) : Po → Po
 | [] => if c = 0 then [] else [(k, c)]
 | x :: r => if k < x.1 then (if c = 0 then x :: r else (k, c) :: x :: r) else if k = x.1 then (if x.2 + c = 0 then r else (k, x.2 + c) :: r) else x :: putP k c r
noncomputable def norm : Po → Po
 | [] => []
 | x :: r => putP x.1 x.2 (norm r)
theorem co_putP (k c : Int) : ∀ (p : Po) (j : Int), co (putP k c p) j = (if k = j then c else 0) + co p j
 | [], j => by
   show co (if c = 0 then [] else [(k, c)]) j = (if k = j then c else 0) + 0
   by_cases h : c = 0
   · rw [if_pos h, h]
     show 0 = (if k = j then 0 else 0) + 0
     split <;> rfl
   · rw [if_neg h]; rfl
 | x :: r, j => by
   show co (if k < x.1 then (if c = 0 then x :: r else (k, c) :: x :: r) else if k = x.1 then (if x.2 + c = 0 then r else (k, x.2 + c) :: r) else x :: putP k c r) j = (if k = j then c else 0) + ((if x.1 = j then x.2 else 0) + co r j)
   by_cases h1 : k < x.1
   · rw [if_pos h1]
     by_cases h : c = 0
     · rw [if_pos h, h]
       show (if x.1 = j then x.2 else 0) + co r j = _
       split <;> split <;> lia
     · rw [if_neg h]; rfl
   · rw [if_neg h1]
     by_cases h2 : k = x.1
     · rw [if_pos h2]
       by_cases h : x.2 + c = 0
       · rw [if_pos h]
         split <;> split <;> lia
       · rw [if_neg h]
         show (if k = j then x.2 + c else 0) + co r j = _
         split <;> split <;> lia
     · rw [if_neg h2]
       show (if x.1 = j then x.2 else 0) + co (putP k c r) j = _
       rw [co_putP k c r j]; lia
theorem putP_lo {k c m : Int} (hk : m < k) : ∀ {p : Po}, (∀ x ∈ p, m < x.1) → ∀ x ∈ putP k c p, m < x.1
 | [], _, x, hx => by
   have hx : x ∈ (if c = 0 then [] else [(k, c)]) := hx
   split at hx
   · cases hx
   · rw [List.mem_singleton.mp hx]; exact hk
 | y :: r, h, x, hx => by
   have hx : x ∈ (if k < y.1 then (if c = 0 then y :: r else (k, c) :: y :: r) else if k = y.1 then (if y.2 + c = 0 then r else (k, y.2 + c) :: r) else y :: putP k c r) := hx
   split at hx
   · split at hx
     · exact h x hx
     · rcases List.mem_cons.mp hx with e | e
       · rw [e]; exact hk
       · exact h x e
   · split at hx
     · split at hx
       · exact h x (.tail _ hx)
       · rcases List.mem_cons.mp hx with e | e
         · rw [e]; exact hk
         · exact h x (.tail _ e)
     · rcases List.mem_cons.mp hx with e | e
       · rw [e]; exact h y (.head _)
       · exact putP_lo hk (fun z hz => h z (.tail _ hz)) x e
theorem canP_putP (k c : Int) : ∀ {p : Po}, CanP p → CanP (putP k c p)
 | [], _ => by
   show CanP (if c = 0 then [] else [(k, c)])
   split
   · exact ⟨.nil, fun _ h => absurd h List.not_mem_nil⟩
   · rename_i h
     exact ⟨List.pairwise_singleton _ _, fun x hx => by rw [List.mem_singleton.mp hx]; exact h⟩
 | y :: r, h => by
   obtain ⟨h1, h2⟩ := List.pairwise_cons.mp h.1
   show CanP (if k < y.1 then (if c = 0 then y :: r else (k, c) :: y :: r) else if k = y.1 then (if y.2 + c = 0 then r else (k, y.2 + c) :: r) else y :: putP k c r)
   split
   · rename_i a
     split
     · exact h
     · rename_i b
       refine ⟨List.pairwise_cons.mpr ⟨fun z hz => ?_, h.1⟩, fun z hz => ?_⟩
       · rcases List.mem_cons.mp hz with e | e
         · rw [e]; exact a
         · exact Int.lt_trans a (h1 z e)
       · rcases List.mem_cons.mp hz with e | e
         · rw [e]; exact b
         · exact h.2 z e
   · split
     · rename_i a b
       split
       · exact ⟨h2, fun z hz => h.2 z (.tail _ hz)⟩
       · rename_i d
         refine ⟨List.pairwise_cons.mpr ⟨fun z hz => by rw [b]; exact h1 z hz, h2⟩, fun z hz => ?_⟩
         rcases List.mem_cons.mp hz with e | e
         · rw [e]; exact d
         · exact h.2 z (.tail _ e)
     · rename_i a b
       have ih := canP_putP k c (p := r) ⟨h2, fun z hz => h.2 z (.tail _ hz)⟩
       refine ⟨List.pairwise_cons.mpr ⟨fun z hz => putP_lo (by lia) h1 z hz, ih.1⟩, fun z hz => ?_⟩
       rcases List.mem_cons.mp hz with e | e
       · rw [e]; exact h.2 y (.head _)
       · exact ih.2 z e
theorem co_norm : ∀ (p : Po) (k : Int), co (norm p) k = co p k
 | [], _ => rfl
 | x :: r, k => by
   show co (putP x.1 x.2 (norm r)) k = (if x.1 = k then x.2 else 0) + co r k
   rw [co_putP, co_norm r]
theorem canP_norm : ∀ p : Po, CanP (norm p)
 | [] => ⟨.nil, fun _ h => absurd h List.not_mem_nil⟩
 | x :: r => canP_putP x.1 x.2 (canP_norm r)
noncomputable def addP (p q : Po) : Po := norm (p ++ q)
noncomputable def rawM (p q : Po) : Po := p.flatMap fun a => q.map fun b => (a.1 + b.1, a.2 * b.2)
noncomputable def mulP' (p q : Po) : Po := norm (rawM p q)
end L2
namespace L2
open PySem PySem.Spec PyProof.Rows LM
section
variable {X : Cx}
end
end L2
namespace L2
open PySem PySem.Spec PyProof.Rows LM
section
variable {X : Cx} {a b e : Expr} {pos : Pos}
end
end L2
namespace L2
open PySem PySem.Spec PyProof.Rows LM
section
variable {X : Cx} {Ha : Hp} {e : Expr} {te : TE3} {pos : Pos}
end
end L2
namespace L2
open PySem PySem.Spec PyProof.Rows LM
section
variable {X : Cx}
end
section
variable {X : Cx}
end
end L2
namespace L2
open PySem PySem.Spec PyProof.Rows LM
end L2
namespace L2
open PySem PySem.Spec PyProof.Rows LM
section
variable {X : Cx}
end
end L2
namespace L2
open PySem PySem.Spec PyProof.Rows LM
section
variable {X : Cx}
end
end L2
namespace L2
open PySem PySem.Spec PyProof.Rows LM
end L2
namespace L2
open PySem PySem.Spec PyProof.Rows LM
end L2
namespace L2
open PySem PySem.Spec PyProof.Rows LM
noncomputable def cv : Po → (Int → Int) → Int → Int
 | [], _, _ => 0
 | x :: a, f, c => x.2 * f (c - x.1) + cv a f c
theorem co_shift (x : Int × Int) (c : Int) : ∀ b : Po, co (b.map fun y => (x.1 + y.1, x.2 * y.2)) c = x.2 * co b (c - x.1)
 | [] => by show (0 : Int) = x.2 * 0; rw [Int.mul_zero]
 | y :: b => by
   show (if x.1 + y.1 = c then x.2 * y.2 else 0) + co (b.map fun y => (x.1 + y.1, x.2 * y.2)) c = x.2 * ((if y.1 = c - x.1 then y.2 else 0) + co b (c - x.1))
   rw [co_shift x c b, Int.mul_add]
   by_cases h : x.1 + y.1 = c
   · rw [if_pos h, if_pos (by lia)]
   · rw [if_neg h, if_neg (by lia), Int.mul_zero]
theorem co_mul (b : Po) (c : Int) : ∀ a : Po, co (rawM a b) c = cv a (co b) c
 | [] => rfl
 | x :: a => by
   show co ((b.map fun y => (x.1 + y.1, x.2 * y.2)) ++ rawM a b) c = x.2 * co b (c - x.1) + cv a (co b) c
   rw [co_append, co_shift, co_mul b c a]
theorem cv_nil (c : Int) : ∀ a : Po, cv a (co []) c = 0
 | [] => rfl
 | x :: a => by
   show x.2 * 0 + cv a (co []) c = 0
   rw [cv_nil c a]; lia
theorem cv_one (c : Int) : ∀ a : Po, cv a (co [(0, 1)]) c = co a c
 | [] => rfl
 | x :: a => by
   show x.2 * ((if (0 : Int) = c - x.1 then 1 else 0) + 0) + cv a (co [(0, 1)]) c = (if x.1 = c then x.2 else 0) + co a c
   rw [cv_one c a]
   by_cases h : x.1 = c
   · rw [if_pos h, if_pos (by lia)]; lia
   · rw [if_neg h, if_neg (by lia)]; lia
end L2
namespace L2
open PySem PySem.Spec PyProof.Rows LM
end L2
namespace L2
open PySem PySem.Spec PyProof.Rows LM
theorem cv_append (f : Int → Int) (c : Int) : ∀ p q : Po, cv (p ++ q) f c = cv p f c + cv q f c
 | [], q => by show cv q f c = 0 + cv q f c; lia
 | x :: p, q => by
   show x.2 * f (c - x.1) + cv (p ++ q) f c = x.2 * f (c - x.1) + cv p f c + cv q f c
   rw [cv_append f c p q]; lia
theorem cv_add (f g : Int → Int) (c : Int) : ∀ p : Po, cv p (fun c => f c + g c) c = cv p f c + cv p g c
 | [] => rfl
 | x :: p => by
   show x.2 * (f (c - x.1) + g (c - x.1)) + cv p (fun c => f c + g c) c = (x.2 * f (c - x.1) + cv p f c) + (x.2 * g (c - x.1) + cv p g c)
   rw [cv_add f g c p, Int.mul_add]; lia
theorem cv_shift (x : Int × Int) (f : Int → Int) (c : Int) : ∀ q : Po, cv (q.map fun y => (x.1 + y.1, x.2 * y.2)) f c = x.2 * cv q f (c - x.1)
 | [] => by show (0 : Int) = x.2 * 0; rw [Int.mul_zero]
 | y :: q => by
   show x.2 * y.2 * f (c - (x.1 + y.1)) + cv (q.map fun y => (x.1 + y.1, x.2 * y.2)) f c = x.2 * (y.2 * f (c - x.1 - y.1) + cv q f (c - x.1))
   rw [cv_shift x f c q, Int.mul_add, Int.mul_assoc, show c - (x.1 + y.1) = c - x.1 - y.1 by lia]
theorem cv_raw (q : Po) (f : Int → Int) (c : Int) : ∀ p : Po, cv (rawM p q) f c = cv p (cv q f) c
 | [] => rfl
 | x :: p => by
   show cv ((q.map fun y => (x.1 + y.1, x.2 * y.2)) ++ rawM p q) f c = x.2 * cv q f (c - x.1) + cv p (cv q f) c
   rw [cv_append, cv_shift, cv_raw q f c p]
theorem cv_putP (k v : Int) (f : Int → Int) (c : Int) : ∀ p : Po, cv (putP k v p) f c = v * f (c - k) + cv p f c
 | [] => by
   show cv (if v = 0 then [] else [(k, v)]) f c = v * f (c - k) + 0
   split
   · rename_i h; subst h; show (0 : Int) = _; rw [Int.zero_mul]; rfl
   · rfl
 | x :: r => by
   have ih := cv_putP k v f c r
   show cv (if k < x.1 then (if v = 0 then x :: r else (k, v) :: x :: r) else if k = x.1 then (if x.2 + v = 0 then r else (k, x.2 + v) :: r) else x :: putP k v r) f c = _
   split
   · split
     · rename_i h; subst h; rw [Int.zero_mul, Int.zero_add]
     · rfl
   · split
     · rename_i h; subst h
       split
       · rename_i h
         show cv r f c = v * f (c - x.1) + (x.2 * f (c - x.1) + cv r f c)
         rw [← Int.add_assoc, ← Int.add_mul, show v + x.2 = 0 by lia, Int.zero_mul, Int.zero_add]
       · show (x.2 + v) * f (c - x.1) + cv r f c = v * f (c - x.1) + (x.2 * f (c - x.1) + cv r f c)
         rw [Int.add_mul]; lia
     · show x.2 * f (c - x.1) + cv (putP k v r) f c = v * f (c - k) + (x.2 * f (c - x.1) + cv r f c)
       rw [ih]; lia
theorem cv_norm (f : Int → Int) (c : Int) : ∀ p : Po, cv (norm p) f c = cv p f c
 | [] => rfl
 | x :: p => by
   show cv (putP x.1 x.2 (norm p)) f c = x.2 * f (c - x.1) + cv p f c
   rw [cv_putP, cv_norm f c p]
theorem co_raw_cons (x : Int × Int) (p : Po) (c : Int) : ∀ q : Po, co (rawM q (x :: p)) c = co (q.map fun y => (x.1 + y.1, x.2 * y.2)) c + co (rawM q p) c
 | [] => rfl
 | y :: q => by
   show co (((y.1 + x.1, y.2 * x.2) :: p.map fun b => (y.1 + b.1, y.2 * b.2)) ++ rawM q (x :: p)) c = ((if x.1 + y.1 = c then x.2 * y.2 else 0) + co (q.map fun y => (x.1 + y.1, x.2 * y.2)) c) + co ((p.map fun b => (y.1 + b.1, y.2 * b.2)) ++ rawM q p) c
   rw [co_append, co_append, co_raw_cons x p c q]
   show ((if y.1 + x.1 = c then y.2 * x.2 else 0) + _) + _ = _
   rw [Int.add_comm y.1, Int.mul_comm y.2]; lia
theorem co_raw_comm (c : Int) (q : Po) : ∀ p : Po, co (rawM p q) c = co (rawM q p) c
 | [] => by
   have : ∀ q : Po, rawM q [] = [] := fun q => by
     induction q with
     | nil => rfl
     | cons y q ih => show [] ++ rawM q [] = []; rw [ih]; rfl
   rw [this]; rfl
 | x :: p => by
   show co ((q.map fun y => (x.1 + y.1, x.2 * y.2)) ++ rawM p q) c = _
   rw [co_append, co_raw_cons, co_raw_comm c q p]
theorem co_addP (p q : Po) (c : Int) : co (addP p q) c = co p c + co q c := by unfold addP; rw [co_norm, co_append]
theorem co_mulP (p q : Po) (c : Int) : co (mulP' p q) c = cv p (co q) c := by unfold mulP'; rw [co_norm, co_mul]
noncomputable abbrev Lp := {p : Po // CanP p}
noncomputable def toL (p : Po) : Lp := ⟨norm p, canP_norm p⟩
theorem toL_ext {p q : Po} (h : ∀ c, co p c = co q c) : toL p = toL q := Subtype.ext (canP_ext (canP_norm p) (canP_norm q) fun c => (co_norm p c).trans ((h c).trans (co_norm q c).symm))
noncomputable instance : Add Lp := ⟨fun p q => toL (addP p.1 q.1)⟩
noncomputable instance : Mul Lp := ⟨fun p q => toL (mulP' p.1 q.1)⟩
noncomputable def zL : Lp := toL []
noncomputable def eL : Lp := toL [(0, 1)]
theorem Lp.ext2 {p q : Lp} (h : ∀ c, co p.1 c = co q.1 c) : p = q := Subtype.ext (canP_ext p.2 q.2 h)
theorem co_L (p : Po) (c : Int) : co (toL p).1 c = co p c := co_norm p c
theorem co_addL (p q : Lp) (c : Int) : co (p + q).1 c = co p.1 c + co q.1 c := (co_L _ c).trans (co_addP _ _ c)
theorem co_mulL (p q : Lp) (c : Int) : co (p * q).1 c = cv p.1 (co q.1) c := (co_L _ c).trans (co_mulP _ _ c)
theorem cv_L (p : Po) (f : Int → Int) (c : Int) : cv (toL p).1 f c = cv p f c := cv_norm f c p
theorem toL_mul (p q : Po) : toL (mulP' p q) = toL p * toL q := Lp.ext2 fun c => by
 rw [co_mulL, co_L, co_mulP, cv_L]
 have e : co (toL q).1 = co q := funext fun c => co_L q c
 rw [e]
theorem addL_comm (p q : Lp) : p + q = q + p := Lp.ext2 fun c => by rw [co_addL, co_addL]; lia
theorem addL_assoc (p q r : Lp) : p + q + r = p + (q + r) := Lp.ext2 fun c => by rw [co_addL, co_addL, co_addL, co_addL]; lia
theorem addL_z (p : Lp) : p + zL = p := Lp.ext2 fun c => by
 rw [co_addL]; show co p.1 c + co (norm []) c = co p.1 c
 rw [co_norm]; show _ + 0 = _; lia
theorem mulL_comm (p q : Lp) : p * q = q * p := Lp.ext2 fun c => by rw [co_mulL, co_mulL, ← co_mul, ← co_mul, co_raw_comm]
theorem mulL_assoc (p q r : Lp) : p * q * r = p * (q * r) := Lp.ext2 fun c => by
 rw [co_mulL, co_mulL]
 have e : co (q * r).1 = cv q.1 (co r.1) := funext fun c => co_mulL q r c
 rw [e, ← cv_raw]
 show cv (toL (mulP' p.1 q.1)).1 (co r.1) c = _
 rw [cv_L]; unfold mulP'; rw [cv_norm]
theorem mulL_e (p : Lp) : p * eL = p := Lp.ext2 fun c => by
 rw [co_mulL]
 have e : co eL.1 = co [(0, 1)] := funext fun c => co_L _ c
 rw [e, cv_one]
theorem mulL_z (p : Lp) : p * zL = zL := Lp.ext2 fun c => by
 rw [co_mulL]
 have e : co zL.1 = co [] := funext fun c => co_L _ c
 rw [e, cv_nil]; rfl
theorem distL (p q r : Lp) : p * (q + r) = p * q + p * r := Lp.ext2 fun c => by
 rw [co_mulL, co_addL, co_mulL, co_mulL, ← cv_add]
 have e : co (q + r).1 = fun c => co q.1 c + co r.1 c := funext fun c => co_addL q r c
 rw [e]
instance : Std.Associative (α := Lp) (· * ·) := ⟨mulL_assoc⟩
instance : Std.Commutative (α := Lp) (· * ·) := ⟨mulL_comm⟩
instance : Std.Associative (α := Lp) (· + ·) := ⟨addL_assoc⟩
instance : Std.Commutative (α := Lp) (· + ·) := ⟨addL_comm⟩
end L2
namespace L2
open PySem PySem.Spec PyProof.Rows LM
end L2
namespace L2
open PySem PySem.Spec PyProof.Rows LM
noncomputable def sgU (s : Int) : Lp := toL [(0, s)]
theorem co_one (s c : Int) : co [(0, s)] c = if 0 = c then s else 0 := by
 show (if (0 : Int) = c then s else 0) + 0 = _
 rw [Int.add_zero]
theorem sgU_mul (a b : Int) : sgU a * sgU b = sgU (a * b) := by
 unfold sgU
 rw [← toL_mul]
 refine toL_ext fun c => ?_
 rw [co_mulP, co_one]
 show a * co [(0, b)] (c - 0) + 0 = _
 rw [Int.sub_zero, co_one]
 by_cases h : (0 : Int) = c
 · rw [if_pos h, if_pos h, Int.add_zero]
 · rw [if_neg h, if_neg h, Int.mul_zero, Int.add_zero]
end L2
namespace L2
open PySem PySem.Spec PyProof.Rows LM
section
variable {P : Program} {w : World} {A : Around} {E : Value → Shared → Prop} {s : Shared}
end
section
variable {X : Cx}
end
end L2
namespace L2
open PySem PySem.Spec PyProof.Rows LM
theorem alR_iff {m : Int} : ∀ {k : Nat} {r : List Int}, r ∈ alR m k ↔ r.length = k ∧ InA m r := fun {k r} => by
 refine ⟨alR_mem, ?_⟩
 induction k generalizing r with
 | zero =>
   rintro ⟨h, _⟩
   rw [List.eq_nil_of_length_eq_zero h]
   exact .head _
 | succ k ih =>
   rintro ⟨h, hA⟩
   have hne : r ≠ [] := fun z => by rw [z] at h; cases h
   have e : r.dropLast ++ [r.getLast hne] = r := List.dropLast_concat_getLast hne
   rw [← e]
   refine List.mem_flatMap.mpr ⟨r.dropLast, ih ⟨by rw [List.length_dropLast]; lia, fun c hc => hA c (List.dropLast_subset _ hc)⟩, ?_⟩
   exact List.mem_map.mpr ⟨_, range0_iff.mpr (hA _ (List.getLast_mem hne)), rfl⟩
theorem range0_nd (m : Int) : (range0 m).Nodup := by
 unfold range0
 exact List.pairwise_map.mpr (List.nodup_range.imp fun h z => h (by lia))
theorem alR_nd (m : Int) : ∀ k, (alR m k).Nodup
 | 0 => List.pairwise_singleton _ _
 | k + 1 => by
   have key : ∀ R : List (List Int), R.Nodup → (R.flatMap (longT m)).Nodup := fun R => by
     induction R with
     | nil => intro _; exact .nil
     | cons r R ih =>
       intro h
       rw [List.flatMap_cons]
       obtain ⟨h1, h2⟩ := List.nodup_cons.mp h
       refine List.nodup_append.mpr ⟨?_, ih h2, fun a ha b hb z => ?_⟩
       · unfold longT
         exact List.pairwise_map.mpr ((range0_nd m).imp fun h z => h (by simpa using z))
       · obtain ⟨q, hq, hb⟩ := List.mem_flatMap.mp hb
         obtain ⟨c, _, rfl⟩ := List.mem_map.mp ha
         obtain ⟨d, _, e⟩ := List.mem_map.mp hb
         rw [← z] at e
         have := (List.append_inj' e rfl).1
         rw [this] at hq
         exact h1 hq
   exact key _ (alR_nd m k)
noncomputable def fixR (tab : List (List Int)) (ws : List Int) (n : Nat) : List (List Int) := (alR tab.length n).filter fun row => decide (dn tab ws row = row)
theorem fixR_iff {tab : List (List Int)} {ws : List Int} {n : Nat} {r : List Int} : r ∈ fixR tab ws n ↔ (r.length = n ∧ InA tab.length r) ∧ dn tab ws r = r := by
 unfold fixR
 rw [List.mem_filter, alR_iff, decide_eq_true_eq]
theorem fixR_nd (tab : List (List Int)) (ws : List Int) (n : Nat) : (fixR tab ws n).Nodup := (alR_nd _ _).filter _
theorem inj_len {α β : Type} {l : List α} {r : List β} (nd : l.Nodup) (f : α → β) (hf : ∀ x ∈ l, f x ∈ r) (hi : ∀ x ∈ l, ∀ y ∈ l, f x = f y → x = y) : l.length ≤ r.length := by
 have h : (l.map f).Nodup := by
   refine List.pairwise_map.mpr ?_
   refine List.Pairwise.imp_of_mem (fun hx hy h z => h (hi _ hx _ hy z)) nd
 rw [← List.length_map (f := f)]
 exact List.Nodup.length_le_of_subset h fun y hy => by
   obtain ⟨x, hx, rfl⟩ := List.mem_map.mp hy
   exact hf x hx
theorem pr_same {tab : List (List Int)} (h : TabQ tab) {a l : Int} (ha : InM tab.length a) : pr1 tab l a a = a ∧ pr2 tab l a a = a := by
 have e : iv tab a a = a := by
   have := h.iv_g ha ha
   rwa [h.idem a ha] at this
 unfold pr1 pr2
 split
 · exact ⟨rfl, h.idem a ha⟩
 · exact ⟨e, rfl⟩
end L2
namespace L2
open PySem PySem.Spec PyProof.Rows LM
noncomputable def PrimeI (p : Int) : Prop := 2 ≤ p ∧ ∀ q : Int, 2 ≤ q → q < p → p % q ≠ 0
theorem prime_cancel {p a b : Int} (hp : PrimeI p) (ha : a % p ≠ 0) (h : (a * b) % p = 0) : b % p = 0 := by
 obtain ⟨p2, hp⟩ := hp
 have h1 : p.natAbs ∣ a.natAbs * b.natAbs := by
   rw [← Int.natAbs_mul]
   exact Int.natAbs_dvd_natAbs.mpr (Int.dvd_of_emod_eq_zero h)
 have hg : Nat.gcd p.natAbs a.natAbs = 1 := by
   have d1 := Nat.gcd_dvd_left p.natAbs a.natAbs
   have d2 := Nat.gcd_dvd_right p.natAbs a.natAbs
   generalize Nat.gcd p.natAbs a.natAbs = g at d1 d2
   have hle := Nat.le_of_dvd (by lia) d1
   have hpos := Nat.pos_of_dvd_of_pos d1 (by lia)
   by_cases e : g = p.natAbs
   · rw [e] at d2
     exact absurd (Int.emod_eq_zero_of_dvd (Int.natAbs_dvd_natAbs.mp d2)) ha
   · by_cases e1 : g = 1
     · exact e1
     · refine absurd (Int.emod_eq_zero_of_dvd ?_) (hp g (by lia) (by lia))
       have : ((g : Nat) : Int).natAbs ∣ p.natAbs := by rw [Int.natAbs_natCast]; exact d1
       exact Int.natAbs_dvd_natAbs.mp this
 have h2 := Nat.Coprime.dvd_of_dvd_mul_left hg h1
 exact Int.emod_eq_zero_of_dvd (Int.natAbs_dvd_natAbs.mp h2)
theorem mod_sub {p a b : Int} (h : a % p = b % p) : (a - b) % p = 0 := by rw [Int.sub_emod, h, Int.sub_self, Int.zero_emod]
theorem sub_mod {p a b : Int} (h : (a - b) % p = 0) : a % p = b % p := Int.emod_eq_emod_iff_emod_sub_eq_zero.mpr h
theorem range0_eq {p a b : Int} (ha : InM p a) (hb : InM p b) (h : a % p = b % p) : a = b := by
 rwa [Int.emod_eq_of_lt ha.1 ha.2, Int.emod_eq_of_lt hb.1 hb.2] at h
theorem prime_surj {p a : Int} (hp : PrimeI p) (ha : a % p ≠ 0) (c : Int) : ∃ x, InM p x ∧ (a * x - c) % p = 0 := by
 have p0 : 0 < p := by have := hp.1; lia
 have nd : ((range0 p).map fun x => (a * x) % p).Nodup := by
   refine List.pairwise_map.mpr (List.Pairwise.imp_of_mem (fun hx hy h z => h ?_) (range0_nd p))
   refine range0_eq (range0_iff.mp hx) (range0_iff.mp hy) (sub_mod (prime_cancel hp ha ?_))
   rw [Int.mul_sub]
   exact mod_sub z
 have sub : ∀ y ∈ (range0 p).map (fun x => (a * x) % p), y ∈ range0 p := fun y hy => by
   obtain ⟨x, _, rfl⟩ := List.mem_map.mp hy
   exact range0_iff.mpr ⟨Int.emod_nonneg _ (by lia), Int.emod_lt_of_pos _ p0⟩
 have hperm := perm_of_sub _ _ nd sub (by rw [List.length_map]; exact Nat.le_refl _)
 have hc : c % p ∈ range0 p := range0_iff.mpr ⟨Int.emod_nonneg _ (by lia), Int.emod_lt_of_pos _ p0⟩
 obtain ⟨x, hx, e⟩ := List.mem_map.mp (hperm.mem_iff.mpr hc)
 exact ⟨x, range0_iff.mp hx, mod_sub e⟩
noncomputable def dotF (row : List Int) : Nat → List Int → Int
 | _, [] => 0
 | c, x :: xs => row.getD c 0 * x + dotF row (c + 1) xs
noncomputable def solS (p : Int) (c k : Nat) (rows : List (List Int)) : List (List Int) := (alR p k).filter fun xs => rows.all fun r => decide (dotF r c xs % p = 0)
theorem solS_iff {p : Int} {c k : Nat} {rows : List (List Int)} {xs : List Int} : xs ∈ solS p c k rows ↔ (xs.length = k ∧ InA p xs) ∧ ∀ r ∈ rows, dotF r c xs % p = 0 := by
 unfold solS
 rw [List.mem_filter, alR_iff, List.all_eq_true]
 simp only [decide_eq_true_eq]
theorem solS_nd (p : Int) (c k : Nat) (rows : List (List Int)) : (solS p c k rows).Nodup := (alR_nd _ _).filter _
noncomputable def clr (p : Int) (c : Nat) (row first : List Int) : List Int := List.zipWith (fun here there => (here * first.getD c 0 - there * row.getD c 0) % p) row first
theorem clr_get {p : Int} {c n : Nat} {row first : List Int} (h1 : row.length = n) (h2 : first.length = n) (j : Nat) : (clr p c row first).getD j 0 = (row.getD j 0 * first.getD c 0 - first.getD j 0 * row.getD c 0) % p := by
 unfold clr
 by_cases h : j < n
 · rw [List.getD_eq_getElem?_getD, List.getElem?_zipWith, List.getElem?_eq_getElem (by lia : j < row.length), List.getElem?_eq_getElem (by lia : j < first.length)]
   rw [List.getD_eq_getElem?_getD (l := row) (i := j), List.getD_eq_getElem?_getD (l := first) (i := j), List.getElem?_eq_getElem (by lia : j < row.length), List.getElem?_eq_getElem (by lia : j < first.length)]
   rfl
 · rw [List.getD_eq_getElem?_getD, List.getElem?_zipWith, List.getElem?_eq_none (by lia : row.length ≤ j)]
   rw [List.getD_eq_getElem?_getD (l := row) (i := j), List.getD_eq_getElem?_getD (l := first) (i := j), List.getElem?_eq_none (by lia : row.length ≤ j), List.getElem?_eq_none (by lia : first.length ≤ j)]
   simp
theorem clr_dot {p : Int} {c n : Nat} {row first : List Int} (h1 : row.length = n) (h2 : first.length = n) : ∀ (xs : List Int) (d : Nat), dotF (clr p c row first) d xs % p = (first.getD c 0 * dotF row d xs - row.getD c 0 * dotF first d xs) % p
 | [], d => by
   show (0 : Int) % p = (first.getD c 0 * 0 - row.getD c 0 * 0) % p
   rw [Int.mul_zero, Int.mul_zero]; rfl
 | x :: xs, d => by
   have ih := clr_dot (p := p) (c := c) h1 h2 xs (d + 1)
   show ((clr p c row first).getD d 0 * x + dotF (clr p c row first) (d + 1) xs) % p = (first.getD c 0 * (row.getD d 0 * x + dotF row (d + 1) xs) - row.getD c 0 * (first.getD d 0 * x + dotF first (d + 1) xs)) % p
   rw [Int.add_emod, ih, clr_get h1 h2, ← Int.add_emod, Int.add_emod, Int.mul_emod, Int.emod_emod, ← Int.mul_emod, ← Int.add_emod]
   congr 1
   grind
theorem same_len {α : Type} {l r : List α} (hl : l.Nodup) (hr : r.Nodup) (h : ∀ x, x ∈ l ↔ x ∈ r) : l.length = r.length := Nat.le_antisymm (List.Nodup.length_le_of_subset hl fun x hx => (h x).mp hx) (List.Nodup.length_le_of_subset hr fun x hx => (h x).mpr hx)
theorem pref_len {S : List (List Int)} : ∀ R : List Int, (R.flatMap fun x => S.map (x :: ·)).length = R.length * S.length
 | [] => by rw [List.length_nil, Nat.zero_mul]; rfl
 | x :: R => by rw [List.flatMap_cons, List.length_append, List.length_map, pref_len R, List.length_cons, Nat.succ_mul, Nat.add_comm]
theorem pref_nd {S : List (List Int)} (hS : S.Nodup) : ∀ {R : List Int}, R.Nodup → (R.flatMap fun x => S.map (x :: ·)).Nodup
 | [], _ => .nil
 | x :: R, h => by
   obtain ⟨h1, h2⟩ := List.nodup_cons.mp h
   rw [List.flatMap_cons]
   refine List.nodup_append.mpr ⟨List.pairwise_map.mpr (hS.imp fun h z => h (by injection z)), pref_nd hS h2, fun a ha b hb z => ?_⟩
   obtain ⟨u, _, rfl⟩ := List.mem_map.mp ha
   obtain ⟨y, hy, hb⟩ := List.mem_flatMap.mp hb
   obtain ⟨v, _, e⟩ := List.mem_map.mp hb
   rw [← z] at e
   injection e with e1 _
   rw [e1] at hy
   exact h1 hy
theorem sol_cons {p : Int} {c k : Nat} {rows : List (List Int)} {x : Int} {xs : List Int} : x :: xs ∈ solS p c (k + 1) rows ↔ InM p x ∧ (xs.length = k ∧ InA p xs) ∧ ∀ r ∈ rows, (r.getD c 0 * x + dotF r (c + 1) xs) % p = 0 := by
 rw [solS_iff]
 constructor
 · rintro ⟨⟨h1, h2⟩, h3⟩
   exact ⟨h2 x (.head _), ⟨by rw [List.length_cons] at h1; lia, fun y hy => h2 y (.tail _ hy)⟩, h3⟩
 · rintro ⟨h1, ⟨h2, h3⟩, h4⟩
   refine ⟨⟨by rw [List.length_cons, h2], fun y hy => ?_⟩, h4⟩
   rcases List.mem_cons.mp hy with z | z
   · rw [z]; exact h1
   · exact h3 y z
theorem sol_ne {p : Int} {c k : Nat} {rows : List (List Int)} {xs : List Int} (h : xs ∈ solS p c (k + 1) rows) : ∃ x ys, xs = x :: ys := by
 cases xs with
 | nil => have := (solS_iff.mp h).1.1; simp at this
 | cons x ys => exact ⟨x, ys, rfl⟩
theorem sol_free {p : Int} {c k : Nat} {rows : List (List Int)} (h : ∀ r ∈ rows, r.getD c 0 % p = 0) : (solS p c (k + 1) rows).length = p.toNat * (solS p (c + 1) k rows).length := by
 have e := pref_len (S := solS p (c + 1) k rows) (range0 p)
 rw [range0_length] at e
 rw [← e]
 refine same_len (solS_nd _ _ _ _) (pref_nd (solS_nd _ _ _ _) (range0_nd p)) fun xs => ?_
 have hm : ∀ r ∈ rows, ∀ x d : Int, (r.getD c 0 * x + d) % p = d % p := fun r hr x d => by
   rw [Int.add_emod, Int.mul_emod, h r hr, Int.zero_mul, Int.zero_emod, Int.zero_add, Int.emod_emod]
 constructor
 · intro hx
   obtain ⟨x, ys, rfl⟩ := sol_ne hx
   obtain ⟨h1, h2, h3⟩ := sol_cons.mp hx
   exact List.mem_flatMap.mpr ⟨x, range0_iff.mpr h1, List.mem_map.mpr ⟨ys, solS_iff.mpr ⟨h2, fun r hr => by rw [← hm r hr x]; exact h3 r hr⟩, rfl⟩⟩
 · intro hx
   obtain ⟨x, h1, hx⟩ := List.mem_flatMap.mp hx
   obtain ⟨ys, h2, rfl⟩ := List.mem_map.mp hx
   obtain ⟨h3, h4⟩ := solS_iff.mp h2
   exact sol_cons.mpr ⟨range0_iff.mp h1, h3, fun r hr => by rw [hm r hr x]; exact h4 r hr⟩
theorem sol_piv {p : Int} (hp : PrimeI p) {c k n : Nat} {rows : List (List Int)} {f : List Int} (hf : f ∈ rows) (hn : ∀ r ∈ rows, r.length = n) (h : f.getD c 0 % p ≠ 0) : (solS p c (k + 1) rows).length = (solS p (c + 1) k (rows.map fun r => clr p c r f)).length := by
 have e1 : ∀ r ∈ rows, ∀ xs, dotF (clr p c r f) (c + 1) xs % p = (f.getD c 0 * dotF r (c + 1) xs - r.getD c 0 * dotF f (c + 1) xs) % p := fun r hr xs => clr_dot (hn r hr) (hn f hf) xs (c + 1)
 refine Nat.le_antisymm ?_ ?_
 · refine inj_len (solS_nd _ _ _ _) List.tail (fun xs hx => ?_) fun xs hx ys hy e => ?_
   · obtain ⟨x, ys, rfl⟩ := sol_ne hx
     obtain ⟨h1, h2, h3⟩ := sol_cons.mp hx
     refine solS_iff.mpr ⟨h2, fun q hq => ?_⟩
     obtain ⟨r, hr, rfl⟩ := List.mem_map.mp hq
     show dotF (clr p c r f) (c + 1) ys % p = 0
     rw [e1 r hr ys]
     have a1 := h3 r hr
     have a2 := h3 f hf
     have e2 : f.getD c 0 * dotF r (c + 1) ys - r.getD c 0 * dotF f (c + 1) ys = f.getD c 0 * (r.getD c 0 * x + dotF r (c + 1) ys) - r.getD c 0 * (f.getD c 0 * x + dotF f (c + 1) ys) := by grind
     rw [e2, Int.sub_emod, Int.mul_emod, a1, Int.mul_emod (r.getD c 0), a2]
     simp
   · obtain ⟨x, us, rfl⟩ := sol_ne hx
     obtain ⟨y, vs, rfl⟩ := sol_ne hy
     obtain ⟨h1, h2, h3⟩ := sol_cons.mp hx
     obtain ⟨g1, g2, g3⟩ := sol_cons.mp hy
     have e : us = vs := e
     subst e
     have a := mod_sub ((h3 f hf).trans (g3 f hf).symm)
     have e2 : f.getD c 0 * x + dotF f (c + 1) us - (f.getD c 0 * y + dotF f (c + 1) us) = f.getD c 0 * (x - y) := by grind
     rw [e2] at a
     rw [range0_eq h1 g1 (sub_mod (prime_cancel hp h a))]
 · have key : ∀ ys ∈ solS p (c + 1) k (rows.map fun r => clr p c r f), ∃ x, x :: ys ∈ solS p c (k + 1) rows := fun ys hy => by
     obtain ⟨h2, h3⟩ := solS_iff.mp hy
     obtain ⟨x, hx, e⟩ := prime_surj hp h (-dotF f (c + 1) ys)
     refine ⟨x, sol_cons.mpr ⟨hx, h2, fun r hr => ?_⟩⟩
     have a := h3 _ (List.mem_map.mpr ⟨r, hr, rfl⟩)
     rw [e1 r hr ys] at a
     refine prime_cancel hp h (a := f.getD c 0) ?_
     have e2 : f.getD c 0 * (r.getD c 0 * x + dotF r (c + 1) ys) = (f.getD c 0 * dotF r (c + 1) ys - r.getD c 0 * dotF f (c + 1) ys) + r.getD c 0 * (f.getD c 0 * x - -dotF f (c + 1) ys) := by grind
     rw [e2, Int.add_emod, a, Int.mul_emod, e]
     simp
   have cho : ∀ ys : List Int, ∃ x : Int, ys ∈ solS p (c + 1) k (rows.map fun r => clr p c r f) → x :: ys ∈ solS p c (k + 1) rows := fun ys => by
     by_cases hy : ys ∈ solS p (c + 1) k (rows.map fun r => clr p c r f)
     · obtain ⟨x, hx⟩ := key ys hy
       exact ⟨x, fun _ => hx⟩
     · exact ⟨0, fun z => absurd z hy⟩
   exact inj_len (solS_nd _ _ _ _) (fun ys => (cho ys).choose :: ys) (fun ys hy => (cho ys).choose_spec hy) fun x hx y hy e => by injection e
noncomputable def rkL (p : Int) : Nat → Nat → List (List Int) → Nat
 | 0, _, _ => 0
 | k + 1, c, rows => match rows.filter (fun r => decide (r.getD c 0 % p ≠ 0)) with
   | [] => rkL p k (c + 1) rows
   | f :: _ => rkL p k (c + 1) (rows.map fun r => clr p c r f) + 1
theorem rank_count {p : Int} (hp : PrimeI p) {n : Nat} : ∀ (k c : Nat) (rows : List (List Int)), (∀ r ∈ rows, r.length = n) → rkL p k c rows ≤ k ∧ (solS p c k rows).length * p.toNat ^ rkL p k c rows = p.toNat ^ k
 | 0, c, rows, _ => by
   refine ⟨Nat.le_refl _, ?_⟩
   have : solS p c 0 rows = [[]] := by
     unfold solS alR
     rw [List.filter_cons, if_pos (by
       rw [List.all_eq_true]
       intro r _
       exact decide_eq_true (by show (0 : Int) % p = 0; exact Int.zero_emod p))]
     rfl
   rw [this]; rfl
 | k + 1, c, rows, hn => by
   unfold rkL
   split
   · rename_i e
     have hz : ∀ r ∈ rows, r.getD c 0 % p = 0 := fun r hr => by
       have := List.filter_eq_nil_iff.mp e r hr
       simpa using this
     obtain ⟨h1, h2⟩ := rank_count hp k (c + 1) rows hn
     refine ⟨by lia, ?_⟩
     rw [sol_free hz, Nat.mul_assoc, h2, Nat.pow_succ, Nat.mul_comm]
   · rename_i f t e
     have hf : f ∈ rows.filter fun r => decide (r.getD c 0 % p ≠ 0) := by rw [e]; exact .head _
     obtain ⟨f1, f2⟩ := List.mem_filter.mp hf
     have hn2 : ∀ r ∈ rows.map (fun r => clr p c r f), r.length = n := fun r hr => by
       obtain ⟨q, hq, rfl⟩ := List.mem_map.mp hr
       unfold clr
       rw [List.length_zipWith, hn q hq, hn f f1, Nat.min_self]
     obtain ⟨h1, h2⟩ := rank_count hp k (c + 1) _ hn2
     refine ⟨by lia, ?_⟩
     rw [sol_piv hp f1 hn (by simpa using f2), Nat.pow_succ, ← Nat.mul_assoc, h2, Nat.pow_succ]
end L2
namespace L2
open PySem PySem.Spec PyProof.Rows LM
noncomputable def linT (p : Int) : List (List Int) := (range0 p).map fun a => (range0 p).map fun b => (2 * b - a) % p
theorem linT_len {p : Int} : (linT p).length = p.toNat := by unfold linT; rw [List.length_map, range0_length]
theorem range0_get {p a : Int} (h : InM p a) : (range0 p)[a.toNat]? = some a := by
 unfold range0
 rw [List.getElem?_map, List.getElem?_range (by obtain ⟨h1, h2⟩ := h; lia)]
 show some ((a.toNat : Nat) : Int) = some a
 rw [show ((a.toNat : Nat) : Int) = a by obtain ⟨h1, h2⟩ := h; lia]
theorem linT_g {p a b : Int} (ha : InM p a) (hb : InM p b) : g2 (linT p) a b = (2 * b - a) % p := by
 have e : (linT p).getD a.toNat [] = (range0 p).map fun b => (2 * b - a) % p := by
   unfold linT
   rw [List.getD_eq_getElem?_getD, List.getElem?_map, range0_get ha]; rfl
 unfold g2
 rw [e]
 unfold gI
 rw [List.getD_eq_getElem?_getD, List.getElem?_map, range0_get hb]; rfl
theorem linT_m {p : Int} (hp : 1 ≤ p) : ((linT p).length : Int) = p := by rw [linT_len]; lia
theorem mod_in {p x : Int} (hp : 1 ≤ p) : InM p (x % p) := ⟨Int.emod_nonneg _ (by lia), Int.emod_lt_of_pos _ (by lia)⟩
theorem linT_ok {p : Int} (hp : 1 ≤ p) : TabQ (linT p) := by
 have hm := linT_m hp
 refine ⟨by rw [linT_len]; lia, fun r hr => ?_, fun c hc => ?_, fun c hc => ?_, fun a b c ha hb hc => ?_⟩
 · obtain ⟨a, _, rfl⟩ := List.mem_map.mp hr
   rw [List.length_map, range0_length, linT_len]
 · rw [hm] at hc
   rw [linT_g hc hc, show 2 * c - c = c by lia]
   exact Int.emod_eq_of_lt hc.1 hc.2
 · rw [hm] at hc ⊢
   have e : (linT p).map (fun r => gI r c) = (range0 p).map fun a => (2 * c - a) % p := by
     unfold linT
     rw [List.map_map]
     refine List.map_congr_left fun a _ => ?_
     show gI ((range0 p).map fun b => (2 * b - a) % p) c = _
     unfold gI
     rw [List.getD_eq_getElem?_getD, List.getElem?_map, range0_get hc]; rfl
   rw [e]
   refine perm_of_sub _ _ ?_ (fun y hy => ?_) (by rw [List.length_map]; exact Nat.le_refl _)
   · refine List.pairwise_map.mpr (List.Pairwise.imp_of_mem (fun hx hy h z => h ?_) (range0_nd p))
     refine range0_eq (range0_iff.mp hx) (range0_iff.mp hy) ?_
     have a := mod_sub z
     have a2 := Int.emod_eq_zero_of_dvd (Int.dvd_neg.mpr (Int.dvd_of_emod_eq_zero a))
     exact sub_mod (by rwa [show ∀ u v : Int, -(2 * c - u - (2 * c - v)) = u - v from fun u v => by lia] at a2)
   · obtain ⟨a, _, rfl⟩ := List.mem_map.mp hy
     exact range0_iff.mpr (mod_in hp)
 · rw [hm] at ha hb hc
   have key : ∀ x y : Int, (2 * (x % p) - y % p) % p = (2 * x - y) % p := fun x y => by
     rw [Int.sub_emod, Int.mul_emod, Int.emod_emod, Int.emod_emod, ← Int.mul_emod, ← Int.sub_emod]
   have key2 : ∀ x y : Int, (2 * x - y % p) % p = (2 * x - y) % p := fun x y => by
     rw [Int.sub_emod, Int.emod_emod, ← Int.sub_emod]
   rw [linT_g ha hb, linT_g ha hc, linT_g hb hc, linT_g (mod_in hp) hc, linT_g (mod_in hp) (mod_in hp), key, key2]
   congr 1
   lia
noncomputable def tw2 (a b : List Int) : List Int := List.zipWith (fun x y => 2 * x - y) a b
theorem tw2_get {a b : List Int} (h : a.length = b.length) (j : Nat) : (tw2 a b).getD j 0 = 2 * a.getD j 0 - b.getD j 0 := by
 unfold tw2
 rw [List.getD_eq_getElem?_getD, List.getElem?_zipWith, List.getD_eq_getElem?_getD, List.getD_eq_getElem?_getD]
 by_cases c : j < a.length
 · rw [List.getElem?_eq_getElem c, List.getElem?_eq_getElem (by lia : j < b.length)]; rfl
 · rw [List.getElem?_eq_none (by lia : a.length ≤ j), List.getElem?_eq_none (by lia : b.length ≤ j)]; simp
theorem dot_tw2 {a b : List Int} (h : a.length = b.length) : ∀ (xs : List Int) (c : Nat), dotF (tw2 a b) c xs = 2 * dotF a c xs - dotF b c xs
 | [], c => rfl
 | x :: xs, c => by
   show (tw2 a b).getD c 0 * x + dotF (tw2 a b) (c + 1) xs = 2 * (a.getD c 0 * x + dotF a (c + 1) xs) - (b.getD c 0 * x + dotF b (c + 1) xs)
   rw [dot_tw2 h xs (c + 1), tw2_get h]
   grind
noncomputable def sh1 (rows : List (List Int)) (l : Int) : List (List Int) :=
 let a := rows.getD (l.natAbs - 1) []
 let b := rows.getD l.natAbs []
 if l > 0 then (rows.set (l.natAbs - 1) b).set l.natAbs (tw2 b a) else (rows.set (l.natAbs - 1) (tw2 a b)).set l.natAbs a
noncomputable def shL (rows : List (List Int)) (ws : List Int) : List (List Int) := ws.foldl sh1 rows
noncomputable def unR (n : Nat) : List (List Int) := (List.range n).map fun i => (List.range n).map fun j => if i = j then (1 : Int) else 0
noncomputable def Tell (p : Int) (n : Nat) (x : List Int) (rows : List (List Int)) (cs : List Int) : Prop := rows.length = n ∧ cs.length = n ∧ InA p cs ∧ ∀ i, i < n → (rows.getD i []).length = n ∧ dotF (rows.getD i []) 0 x % p = cs.getD i 0
theorem getD_set2 {α : Type} {xs : List α} {k j : Nat} {u v z : α} (hk : k + 1 < xs.length) : ((xs.set k u).set (k + 1) v).getD j z = if j = k + 1 then v else if j = k then u else xs.getD j z := by
 rw [List.getD_eq_getElem?_getD, List.getD_eq_getElem?_getD]
 by_cases c : j = k + 1
 · subst c
   rw [if_pos rfl, List.getElem?_set_self (by rw [List.length_set]; exact hk)]; rfl
 · rw [if_neg c, List.getElem?_set_ne (fun z => c z.symm)]
   by_cases c2 : j = k
   · subst c2
     rw [if_pos rfl, List.getElem?_set_self (by lia)]; rfl
   · rw [if_neg c2, List.getElem?_set_ne (fun z => c2 z.symm)]
theorem iv_lin {p a b : Int} (hp : 1 ≤ p) (ha : InM p a) (hb : InM p b) : iv (linT p) b a = (2 * a - b) % p := by
 have h := linT_ok hp
 have hm := linT_m hp
 have e : g2 (linT p) ((2 * a - b) % p) a = b := by
   rw [linT_g (mod_in hp) ha, Int.sub_emod, Int.emod_emod, ← Int.sub_emod, show 2 * a - (2 * a - b) = b by lia]
   exact Int.emod_eq_of_lt hb.1 hb.2
 have := h.iv_g (a := (2 * a - b) % p) (c := a) (by rw [hm]; exact mod_in hp) (by rw [hm]; exact ha)
 rwa [e] at this
theorem tell_step {p : Int} (hp : 1 ≤ p) {n : Nat} {x : List Int} {rows : List (List Int)} {cs : List Int} {l : Int} (h : Tell p n x rows cs) (hl : LetOK n l) : Tell p n x (sh1 rows l) (dn1 (linT p) cs l) := by
 obtain ⟨h1, h2, h3, h4⟩ := h
 obtain ⟨k, hk⟩ : ∃ k : Nat, l.natAbs = k + 1 := ⟨l.natAbs - 1, by obtain ⟨a, b⟩ := hl; lia⟩
 have hkn : k + 1 < n := by obtain ⟨a, b⟩ := hl; lia
 have hm := linT_m hp
 obtain ⟨a1, a2⟩ := h4 k (by lia)
 obtain ⟨b1, b2⟩ := h4 (k + 1) hkn
 have ma : InM p (cs.getD k 0) := h3 _ (by rw [List.getD_eq_getElem?_getD, List.getElem?_eq_getElem (by lia : k < cs.length)]; exact List.getElem_mem _)
 have mb : InM p (cs.getD (k + 1) 0) := h3 _ (by rw [List.getD_eq_getElem?_getD, List.getElem?_eq_getElem (by lia : k + 1 < cs.length)]; exact List.getElem_mem _)
 have hin : InA p (dn1 (linT p) cs l) := by
   have := dn1_in (linT_ok hp) (cs := cs) (l := l) (by rw [h2]; exact hl) (by rw [hm]; exact h3)
   rwa [hm] at this
 have hc : ∀ u v : List Int, (2 * dotF u 0 x - dotF v 0 x) % p = (2 * (dotF u 0 x % p) - dotF v 0 x % p) % p := fun u v => by
   rw [Int.sub_emod, Int.mul_emod, Int.sub_emod (2 * (dotF u 0 x % p)), Int.mul_emod 2 (dotF u 0 x % p), Int.emod_emod, Int.emod_emod]
 refine ⟨?_, by rw [dn1_length]; exact h2, hin, fun i hi => ?_⟩
 · unfold sh1
   dsimp only
   split
   · rw [List.length_set, List.length_set]; exact h1
   · rw [List.length_set, List.length_set]; exact h1
 · have ed : (dn1 (linT p) cs l).getD i 0 = if i = k + 1 then pr2 (linT p) l (cs.getD k 0) (cs.getD (k + 1) 0) else if i = k then pr1 (linT p) l (cs.getD k 0) (cs.getD (k + 1) 0) else cs.getD i 0 := by
     unfold dn1
     rw [hk, Nat.add_sub_cancel, getD_set2 (by lia)]
   rw [ed]
   unfold sh1 pr1 pr2
   dsimp only
   rw [hk, Nat.add_sub_cancel]
   by_cases c : l > 0
   · rw [if_pos c, if_pos c, if_pos c, getD_set2 (by lia)]
     by_cases c1 : i = k + 1
     · rw [if_pos c1, if_pos c1]
       refine ⟨by unfold tw2; rw [List.length_zipWith, a1, b1, Nat.min_self], ?_⟩
       rw [dot_tw2 (b1.trans a1.symm), hc, a2, b2, linT_g ma mb]
     · rw [if_neg c1, if_neg c1]
       by_cases c2 : i = k
       · rw [if_pos c2, if_pos c2]; exact ⟨b1, b2⟩
       · rw [if_neg c2, if_neg c2]; exact h4 i hi
   · rw [if_neg c, if_neg c, if_neg c, getD_set2 (by lia)]
     by_cases c1 : i = k + 1
     · rw [if_pos c1, if_pos c1]; exact ⟨a1, a2⟩
     · rw [if_neg c1, if_neg c1]
       by_cases c2 : i = k
       · rw [if_pos c2, if_pos c2]
         refine ⟨by unfold tw2; rw [List.length_zipWith, a1, b1, Nat.min_self], ?_⟩
         rw [dot_tw2 (a1.trans b1.symm), hc, a2, b2, iv_lin hp ma mb]
       · rw [if_neg c2, if_neg c2]; exact h4 i hi
theorem tell_word {p : Int} (hp : 1 ≤ p) {n : Nat} {x : List Int} : ∀ {ws : List Int} {rows : List (List Int)} {cs : List Int}, Tell p n x rows cs → WordOK n ws → Tell p n x (shL rows ws) (dn (linT p) ws cs)
 | [], _, _, h, _ => h
 | l :: w, rows, cs, h, hw => tell_word (ws := w) hp (tell_step hp h (hw l (.head _))) fun y hy => hw y (.tail _ hy)
theorem dot_unit (i : Nat) : ∀ (xs : List Int) (r : List Int) (c : Nat), (∀ j, r.getD (c + j) 0 = if j < xs.length ∧ i = c + j then 1 else 0) → dotF r c xs = if c ≤ i then xs.getD (i - c) 0 else 0
 | [], r, c, _ => by
   show (0 : Int) = _
   split <;> rfl
 | x :: xs, r, c, h => by
   have h0 := h 0
   rw [Nat.add_zero] at h0
   have ih := dot_unit i xs r (c + 1) (fun j => by
     have := h (j + 1)
     rw [show c + (j + 1) = c + 1 + j by lia] at this
     rw [this]
     by_cases e : j < xs.length ∧ i = c + 1 + j
     · rw [if_pos e, if_pos ⟨by rw [List.length_cons]; lia, e.2⟩]
     · rw [if_neg e, if_neg (fun z => e ⟨by have := z.1; rw [List.length_cons] at this; lia, z.2⟩)])
   show r.getD c 0 * x + dotF r (c + 1) xs = _
   rw [ih, h0]
   by_cases e : i = c
   · subst e
     rw [if_pos ⟨by rw [List.length_cons]; lia, rfl⟩, if_neg (by lia), if_pos (Nat.le_refl _), Nat.sub_self, Int.one_mul, Int.add_zero]; rfl
   · rw [if_neg (fun z => e z.2), Int.zero_mul, Int.zero_add]
     by_cases e2 : c ≤ i
     · rw [if_pos (by lia), if_pos e2, show i - c = i - (c + 1) + 1 by lia]; rfl
     · rw [if_neg (by lia), if_neg e2]
theorem dot_set (i : Nat) : ∀ (xs : List Int) (r : List Int) (c : Nat), i < r.length → dotF (r.set i (r.getD i 0 - 1)) c xs = dotF r c xs - if c ≤ i then xs.getD (i - c) 0 else 0
 | [], r, c, _ => by
   show (0 : Int) = 0 - _
   split <;> rfl
 | x :: xs, r, c, h => by
   have ih := dot_set i xs r (c + 1) h
   have eg : (r.set i (r.getD i 0 - 1)).getD c 0 = if c = i then r.getD i 0 - 1 else r.getD c 0 := by
     rw [List.getD_eq_getElem?_getD]
     by_cases e : c = i
     · subst e
       rw [if_pos rfl, List.getElem?_set_self h]; rfl
     · rw [if_neg e, List.getElem?_set_ne (fun z => e z.symm), ← List.getD_eq_getElem?_getD]
   show (r.set i (r.getD i 0 - 1)).getD c 0 * x + dotF (r.set i (r.getD i 0 - 1)) (c + 1) xs = r.getD c 0 * x + dotF r (c + 1) xs - _
   rw [ih, eg]
   by_cases e : c = i
   · subst e
     rw [if_pos rfl, if_neg (by lia), if_pos (Nat.le_refl _), Nat.sub_self]
     show (r.getD c 0 - 1) * x + (dotF r (c + 1) xs - 0) = r.getD c 0 * x + dotF r (c + 1) xs - x
     rw [Int.sub_mul]; lia
   · rw [if_neg e]
     by_cases e2 : c ≤ i
     · rw [if_pos (by lia), if_pos e2, show i - c = i - (c + 1) + 1 by lia]
       show r.getD c 0 * x + (dotF r (c + 1) xs - xs.getD (i - (c + 1)) 0) = r.getD c 0 * x + dotF r (c + 1) xs - xs.getD (i - (c + 1)) 0
       lia
     · rw [if_neg (by lia), if_neg e2]; lia
noncomputable def minU (n : Nat) (rows : List (List Int)) : List (List Int) := (List.range n).map fun i => (rows.getD i []).set i ((rows.getD i []).getD i 0 - 1)
theorem tell_start {p : Int} {n : Nat} {x : List Int} (h : x.length = n) (hA : InA p x) : Tell p n x (unR n) x := by
 refine ⟨by unfold unR; rw [List.length_map, List.length_range], h, hA, fun i hi => ?_⟩
 have e : (unR n).getD i [] = (List.range n).map fun j => if i = j then (1 : Int) else 0 := by
   unfold unR
   rw [List.getD_eq_getElem?_getD, List.getElem?_map, List.getElem?_range hi]; rfl
 rw [e]
 refine ⟨by rw [List.length_map, List.length_range], ?_⟩
 rw [dot_unit i x _ 0 fun j => by
   rw [Nat.zero_add, List.getD_eq_getElem?_getD, List.getElem?_map, h]
   by_cases c : j < n
   · rw [List.getElem?_range c]
     show (if i = j then (1 : Int) else 0) = _
     by_cases c2 : i = j
     · rw [if_pos c2, if_pos ⟨c, c2⟩]
     · rw [if_neg c2, if_neg (fun z => c2 z.2)]
   · rw [List.getElem?_eq_none (by rw [List.length_range]; lia), if_neg (fun z => c z.1)]; rfl]
 rw [if_pos (Nat.zero_le _), Nat.sub_zero]
 have hm : x.getD i 0 ∈ x := by rw [List.getD_eq_getElem?_getD, List.getElem?_eq_getElem (by lia : i < x.length)]; exact List.getElem_mem _
 obtain ⟨a, b⟩ := hA _ hm
 exact Int.emod_eq_of_lt a b
theorem sol_fix {p : Int} (hp : 1 ≤ p) {n : Nat} {ws : List Int} (hw : WordOK n ws) : (solS p 0 n (minU n (shL (unR n) ws))).length = (fixR (linT p) ws n).length := by
 refine same_len (solS_nd _ _ _ _) (fixR_nd _ _ _) fun x => ?_
 rw [solS_iff, fixR_iff, linT_m hp]
 refine and_congr_right fun hx => ?_
 obtain ⟨h1, h2, h3, h4⟩ := tell_word hp (tell_start hx.1 hx.2) hw
 have key : ∀ i, i < n → dotF (((shL (unR n) ws).getD i []).set i (((shL (unR n) ws).getD i []).getD i 0 - 1)) 0 x % p = ((dn (linT p) ws x).getD i 0 - x.getD i 0) % p := fun i hi => by
   obtain ⟨a, b⟩ := h4 i hi
   rw [dot_set i x _ 0 (by lia), if_pos (Nat.zero_le _), Nat.sub_zero, ← b]
   generalize dotF ((shL (unR n) ws).getD i []) 0 x = D
   generalize x.getD i 0 = y
   rw [Int.sub_emod (D % p) y, Int.emod_emod, ← Int.sub_emod]
 have inx : ∀ {y : List Int}, y.length = n → InA p y → ∀ i, i < n → InM p (y.getD i 0) := fun {y} hl hA i hi => hA _ (by rw [List.getD_eq_getElem?_getD, List.getElem?_eq_getElem (by lia : i < y.length)]; exact List.getElem_mem _)
 constructor
 · intro h
   refine List.ext_getElem (h2.trans hx.1.symm) fun i i1 i2 => ?_
   have hi : i < n := by lia
   have a := h _ (List.mem_map.mpr ⟨i, List.mem_range.mpr hi, rfl⟩)
   rw [key i hi] at a
   have e := range0_eq (inx h2 h3 i hi) (inx hx.1 hx.2 i hi) (sub_mod a)
   rw [List.getD_eq_getElem?_getD, List.getD_eq_getElem?_getD, List.getElem?_eq_getElem i1, List.getElem?_eq_getElem i2] at e
   exact e
 · intro h r hr
   obtain ⟨i, hi, rfl⟩ := List.mem_map.mp hr
   rw [key i (List.mem_range.mp hi), h, Int.sub_self, Int.zero_emod]
noncomputable def freeI (p : Int) (n : Nat) (ws : List Int) : Nat := n - rkL p n 0 (minU n (shL (unR n) ws))
theorem minU_len {n : Nat} {rows : List (List Int)} (h : ∀ i, i < n → (rows.getD i []).length = n) : ∀ r ∈ minU n rows, r.length = n := fun r hr => by
 obtain ⟨i, hi, rfl⟩ := List.mem_map.mp hr
 rw [List.length_set]
 exact h i (List.mem_range.mp hi)
theorem free_count {p : Int} (hp : PrimeI p) {n : Nat} {ws : List Int} (hw : WordOK n ws) : (fixR (linT p) ws n).length = p.toNat ^ freeI p n ws := by
 have p1 : 1 ≤ p := by have := hp.1; lia
 have ht := tell_word p1 (tell_start (p := p) (n := n) (x := List.replicate n 0) (List.length_replicate ..) (fun c hc => by rw [List.eq_of_mem_replicate hc]; exact ⟨Int.le_refl _, by lia⟩)) hw
 obtain ⟨h1, h2⟩ := rank_count hp (n := n) n 0 (minU n (shL (unR n) ws)) (minU_len fun i hi => (ht.2.2.2 i hi).1)
 rw [sol_fix p1 hw] at h2
 unfold freeI
 generalize rkL p n 0 (minU n (shL (unR n) ws)) = k at h1 h2
 have e : p.toNat ^ n = p.toNat ^ (n - k) * p.toNat ^ k := by rw [← Nat.pow_add, show n - k + k = n by lia]
 rw [e] at h2
 exact Nat.eq_of_mul_eq_mul_right (Nat.pow_pos (by lia)) h2
end L2
namespace L2
open PySem PySem.Spec PyProof.Rows LM
noncomputable def RowsV (M : MH) (as : List Addr) (ls : List (List Int)) : Prop := as.length = ls.length ∧ ∀ (i : Nat) (a : Addr) (l : List Int), as[i]? = some a → ls[i]? = some l → M a = some (.lst (l.map .int))
theorem RowsV.sub {M M' : MH} {as : List Addr} {ls : List (List Int)} (h : RowsV M as ls) (s : Sub M M') : RowsV M' as ls := ⟨h.1, fun i a l h1 h2 => s _ _ (h.2 i a l h1 h2)⟩
theorem RowsV.nil {M : MH} : RowsV M [] [] := ⟨rfl, fun i a l z => by simp at z⟩
theorem RowsV.snoc {M : MH} {as : List Addr} {ls : List (List Int)} {a : Addr} {l : List Int} (h : RowsV M as ls) (ha : M a = some (.lst (l.map .int))) : RowsV M (as ++ [a]) (ls ++ [l]) := by
 refine ⟨by rw [List.length_append, List.length_append, h.1]; rfl, fun i b k h1 h2 => ?_⟩
 by_cases z : i < as.length
 · rw [List.getElem?_append_left z] at h1
   rw [List.getElem?_append_left (by rw [← h.1]; exact z)] at h2
   exact h.2 i b k h1 h2
 · rw [List.getElem?_append_right (by lia)] at h1
   rw [List.getElem?_append_right (by rw [← h.1]; lia), ← h.1] at h2
   obtain ⟨l1, e1⟩ := List.getElem?_eq_some_iff.mp h1
   have e : i - as.length = 0 := by rw [List.length_singleton] at l1; lia
   rw [e] at h1 h2
   obtain rfl := Option.some.inj h1
   obtain rfl := Option.some.inj h2
   exact ha
theorem RowsV.get {M : MH} {as : List Addr} {ls : List (List Int)} {i : Nat} {a : Addr} (h : RowsV M as ls) (ha : as[i]? = some a) : ∃ l, ls[i]? = some l ∧ M a = some (.lst (l.map .int)) := by
 have hi : i < ls.length := by rw [← h.1]; exact (List.getElem?_eq_some_iff.mp ha).1
 exact ⟨ls[i], List.getElem?_eq_getElem hi, h.2 i a _ ha (List.getElem?_eq_getElem hi)⟩
theorem RowsV.set {M : MH} {as : List Addr} {ls : List (List Int)} {k : Nat} {x : Addr} {l : List Int} (h : RowsV M as ls) (hx : M x = some (.lst (l.map .int))) : RowsV M (as.set k x) (ls.set k l) := by
 refine ⟨by rw [List.length_set, List.length_set]; exact h.1, fun i b m h1 h2 => ?_⟩
 rw [List.getElem?_set] at h1 h2
 by_cases z : k = i
 · rw [if_pos z] at h1 h2
   split at h1
   · split at h2
     · obtain rfl := Option.some.inj h1
       obtain rfl := Option.some.inj h2
       exact hx
     · cases h2
   · cases h1
 · rw [if_neg z] at h1 h2
   exact h.2 i b m h1 h2
theorem RowsV.mem {M : MH} {as : List Addr} {ls : List (List Int)} {a : Addr} (h : RowsV M as ls) (ha : a ∈ as) : ∃ l, l ∈ ls ∧ M a = some (.lst (l.map .int)) := by
 obtain ⟨i, hi⟩ := List.getElem?_of_mem ha
 obtain ⟨l, e1, e2⟩ := h.get hi
 exact ⟨l, List.mem_of_getElem? e1, e2⟩
theorem RowsV.ne {M : MH} {as bs : List Addr} {ls : List (List Int)} {r : Addr} (h : RowsV M as ls) (hr : M r = some (.lst (bs.map T.adr))) (hb : bs ≠ []) : r ∉ as := fun z => by
 obtain ⟨l, _, e⟩ := h.mem z
 rw [hr] at e
 cases bs with
 | nil => exact hb rfl
 | cons b bs => cases l with
   | nil => cases e
   | cons i l => injection e with e; injection e with e; injection e with e _; cases e
theorem RowsV.fresh {M : MH} {as : List Addr} {ls : List (List Int)} {q : Addr} (h : RowsV M as ls) (hq : M q = none) : q ∉ as := fun z => by
 obtain ⟨l, _, e⟩ := h.mem z
 rw [hq] at e; cases e
theorem RowsV.upd {M : MH} {as : List Addr} {ls : List (List Int)} {r : Addr} {o : MO} (h : RowsV M as ls) (hr : r ∉ as) : RowsV (updM M r o) as ls := ⟨h.1, fun i a l h1 h2 => by
 rw [updM_ne (fun z => hr (by rw [← z]; exact List.mem_of_getElem? h1))]; exact h.2 i a l h1 h2⟩
theorem RowsV.put {M : MH} {as : List Addr} {ls : List (List Int)} {k : Nat} {a : Addr} {l : List Int} (h : RowsV M as ls) (nd : as.Nodup) (ha : as[k]? = some a) : RowsV (updM M a (.lst (l.map .int))) as (ls.set k l) := by
 refine ⟨by rw [List.length_set]; exact h.1, fun i b m h1 h2 => ?_⟩
 rw [List.getElem?_set] at h2
 by_cases z : k = i
 · subst z
   rw [ha] at h1
   obtain rfl := Option.some.inj h1
   rw [if_pos rfl] at h2
   split at h2
   · obtain rfl := Option.some.inj h2
     exact updM_same
   · cases h2
 · rw [if_neg z] at h2
   have hne : b ≠ a := fun e => by
     subst e
     obtain ⟨i1, i2⟩ := List.getElem?_eq_some_iff.mp h1
     obtain ⟨k1, k2⟩ := List.getElem?_eq_some_iff.mp ha
     exact z ((List.getElem_inj nd).mp (k2.trans i2.symm))
   rw [updM_ne hne]
   exact h.2 i b m h1 h2
theorem ndix {α : Type} {l : List α} : l.Nodup ↔ ∀ (i j : Nat) (a : α), l[i]? = some a → l[j]? = some a → i = j := by
 constructor
 · intro nd i j a h1 h2
   obtain ⟨i1, i2⟩ := List.getElem?_eq_some_iff.mp h1
   obtain ⟨k1, k2⟩ := List.getElem?_eq_some_iff.mp h2
   exact (List.getElem_inj nd).mp (i2.trans k2.symm)
 · intro h
   refine List.pairwise_iff_getElem.mpr fun i j hi hj hij e => ?_
   have := h i j l[i] (List.getElem?_eq_getElem hi) (by rw [List.getElem?_eq_getElem hj, e])
   lia
theorem nodup_set_up {α : Type} {l : List α} {k : Nat} {b q : α} (nd : l.Nodup) (hb : l[k + 1]? = some b) (hq : q ∉ l) : ((l.set k b).set (k + 1) q).Nodup := by
 have h1 := (List.getElem?_eq_some_iff.mp hb).1
 refine ndix.mpr fun i j a hi hj => ?_
 have key : ∀ i, ((l.set k b).set (k + 1) q)[i]? = if i = k + 1 then some q else if i = k then some b else l[i]? := fun i => by
   by_cases c : i = k + 1
   · subst c; rw [if_pos rfl, List.getElem?_set_self (by rw [List.length_set]; exact h1)]
   · rw [if_neg c, List.getElem?_set_ne (fun z => c z.symm)]
     by_cases c2 : i = k
     · subst c2; rw [if_pos rfl, List.getElem?_set_self (by lia)]
     · rw [if_neg c2, List.getElem?_set_ne (fun z => c2 z.symm)]
 have ix := ndix.mp nd
 rw [key] at hi hj
 have bne : ∀ i, l[i]? = some b → i = k + 1 := fun i e => ix i _ b e hb
 have qne : ∀ i, l[i]? ≠ some q := fun i e => hq (List.mem_of_getElem? e)
 have bq : b ≠ q := fun e => hq (by rw [← e]; exact List.mem_of_getElem? hb)
 by_cases c1 : i = k + 1
 · rw [if_pos c1] at hi
   obtain rfl := Option.some.inj hi
   by_cases c2 : j = k + 1
   · rw [c1, c2]
   · rw [if_neg c2] at hj
     by_cases c3 : j = k
     · rw [if_pos c3] at hj; exact absurd (Option.some.inj hj) bq
     · rw [if_neg c3] at hj; exact absurd hj (qne j)
 · rw [if_neg c1] at hi
   by_cases c2 : i = k
   · rw [if_pos c2] at hi
     obtain rfl := Option.some.inj hi
     by_cases c3 : j = k + 1
     · rw [if_pos c3] at hj; exact absurd (Option.some.inj hj).symm bq
     · rw [if_neg c3] at hj
       by_cases c4 : j = k
       · rw [c2, c4]
       · rw [if_neg c4] at hj; exact absurd (bne j hj) c3
   · rw [if_neg c2] at hi
     by_cases c3 : j = k + 1
     · rw [if_pos c3] at hj
       obtain rfl := Option.some.inj hj
       exact absurd hi (qne i)
     · rw [if_neg c3] at hj
       by_cases c4 : j = k
       · rw [if_pos c4] at hj
         obtain rfl := Option.some.inj hj
         exact absurd (bne i hi) c1
       · rw [if_neg c4] at hj; exact ix i j a hi hj
theorem nodup_set_dn {α : Type} {l : List α} {k : Nat} {a q : α} (nd : l.Nodup) (ha : l[k]? = some a) (hk : k + 1 < l.length) (hq : q ∉ l) : ((l.set k q).set (k + 1) a).Nodup := by
 refine ndix.mpr fun i j x hi hj => ?_
 have key : ∀ i, ((l.set k q).set (k + 1) a)[i]? = if i = k + 1 then some a else if i = k then some q else l[i]? := fun i => by
   by_cases c : i = k + 1
   · subst c; rw [if_pos rfl, List.getElem?_set_self (by rw [List.length_set]; exact hk)]
   · rw [if_neg c, List.getElem?_set_ne (fun z => c z.symm)]
     by_cases c2 : i = k
     · subst c2; rw [if_pos rfl, List.getElem?_set_self (by lia)]
     · rw [if_neg c2, List.getElem?_set_ne (fun z => c2 z.symm)]
 have ix := ndix.mp nd
 rw [key] at hi hj
 have bne : ∀ i, l[i]? = some a → i = k := fun i e => ix i _ a e ha
 have qne : ∀ i, l[i]? ≠ some q := fun i e => hq (List.mem_of_getElem? e)
 have bq : a ≠ q := fun e => hq (by rw [← e]; exact List.mem_of_getElem? ha)
 by_cases c1 : i = k + 1
 · rw [if_pos c1] at hi
   obtain rfl := Option.some.inj hi
   by_cases c2 : j = k + 1
   · rw [c1, c2]
   · rw [if_neg c2] at hj
     by_cases c3 : j = k
     · rw [if_pos c3] at hj; exact absurd (Option.some.inj hj).symm bq
     · rw [if_neg c3] at hj; exact absurd (bne j hj) c3
 · rw [if_neg c1] at hi
   by_cases c2 : i = k
   · rw [if_pos c2] at hi
     obtain rfl := Option.some.inj hi
     by_cases c3 : j = k + 1
     · rw [if_pos c3] at hj; exact absurd (Option.some.inj hj) bq
     · rw [if_neg c3] at hj
       by_cases c4 : j = k
       · rw [c2, c4]
       · rw [if_neg c4] at hj; exact absurd hj (qne j)
   · rw [if_neg c2] at hi
     by_cases c3 : j = k + 1
     · rw [if_pos c3] at hj
       obtain rfl := Option.some.inj hj
       exact absurd (bne i hi) c2
     · rw [if_neg c3] at hj
       by_cases c4 : j = k
       · rw [if_pos c4] at hj
         obtain rfl := Option.some.inj hj
         exact absurd hi (qne i)
       · rw [if_neg c4] at hj; exact ix i j x hi hj
noncomputable def minK (i : Nat) (rows : List (List Int)) : List (List Int) := (List.range rows.length).map fun j => if j < i then (rows.getD j []).set j ((rows.getD j []).getD j 0 - 1) else rows.getD j []
theorem minK_len {i : Nat} {rows : List (List Int)} : (minK i rows).length = rows.length := by unfold minK; rw [List.length_map, List.length_range]
theorem minK_get {i j : Nat} {rows : List (List Int)} (h : j < rows.length) : (minK i rows)[j]? = some (if j < i then (rows.getD j []).set j ((rows.getD j []).getD j 0 - 1) else rows.getD j []) := by
 unfold minK
 rw [List.getElem?_map, List.getElem?_range h]; rfl
theorem minK_zero {rows : List (List Int)} : minK 0 rows = rows := by
 refine List.ext_getElem? fun j => ?_
 by_cases h : j < rows.length
 · rw [minK_get h, if_neg (by lia), List.getD_eq_getElem?_getD, List.getElem?_eq_getElem h]; rfl
 · rw [List.getElem?_eq_none (by rw [minK_len]; lia), List.getElem?_eq_none (by lia)]
theorem minK_succ {i : Nat} {rows : List (List Int)} {r : List Int} (h : rows[i]? = some r) : minK (i + 1) rows = (minK i rows).set i (r.set i (r.getD i 0 - 1)) := by
 have hi := (List.getElem?_eq_some_iff.mp h).1
 refine List.ext_getElem? fun j => ?_
 by_cases hj : j < rows.length
 · rw [minK_get hj, List.getElem?_set]
   by_cases z : i = j
   · subst z
     rw [if_pos (Nat.lt_succ_self i), if_pos rfl, if_pos (by rw [minK_len]; exact hj), List.getD_eq_getElem?_getD, h]; rfl
   · rw [if_neg z, minK_get hj]
     by_cases c : j < i
     · rw [if_pos c, if_pos (by lia)]
     · rw [if_neg c, if_neg (by lia)]
 · rw [List.getElem?_eq_none (by rw [minK_len]; lia), List.getElem?_eq_none (by rw [List.length_set, minK_len]; lia)]
theorem minK_all {n : Nat} {rows : List (List Int)} (h : rows.length = n) : minK n rows = minU n rows := by
 unfold minK minU
 rw [h]
 refine List.map_congr_left fun j hj => ?_
 rw [if_pos (List.mem_range.mp hj)]
theorem unR_len {n : Nat} : (unR n).length = n := by unfold unR; rw [List.length_map, List.length_range]
theorem unR_get {n i : Nat} (h : i < n) : (unR n)[i]? = some ((List.range n).map fun j => if i = j then (1 : Int) else 0) := by
 unfold unR
 rw [List.getElem?_map, List.getElem?_range h]; rfl
noncomputable def RB (n : Nat) (B : Nat) (rows : List (List Int)) : Prop := rows.length = n ∧ ∀ r ∈ rows, r.length = n ∧ ∀ x ∈ r, x.natAbs ≤ B
theorem RB.mono {n B C : Nat} {rows : List (List Int)} (h : RB n B rows) (s : B ≤ C) : RB n C rows := ⟨h.1, fun r hr => ⟨(h.2 r hr).1, fun x hx => Nat.le_trans ((h.2 r hr).2 x hx) s⟩⟩
theorem unR_rb (n : Nat) : RB n 1 (unR n) := by
 refine ⟨unR_len, fun r hr => ?_⟩
 obtain ⟨i, _, rfl⟩ := List.mem_map.mp hr
 refine ⟨by rw [List.length_map, List.length_range], fun x hx => ?_⟩
 obtain ⟨j, _, rfl⟩ := List.mem_map.mp hx
 split <;> decide
theorem tw2_rb {n B : Nat} {a b : List Int} (ha : a.length = n ∧ ∀ x ∈ a, x.natAbs ≤ B) (hb : b.length = n ∧ ∀ x ∈ b, x.natAbs ≤ B) : (tw2 a b).length = n ∧ ∀ x ∈ tw2 a b, x.natAbs ≤ 3 * B := by
 refine ⟨by unfold tw2; rw [List.length_zipWith, ha.1, hb.1]; exact Nat.min_self _, fun x hx => ?_⟩
 obtain ⟨j, hj⟩ := List.getElem?_of_mem hx
 unfold tw2 at hj
 rw [List.getElem?_zipWith] at hj
 cases eu : a[j]? with
 | none => rw [eu] at hj; cases hj
 | some y => cases ev : b[j]? with
   | none => rw [eu, ev] at hj; cases hj
   | some z =>
     rw [eu, ev] at hj
     obtain rfl := (Option.some.inj hj).symm
     have h1 := ha.2 y (List.mem_of_getElem? eu)
     have h2 := hb.2 z (List.mem_of_getElem? ev)
     lia
theorem RB.row {n B k : Nat} {rows : List (List Int)} (h : RB n B rows) (hk : k < n) : (rows.getD k []).length = n ∧ ∀ x ∈ rows.getD k [], x.natAbs ≤ B := by
 rw [List.getD_eq_getElem?_getD, List.getElem?_eq_getElem (by rw [h.1]; exact hk)]
 exact h.2 _ (List.getElem_mem _)
theorem RB.set {n B k : Nat} {rows : List (List Int)} {r : List Int} (h : RB n B rows) (hr : r.length = n ∧ ∀ x ∈ r, x.natAbs ≤ B) : RB n B (rows.set k r) := ⟨by rw [List.length_set]; exact h.1, fun q hq => by
 rcases List.mem_or_eq_of_mem_set hq with z | rfl
 · exact h.2 q z
 · exact hr⟩
theorem sh1_rb {n B : Nat} {rows : List (List Int)} {l : Int} (h : RB n B rows) (hl : LetOK n l) : RB n (3 * B) (sh1 rows l) := by
 obtain ⟨h1, h2⟩ := hl
 have ra := h.row (k := l.natAbs - 1) (by lia)
 have rb := h.row (k := l.natAbs) (by lia)
 have up : ∀ {r : List Int}, (r.length = n ∧ ∀ x ∈ r, x.natAbs ≤ B) → r.length = n ∧ ∀ x ∈ r, x.natAbs ≤ 3 * B := fun z => ⟨z.1, fun x hx => by have := z.2 x hx; lia⟩
 have hm := h.mono (show B ≤ 3 * B by lia)
 unfold sh1
 dsimp only
 split
 · exact (hm.set (up rb)).set (tw2_rb rb ra)
 · exact (hm.set (tw2_rb ra rb)).set (up ra)
theorem shL_snoc (rows : List (List Int)) (ws : List Int) (l : Int) : shL rows (ws ++ [l]) = sh1 (shL rows ws) l := by unfold shL; rw [List.foldl_append]; rfl
theorem shL_rb {n : Nat} : ∀ {ws : List Int} {B : Nat} {rows : List (List Int)}, RB n B rows → WordOK n ws → RB n (3 ^ ws.length * B) (shL rows ws)
 | [], B, rows, h, _ => by rw [List.length_nil, Nat.pow_zero, Nat.one_mul]; exact h
 | l :: w, B, rows, h, hw => by
   have := shL_rb (ws := w) (sh1_rb h (hw l (.head _))) fun y hy => hw y (.tail _ hy)
   rw [List.length_cons, Nat.pow_succ, Nat.mul_assoc]
   exact this
theorem clr_rb {m : Int} (hm : 0 < m) (h97 : m ≤ 97) {n c : Nat} {a b : List Int} (ha : a.length = n) (hb : b.length = n) : (clr m c a b).length = n ∧ ∀ x ∈ clr m c a b, x.natAbs ≤ 97 := by
 unfold clr
 refine ⟨by rw [List.length_zipWith, ha, hb, Nat.min_self], fun x hx => ?_⟩
 obtain ⟨j, hj⟩ := List.getElem?_of_mem hx
 rw [List.getElem?_zipWith] at hj
 cases eu : a[j]? with
 | none => rw [eu] at hj; cases hj
 | some y => cases ev : b[j]? with
   | none => rw [eu, ev] at hj; cases hj
   | some z =>
     rw [eu, ev] at hj
     obtain rfl := (Option.some.inj hj).symm
     generalize y * b.getD c 0 - z * a.getD c 0 = e
     have := Int.emod_nonneg e (show m ≠ 0 by lia)
     have := Int.emod_lt_of_pos e hm
     lia
theorem rkL_le {p : Int} : ∀ (k c : Nat) (rows : List (List Int)), rkL p k c rows ≤ k
 | 0, _, _ => Nat.le_refl _
 | k + 1, c, rows => by
   unfold rkL
   split
   · have := rkL_le (p := p) k (c + 1) rows
     lia
   · rename_i f t e
     have := rkL_le (p := p) k (c + 1) (rows.map fun r => clr p c r f)
     lia
theorem starEach_int {i : Int} {j} {pos : Pos} {rest : List Expr} {env : Env} : starEach (.Constant (.int i) j pos :: rest) env = (false, eval (.Constant (.int i) j pos) env) :: starEach rest env := rfl
theorem a_I {X : Cx} {i : Int} {j} {pos : Pos} {es : List Expr} {t : TA3} (hr : HA X es t) : HA X (.Constant (.int i) j pos :: es) (tCons3 (tK (.int i)) t) := a_cons h_int hr (hs := starEach_int)
end L2
namespace L2
open PySem PySem.Spec PyProof.Rows LM
end L2
namespace L2
open PySem PySem.Spec PyProof.Rows LM
theorem toL_nought : toL [(0, 0)] = zL := Lp.ext2 fun c => by
 rw [co_L]
 show (if (0 : Int) = c then (0 : Int) else 0) + 0 = co (toL []).1 c
 rw [co_L]
 split <;> rfl
noncomputable instance : NatCast Lp := ⟨fun n => sgU n⟩
noncomputable instance {n : Nat} : OfNat Lp n := ⟨sgU n⟩
noncomputable instance : IntCast Lp := ⟨sgU⟩
noncomputable instance : Neg Lp := ⟨fun a => sgU (-1) * a⟩
noncomputable instance : _root_.Sub Lp := ⟨fun a b => a + sgU (-1) * b⟩
noncomputable instance : SMul Nat Lp := ⟨fun n a => sgU n * a⟩
noncomputable instance : SMul Int Lp := ⟨fun n a => sgU n * a⟩
noncomputable def powL (a : Lp) : Nat → Lp
 | 0 => sgU 1
 | n + 1 => powL a n * a
noncomputable instance : HPow Lp Nat Lp := ⟨powL⟩
theorem sgU_add (a b : Int) : sgU (a + b) = sgU a + sgU b := Lp.ext2 fun c => by
 unfold sgU
 rw [co_addL, co_L, co_L, co_L, co_one, co_one, co_one]
 split <;> lia
theorem sgU_0 : sgU 0 = zL := toL_nought
noncomputable instance : Lean.Grind.CommRing Lp where
 add_zero a := by show a + sgU ((0 : Nat) : Int) = a; exact (by rw [show ((0 : Nat) : Int) = 0 from rfl, sgU_0, addL_z])
 add_comm := addL_comm
 add_assoc := addL_assoc
 mul_assoc := mulL_assoc
 mul_one a := by show a * sgU ((1 : Nat) : Int) = a; exact mulL_e a
 one_mul a := by show sgU ((1 : Nat) : Int) * a = a; rw [mulL_comm]; exact mulL_e a
 left_distrib := distL
 right_distrib a b c := by rw [mulL_comm, distL, mulL_comm c, mulL_comm c]
 zero_mul a := by show sgU ((0 : Nat) : Int) * a = sgU ((0 : Nat) : Int); rw [show ((0 : Nat) : Int) = 0 from rfl, sgU_0, mulL_comm, mulL_z]
 mul_zero a := by show a * sgU ((0 : Nat) : Int) = sgU ((0 : Nat) : Int); rw [show ((0 : Nat) : Int) = 0 from rfl, sgU_0, mulL_z]
 pow_zero a := rfl
 pow_succ a n := rfl
 ofNat_succ n := by
   show sgU ((n + 1 : Nat) : Int) = sgU (n : Int) + sgU ((1 : Nat) : Int)
   rw [Int.natCast_add, sgU_add]
 ofNat_eq_natCast n := rfl
 nsmul_eq_natCast_mul n a := rfl
 neg_add_cancel a := by
   show sgU (-1) * a + a = sgU ((0 : Nat) : Int)
   have e : sgU (-1) * a + a = sgU (-1) * a + sgU 1 * a := by rw [show sgU 1 * a = a from by rw [mulL_comm]; exact mulL_e a]
   rw [e, mulL_comm, mulL_comm (sgU 1), ← distL, ← sgU_add, show (-1 : Int) + 1 = 0 by decide, sgU_0, mulL_z]
   exact sgU_0.symm
 sub_eq_add_neg a b := rfl
 neg_zsmul i a := by
   show sgU (-i) * a = sgU (-1) * (sgU i * a)
   rw [← mulL_assoc, sgU_mul, show -1 * i = -i by lia]
 zsmul_natCast_eq_nsmul n a := rfl
 intCast_ofNat n := rfl
 intCast_neg i := by
   show sgU (-i) = sgU (-1) * sgU i
   rw [sgU_mul, show -1 * i = -i by lia]
 mul_comm := mulL_comm
section
variable {R : Type} [Lean.Grind.CommRing R]
end
end L2
namespace L2
open PySem PySem.Spec PyProof.Rows LM
end L2
namespace L2
open PySem PySem.Spec PyProof.Rows LM
end L2
namespace L2
open PySem PySem.Spec PyProof.Rows LM
end L2
namespace L2
open PySem PySem.Spec PyProof.Rows LM
end L2
namespace L2
open PySem PySem.Spec PyProof.Rows LM
local macro_rules | `(tactic| walk_at "rd") => `(tactic| (try simp only [iZip3, sAug3, gTupL3, gSl3, tAugI3, rSorted3, tRet3, tChain3, tCB3, tCons3, tNil3, tVar3, tK, tOp3, tUn3, tSeq3, tSet3, tNext3, tIfS3, tDrop3, tAsg3, tTest3, tTru3, tNot3, tAnd3, tOr3, tAndV3, tNotV3, tComp3, tTup3, tLst3, tCall3, tLM3, tLRng1, rExt3, tDicE, tDGT, sDPT, tYes3,
 gName3, gCons3, gNil3, gTup3, gSub3, strsT_map, tSl3, tPt3, iSeq3, iEnumT, iRng1_3, iRng2_3, iRng3_3, rAdd3, rSub3, rMul3, rDiv3, rMod3, rPow3, rInt, rNeg3, rIx3, rLen3, rAbs3, rTuple3, rList3, rInt3, rAll3, rApp3, rLt3, rLe3, rGt3, rGe3, rCmp3, rEq3, rNe3, rEqv, truT, isLst, tyK, tIsi, isiK,
 start3_cons, start3_none, start3_nil, pick3_none, pick3_some, pick3_nil, join_some, List.getElem?_cons_zero, List.getElem?_cons_succ, List.set_cons_zero, List.set_cons_succ, List.length_cons, List.length_nil, List.map_nil, List.isEmpty_cons, List.isEmpty_nil, updM_same, updM_updM, atI_0, atI_1, atI_2, ixN_0, bools_map, intsT_map,
 pureT_int, pureT_bl, pureT_tup, pureTs_cons, pureTs_nil, pureTs_ints, depT_int, depT_bl, depT_tup, depTs_cons, depTs_nil, depTs_ints, eqT_tup, eqT_int, eqTs_cons, eqTs_nil, eqTs_ints, id, Bool.not_true, Bool.not_false, Bool.and_true, Bool.true_and, Bool.or_false, Bool.false_or,
 decide_eq_true_eq, Bool.not_eq_true', decide_eq_false_iff_not, Bool.false_eq_true, ↓reduceIte, if_true, if_false, true_and, and_true, and_self, Nat.zero_le, not_true_eq_false, not_false_eq_true, List.length_map, List.length_append, List.length_singleton]))
noncomputable abbrev top (i : Nat) : Stmt := PySem.Challenge.pw_loopwright_k65_whole_free_colours.main.body.getD i (.Pass ⟨0, 0, 0, 0⟩)
noncomputable abbrev s_is_letter : Stmt := top 9
noncomputable abbrev s_is_word : Stmt := top 10
noncomputable abbrev s_is_plait : Stmt := top 11
noncomputable abbrev s_looked : Stmt := top 12
noncomputable abbrev s_has_form : Stmt := top 17
noncomputable abbrev s_keeps_third_rule : Stmt := top 18
noncomputable abbrev s_is_table : Stmt := top 19
noncomputable abbrev s_looked_table : Stmt := top 20
noncomputable abbrev s_undone : Stmt := top 21
noncomputable abbrev s_led_down : Stmt := top 22
noncomputable abbrev s_all_rows : Stmt := top 23
noncomputable abbrev s_colourings : Stmt := top 24
noncomputable abbrev s_is_odd_prime : Stmt := top 25
noncomputable abbrev s_twice_less : Stmt := top 26
noncomputable abbrev s_shares_behind : Stmt := top 27
noncomputable abbrev s_cleared : Stmt := top 28
noncomputable abbrev s_rank_of : Stmt := top 29
noncomputable abbrev s_free_colours : Stmt := top 30
noncomputable abbrev s_ring_table : Stmt := top 31
noncomputable abbrev s__law_state : Stmt := top 33
noncomputable abbrev s__law_take : Stmt := top 34
noncomputable abbrev s__law_letter : Stmt := top 35
noncomputable abbrev s__law_plait : Stmt := top 36
noncomputable abbrev s__law_whole : Stmt := top 37
noncomputable abbrev s__law_down : Stmt := top 38
noncomputable abbrev s_law : Stmt := top 39
theorem sc_is_letter : FnScope ["strands", "letter"] ["strands", "letter"] (defScope s_is_letter) := ⟨rfl, rfl, rfl, by decide +kernel, rfl, by decide +kernel, by decide +kernel⟩
theorem sc_is_word : FnScope ["strands", "word", "most"] ["strands", "word", "most"] (defScope s_is_word) := ⟨rfl, rfl, rfl, by decide +kernel, rfl, by decide +kernel, by decide +kernel⟩
theorem sc_is_plait : FnScope ["plait"] ["plait"] (defScope s_is_plait) := ⟨rfl, rfl, rfl, by decide +kernel, rfl, by decide +kernel, by decide +kernel⟩
theorem sc_looked : FnScope ["plait"] ["plait"] (defScope s_looked) := ⟨rfl, rfl, rfl, by decide +kernel, rfl, by decide +kernel, by decide +kernel⟩
theorem sc_has_form : FnScope ["table", "many"] ["table"] (defScope s_has_form) := ⟨rfl, rfl, rfl, by decide +kernel, rfl, by decide +kernel, by decide +kernel⟩
theorem sc_keeps_third_rule : FnScope ["table", "c", "a", "row", "b", "under"] ["table", "c"] (defScope s_keeps_third_rule) := ⟨rfl, rfl, rfl, by decide +kernel, rfl, by decide +kernel, by decide +kernel⟩
theorem sc_is_table : FnScope ["table", "colours", "colour"] ["table"] (defScope s_is_table) := ⟨rfl, rfl, rfl, by decide +kernel, rfl, by decide +kernel, by decide +kernel⟩
theorem sc_looked_table : FnScope ["table"] ["table"] (defScope s_looked_table) := ⟨rfl, rfl, rfl, by decide +kernel, rfl, by decide +kernel, by decide +kernel⟩
theorem sc_undone : FnScope ["table", "colour_by", "a", "row", "c", "d"] ["table"] (defScope s_undone) := ⟨rfl, rfl, rfl, by decide +kernel, rfl, by decide +kernel, by decide +kernel⟩
theorem sc_led_down : FnScope ["table", "colour_by", "word", "colours", "row", "letter", "at", "left", "right"] ["table", "colour_by", "word", "colours"] (defScope s_led_down) := ⟨rfl, rfl, rfl, by decide +kernel, rfl, by decide +kernel, by decide +kernel⟩
theorem sc_all_rows : FnScope ["many", "places", "rows", "place", "longer", "row"] ["many", "places"] (defScope s_all_rows) := ⟨rfl, rfl, rfl, by decide +kernel, rfl, by decide +kernel, by decide +kernel⟩
theorem sc_colourings : FnScope ["table", "plait", "colour_by"] ["table", "plait"] (defScope s_colourings) := ⟨rfl, rfl, rfl, by decide +kernel, rfl, by decide +kernel, by decide +kernel⟩
theorem sc_is_odd_prime : FnScope ["number"] ["number"] (defScope s_is_odd_prime) := ⟨rfl, rfl, rfl, by decide +kernel, rfl, by decide +kernel, by decide +kernel⟩
theorem sc_twice_less : FnScope ["row", "other"] ["row", "other"] (defScope s_twice_less) := ⟨rfl, rfl, rfl, by decide +kernel, rfl, by decide +kernel, by decide +kernel⟩
theorem sc_shares_behind : FnScope ["plait", "strands", "rows", "letter", "at", "pair"] ["plait"] (defScope s_shares_behind) := ⟨rfl, rfl, rfl, by decide +kernel, rfl, by decide +kernel, by decide +kernel⟩
theorem sc_cleared : FnScope ["row", "first", "column", "prime"] ["row", "first", "column", "prime"] (defScope s_cleared) := ⟨rfl, rfl, rfl, by decide +kernel, rfl, by decide +kernel, by decide +kernel⟩
theorem sc_rank_of : FnScope ["rows", "prime", "rank", "column", "found"] ["rows", "prime"] (defScope s_rank_of) := ⟨rfl, rfl, rfl, by decide +kernel, rfl, by decide +kernel, by decide +kernel⟩
theorem sc_free_colours : FnScope ["prime", "plait", "rows", "place"] ["prime", "plait"] (defScope s_free_colours) := ⟨rfl, rfl, rfl, by decide +kernel, rfl, by decide +kernel, by decide +kernel⟩
theorem sc_ring_table : FnScope ["many"] ["many"] (defScope s_ring_table) := ⟨rfl, rfl, rfl, by decide +kernel, rfl, by decide +kernel, by decide +kernel⟩
theorem sc__law_state : FnScope ["script", "k", "cell"] ["script", "k"] (defScope s__law_state) := ⟨rfl, rfl, rfl, by decide +kernel, rfl, by decide +kernel, by decide +kernel⟩
theorem sc__law_take : FnScope ["state", "many", "found", "mixed"] ["state", "many"] (defScope s__law_take) := ⟨rfl, rfl, rfl, by decide +kernel, rfl, by decide +kernel, by decide +kernel⟩
theorem sc__law_letter : FnScope ["state", "strands", "number"] ["state", "strands"] (defScope s__law_letter) := ⟨rfl, rfl, rfl, by decide +kernel, rfl, by decide +kernel, by decide +kernel⟩
theorem sc__law_plait : FnScope ["state", "most", "longest", "strands", "word", "k"] ["state", "most", "longest"] (defScope s__law_plait) := ⟨rfl, rfl, rfl, by decide +kernel, rfl, by decide +kernel, by decide +kernel⟩
theorem sc__law_whole : FnScope ["found"] ["found"] (defScope s__law_whole) := ⟨rfl, rfl, rfl, by decide +kernel, rfl, by decide +kernel, by decide +kernel⟩
theorem sc__law_down : FnScope ["prime", "word", "numbers", "here", "letter", "at", "a", "b"] ["prime", "word", "numbers"] (defScope s__law_down) := ⟨rfl, rfl, rfl, by decide +kernel, rfl, by decide +kernel, by decide +kernel⟩
theorem sc_law : FnScope ["script", "state", "plait", "small", "many", "rows", "amount", "k", "primes", "prime", "row", "times", "more", "others"] ["script"] (defScope s_law) := ⟨rfl, rfl, rfl, by decide +kernel, rfl, by decide +kernel, by decide +kernel⟩
structure Zs (mg : Str → Option Value) : Prop where
 b_abs : mg "abs" = none
 b_all : mg "all" = none
 b_bool : mg "bool" = none
 b_enumerate : mg "enumerate" = none
 b_int : mg "int" = none
 b_isinstance : mg "isinstance" = none
 b_len : mg "len" = none
 b_list : mg "list" = none
 b_range : mg "range" = none
 b_sorted : mg "sorted" = none
 b_tuple : mg "tuple" = none
 b_zip : mg "zip" = none
 c_MOST_COLOURS : ∃ tk, mg "MOST_COLOURS" = some (.int 7 tk)
 c_MOST_LETTERS : ∃ tk, mg "MOST_LETTERS" = some (.int 16 tk)
 c_MOST_PRIME : ∃ tk, mg "MOST_PRIME" = some (.int 97 tk)
 c_MOST_ROWS : ∃ tk, mg "MOST_ROWS" = some (.int 2500 tk)
 c_MOST_STRANDS : ∃ tk, mg "MOST_STRANDS" = some (.int 6 tk)
noncomputable def sp_is_letter : Sp3 := fun ts M Q => match ts with
 | [.int n, .int l] => Q (.bl (isLet n l)) M
 | _ => False
theorem ok_is_letter {P : Program} {w : World} {K : PySem.W.Frag} {mg : Str → Option Value} {base : Heap} {f : Addr} {fd : FuncData} {n : Nat}  (F : Fun K "is_letter" "is_letter" s_is_letter f fd) (hm : mg "is_letter" = some (.ref f)) (hb : Binds K fd ["strands", "letter"] []) (Z : Zs mg)  : Df P w K mg base (n + 1) "is_letter" ["strands", "letter"] sp_is_letter := by
 refine F.dfn hm hb sc_is_letter (by intro ts M Q h; unfold sp_is_letter at h; first | (split at h <;> first | rfl | exact h.elim) | (obtain ⟨_, _, _, _, _, rfl, _⟩ := h; rfl) | (obtain ⟨_, _, _, _, rfl, _⟩ := h; rfl) | (obtain ⟨_, _, _, rfl, _⟩ := h; rfl) | (obtain ⟨_, _, rfl, _⟩ := h; rfl) | (obtain ⟨_, rfl, _⟩ := h; rfl)) ⟨_, fun cdv A outer s H E hr => (@ss_one _ _ _ (@s_ret _ _ _ _ (@h_chain _ _ _ _ _ _ _ _ _ _ _ _ op3_le op3_lt h_int (@h_callB _ _ _ _ _ _ _ _ _ call3_abs Z.b_abs PyProof.Rows.boot_abs (@a_cons _ _ _ _ _ (@hv _ 1 _ _ (by rfl) (by first | exact Or.inl rfl | exact Or.inr (Or.inl rfl) | exact Or.inr (Or.inr rfl)) (by decide) (by decide)) a_nil (by rfl)) (by rfl) (by decide) (by decide) (by rfl) (by rfl)) (@hv _ 0 _ _ (by rfl) (by first | exact Or.inl rfl | exact Or.inr (Or.inl rfl) | exact Or.inr (Or.inr rfl)) (by decide) (by decide)) (by with_unfolding_all rfl)))), fun ts M Q h => ?_⟩
 unfold sp_is_letter isLet at h
 split at h
 · rename_i n l
   walk_at "rd"
   refine ite2 (fun c => rt3_here ?_) (fun c => rt3_here ?_)
   · simpa [show 1 ≤ l.natAbs by lia] using h
   · simpa [show ¬ 1 ≤ l.natAbs by lia] using h
 · exact h.elim
noncomputable def sp_is_word : Sp3 := fun ts M Q => match ts with
 | [.int n, .tup w, .int k] => ∃ ws : List Int, w = ws.map .int ∧ ws.length < 10000 ∧ Q (.bl (isWd n ws k)) M
 | _ => False
theorem ok_is_word {P : Program} {w : World} {K : PySem.W.Frag} {mg : Str → Option Value} {base : Heap} {f : Addr} {fd : FuncData} {n : Nat}  (F : Fun K "is_word" "is_word" s_is_word f fd) (hm : mg "is_word" = some (.ref f)) (hb : Binds K fd ["strands", "word", "most"] []) (Z : Zs mg) (D_is_letter : Df P w K mg base n "is_letter" ["strands", "letter"] sp_is_letter) : Df P w K mg base (n + 1) "is_word" ["strands", "word", "most"] sp_is_word := by
 obtain ⟨tk_MOST_STRANDS, c_MOST_STRANDS⟩ := Z.c_MOST_STRANDS
 refine F.dfn hm hb sc_is_word (by intro ts M Q h; unfold sp_is_word at h; first | (split at h <;> first | rfl | exact h.elim) | (obtain ⟨_, _, _, _, _, rfl, _⟩ := h; rfl) | (obtain ⟨_, _, _, _, rfl, _⟩ := h; rfl) | (obtain ⟨_, _, _, rfl, _⟩ := h; rfl) | (obtain ⟨_, _, rfl, _⟩ := h; rfl) | (obtain ⟨_, rfl, _⟩ := h; rfl)) ⟨_, fun cdv A outer s H E hr => (@ss_cons _ _ _ _ _ (@s_if _ _ _ _ _ _ _ _ (@HW.ht _ _ _ (@w_or _ _ _ _ _ _ _ (@h_not _ _ _ _ (@h_tchain _ _ _ _ _ _ _ _ _ _ _ _ op3_le op3_le h_int (@hv _ 0 _ _ (by rfl) (by first | exact Or.inl rfl | exact Or.inr (Or.inl rfl) | exact Or.inr (Or.inr rfl)) (by decide) (by decide)) (@h_globI _ _ _ _ _ c_MOST_STRANDS (by rfl) (by decide)) (by with_unfolding_all rfl))) (@w_or1 _ _ _ _ (@h_tcmp _ _ _ _ _ _ _ _ op3_gt (@h_callB _ _ _ _ _ _ _ _ _ call3_len Z.b_len PySem.boot_len (@a_cons _ _ _ _ _ (@hv _ 1 _ _ (by rfl) (by first | exact Or.inl rfl | exact Or.inr (Or.inl rfl) | exact Or.inr (Or.inr rfl)) (by decide) (by decide)) a_nil (by rfl)) (by rfl) (by decide) (by decide) (by rfl) (by rfl)) (@hv _ 2 _ _ (by rfl) (by first | exact Or.inl rfl | exact Or.inr (Or.inl rfl) | exact Or.inr (Or.inr rfl)) (by decide) (by decide)) (@nomark _ _ (by decide) (by decide)))))) (@ss_one _ _ _ (@s_ret _ _ _ _ h_bl)) ss_nil) (@ss_one _ _ _ (@s_ret _ _ _ _ (@h_callB _ _ _ _ _ _ _ _ _ (@call3_all _ rfl) Z.b_all PyProof.Rows.boot_all (@a_cons _ _ _ _ _ (@h_comp _ _ _ _ _ _ _ _ _ _ _ _ _ _ rfl (@i_seq _ _ _ _ (@hv _ 1 _ _ (by rfl) (by first | exact Or.inl rfl | exact Or.inr (Or.inl rfl) | exact Or.inr (Or.inr rfl)) (by decide) (by decide))) (@blk_scope _ (defScope s_is_word) _ (["strands", "word", "most"]) (["letter", "strands"]) ([none, some 0]) (by decide +kernel) rfl rfl) bt_name (fun _ _ _ _ _ => @pg_name _ _ 0 _ (show List.Nodup (["letter", "strands"] : List Str) by decide +kernel) rfl (Or.inl rfl) (Or.inr rfl)) (fun _ _ _ _ _ => ts_nil) (fun _ _ _ _ _ => (@h_call _ _ _ _ _ _ _ _ _ _ D_is_letter hr (@a_cons _ _ _ _ _ (@hv _ 1 _ _ (by rfl) (by first | exact Or.inl rfl | exact Or.inr (Or.inl rfl) | exact Or.inr (Or.inr rfl)) (by decide) (by decide)) (@a_cons _ _ _ _ _ (@hv _ 0 _ _ (by rfl) (by first | exact Or.inl rfl | exact Or.inr (Or.inl rfl) | exact Or.inr (Or.inr rfl)) (by decide) (by decide)) a_nil (by rfl)) (by rfl)) (by rfl) (by decide) (by rfl) (by rfl))) (by intro _; rfl)) a_nil (by rfl)) (by rfl) (by decide) (by decide) (by rfl) (by rfl))))), fun ts M Q h => ?_⟩
 unfold sp_is_word at h
 split at h
 · rename_i n w k
   obtain ⟨ws, rfl, hl, h⟩ := h
   unfold isWd at h
   walk_at "rd"
   refine ite2 (fun c1 => ite2 (fun c2 => ?_) fun c2 => ite2 (fun c3 => ?_) fun c3 => ?_) fun c1 => ?_
   · rw [decide_eq_false c2, Bool.and_false, Bool.false_and] at h
     exact rt3_here h
   · rw [decide_eq_false (show ¬ (ws.length : Int) ≤ k by lia), Bool.and_false, Bool.false_and] at h
     exact rt3_here h
   · rw [decide_eq_true c1, decide_eq_true (show n ≤ 6 by lia), decide_eq_true (show (ws.length : Int) ≤ k by lia)] at h
     refine ⟨fun i ys M' => ys = ((ws.take i).map (isLet n)).map T.bl ∧ M' = M, ⟨rfl, rfl⟩, fun _ _ _ _ => trivial, Nat.lt_of_le_of_lt (by lia : ws.length ≤ 10000) (by decide), ?_, ?_⟩
     · rintro i x ys M' hx ⟨rfl, rfl⟩
       obtain ⟨l, hl', rfl⟩ := get_map_int hx
       unfold sp_is_letter
       refine ⟨?_, rfl⟩
       rw [← take_succ_map (isLet n) hl', List.map_append]; rfl
     · rintro ys M' ⟨rfl, rfl⟩ p hp
       rw [List.take_length, bools_map]
       refine rt3_sub (M0 := M') ?_ (Sub.new hp)
       rw [List.all_map]
       exact h
   · rw [decide_eq_false c1, Bool.false_and, Bool.false_and, Bool.false_and] at h
     exact rt3_here h
 · exact h.elim
noncomputable def sp_is_plait : Sp3 := fun ts M Q => match ts with
 | [.tup [.int n, .tup w]] => ∃ ws : List Int, w = ws.map .int ∧ ws.length < 10000 ∧ Q (.bl (isPl n ws)) M
 | _ => False
theorem ok_is_plait {P : Program} {w : World} {K : PySem.W.Frag} {mg : Str → Option Value} {base : Heap} {f : Addr} {fd : FuncData} {n : Nat}  (F : Fun K "is_plait" "is_plait" s_is_plait f fd) (hm : mg "is_plait" = some (.ref f)) (hb : Binds K fd ["plait"] []) (Z : Zs mg) (D_is_word : Df P w K mg base n "is_word" ["strands", "word", "most"] sp_is_word) : Df P w K mg base (n + 1) "is_plait" ["plait"] sp_is_plait := by
 obtain ⟨tk_MOST_LETTERS, c_MOST_LETTERS⟩ := Z.c_MOST_LETTERS
 refine F.dfn hm hb sc_is_plait (by intro ts M Q h; unfold sp_is_plait at h; first | (split at h <;> first | rfl | exact h.elim) | (obtain ⟨_, _, _, _, _, rfl, _⟩ := h; rfl) | (obtain ⟨_, _, _, _, rfl, _⟩ := h; rfl) | (obtain ⟨_, _, _, rfl, _⟩ := h; rfl) | (obtain ⟨_, _, rfl, _⟩ := h; rfl) | (obtain ⟨_, rfl, _⟩ := h; rfl)) ⟨_, fun cdv A outer s H E hr => (@ss_one _ _ _ (@s_ret _ _ _ _ (@h_call _ _ _ _ _ _ _ _ _ _ D_is_word hr (@a_cons _ _ _ _ _ (@h_ix _ _ _ _ _ _ (@hv _ 0 _ _ (by rfl) (by first | exact Or.inl rfl | exact Or.inr (Or.inl rfl) | exact Or.inr (Or.inr rfl)) (by decide) (by decide)) h_int (by intro _ _; rfl)) (@a_cons _ _ _ _ _ (@h_ix _ _ _ _ _ _ (@hv _ 0 _ _ (by rfl) (by first | exact Or.inl rfl | exact Or.inr (Or.inl rfl) | exact Or.inr (Or.inr rfl)) (by decide) (by decide)) h_int (by intro _ _; rfl)) (@a_cons _ _ _ _ _ (@h_globI _ _ _ _ _ c_MOST_LETTERS (by rfl) (by decide)) a_nil (by rfl)) (by rfl)) (by rfl)) (by rfl) (by decide) (by rfl) (by rfl)))), fun ts M Q h => ?_⟩
 unfold sp_is_plait at h
 split at h
 · rename_i n w
   obtain ⟨ws, rfl, hl, h⟩ := h
   walk_at "rd"
   refine ⟨ws, rfl, hl, ?_⟩
   rw [isWd_16]
   exact rt3_here h
 · exact h.elim
noncomputable def sp_looked : Sp3 := fun ts M Q => match ts with
 | [.tup [.int n, .tup w]] => ∃ ws : List Int, w = ws.map .int ∧ PlOK n ws ∧ Q (.int ws.length) M
 | _ => False
theorem ok_looked {P : Program} {w : World} {K : PySem.W.Frag} {mg : Str → Option Value} {base : Heap} {f : Addr} {fd : FuncData} {n : Nat}  (F : Fun K "looked" "looked" s_looked f fd) (hm : mg "looked" = some (.ref f)) (hb : Binds K fd ["plait"] []) (Z : Zs mg) (D_is_plait : Df P w K mg base n "is_plait" ["plait"] sp_is_plait) : Df P w K mg base (n + 1) "looked" ["plait"] sp_looked := by
 refine F.dfn hm hb sc_looked (by intro ts M Q h; unfold sp_looked at h; first | (split at h <;> first | rfl | exact h.elim) | (obtain ⟨_, _, _, _, _, rfl, _⟩ := h; rfl) | (obtain ⟨_, _, _, _, rfl, _⟩ := h; rfl) | (obtain ⟨_, _, _, rfl, _⟩ := h; rfl) | (obtain ⟨_, _, rfl, _⟩ := h; rfl) | (obtain ⟨_, rfl, _⟩ := h; rfl)) ⟨_, fun cdv A outer s H E hr => (@ss_cons _ _ _ _ _ (@s_if _ _ _ _ _ _ _ _ (@h_not _ _ _ _ (@h_truth _ _ _ (@h_call _ _ _ _ _ _ _ _ _ _ D_is_plait hr (@a_cons _ _ _ _ _ (@hv _ 0 _ _ (by rfl) (by first | exact Or.inl rfl | exact Or.inr (Or.inl rfl) | exact Or.inr (Or.inr rfl)) (by decide) (by decide)) a_nil (by rfl)) (by rfl) (by decide) (by rfl) (by rfl)) (by intro _; rfl))) (@ss_one _ _ _ s_never) ss_nil) (@ss_one _ _ _ (@s_ret _ _ _ _ (@h_callB _ _ _ _ _ _ _ _ _ call3_len Z.b_len PySem.boot_len (@a_cons _ _ _ _ _ (@h_ix _ _ _ _ _ _ (@hv _ 0 _ _ (by rfl) (by first | exact Or.inl rfl | exact Or.inr (Or.inl rfl) | exact Or.inr (Or.inr rfl)) (by decide) (by decide)) h_int (by intro _ _; rfl)) a_nil (by rfl)) (by rfl) (by decide) (by decide) (by rfl) (by rfl))))), fun ts M Q h => ?_⟩
 unfold sp_looked at h
 split at h
 · rename_i n w
   obtain ⟨ws, rfl, ok, h⟩ := h
   walk_at "rd"
   refine ⟨ws, rfl, by have := ok.2.2.1; lia, ?_⟩
   rw [ok.is]
   walk_at "rd"
   exact rt3_here (M := M) h
 · exact h.elim
noncomputable def sp_has_form : Sp3 := fun ts M Q => match ts with
 | [.tup t] => ∃ tab : List (List Int), t = tab.map tupT ∧ tab.length < 60 ∧ (∀ r ∈ tab, r.length < 60) ∧ Q (.bl (shB tab)) M
 | _ => False
theorem ok_has_form {P : Program} {w : World} {K : PySem.W.Frag} {mg : Str → Option Value} {base : Heap} {f : Addr} {fd : FuncData} {n : Nat}  (F : Fun K "has_form" "has_form" s_has_form f fd) (hm : mg "has_form" = some (.ref f)) (hb : Binds K fd ["table"] []) (Z : Zs mg)  : Df P w K mg base (n + 1) "has_form" ["table"] sp_has_form := by
 obtain ⟨tk_MOST_COLOURS, c_MOST_COLOURS⟩ := Z.c_MOST_COLOURS
 refine F.dfn hm hb sc_has_form (by intro ts M Q h; unfold sp_has_form at h; first | (split at h <;> first | rfl | exact h.elim) | (obtain ⟨_, _, _, _, _, rfl, _⟩ := h; rfl) | (obtain ⟨_, _, _, _, rfl, _⟩ := h; rfl) | (obtain ⟨_, _, _, rfl, _⟩ := h; rfl) | (obtain ⟨_, _, rfl, _⟩ := h; rfl) | (obtain ⟨_, rfl, _⟩ := h; rfl)) ⟨_, fun cdv A outer s H E hr => (@ss_cons _ _ _ _ _ (@s_set _ _ _ _ 1 _ _ (@h_callB _ _ _ _ _ _ _ _ _ call3_len Z.b_len PySem.boot_len (@a_cons _ _ _ _ _ (@hv _ 0 _ _ (by rfl) (by first | exact Or.inl rfl | exact Or.inr (Or.inl rfl) | exact Or.inr (Or.inr rfl)) (by decide) (by decide)) a_nil (by rfl)) (by rfl) (by decide) (by decide) (by rfl) (by rfl)) sc_has_form.nd (by rfl) (by first | exact Or.inl rfl | exact Or.inr rfl) (by rfl) (by first | exact .inl rfl | exact .inr rfl | assumption)) (@ss_one _ _ _ (@s_ret _ _ _ _ (@h_and _ _ _ _ _ _ _ (@h_chain _ _ _ _ _ _ _ _ _ _ _ _ op3_le op3_le h_int (@hv _ 1 _ _ (by rfl) (by first | exact Or.inl rfl | exact Or.inr (Or.inl rfl) | exact Or.inr (Or.inr rfl)) (by decide) (by decide)) (@h_globI _ _ _ _ _ c_MOST_COLOURS (by rfl) (by decide)) (by with_unfolding_all rfl)) (@h_one _ _ _ _ _ (@h_callB _ _ _ _ _ _ _ _ _ (@call3_all _ rfl) Z.b_all PyProof.Rows.boot_all (@a_cons _ _ _ _ _ (@h_comp _ _ _ _ _ _ _ _ _ _ _ _ _ _ rfl (@i_seq _ _ _ _ (@hv _ 0 _ _ (by rfl) (by first | exact Or.inl rfl | exact Or.inr (Or.inl rfl) | exact Or.inr (Or.inr rfl)) (by decide) (by decide))) (@blk_scope _ (defScope s_has_form) _ (["table", "many"]) (["row", "many"]) ([none, some 1]) (by decide +kernel) rfl rfl) bt_name (fun _ _ _ _ _ => @pg_name _ _ 0 _ (show List.Nodup (["row", "many"] : List Str) by decide +kernel) rfl (Or.inl rfl) (Or.inr rfl)) (fun _ _ _ _ _ => ts_nil) (fun _ _ _ _ _ => (@h_cmp _ _ _ _ _ _ _ _ (@op3_eq _ hr.units) (@h_callB _ _ _ _ _ _ _ _ _ call3_len Z.b_len PySem.boot_len (@a_cons _ _ _ _ _ (@hv _ 0 _ _ (by rfl) (by first | exact Or.inl rfl | exact Or.inr (Or.inl rfl) | exact Or.inr (Or.inr rfl)) (by decide) (by decide)) a_nil (by rfl)) (by rfl) (by decide) (by decide) (by rfl) (by rfl)) (@hv _ 1 _ _ (by rfl) (by first | exact Or.inl rfl | exact Or.inr (Or.inl rfl) | exact Or.inr (Or.inr rfl)) (by decide) (by decide)) (@nomark _ _ (by decide) (by decide)))) (by intro _; rfl)) a_nil (by rfl)) (by rfl) (by decide) (by decide) (by rfl) (by rfl))))))), fun ts M Q h => ?_⟩
 unfold sp_has_form at h
 split at h
 · rename_i t
   obtain ⟨tab, rfl, hl, hr, h⟩ := h
   walk_at "rd"
   unfold shB at h
   refine ite2 (fun c1 => ite2 (fun c2 => ?_) fun c2 => ?_) fun c1 => ?_
   · rw [decide_eq_true (show 1 ≤ tab.length by lia), decide_eq_true (show tab.length ≤ 7 by lia)] at h
     refine ⟨fun i ys M' => ys = ((tab.take i).map fun r => decide (r.length = tab.length)).map T.bl ∧ M' = M, ⟨rfl, rfl⟩, fun _ _ _ _ => trivial, line_len (by lia), ?_, ?_⟩
     · rintro i x ys M' hx ⟨rfl, rfl⟩
       obtain ⟨r, hr', rfl⟩ := get_tupT hx
       refine ⟨?_, rfl⟩
       rw [← take_succ_map (fun r : List Int => decide (r.length = tab.length)) hr', List.map_append, List.length_map]
       rw [show decide ((r.length : Int) = (tab.length : Int)) = decide (r.length = tab.length) from by congr 1; exact propext Int.ofNat_inj]
       rfl
     · rintro ys M' ⟨rfl, rfl⟩ p hp
       rw [List.take_length, bools_map]
       refine rt3_sub (M0 := M') ?_ (Sub.new hp)
       rw [List.all_map]
       exact h
   · rw [decide_eq_false (show ¬ tab.length ≤ 7 by lia), Bool.and_false, Bool.false_and] at h
     exact rt3_here h
   · rw [decide_eq_false (show ¬ 1 ≤ tab.length by lia), Bool.false_and, Bool.false_and] at h
     exact rt3_here h
 · exact h.elim
noncomputable def sp_keeps_third_rule : Sp3 := fun ts M Q => match ts with
 | [.tup t, .int c] => ∃ tab : List (List Int), t = tab.map tupT ∧ tab.length ≤ 7 ∧ (∀ r ∈ tab, r.length = tab.length) ∧ InM tab.length c ∧ (∀ a b, InM tab.length a → InM tab.length b → InM tab.length (g2 tab a b)) ∧ Q (.bl (thB tab c)) M
 | _ => False
theorem ok_keeps_third_rule {P : Program} {w : World} {K : PySem.W.Frag} {mg : Str → Option Value} {base : Heap} {f : Addr} {fd : FuncData} {n : Nat}  (F : Fun K "keeps_third_rule" "keeps_third_rule" s_keeps_third_rule f fd) (hm : mg "keeps_third_rule" = some (.ref f)) (hb : Binds K fd ["table", "c"] []) (Z : Zs mg)  : Df P w K mg base (n + 1) "keeps_third_rule" ["table", "c"] sp_keeps_third_rule := by
 refine F.dfn hm hb sc_keeps_third_rule (by intro ts M Q h; unfold sp_keeps_third_rule at h; first | (split at h <;> first | rfl | exact h.elim) | (obtain ⟨_, _, _, _, _, rfl, _⟩ := h; rfl) | (obtain ⟨_, _, _, _, rfl, _⟩ := h; rfl) | (obtain ⟨_, _, _, rfl, _⟩ := h; rfl) | (obtain ⟨_, _, rfl, _⟩ := h; rfl) | (obtain ⟨_, rfl, _⟩ := h; rfl)) ⟨_, fun cdv A outer s H E hr => (@ss_cons _ _ _ _ _ (@s_for _ _ _ _ _ _ _ _ PassesOwn.never rfl (@i_enumT _ _ _ _ _ _ _ _ Z.b_enumerate (@hv _ 0 _ _ (by rfl) (by first | exact Or.inl rfl | exact Or.inr (Or.inl rfl) | exact Or.inr (Or.inr rfl)) (by decide) (by decide)) (by rfl) (by rfl)) (@g_tup _ _ _ _ _ 2 rfl (@gs_cons _ _ _ _ _ (@g_name _ _ 2 _ sc_keeps_third_rule.nd (by rfl) (by first | exact Or.inl rfl | exact Or.inr rfl) (by first | exact .inl rfl | exact .inr rfl | assumption)) (@gs_cons _ _ _ _ _ (@g_name _ _ 3 _ sc_keeps_third_rule.nd (by rfl) (by first | exact Or.inl rfl | exact Or.inr rfl) (by first | exact .inl rfl | exact .inr rfl | assumption)) gs_nil (by rfl)) (by rfl)) (by rfl) (by rfl)) (@ss_one _ _ _ (@s_for _ _ _ _ _ _ _ _ PassesOwn.never rfl (@i_enumT _ _ _ _ _ _ _ _ Z.b_enumerate (@hv _ 3 _ _ (by rfl) (by first | exact Or.inl rfl | exact Or.inr (Or.inl rfl) | exact Or.inr (Or.inr rfl)) (by decide) (by decide)) (by rfl) (by rfl)) (@g_tup _ _ _ _ _ 2 rfl (@gs_cons _ _ _ _ _ (@g_name _ _ 4 _ sc_keeps_third_rule.nd (by rfl) (by first | exact Or.inl rfl | exact Or.inr rfl) (by first | exact .inl rfl | exact .inr rfl | assumption)) (@gs_cons _ _ _ _ _ (@g_name _ _ 5 _ sc_keeps_third_rule.nd (by rfl) (by first | exact Or.inl rfl | exact Or.inr rfl) (by first | exact .inl rfl | exact .inr rfl | assumption)) gs_nil (by rfl)) (by rfl)) (by rfl) (by rfl)) (@ss_one _ _ _ (@s_if _ _ _ _ _ _ _ _ (@h_tcmp _ _ _ _ _ _ _ _ (@op3_ne _ hr.units) (@h_ix _ _ _ _ _ _ (@h_ix _ _ _ _ _ _ (@hv _ 0 _ _ (by rfl) (by first | exact Or.inl rfl | exact Or.inr (Or.inl rfl) | exact Or.inr (Or.inr rfl)) (by decide) (by decide)) (@hv _ 5 _ _ (by rfl) (by first | exact Or.inl rfl | exact Or.inr (Or.inl rfl) | exact Or.inr (Or.inr rfl)) (by decide) (by decide)) (by intro _ _; rfl)) (@hv _ 1 _ _ (by rfl) (by first | exact Or.inl rfl | exact Or.inr (Or.inl rfl) | exact Or.inr (Or.inr rfl)) (by decide) (by decide)) (by intro _ _; rfl)) (@h_ix _ _ _ _ _ _ (@h_ix _ _ _ _ _ _ (@hv _ 0 _ _ (by rfl) (by first | exact Or.inl rfl | exact Or.inr (Or.inl rfl) | exact Or.inr (Or.inr rfl)) (by decide) (by decide)) (@h_ix _ _ _ _ _ _ (@h_ix _ _ _ _ _ _ (@hv _ 0 _ _ (by rfl) (by first | exact Or.inl rfl | exact Or.inr (Or.inl rfl) | exact Or.inr (Or.inr rfl)) (by decide) (by decide)) (@hv _ 2 _ _ (by rfl) (by first | exact Or.inl rfl | exact Or.inr (Or.inl rfl) | exact Or.inr (Or.inr rfl)) (by decide) (by decide)) (by intro _ _; rfl)) (@hv _ 1 _ _ (by rfl) (by first | exact Or.inl rfl | exact Or.inr (Or.inl rfl) | exact Or.inr (Or.inr rfl)) (by decide) (by decide)) (by intro _ _; rfl)) (by intro _ _; rfl)) (@h_ix _ _ _ _ _ _ (@h_ix _ _ _ _ _ _ (@hv _ 0 _ _ (by rfl) (by first | exact Or.inl rfl | exact Or.inr (Or.inl rfl) | exact Or.inr (Or.inr rfl)) (by decide) (by decide)) (@hv _ 4 _ _ (by rfl) (by first | exact Or.inl rfl | exact Or.inr (Or.inl rfl) | exact Or.inr (Or.inr rfl)) (by decide) (by decide)) (by intro _ _; rfl)) (@hv _ 1 _ _ (by rfl) (by first | exact Or.inl rfl | exact Or.inr (Or.inl rfl) | exact Or.inr (Or.inr rfl)) (by decide) (by decide)) (by intro _ _; rfl)) (by intro _ _; rfl)) (@nomark _ _ (by decide) (by decide))) (@ss_one _ _ _ (@s_ret _ _ _ _ h_bl)) ss_nil)) (by intro _; rfl))) (by intro _; rfl)) (@ss_one _ _ _ (@s_ret _ _ _ _ h_bl))), fun ts M Q h => ?_⟩
 unfold sp_keeps_third_rule at h
 split at h
 · rename_i t c
   obtain ⟨tab, rfl, hl, hr, hc, hin, h⟩ := h
   have row : ∀ {a : Int}, InM tab.length a → atI (tab.map tupT) a = some (T.tup ((tab.getD a.toNat []).map T.int)) ∧ (tab.getD a.toNat []).length = tab.length := fun {a} ha => tab_row hr ha
   have at2 : ∀ {a b : Int}, InM tab.length a → InM tab.length b → atI ((tab.getD a.toNat []).map T.int) b = some (.int (g2 tab a b)) := fun {a b} ha hb => tab_at hr ha hb
   refine seq_cut fun K1 hK1 => ?_
   refine for_cut fun B1 hB1 => ?_
   walk_at "rd"
   unfold tFor3
   walk_at "rd"
   refine ⟨fun i ρ M' => (∃ x1 x2 x3 x4, ρ = [some (T.tup (List.map tupT tab)), some (T.int c), x1, x2, x3, x4]) ∧ M' = M ∧ ∀ a, 0 ≤ a → a < (i : Int) → thA tab c a = true, ⟨⟨_, _, _, _, rfl⟩, rfl, fun a h1 h2 => absurd h2 (by lia)⟩, fun _ _ _ _ => trivial, ?_, ?_⟩
   · rintro i x ρ M' hx ⟨⟨x1, x2, x3, x4, rfl⟩, rfl, ih⟩
     obtain ⟨t, hx2, rfl⟩ := enT_get hx
     obtain ⟨r, hx3, rfl⟩ := get_tupT hx2
     have hi : i < tab.length := (List.getElem?_eq_some_iff.mp hx3).1
     have ha : InM tab.length (i : Int) := ⟨by lia, by lia⟩
     have er : r = tab.getD (i : Int).toNat [] := by rw [Int.toNat_natCast, List.getD_eq_getElem?_getD, hx3]; rfl
     subst er
     walk_at "rd"
     rw [hB1]
     refine for_cut fun B2 hB2 => ?_
     rw [show tupT (tab.getD (i : Int).toNat []) = T.tup ((tab.getD (i : Int).toNat []).map T.int) from rfl]
     unfold tFor3
     walk_at "rd"
     refine ⟨fun j ρ M2 => (∃ x3 x4, ρ = [some (T.tup (List.map tupT tab)), some (T.int c), some (T.int i), some (T.tup ((tab.getD (i : Int).toNat []).map T.int)), x3, x4]) ∧ M2 = M' ∧ ∀ b, 0 ≤ b → b < (j : Int) → g2 tab (g2 tab i b) c = g2 tab (g2 tab i c) (g2 tab b c), ⟨⟨_, _, rfl⟩, rfl, fun a h1 h2 => absurd h2 (by lia)⟩, fun _ _ _ _ => trivial, ?_, ?_⟩
     · rintro j x ρ M2 hy ⟨⟨x3, x4, rfl⟩, rfl, ih2⟩
       obtain ⟨t, hy2, rfl⟩ := enT_get hy
       obtain ⟨u, hy3, rfl⟩ := get_map_int hy2
       have hj : j < tab.length := by have := (List.getElem?_eq_some_iff.mp hy3).1; rwa [(row ha).2] at this
       have hb : InM tab.length (j : Int) := ⟨by lia, by lia⟩
       have eu : u = g2 tab i j := by
         have := at2 ha hb
         rw [atI_ints _ _ hb.1 (by rw [(row ha).2]; exact hb.2)] at this
         unfold g2 gI
         rw [Int.toNat_natCast j, List.getD_eq_getElem?_getD, hy3]; rfl
       subst eu
       walk_at "rd"
       rw [hB2]
       walk_at "rd"
       have hij := hin _ _ ha hb
       have hic := hin _ _ ha hc
       have hjc := hin _ _ hb hc
       rw [(row hij).1, (row ha).1, (row hb).1]
       dsimp only
       rw [at2 hij hc, at2 ha hc, at2 hb hc]
       dsimp only
       rw [(row hic).1]
       dsimp only
       rw [at2 hic hjc]
       walk_at "rd"
       refine ite2 (fun ne => ?_) (fun eq => ?_)
       · have e : thB tab c = false := by
           refine Bool.eq_false_iff.mpr fun z => ?_
           have z1 := List.all_eq_true.mp (List.all_eq_true.mp z i (range0_iff.mpr ha)) j (range0_iff.mpr hb)
           exact ne (of_decide_eq_true z1)
         rw [e] at h
         exact rt3_here h
       · refine ⟨⟨_, _, rfl⟩, fun b h1 h2 => ?_⟩
         rcases (show b < (j : Int) ∨ b = j by lia) with z | rfl
         · exact ih2 b h1 z
         · exact Classical.byContradiction fun z => eq z
     · rintro ρ M2 ⟨⟨x3, x4, rfl⟩, rfl, ih2⟩
       refine ⟨⟨_, _, _, _, rfl⟩, rfl, fun a h1 h2 => ?_⟩
       rcases (show a < (i : Int) ∨ a = i by lia) with z | rfl
       · exact ih a h1 z
       · refine List.all_eq_true.mpr fun b hb => decide_eq_true (ih2 b (range0_iff.mp hb).1 ?_)
         rw [enT_length, List.length_map, (row ha).2]; exact (range0_iff.mp hb).2
   · rintro ρ M' ⟨⟨x1, x2, x3, x4, rfl⟩, rfl, ih⟩
     rw [hK1]
     walk_at "rd"
     have e : thB tab c = true := List.all_eq_true.mpr fun a ha => ih a (range0_iff.mp ha).1 (by rw [enT_length, List.length_map]; exact (range0_iff.mp ha).2)
     rw [e] at h
     exact rt3_here h
 · exact h.elim
noncomputable def sp_is_table : Sp3 := fun ts M Q => match ts with
 | [.tup t] => ∃ tab : List (List Int), t = tab.map tupT ∧ tab.length < 60 ∧ (∀ r ∈ tab, r.length < 60) ∧ Q (.bl (tabB tab)) M
 | _ => False
theorem ok_is_table {P : Program} {w : World} {K : PySem.W.Frag} {mg : Str → Option Value} {base : Heap} {f : Addr} {fd : FuncData} {n : Nat}  (F : Fun K "is_table" "is_table" s_is_table f fd) (hm : mg "is_table" = some (.ref f)) (hb : Binds K fd ["table"] []) (Z : Zs mg) (D_has_form : Df P w K mg base n "has_form" ["table"] sp_has_form) (D_keeps_third_rule : Df P w K mg base n "keeps_third_rule" ["table", "c"] sp_keeps_third_rule) : Df P w K mg base (n + 1) "is_table" ["table"] sp_is_table := by
 refine F.dfn hm hb sc_is_table (by intro ts M Q h; unfold sp_is_table at h; first | (split at h <;> first | rfl | exact h.elim) | (obtain ⟨_, _, _, _, _, rfl, _⟩ := h; rfl) | (obtain ⟨_, _, _, _, rfl, _⟩ := h; rfl) | (obtain ⟨_, _, _, rfl, _⟩ := h; rfl) | (obtain ⟨_, _, rfl, _⟩ := h; rfl) | (obtain ⟨_, rfl, _⟩ := h; rfl)) ⟨_, fun cdv A outer s H E hr => (@ss_cons _ _ _ _ _ (@s_if _ _ _ _ _ _ _ _ (@h_not _ _ _ _ (@h_truth _ _ _ (@h_call _ _ _ _ _ _ _ _ _ _ D_has_form hr (@a_cons _ _ _ _ _ (@hv _ 0 _ _ (by rfl) (by first | exact Or.inl rfl | exact Or.inr (Or.inl rfl) | exact Or.inr (Or.inr rfl)) (by decide) (by decide)) a_nil (by rfl)) (by rfl) (by decide) (by rfl) (by rfl)) (by intro _; rfl))) (@ss_one _ _ _ (@s_ret _ _ _ _ h_bl)) ss_nil) (@ss_cons _ _ _ _ _ (@s_set _ _ _ _ 1 _ _ (@h_listRange1 _ _ _ _ _ _ _ Z.b_list Z.b_range (@a_cons _ _ _ _ _ (@h_callB _ _ _ _ _ _ _ _ _ call3_len Z.b_len PySem.boot_len (@a_cons _ _ _ _ _ (@hv _ 0 _ _ (by rfl) (by first | exact Or.inl rfl | exact Or.inr (Or.inl rfl) | exact Or.inr (Or.inr rfl)) (by decide) (by decide)) a_nil (by rfl)) (by rfl) (by decide) (by decide) (by rfl) (by rfl)) a_nil (by rfl)) (by rfl) (by rfl) (by rfl) (by rfl) (by rfl)) sc_is_table.nd (by rfl) (by first | exact Or.inl rfl | exact Or.inr rfl) (by rfl) (by first | exact .inl rfl | exact .inr rfl | assumption)) (@ss_cons _ _ _ _ _ (@s_for _ _ _ _ _ _ _ _ PassesOwn.never rfl (@i_seq _ _ _ _ (@hv _ 1 _ _ (by rfl) (by first | exact Or.inl rfl | exact Or.inr (Or.inl rfl) | exact Or.inr (Or.inr rfl)) (by decide) (by decide))) (@g_name _ _ 2 _ sc_is_table.nd (by rfl) (by first | exact Or.inl rfl | exact Or.inr rfl) (by first | exact .inl rfl | exact .inr rfl | assumption)) (@ss_one _ _ _ (@s_if _ _ _ _ _ _ _ _ (@HW.ht _ _ _ (@w_or _ _ _ _ _ _ _ (@h_tcmp _ _ _ _ _ _ _ _ (@op3_ne _ hr.units) (@h_ix _ _ _ _ _ _ (@h_ix _ _ _ _ _ _ (@hv _ 0 _ _ (by rfl) (by first | exact Or.inl rfl | exact Or.inr (Or.inl rfl) | exact Or.inr (Or.inr rfl)) (by decide) (by decide)) (@hv _ 2 _ _ (by rfl) (by first | exact Or.inl rfl | exact Or.inr (Or.inl rfl) | exact Or.inr (Or.inr rfl)) (by decide) (by decide)) (by intro _ _; rfl)) (@hv _ 2 _ _ (by rfl) (by first | exact Or.inl rfl | exact Or.inr (Or.inl rfl) | exact Or.inr (Or.inr rfl)) (by decide) (by decide)) (by intro _ _; rfl)) (@hv _ 2 _ _ (by rfl) (by first | exact Or.inl rfl | exact Or.inr (Or.inl rfl) | exact Or.inr (Or.inr rfl)) (by decide) (by decide)) (@nomark _ _ (by decide) (by decide))) (@w_or1 _ _ _ _ (@h_tcmp _ _ _ _ _ _ _ _ (@op3_ne _ hr.units) (@h_callB _ _ _ _ _ _ _ _ _ call3_sorted Z.b_sorted PyProof.Rows.boot_sorted (@a_cons _ _ _ _ _ (@h_comp _ _ _ _ _ _ _ _ _ _ _ _ _ _ rfl (@i_seq _ _ _ _ (@hv _ 0 _ _ (by rfl) (by first | exact Or.inl rfl | exact Or.inr (Or.inl rfl) | exact Or.inr (Or.inr rfl)) (by decide) (by decide))) (@blk_scope _ (defScope s_is_table) _ (["table", "colours", "colour"]) (["row", "colour"]) ([none, some 2]) (by decide +kernel) rfl rfl) bt_name (fun _ _ _ _ _ => @pg_name _ _ 0 _ (show List.Nodup (["row", "colour"] : List Str) by decide +kernel) rfl (Or.inl rfl) (Or.inr rfl)) (fun _ _ _ _ _ => ts_nil) (fun _ _ _ _ _ => (@h_ix _ _ _ _ _ _ (@hv _ 0 _ _ (by rfl) (by first | exact Or.inl rfl | exact Or.inr (Or.inl rfl) | exact Or.inr (Or.inr rfl)) (by decide) (by decide)) (@hv _ 1 _ _ (by rfl) (by first | exact Or.inl rfl | exact Or.inr (Or.inl rfl) | exact Or.inr (Or.inr rfl)) (by decide) (by decide)) (by intro _ _; rfl))) (by intro _; rfl)) a_nil (by rfl)) (by rfl) (by decide) (by decide) (by rfl) (by rfl)) (@hv _ 1 _ _ (by rfl) (by first | exact Or.inl rfl | exact Or.inr (Or.inl rfl) | exact Or.inr (Or.inr rfl)) (by decide) (by decide)) (@nomark _ _ (by decide) (by decide)))))) (@ss_one _ _ _ (@s_ret _ _ _ _ h_bl)) ss_nil)) (by intro _; rfl)) (@ss_one _ _ _ (@s_ret _ _ _ _ (@h_callB _ _ _ _ _ _ _ _ _ (@call3_all _ rfl) Z.b_all PyProof.Rows.boot_all (@a_cons _ _ _ _ _ (@h_comp _ _ _ _ _ _ _ _ _ _ _ _ _ _ rfl (@i_seq _ _ _ _ (@hv _ 1 _ _ (by rfl) (by first | exact Or.inl rfl | exact Or.inr (Or.inl rfl) | exact Or.inr (Or.inr rfl)) (by decide) (by decide))) (@blk_scope _ (defScope s_is_table) _ (["table", "colours", "colour"]) (["colour", "table"]) ([none, some 0]) (by decide +kernel) rfl rfl) bt_name (fun _ _ _ _ _ => @pg_name _ _ 0 _ (show List.Nodup (["colour", "table"] : List Str) by decide +kernel) rfl (Or.inl rfl) (Or.inr rfl)) (fun _ _ _ _ _ => ts_nil) (fun _ _ _ _ _ => (@h_call _ _ _ _ _ _ _ _ _ _ D_keeps_third_rule hr (@a_cons _ _ _ _ _ (@hv _ 1 _ _ (by rfl) (by first | exact Or.inl rfl | exact Or.inr (Or.inl rfl) | exact Or.inr (Or.inr rfl)) (by decide) (by decide)) (@a_cons _ _ _ _ _ (@hv _ 0 _ _ (by rfl) (by first | exact Or.inl rfl | exact Or.inr (Or.inl rfl) | exact Or.inr (Or.inr rfl)) (by decide) (by decide)) a_nil (by rfl)) (by rfl)) (by rfl) (by decide) (by rfl) (by rfl))) (by intro _; rfl)) a_nil (by rfl)) (by rfl) (by decide) (by decide) (by rfl) (by rfl))))))), fun ts M Q h => ?_⟩
 unfold sp_is_table at h
 split at h
 · rename_i t
   obtain ⟨tab, rfl, hl, hr, h⟩ := h
   refine seq_cut fun K1 hK1 => ?_
   walk_at "rd"
   refine ⟨tab, rfl, hl, hr, ?_⟩
   dsimp only
   by_cases c1 : shB tab = true
   · rw [c1, if_neg (by decide), hK1]
     clear hK1
     obtain ⟨l1, l7, rows⟩ := shB_iff.mp c1
     refine seq_cut fun K2 hK2 => ?_
     walk_at "rd"
     refine ⟨by constructor <;> lia, fun q hq => ?_⟩
     rw [rangeT_range0, hK2]
     clear hK2
     have hM : (updM M q (MO.lst ((range0 tab.length).map T.int))) q = some (.lst ((range0 tab.length).map T.int)) := updM_same
     have hS : Sub M (updM M q (MO.lst ((range0 tab.length).map T.int))) := Sub.new hq
     generalize updM M q (MO.lst ((range0 tab.length).map T.int)) = M1 at hM hS ⊢
     refine seq_cut fun K3 hK3 => ?_
     refine for_cut fun B hB => ?_
     unfold tFor3
     walk_at "rd"
     rw [hM]
     dsimp only
     refine ⟨fun i ρ M' => (∃ x1, ρ = [some (T.tup (List.map tupT tab)), some (T.adr q), x1]) ∧ Sub M1 M' ∧ ∀ c, 0 ≤ c → c < (i : Int) → coB tab c = true, ⟨⟨_, rfl⟩, Sub.refl, fun a h1 h2 => absurd h2 (by lia)⟩, ?_, ?_, ?_⟩
     · rintro i ρ M' ⟨_, hS2, _⟩
       exact hS2 _ _ hM
     · rintro i x ρ M' hx ⟨⟨x1, rfl⟩, hS2, ih⟩
       obtain ⟨c, hx2, rfl⟩ := get_map_int hx
       have hi : i < tab.length := by have := (List.getElem?_eq_some_iff.mp hx2).1; rw [range0_length] at this; lia
       have hc : c = (i : Int) := by
         unfold range0 at hx2
         rw [List.getElem?_map, List.getElem?_range (by lia)] at hx2
         exact (Option.some.inj hx2).symm
       subst hc
       have hci : InM tab.length (i : Int) := ⟨by lia, by lia⟩
       rw [hB]
       walk_at "rd"
       rw [(tab_row rows hci).1]
       dsimp only
       rw [tab_at rows hci hci]
       walk_at "rd"
       refine ite2 (fun ne => ?_) (fun eq => ?_)
       · have e : tabB tab = false := coB_not hci fun z => by
           unfold coB at z
           rw [Bool.and_eq_true, decide_eq_true_eq] at z
           exact ne z.1
         rw [e] at h
         exact rt3_sub h (hS.trans hS2)
       · refine ⟨fun j ys M2 => ys = ((tab.take j).map fun r => gI r i).map T.int ∧ M2 = M', ⟨rfl, rfl⟩, fun _ _ _ _ => trivial, line_len (by lia), ?_, ?_⟩
         · rintro j x ys M2 hy ⟨rfl, rfl⟩
           obtain ⟨r, hy2, rfl⟩ := get_tupT hy
           unfold tupT
           dsimp only
           rw [col_row rows hy2 hci]
           dsimp only
           refine ⟨?_, rfl⟩
           rw [← take_succ_map (fun r : List Int => gI r i) hy2, List.map_append]; rfl
         · rintro ys M2 ⟨rfl, rfl⟩ p hp
           refine ⟨_, rfl, by rw [List.length_map, List.length_take]; lia, fun ms hpm hps r hr2 => ?_⟩
           rw [List.take_length] at hpm
           have hS3 := (Sub.new hp (o := MO.lst (((tab.take tab.length).map fun r => gI r i).map T.int))).newr hr2 (o := MO.lst (ms.map T.int))
           generalize updM (updM M2 p (MO.lst (((tab.take tab.length).map fun r => gI r i).map T.int))) r (MO.lst (ms.map T.int)) = M3 at hS3 ⊢
           rw [hS3 _ _ (hS2 _ _ hM)]
           dsimp only
           rw [eqTs_ints, sorted_is hpm hps]
           refine ⟨pureTs_ints _, pureTs_ints _, by rw [depTs_ints]; lia, ?_⟩
           by_cases c2 : (tab.map fun r => gI r i).Perm (range0 tab.length)
           · rw [decide_eq_true c2, if_neg (by decide)]
             refine ⟨⟨_, rfl⟩, hS2.trans hS3, fun c h1 h2 => ?_⟩
             rcases (show c < (i : Int) ∨ c = i by lia) with z | rfl
             · exact ih c h1 z
             · unfold coB
               rw [decide_eq_true (show g2 tab i i = i from Classical.byContradiction fun z => eq z), decide_eq_true c2]; rfl
           · rw [decide_eq_false c2, if_pos rfl]
             have e : tabB tab = false := coB_not hci fun z => by
               unfold coB at z
               rw [Bool.and_eq_true, decide_eq_true_eq, decide_eq_true_eq] at z
               exact c2 z.2
             rw [e] at h
             exact rt3_sub h (hS.trans (hS2.trans hS3))
     · rintro ρ M' ⟨⟨x1, rfl⟩, hS2, ih⟩
       rw [hK3]
       clear hK3
       have hco : ∀ c, InM tab.length c → coB tab c = true := fun c hc => ih c hc.1 (by rw [List.length_map, range0_length]; have := hc.2; lia)
       walk_at "rd"
       rw [hS2 _ _ hM]
       dsimp only
       refine ⟨fun j ys M2 => ys = (((range0 tab.length).take j).map (thB tab)).map T.bl ∧ M2 = M', ⟨rfl, rfl⟩, ?_, by rw [List.length_map, range0_length]; exact line_len (by lia), ?_, ?_⟩
       · rintro j ys M2 ⟨_, rfl⟩
         exact hS2 _ _ hM
       · rintro j x ys M2 hx ⟨rfl, rfl⟩
         obtain ⟨c, hx2, rfl⟩ := get_map_int hx
         have hc : InM tab.length c := range0_iff.mp (List.mem_of_getElem? hx2)
         refine ⟨tab, rfl, l7, rows, hc, fun a b => coB_col hco, ?_, rfl⟩
         rw [← take_succ_map (thB tab) hx2, List.map_append]; rfl
       · rintro ys M2 ⟨rfl, rfl⟩ p hp
         rw [List.length_map, List.take_length, bools_map]
         dsimp only
         have e : tabB tab = (((range0 tab.length).map (thB tab)).all id) := by
           unfold tabB
           rw [c1, List.all_eq_true.mpr (fun c hc => hco c (range0_iff.mp hc)), List.all_map]; rfl
         rw [← e]
         exact rt3_sub h ((hS.trans hS2).newr hp)
   · have e : tabB tab = false := by
       unfold tabB
       rw [Bool.eq_false_iff.mpr c1]; rfl
     rw [Bool.eq_false_iff.mpr c1, if_pos rfl]
     rw [e] at h
     exact rt3_here h
 · exact h.elim
noncomputable def sp_looked_table : Sp3 := fun ts M Q => match ts with
 | [.tup t] => ∃ tab : List (List Int), t = tab.map tupT ∧ tabB tab = true ∧ Q .non M
 | _ => False
theorem ok_looked_table {P : Program} {w : World} {K : PySem.W.Frag} {mg : Str → Option Value} {base : Heap} {f : Addr} {fd : FuncData} {n : Nat}  (F : Fun K "looked_table" "looked_table" s_looked_table f fd) (hm : mg "looked_table" = some (.ref f)) (hb : Binds K fd ["table"] []) (Z : Zs mg) (D_is_table : Df P w K mg base n "is_table" ["table"] sp_is_table) : Df P w K mg base (n + 1) "looked_table" ["table"] sp_looked_table := by
 refine F.dfn hm hb sc_looked_table (by intro ts M Q h; unfold sp_looked_table at h; first | (split at h <;> first | rfl | exact h.elim) | (obtain ⟨_, _, _, _, _, rfl, _⟩ := h; rfl) | (obtain ⟨_, _, _, _, rfl, _⟩ := h; rfl) | (obtain ⟨_, _, _, rfl, _⟩ := h; rfl) | (obtain ⟨_, _, rfl, _⟩ := h; rfl) | (obtain ⟨_, rfl, _⟩ := h; rfl)) ⟨_, fun cdv A outer s H E hr => (@ss_one _ _ _ (@s_if _ _ _ _ _ _ _ _ (@h_not _ _ _ _ (@h_truth _ _ _ (@h_call _ _ _ _ _ _ _ _ _ _ D_is_table hr (@a_cons _ _ _ _ _ (@hv _ 0 _ _ (by rfl) (by first | exact Or.inl rfl | exact Or.inr (Or.inl rfl) | exact Or.inr (Or.inr rfl)) (by decide) (by decide)) a_nil (by rfl)) (by rfl) (by decide) (by rfl) (by rfl)) (by intro _; rfl))) (@ss_one _ _ _ s_never) ss_nil)), fun ts M Q h => ?_⟩
 unfold sp_looked_table at h
 split at h
 · rename_i t
   obtain ⟨tab, rfl, ht, h⟩ := h
   have ok := tabB_ok ht
   have := ok.l7
   walk_at "rd"
   refine ⟨tab, rfl, by lia, fun r hr => by rw [ok.rows r hr]; lia, ?_⟩
   dsimp only
   rw [ht, if_neg (by decide)]
   exact rt3_here h
 · exact h.elim
noncomputable def CB (tab : List (List Int)) (kvs : List (List Key × T)) : Prop := ∀ a c, InM tab.length a → InM tab.length c → valT kvs [.inl (g2 tab a c), .inl c] = some (.int a)
noncomputable def sp_undone : Sp3 := fun ts M Q => match ts with
 | [.tup t] => ∃ tab : List (List Int), t = tab.map tupT ∧ tabB tab = true ∧ ∀ kvs p, CB tab kvs → M p = none → Q (.adr p) (updM M p (.dt kvs))
 | _ => False
theorem ok_undone {P : Program} {w : World} {K : PySem.W.Frag} {mg : Str → Option Value} {base : Heap} {f : Addr} {fd : FuncData} {n : Nat}  (F : Fun K "undone" "undone" s_undone f fd) (hm : mg "undone" = some (.ref f)) (hb : Binds K fd ["table"] []) (Z : Zs mg)  : Df P w K mg base (n + 1) "undone" ["table"] sp_undone := by
 refine F.dfn hm hb sc_undone (by intro ts M Q h; unfold sp_undone at h; first | (split at h <;> first | rfl | exact h.elim) | (obtain ⟨_, _, _, _, _, rfl, _⟩ := h; rfl) | (obtain ⟨_, _, _, _, rfl, _⟩ := h; rfl) | (obtain ⟨_, _, _, rfl, _⟩ := h; rfl) | (obtain ⟨_, _, rfl, _⟩ := h; rfl) | (obtain ⟨_, rfl, _⟩ := h; rfl)) ⟨_, fun cdv A outer s H E hr => (@ss_cons _ _ _ _ _ (@s_set _ _ _ _ 1 _ _ h_dicT sc_undone.nd (by rfl) (by first | exact Or.inl rfl | exact Or.inr rfl) (by rfl) (by first | exact .inl rfl | exact .inr rfl | assumption)) (@ss_cons _ _ _ _ _ (@s_for _ _ _ _ _ _ _ _ PassesOwn.never rfl (@i_enumT _ _ _ _ _ _ _ _ Z.b_enumerate (@hv _ 0 _ _ (by rfl) (by first | exact Or.inl rfl | exact Or.inr (Or.inl rfl) | exact Or.inr (Or.inr rfl)) (by decide) (by decide)) (by rfl) (by rfl)) (@g_tup _ _ _ _ _ 2 rfl (@gs_cons _ _ _ _ _ (@g_name _ _ 2 _ sc_undone.nd (by rfl) (by first | exact Or.inl rfl | exact Or.inr rfl) (by first | exact .inl rfl | exact .inr rfl | assumption)) (@gs_cons _ _ _ _ _ (@g_name _ _ 3 _ sc_undone.nd (by rfl) (by first | exact Or.inl rfl | exact Or.inr rfl) (by first | exact .inl rfl | exact .inr rfl | assumption)) gs_nil (by rfl)) (by rfl)) (by rfl) (by rfl)) (@ss_one _ _ _ (@s_for _ _ _ _ _ _ _ _ PassesOwn.never rfl (@i_enumT _ _ _ _ _ _ _ _ Z.b_enumerate (@hv _ 3 _ _ (by rfl) (by first | exact Or.inl rfl | exact Or.inr (Or.inl rfl) | exact Or.inr (Or.inr rfl)) (by decide) (by decide)) (by rfl) (by rfl)) (@g_tup _ _ _ _ _ 2 rfl (@gs_cons _ _ _ _ _ (@g_name _ _ 4 _ sc_undone.nd (by rfl) (by first | exact Or.inl rfl | exact Or.inr rfl) (by first | exact .inl rfl | exact .inr rfl | assumption)) (@gs_cons _ _ _ _ _ (@g_name _ _ 5 _ sc_undone.nd (by rfl) (by first | exact Or.inl rfl | exact Or.inr rfl) (by first | exact .inl rfl | exact .inr rfl | assumption)) gs_nil (by rfl)) (by rfl)) (by rfl) (by rfl)) (@ss_one _ _ _ (@s_dpt _ _ _ _ _ _ _ _ _ _ _ hr.units (@hv _ 2 _ _ (by rfl) (by first | exact Or.inl rfl | exact Or.inr (Or.inl rfl) | exact Or.inr (Or.inr rfl)) (by decide) (by decide)) (@hv _ 1 _ _ (by rfl) (by first | exact Or.inl rfl | exact Or.inr (Or.inl rfl) | exact Or.inr (Or.inr rfl)) (by decide) (by decide)) (@a_cons _ _ _ _ _ (@hv _ 5 _ _ (by rfl) (by first | exact Or.inl rfl | exact Or.inr (Or.inl rfl) | exact Or.inr (Or.inr rfl)) (by decide) (by decide)) (@a_cons _ _ _ _ _ (@hv _ 4 _ _ (by rfl) (by first | exact Or.inl rfl | exact Or.inr (Or.inl rfl) | exact Or.inr (Or.inr rfl)) (by decide) (by decide)) a_nil (by rfl)) (by rfl)) (by rfl))) (by intro _; rfl))) (by intro _; rfl)) (@ss_one _ _ _ (@s_ret _ _ _ _ (@hv _ 1 _ _ (by rfl) (by first | exact Or.inl rfl | exact Or.inr (Or.inl rfl) | exact Or.inr (Or.inr rfl)) (by decide) (by decide)))))), fun ts M Q h => ?_⟩
 unfold sp_undone at h
 split at h
 · rename_i t
   obtain ⟨tab, rfl, ht, h⟩ := h
   have ok := tabB_ok ht
   have l7 := ok.l7
   walk_at "rd"
   intro p hp
   refine seq_cut (a := tFor3 _ _ _) fun K1 hK1 => ?_
   refine for_cut fun B1 hB1 => ?_
   unfold tFor3
   walk_at "rd"
   refine ⟨fun i ρ M' => ∃ x1 x2 x3 x4 kvs, ρ = [some (T.tup (List.map tupT tab)), some (.adr p), x1, x2, x3, x4] ∧ M' = updM M p (.dt kvs) ∧ kvs.length ≤ 10 * i ∧ ∀ a c, InM tab.length a → InM tab.length c → a < (i : Int) → valT kvs [.inl (g2 tab a c), .inl c] = some (.int a), ⟨_, _, _, _, [], rfl, rfl, by decide, fun a c h1 h2 h3 => absurd h3 (by have := h1.1; lia)⟩, fun _ _ _ _ => trivial, ?_, ?_⟩
   · rintro i x ρ M' hx ⟨x1, x2, x3, x4, kvs, rfl, rfl, hlen, ih⟩
     obtain ⟨t, hx2, rfl⟩ := enT_get hx
     obtain ⟨r, hx3, rfl⟩ := get_tupT hx2
     have hi : i < tab.length := (List.getElem?_eq_some_iff.mp hx3).1
     have ha : InM tab.length (i : Int) := ⟨by lia, by lia⟩
     have er : r = tab.getD (i : Int).toNat [] := by rw [Int.toNat_natCast, List.getD_eq_getElem?_getD, hx3]; rfl
     subst er
     have hrl := (tab_row ok.rows ha).2
     walk_at "rd"
     rw [hB1]
     refine for_cut fun B2 hB2 => ?_
     rw [show tupT (tab.getD (i : Int).toNat []) = T.tup ((tab.getD (i : Int).toNat []).map T.int) from rfl]
     unfold tFor3
     walk_at "rd"
     refine ⟨fun j ρ M2 => ∃ x3 x4 kvs2, ρ = [some (T.tup (List.map tupT tab)), some (.adr p), some (.int i), some (T.tup ((tab.getD (i : Int).toNat []).map T.int)), x3, x4] ∧ M2 = updM M p (.dt kvs2) ∧ kvs2.length ≤ 10 * i + j ∧ ∀ a c, InM tab.length a → InM tab.length c → (a < (i : Int) ∨ (a = (i : Int) ∧ c < (j : Int))) → valT kvs2 [.inl (g2 tab a c), .inl c] = some (.int a), ⟨_, _, kvs, rfl, rfl, hlen, fun a c h1 h2 h3 => ih a c h1 h2 (by have := h2.1; lia)⟩, fun _ _ _ _ => trivial, ?_, ?_⟩
     · rintro j x ρ M2 hy ⟨x3, x4, kvs2, rfl, rfl, hlen2, ih2⟩
       obtain ⟨t, hy2, rfl⟩ := enT_get hy
       obtain ⟨u, hy3, rfl⟩ := get_map_int hy2
       have hj : j < tab.length := by have := (List.getElem?_eq_some_iff.mp hy3).1; rwa [hrl] at this
       have hb : InM tab.length (j : Int) := ⟨by lia, by lia⟩
       have eu : u = g2 tab i j := by
         unfold g2 gI
         rw [Int.toNat_natCast j, List.getD_eq_getElem?_getD, hy3]; rfl
       subst eu
       walk_at "rd"
       rw [hB2]
       walk_at "rd"
       refine ⟨by decide, [.inl (g2 tab i j), .inl (j : Int)], rfl, line_len (by lia), _, _, _, rfl, rfl, Nat.le_trans (putT_len _ _ _) (by lia), fun a c h1 h2 h3 => ?_⟩
       rw [valT_put]
       by_cases e : ([.inl (g2 tab a c), .inl c] : List Key) = [.inl (g2 tab i j), .inl (j : Int)]
       · rw [if_pos e]
         injection e with e1 e2
         injection e1 with e1
         injection e2 with e2 _
         injection e2 with e2
         subst e2
         rw [ok.inj h1 ha h2 e1]
       · rw [if_neg e]
         refine ih2 a c h1 h2 ?_
         rcases h3 with z | ⟨z, z2⟩
         · exact .inl z
         · rcases (show c < (j : Int) ∨ c = j by lia) with y | y
           · exact .inr ⟨z, y⟩
           · exact absurd (by rw [z, y]) e
     · rintro ρ M2 ⟨x3, x4, kvs2, rfl, rfl, hlen2, ih2⟩
       have el : (enT (List.map T.int (tab.getD (i : Int).toNat []))).length = tab.length := by rw [enT_length, List.length_map, hrl]
       rw [el] at ih2 hlen2
       exact ⟨_, _, _, _, kvs2, rfl, rfl, by lia, fun a c h1 h2 h3 => ih2 a c h1 h2 (by have := h2.2; lia)⟩
   · rintro ρ M' ⟨x1, x2, x3, x4, kvs, rfl, rfl, hlen, ih⟩
     rw [enT_length, List.length_map] at ih
     rw [hK1]
     walk_at "rd"
     exact rt3_here (h kvs p (fun a c h1 h2 => ih a c h1 h2 h1.2) hp)
 · exact h.elim
noncomputable def sp_led_down : Sp3 := fun ts M Q => match ts with
 | [.tup t, .adr p, .tup w, .tup c] => ∃ (tab : List (List Int)) (ws cs : List Int) (kvs : List (List Key × T)), t = tab.map tupT ∧ w = ws.map .int ∧ c = cs.map .int ∧ M p = some (.dt kvs) ∧ tabB tab = true ∧ CB tab kvs ∧ WordOK cs.length ws ∧ InA tab.length cs ∧ ws.length < 60 ∧ cs.length < 60 ∧ Q (.tup ((dn tab ws cs).map .int)) M
 | _ => False
theorem ok_led_down {P : Program} {w : World} {K : PySem.W.Frag} {mg : Str → Option Value} {base : Heap} {f : Addr} {fd : FuncData} {n : Nat}  (F : Fun K "led_down" "led_down" s_led_down f fd) (hm : mg "led_down" = some (.ref f)) (hb : Binds K fd ["table", "colour_by", "word", "colours"] []) (Z : Zs mg)  : Df P w K mg base (n + 1) "led_down" ["table", "colour_by", "word", "colours"] sp_led_down := by
 refine F.dfn hm hb sc_led_down (by intro ts M Q h; unfold sp_led_down at h; first | (split at h <;> first | rfl | exact h.elim) | (obtain ⟨_, _, _, _, _, rfl, _⟩ := h; rfl) | (obtain ⟨_, _, _, _, rfl, _⟩ := h; rfl) | (obtain ⟨_, _, _, rfl, _⟩ := h; rfl) | (obtain ⟨_, _, rfl, _⟩ := h; rfl) | (obtain ⟨_, rfl, _⟩ := h; rfl)) ⟨_, fun cdv A outer s H E hr => (@ss_cons _ _ _ _ _ (@s_set _ _ _ _ 4 _ _ (@h_callT _ _ _ _ _ _ _ _ _ call3_list Z.b_list PyProof.Rows.boot_list (@a_cons _ _ _ _ _ (@hv _ 3 _ _ (by rfl) (by first | exact Or.inl rfl | exact Or.inr (Or.inl rfl) | exact Or.inr (Or.inr rfl)) (by decide) (by decide)) a_nil (by rfl)) (by rfl) (by decide) (by decide) (by rfl) (by rfl)) sc_led_down.nd (by rfl) (by first | exact Or.inl rfl | exact Or.inr rfl) (by rfl) (by first | exact .inl rfl | exact .inr rfl | assumption)) (@ss_cons _ _ _ _ _ (@s_for _ _ _ _ _ _ _ _ PassesOwn.never rfl (@i_seq _ _ _ _ (@hv _ 2 _ _ (by rfl) (by first | exact Or.inl rfl | exact Or.inr (Or.inl rfl) | exact Or.inr (Or.inr rfl)) (by decide) (by decide))) (@g_name _ _ 5 _ sc_led_down.nd (by rfl) (by first | exact Or.inl rfl | exact Or.inr rfl) (by first | exact .inl rfl | exact .inr rfl | assumption)) (@ss_cons _ _ _ _ _ (@s_set _ _ _ _ 6 _ _ (@h_bin _ _ _ _ _ _ _ _ op3_sub (@h_callB _ _ _ _ _ _ _ _ _ call3_abs Z.b_abs PyProof.Rows.boot_abs (@a_cons _ _ _ _ _ (@hv _ 5 _ _ (by rfl) (by first | exact Or.inl rfl | exact Or.inr (Or.inl rfl) | exact Or.inr (Or.inr rfl)) (by decide) (by decide)) a_nil (by rfl)) (by rfl) (by decide) (by decide) (by rfl) (by rfl)) h_int) sc_led_down.nd (by rfl) (by first | exact Or.inl rfl | exact Or.inr rfl) (by rfl) (by first | exact .inl rfl | exact .inr rfl | assumption)) (@ss_cons _ _ _ _ _ (@s_set _ _ _ _ 7 _ _ (@h_ix _ _ _ _ _ _ (@hv _ 4 _ _ (by rfl) (by first | exact Or.inl rfl | exact Or.inr (Or.inl rfl) | exact Or.inr (Or.inr rfl)) (by decide) (by decide)) (@hv _ 6 _ _ (by rfl) (by first | exact Or.inl rfl | exact Or.inr (Or.inl rfl) | exact Or.inr (Or.inr rfl)) (by decide) (by decide)) (by intro _ _; rfl)) sc_led_down.nd (by rfl) (by first | exact Or.inl rfl | exact Or.inr rfl) (by rfl) (by first | exact .inl rfl | exact .inr rfl | assumption)) (@ss_cons _ _ _ _ _ (@s_set _ _ _ _ 8 _ _ (@h_ix _ _ _ _ _ _ (@hv _ 4 _ _ (by rfl) (by first | exact Or.inl rfl | exact Or.inr (Or.inl rfl) | exact Or.inr (Or.inr rfl)) (by decide) (by decide)) (@h_bin _ _ _ _ _ _ _ _ op3_add (@hv _ 6 _ _ (by rfl) (by first | exact Or.inl rfl | exact Or.inr (Or.inl rfl) | exact Or.inr (Or.inr rfl)) (by decide) (by decide)) h_int) (by intro _ _; rfl)) sc_led_down.nd (by rfl) (by first | exact Or.inl rfl | exact Or.inr rfl) (by rfl) (by first | exact .inl rfl | exact .inr rfl | assumption)) (@ss_one _ _ _ (@s_if _ _ _ _ _ _ _ _ (@h_tcmp _ _ _ _ _ _ _ _ op3_gt (@hv _ 5 _ _ (by rfl) (by first | exact Or.inl rfl | exact Or.inr (Or.inl rfl) | exact Or.inr (Or.inr rfl)) (by decide) (by decide)) h_int (@nomark _ _ (by decide) (by decide))) (@ss_cons _ _ _ _ _ (@s_asg _ _ _ _ _ _ (@hv _ 8 _ _ (by rfl) (by first | exact Or.inl rfl | exact Or.inr (Or.inl rfl) | exact Or.inr (Or.inr rfl)) (by decide) (by decide)) (@g_sub _ _ _ _ _ _ (@hv _ 4 _ _ (by rfl) (by first | exact Or.inl rfl | exact Or.inr (Or.inl rfl) | exact Or.inr (Or.inr rfl)) (by decide) (by decide)) (@hv _ 6 _ _ (by rfl) (by first | exact Or.inl rfl | exact Or.inr (Or.inl rfl) | exact Or.inr (Or.inr rfl)) (by decide) (by decide)) (by intro _; rfl)) (by rfl) (by rfl) (by rfl)) (@ss_one _ _ _ (@s_asg _ _ _ _ _ _ (@h_ix _ _ _ _ _ _ (@h_ix _ _ _ _ _ _ (@hv _ 0 _ _ (by rfl) (by first | exact Or.inl rfl | exact Or.inr (Or.inl rfl) | exact Or.inr (Or.inr rfl)) (by decide) (by decide)) (@hv _ 7 _ _ (by rfl) (by first | exact Or.inl rfl | exact Or.inr (Or.inl rfl) | exact Or.inr (Or.inr rfl)) (by decide) (by decide)) (by intro _ _; rfl)) (@hv _ 8 _ _ (by rfl) (by first | exact Or.inl rfl | exact Or.inr (Or.inl rfl) | exact Or.inr (Or.inr rfl)) (by decide) (by decide)) (by intro _ _; rfl)) (@g_sub _ _ _ _ _ _ (@hv _ 4 _ _ (by rfl) (by first | exact Or.inl rfl | exact Or.inr (Or.inl rfl) | exact Or.inr (Or.inr rfl)) (by decide) (by decide)) (@h_bin _ _ _ _ _ _ _ _ op3_add (@hv _ 6 _ _ (by rfl) (by first | exact Or.inl rfl | exact Or.inr (Or.inl rfl) | exact Or.inr (Or.inr rfl)) (by decide) (by decide)) h_int) (by intro _; rfl)) (by rfl) (by rfl) (by rfl)))) (@ss_cons _ _ _ _ _ (@s_asg _ _ _ _ _ _ (@h_dgt _ _ _ _ _ _ _ _ hr.units (@hv _ 1 _ _ (by rfl) (by first | exact Or.inl rfl | exact Or.inr (Or.inl rfl) | exact Or.inr (Or.inr rfl)) (by decide) (by decide)) (@a_cons _ _ _ _ _ (@hv _ 8 _ _ (by rfl) (by first | exact Or.inl rfl | exact Or.inr (Or.inl rfl) | exact Or.inr (Or.inr rfl)) (by decide) (by decide)) (@a_cons _ _ _ _ _ (@hv _ 7 _ _ (by rfl) (by first | exact Or.inl rfl | exact Or.inr (Or.inl rfl) | exact Or.inr (Or.inr rfl)) (by decide) (by decide)) a_nil (by rfl)) (by rfl)) (by intro _ _; rfl)) (@g_sub _ _ _ _ _ _ (@hv _ 4 _ _ (by rfl) (by first | exact Or.inl rfl | exact Or.inr (Or.inl rfl) | exact Or.inr (Or.inr rfl)) (by decide) (by decide)) (@hv _ 6 _ _ (by rfl) (by first | exact Or.inl rfl | exact Or.inr (Or.inl rfl) | exact Or.inr (Or.inr rfl)) (by decide) (by decide)) (by intro _; rfl)) (by rfl) (by rfl) (by rfl)) (@ss_one _ _ _ (@s_asg _ _ _ _ _ _ (@hv _ 7 _ _ (by rfl) (by first | exact Or.inl rfl | exact Or.inr (Or.inl rfl) | exact Or.inr (Or.inr rfl)) (by decide) (by decide)) (@g_sub _ _ _ _ _ _ (@hv _ 4 _ _ (by rfl) (by first | exact Or.inl rfl | exact Or.inr (Or.inl rfl) | exact Or.inr (Or.inr rfl)) (by decide) (by decide)) (@h_bin _ _ _ _ _ _ _ _ op3_add (@hv _ 6 _ _ (by rfl) (by first | exact Or.inl rfl | exact Or.inr (Or.inl rfl) | exact Or.inr (Or.inr rfl)) (by decide) (by decide)) h_int) (by intro _; rfl)) (by rfl) (by rfl) (by rfl))))))))) (by intro _; rfl)) (@ss_one _ _ _ (@s_ret _ _ _ _ (@h_callT _ _ _ _ _ _ _ _ _ call3_tuple Z.b_tuple PyProof.Rows.boot_tuple (@a_cons _ _ _ _ _ (@hv _ 4 _ _ (by rfl) (by first | exact Or.inl rfl | exact Or.inr (Or.inl rfl) | exact Or.inr (Or.inr rfl)) (by decide) (by decide)) a_nil (by rfl)) (by rfl) (by decide) (by decide) (by rfl) (by rfl)))))), fun ts M Q h => ?_⟩
 unfold sp_led_down at h
 split at h
 · rename_i t p w c
   obtain ⟨tab, ws, cs, kvs, rfl, rfl, rfl, hM, ht, hC, hw, hc, lw, lc, h⟩ := h
   have ok := tabB_ok ht
   have l7 := ok.l7
   refine seq_cut fun K1 hK1 => ?_
   walk_at "rd"
   intro q hq
   rw [hK1]
   clear hK1
   have hpq : p ≠ q := fun z => by rw [← z, hM] at hq; cases hq
   refine seq_cut fun K2 hK2 => ?_
   refine for_cut fun B1 hB1 => ?_
   unfold tFor3
   walk_at "rd"
   have hM1 : ∀ x : MO, (updM M q x) p = some (.dt kvs) := fun x => by rw [updM_ne hpq]; exact hM
   refine ⟨fun i ρ M' => ∃ x1 x2 x3 x4, ρ = [some (T.tup (List.map tupT tab)), some (T.adr p), some (T.tup (List.map T.int ws)), some (T.tup (List.map T.int cs)), some (T.adr q), x1, x2, x3, x4] ∧ M' = updM M q (MO.lst ((dn tab (ws.take i) cs).map .int)), ⟨_, _, _, _, rfl, rfl⟩, fun _ _ _ _ => trivial, ?_, ?_⟩
   · rintro i x ρ M' hx ⟨x1, x2, x3, x4, rfl, rfl⟩
     obtain ⟨l, hx2, rfl⟩ := get_map_int hx
     have hl := hw l (List.mem_of_getElem? hx2)
     obtain ⟨hl1, hl2⟩ := hl
     have hin : InA tab.length (dn tab (ws.take i) cs) := dn_in ok (WordOK.take hw i) hc
     have hlen : (dn tab (ws.take i) cs).length = cs.length := dn_length ..
     have hdn := dn_succ tab hx2 cs
     dsimp only
     rw [hdn]
     generalize dn tab (ws.take i) cs = ds at hin hlen ⊢
     rw [hB1]
     clear hB1
     obtain ⟨k, hk⟩ : ∃ k : Nat, l.natAbs = k + 1 := ⟨l.natAbs - 1, by lia⟩
     have hg1 : InM tab.length (gI ds k) := hin _ (by unfold gI; rw [Int.toNat_natCast, List.getD_eq_getElem?_getD, List.getElem?_eq_getElem (by lia)]; exact List.getElem_mem _)
     have hg2 : InM tab.length (gI ds (k + 1)) := hin _ (by unfold gI; rw [show ((k : Int) + 1).toNat = k + 1 by lia, List.getD_eq_getElem?_getD, List.getElem?_eq_getElem (by lia)]; exact List.getElem_mem _)
     have a1 : atI (ds.map T.int) (k : Int) = some (.int (gI ds k)) := gI_at (by lia) (by lia)
     have a2 : atI (ds.map T.int) ((k : Int) + 1) = some (.int (gI ds (k + 1))) := gI_at (by lia) (by lia)
     rw [dn1_at hk (by lia)]
     walk_at "rd"
     rw [hk, show ((k + 1 : Nat) : Int) - 1 = (k : Int) by lia, a1]
     dsimp only
     rw [a2]
     dsimp only
     have i1 : ixN ds.length (k : Int) = some k := ixN_nat (k := (k : Int)) (by lia) (by lia)
     have i2 : ixN ((ds.map T.int).set k (.int (pr1 tab l (gI ds k) (gI ds (k + 1))))).length ((k : Int) + 1) = some (k + 1) := by
       rw [List.length_set, List.length_map]; exact ixN_nat (k := (k : Int) + 1) (by lia) (by lia)
     refine ite2 (fun pos => ?_) (fun pos => ?_)
     · rw [show pr1 tab l (gI ds k) (gI ds (k + 1)) = gI ds (k + 1) from if_pos pos] at i2 ⊢
       rw [show pr2 tab l (gI ds k) (gI ds (k + 1)) = g2 tab (gI ds k) (gI ds (k + 1)) from if_pos pos, i1]
       dsimp only
       rw [(tab_row ok.rows hg1).1]
       dsimp only
       rw [tab_at ok.rows hg1 hg2]
       dsimp only
       rw [i2]
       exact ⟨_, _, _, _, rfl, rfl⟩
     · rw [show pr1 tab l (gI ds k) (gI ds (k + 1)) = iv tab (gI ds (k + 1)) (gI ds k) from if_neg pos] at i2 ⊢
       rw [show pr2 tab l (gI ds k) (gI ds (k + 1)) = gI ds k from if_neg pos, i1]
       dsimp only
       have hv := hC _ _ (ok.iv_spec hg2 hg1).1 hg1
       rw [(ok.iv_spec hg2 hg1).2] at hv
       refine ⟨by decide, ?_⟩
       rw [hM1]
       dsimp only
       refine ⟨[.inl (gI ds (k + 1)), .inl (gI ds k)], _, rfl, hv, ?_⟩
       rw [i2]
       exact ⟨_, _, _, _, rfl, rfl⟩
   · rintro ρ M' ⟨x1, x2, x3, x4, rfl, rfl⟩
     rw [hK2]
     walk_at "rd"
     rw [List.take_length]
     exact rt3_sub h (Sub.new hq)
 · exact h.elim
noncomputable def sp_all_rows : Sp3 := fun ts M Q => match ts with
 | [.int m, .int k] => 1 ≤ m ∧ 0 ≤ k ∧ k ≤ 6 ∧ m ≤ 7 ∧ m.toNat ^ k.toNat ≤ 2500 ∧ ∀ r, M r = none → Q (.adr r) (updM M r (.lst ((alR m k.toNat).map tupT)))
 | _ => False
theorem ok_all_rows {P : Program} {w : World} {K : PySem.W.Frag} {mg : Str → Option Value} {base : Heap} {f : Addr} {fd : FuncData} {n : Nat}  (F : Fun K "all_rows" "all_rows" s_all_rows f fd) (hm : mg "all_rows" = some (.ref f)) (hb : Binds K fd ["many", "places"] []) (Z : Zs mg)  : Df P w K mg base (n + 1) "all_rows" ["many", "places"] sp_all_rows := by
 obtain ⟨tk_MOST_ROWS, c_MOST_ROWS⟩ := Z.c_MOST_ROWS
 refine F.dfn hm hb sc_all_rows (by intro ts M Q h; unfold sp_all_rows at h; first | (split at h <;> first | rfl | exact h.elim) | (obtain ⟨_, _, _, _, _, rfl, _⟩ := h; rfl) | (obtain ⟨_, _, _, _, rfl, _⟩ := h; rfl) | (obtain ⟨_, _, _, rfl, _⟩ := h; rfl) | (obtain ⟨_, _, rfl, _⟩ := h; rfl) | (obtain ⟨_, rfl, _⟩ := h; rfl)) ⟨_, fun cdv A outer s H E hr => (@ss_cons _ _ _ _ _ (@s_set _ _ _ _ 2 _ _ (@h_lst _ _ _ _ (@a_consT _ _ _ _ _ _ _ (@h_tup _ _ _ _ _ a_nil) a_nil)) sc_all_rows.nd (by rfl) (by first | exact Or.inl rfl | exact Or.inr rfl) (by rfl) (by first | exact .inl rfl | exact .inr rfl | assumption)) (@ss_cons _ _ _ _ _ (@s_for _ _ _ _ _ _ _ _ PassesOwn.never rfl (@i_range1 _ _ _ _ _ _ Z.b_range (@a_cons _ _ _ _ _ (@hv _ 1 _ _ (by rfl) (by first | exact Or.inl rfl | exact Or.inr (Or.inl rfl) | exact Or.inr (Or.inr rfl)) (by decide) (by decide)) a_nil (by rfl)) (by rfl) (by rfl)) (@g_name _ _ 3 _ sc_all_rows.nd (by rfl) (by first | exact Or.inl rfl | exact Or.inr rfl) (by first | exact .inl rfl | exact .inr rfl | assumption)) (@ss_cons _ _ _ _ _ (@s_if _ _ _ _ _ _ _ _ (@h_tcmp _ _ _ _ _ _ _ _ op3_gt (@h_bin _ _ _ _ _ _ _ _ op3_mul (@h_callB _ _ _ _ _ _ _ _ _ call3_len Z.b_len PySem.boot_len (@a_cons _ _ _ _ _ (@hv _ 2 _ _ (by rfl) (by first | exact Or.inl rfl | exact Or.inr (Or.inl rfl) | exact Or.inr (Or.inr rfl)) (by decide) (by decide)) a_nil (by rfl)) (by rfl) (by decide) (by decide) (by rfl) (by rfl)) (@hv _ 0 _ _ (by rfl) (by first | exact Or.inl rfl | exact Or.inr (Or.inl rfl) | exact Or.inr (Or.inr rfl)) (by decide) (by decide))) (@h_globI _ _ _ _ _ c_MOST_ROWS (by rfl) (by decide)) (@nomark _ _ (by decide) (by decide))) (@ss_one _ _ _ s_never) ss_nil) (@ss_cons _ _ _ _ _ (@s_set _ _ _ _ 4 _ _ (@h_lst _ _ _ _ a_nil) sc_all_rows.nd (by rfl) (by first | exact Or.inl rfl | exact Or.inr rfl) (by rfl) (by first | exact .inl rfl | exact .inr rfl | assumption)) (@ss_cons _ _ _ _ _ (@s_for _ _ _ _ _ _ _ _ PassesOwn.never rfl (@i_seq _ _ _ _ (@hv _ 2 _ _ (by rfl) (by first | exact Or.inl rfl | exact Or.inr (Or.inl rfl) | exact Or.inr (Or.inr rfl)) (by decide) (by decide))) (@g_name _ _ 5 _ sc_all_rows.nd (by rfl) (by first | exact Or.inl rfl | exact Or.inr rfl) (by first | exact .inl rfl | exact .inr rfl | assumption)) (@ss_one _ _ _ (@s_expr _ _ _ _ (@h_m_extend _ _ _ _ _ _ _ _ (@hv _ 4 _ _ (by rfl) (by first | exact Or.inl rfl | exact Or.inr (Or.inl rfl) | exact Or.inr (Or.inr rfl)) (by decide) (by decide)) (@a_cons _ _ _ _ _ (@h_comp _ _ _ _ _ _ _ _ _ _ _ _ _ _ rfl (@i_range1 _ _ _ _ _ _ Z.b_range (@a_cons _ _ _ _ _ (@hv _ 0 _ _ (by rfl) (by first | exact Or.inl rfl | exact Or.inr (Or.inl rfl) | exact Or.inr (Or.inr rfl)) (by decide) (by decide)) a_nil (by rfl)) (by rfl) (by rfl)) (@blk_scope _ (defScope s_all_rows) _ (["many", "places", "rows", "place", "longer", "row"]) (["colour", "row"]) ([none, some 5]) (by decide +kernel) rfl rfl) bt_name (fun _ _ _ _ _ => @pg_name _ _ 0 _ (show List.Nodup (["colour", "row"] : List Str) by decide +kernel) rfl (Or.inl rfl) (Or.inr rfl)) (fun _ _ _ _ _ => ts_nil) (fun _ _ _ _ _ => (@h_bin _ _ _ _ _ _ _ _ op3_add (@hv _ 1 _ _ (by rfl) (by first | exact Or.inl rfl | exact Or.inr (Or.inl rfl) | exact Or.inr (Or.inr rfl)) (by decide) (by decide)) (@h_tup _ _ _ _ _ (@a_cons _ _ _ _ _ (@hv _ 0 _ _ (by rfl) (by first | exact Or.inl rfl | exact Or.inr (Or.inl rfl) | exact Or.inr (Or.inr rfl)) (by decide) (by decide)) a_nil (by rfl))))) (by intro _; rfl)) a_nil (by rfl)) (by rfl) (by rfl) (by rfl) (by rfl) (by rfl)) (by rfl))) (by intro _; rfl)) (@ss_one _ _ _ (@s_set _ _ _ _ 2 _ _ (@hv _ 4 _ _ (by rfl) (by first | exact Or.inl rfl | exact Or.inr (Or.inl rfl) | exact Or.inr (Or.inr rfl)) (by decide) (by decide)) sc_all_rows.nd (by rfl) (by first | exact Or.inl rfl | exact Or.inr rfl) (by rfl) (by first | exact .inl rfl | exact .inr rfl | assumption)))))) (by intro _; rfl)) (@ss_one _ _ _ (@s_ret _ _ _ _ (@hv _ 2 _ _ (by rfl) (by first | exact Or.inl rfl | exact Or.inr (Or.inl rfl) | exact Or.inr (Or.inr rfl)) (by decide) (by decide)))))), fun ts M Q h => ?_⟩
 unfold sp_all_rows at h
 split at h
 · rename_i m k
   obtain ⟨h1, k0, k6, h7, hb, h⟩ := h
   refine seq_cut fun K1 hK1 => ?_
   walk_at "rd"
   refine ⟨by decide, fun q hq => ?_⟩
   rw [hK1]
   clear hK1
   refine seq_cut fun K2 hK2 => ?_
   refine for_cut fun B hB => ?_
   unfold tFor3
   walk_at "rd"
   refine ⟨by lia, by lia, fun i ρ M' => ∃ x1 x2 x3 d, ρ = [some (T.int m), some (T.int k), some (T.adr d), x1, x2, x3] ∧ M d = none ∧ M' d = some (.lst ((alR m i).map tupT)) ∧ Sub M M', ⟨_, _, _, q, rfl, hq, updM_same, Sub.new hq⟩, fun _ _ _ _ => trivial, ?_, ?_⟩
   · rintro i x ρ M' hx ⟨x1, x2, x3, d, rfl, hd0, hd, hS⟩
     have hi : i < k.toNat := by have := (List.getElem?_eq_some_iff.mp hx).1; rwa [rangeT_length] at this
     have hp1 : m.toNat ^ i ≤ m.toNat ^ k.toNat := Nat.pow_le_pow_right (by lia) (by lia)
     have hp2 : m.toNat ^ (i + 1) ≤ m.toNat ^ k.toNat := Nat.pow_le_pow_right (by lia) (by lia)
     have l1 := alR_len m i
     have l2 := alR_len m (i + 1)
     rw [hB]
     clear hB
     refine seq_cut2 fun K3 hK3 => ?_
     walk_at "rd"
     rw [hd]
     dsimp only
     have hno : ¬ (2500 : Int) < (((alR m i).map tupT).length : Nat) * m := by
       rw [List.length_map, l1]
       have e1 : ((m.toNat ^ i : Nat) : Int) * m = ((m.toNat ^ (i + 1) : Nat) : Int) := by
         rw [Nat.pow_succ]
         obtain ⟨k, rfl⟩ := Int.eq_ofNat_of_zero_le (show 0 ≤ m by lia)
         rw [Int.toNat_natCast]
         exact (Int.natCast_mul _ _).symm
       rw [e1]
       lia
     refine ⟨by unfold CMul; right; constructor <;> lia, ?_⟩
     rw [if_neg hno]
     intro e he
     have hde : d ≠ e := fun z => by rw [← z, hd] at he; cases he
     have he0 : M e = none := by
       cases q : M e with
       | none => rfl
       | some o => rw [hS _ _ q] at he; cases he
     rw [hK3]
     clear hK3
     refine seq_cut fun K4 hK4 => ?_
     refine for_cut fun B2 hB2 => ?_
     unfold tFor3
     walk_at "rd"
     rw [updM_ne hde, hd]
     dsimp only
     refine ⟨fun j ρ M2 => (∃ x1, ρ = [some (T.int m), some (T.int k), some (T.adr d), some x, some (T.adr e), x1]) ∧ M2 d = some (.lst ((alR m i).map tupT)) ∧ M2 e = some (.lst ((((alR m i).take j).flatMap (longT m)).map tupT)) ∧ Sub M M2, ⟨⟨_, rfl⟩, by rw [updM_ne hde]; exact hd, updM_same, hS.newr he⟩, ?_, ?_, ?_⟩
     · rintro j ρ M2 ⟨_, h2, _⟩
       exact h2
     · rintro j y ρ M2 hy ⟨⟨x4, rfl⟩, hd2, he2, hS2⟩
       obtain ⟨row, hy2, rfl⟩ := get_tupT hy
       have hrow := alR_mem (List.mem_of_getElem? hy2)
       rw [hB2]
       clear hB2
       walk_at "rd"
       rw [he2]
       refine ⟨trivial, by lia, by lia, fun c ys M3 => ys = ((range0 m).take c).map (fun c => tupT (row ++ [c])) ∧ M3 = M2, ⟨rfl, rfl⟩, fun _ _ _ _ => trivial, by rw [rangeT_length]; exact line_len (by lia), ?_, ?_⟩
       · rintro c z ys M3 hz ⟨rfl, rfl⟩
         rw [rangeT_range0] at hz
         obtain ⟨u, hz2, rfl⟩ := get_map_int hz
         unfold tupT
         dsimp only
         refine ⟨by decide, line_len' (by rw [List.length_map]; simp only [List.length_cons, List.length_nil]; lia), ?_, rfl⟩
         rw [← take_succ_map (fun c : Int => T.tup ((row ++ [c]).map T.int)) hz2, List.map_append]; rfl
       · rintro ys M3 ⟨rfl, rfl⟩ p7 hp7
         have e1 : ((range0 m).take (rangeT 0 m.toNat).length).map (fun c => tupT (row ++ [c])) = (longT m row).map tupT := by
           rw [rangeT_length, show m.toNat = (range0 m).length by rw [range0_length], List.take_length]
           unfold longT
           rw [List.map_map]; rfl
         rw [e1]
         have hS7 : Sub M3 (updM M3 p7 (MO.lst ((longT m row).map tupT))) := Sub.new hp7
         generalize updM M3 p7 (MO.lst ((longT m row).map tupT)) = M7 at hS7 ⊢
         rw [hS7 _ _ he2]
         dsimp only
         have hj : j < (alR m i).length := (List.getElem?_eq_some_iff.mp hy2).1
         refine ⟨line_len' ?_, ⟨_, rfl⟩, by rw [updM_ne hde]; exact hS7 _ _ hd2, by rw [flt_take hy2, List.map_append], (hS2.trans hS7).updF he0⟩
         rw [List.length_map, List.length_map, flt_len, longT_len, List.length_take, Nat.min_eq_left (by lia), ← Nat.succ_mul]
         have : (j + 1) * m.toNat ≤ m.toNat ^ i * m.toNat := Nat.mul_le_mul_right _ (by rw [← l1]; exact hj)
         rw [← Nat.pow_succ] at this
         exact Nat.lt_of_le_of_lt (Nat.le_trans this (Nat.le_trans hp2 hb)) (by decide)
     · rintro ρ M2 ⟨⟨x4, rfl⟩, hd2, he2, hS2⟩
       rw [hK4]
       walk_at "rd"
       rw [List.length_map, List.take_length] at he2
       exact ⟨_, _, _, e, rfl, he0, he2, hS2⟩
   · rintro ρ M' ⟨x1, x2, x3, d, rfl, hd0, hd, hS⟩
     rw [hK2]
     walk_at "rd"
     rw [rangeT_length] at hd
     exact rt3_sub (h d hd0) (hS.mk1 hd)
 · exact h.elim
noncomputable def backR (tab : List (List Int)) (ws : List Int) (n : Nat) : List (List Int) := (alR tab.length n).filter fun row => decide (dn tab ws row = row)
noncomputable def sp_colourings : Sp3 := fun ts M Q => match ts with
 | [.tup t, .tup [.int n, .tup w]] => ∃ (tab : List (List Int)) (ws : List Int), t = tab.map tupT ∧ w = ws.map .int ∧ tabB tab = true ∧ PlOK n ws ∧ tab.length ^ n.toNat ≤ 2500 ∧ ∀ r, M r = none → Q (.adr r) (updM M r (.lst ((backR tab ws n.toNat).map tupT)))
 | _ => False
theorem ok_colourings {P : Program} {w : World} {K : PySem.W.Frag} {mg : Str → Option Value} {base : Heap} {f : Addr} {fd : FuncData} {n : Nat}  (F : Fun K "colourings" "colourings" s_colourings f fd) (hm : mg "colourings" = some (.ref f)) (hb : Binds K fd ["table", "plait"] []) (Z : Zs mg) (D_looked : Df P w K mg base n "looked" ["plait"] sp_looked) (D_looked_table : Df P w K mg base n "looked_table" ["table"] sp_looked_table) (D_undone : Df P w K mg base n "undone" ["table"] sp_undone) (D_all_rows : Df P w K mg base n "all_rows" ["many", "places"] sp_all_rows) (D_led_down : Df P w K mg base n "led_down" ["table", "colour_by", "word", "colours"] sp_led_down) : Df P w K mg base (n + 1) "colourings" ["table", "plait"] sp_colourings := by
 refine F.dfn hm hb sc_colourings (by intro ts M Q h; unfold sp_colourings at h; first | (split at h <;> first | rfl | exact h.elim) | (obtain ⟨_, _, _, _, _, rfl, _⟩ := h; rfl) | (obtain ⟨_, _, _, _, rfl, _⟩ := h; rfl) | (obtain ⟨_, _, _, rfl, _⟩ := h; rfl) | (obtain ⟨_, _, rfl, _⟩ := h; rfl) | (obtain ⟨_, rfl, _⟩ := h; rfl)) ⟨_, fun cdv A outer s H E hr => (@ss_cons _ _ _ _ _ (@s_expr _ _ _ _ (@h_call _ _ _ _ _ _ _ _ _ _ D_looked hr (@a_cons _ _ _ _ _ (@hv _ 1 _ _ (by rfl) (by first | exact Or.inl rfl | exact Or.inr (Or.inl rfl) | exact Or.inr (Or.inr rfl)) (by decide) (by decide)) a_nil (by rfl)) (by rfl) (by decide) (by rfl) (by rfl)) (by rfl)) (@ss_cons _ _ _ _ _ (@s_expr _ _ _ _ (@h_call _ _ _ _ _ _ _ _ _ _ D_looked_table hr (@a_cons _ _ _ _ _ (@hv _ 0 _ _ (by rfl) (by first | exact Or.inl rfl | exact Or.inr (Or.inl rfl) | exact Or.inr (Or.inr rfl)) (by decide) (by decide)) a_nil (by rfl)) (by rfl) (by decide) (by rfl) (by rfl)) (by rfl)) (@ss_cons _ _ _ _ _ (@s_set _ _ _ _ 2 _ _ (@h_call _ _ _ _ _ _ _ _ _ _ D_undone hr (@a_cons _ _ _ _ _ (@hv _ 0 _ _ (by rfl) (by first | exact Or.inl rfl | exact Or.inr (Or.inl rfl) | exact Or.inr (Or.inr rfl)) (by decide) (by decide)) a_nil (by rfl)) (by rfl) (by decide) (by rfl) (by rfl)) sc_colourings.nd (by rfl) (by first | exact Or.inl rfl | exact Or.inr rfl) (by rfl) (by first | exact .inl rfl | exact .inr rfl | assumption)) (@ss_one _ _ _ (@s_ret _ _ _ _ (@h_comp _ _ _ _ _ _ _ _ _ _ _ _ _ _ rfl (@i_seq _ _ _ _ (@h_call _ _ _ _ _ _ _ _ _ _ D_all_rows hr (@a_cons _ _ _ _ _ (@h_callB _ _ _ _ _ _ _ _ _ call3_len Z.b_len PySem.boot_len (@a_cons _ _ _ _ _ (@hv _ 0 _ _ (by rfl) (by first | exact Or.inl rfl | exact Or.inr (Or.inl rfl) | exact Or.inr (Or.inr rfl)) (by decide) (by decide)) a_nil (by rfl)) (by rfl) (by decide) (by decide) (by rfl) (by rfl)) (@a_cons _ _ _ _ _ (@h_ix _ _ _ _ _ _ (@hv _ 1 _ _ (by rfl) (by first | exact Or.inl rfl | exact Or.inr (Or.inl rfl) | exact Or.inr (Or.inr rfl)) (by decide) (by decide)) h_int (by intro _ _; rfl)) a_nil (by rfl)) (by rfl)) (by rfl) (by decide) (by rfl) (by rfl))) (@blk_scope _ (defScope s_colourings) _ (["table", "plait", "colour_by"]) (["row", "table", "colour_by", "plait"]) ([none, some 0, some 2, some 1]) (by decide +kernel) rfl rfl) bt_name (fun _ _ _ _ _ => @pg_name _ _ 0 _ (show List.Nodup (["row", "table", "colour_by", "plait"] : List Str) by decide +kernel) rfl (Or.inl rfl) (Or.inr rfl)) (fun _ _ _ _ _ => ts_one (@h_tcmp _ _ _ _ _ _ _ _ (@op3_eq _ hr.units) (@h_call _ _ _ _ _ _ _ _ _ _ D_led_down hr (@a_cons _ _ _ _ _ (@hv _ 1 _ _ (by rfl) (by first | exact Or.inl rfl | exact Or.inr (Or.inl rfl) | exact Or.inr (Or.inr rfl)) (by decide) (by decide)) (@a_cons _ _ _ _ _ (@hv _ 2 _ _ (by rfl) (by first | exact Or.inl rfl | exact Or.inr (Or.inl rfl) | exact Or.inr (Or.inr rfl)) (by decide) (by decide)) (@a_cons _ _ _ _ _ (@h_ix _ _ _ _ _ _ (@hv _ 3 _ _ (by rfl) (by first | exact Or.inl rfl | exact Or.inr (Or.inl rfl) | exact Or.inr (Or.inr rfl)) (by decide) (by decide)) h_int (by intro _ _; rfl)) (@a_cons _ _ _ _ _ (@hv _ 0 _ _ (by rfl) (by first | exact Or.inl rfl | exact Or.inr (Or.inl rfl) | exact Or.inr (Or.inr rfl)) (by decide) (by decide)) a_nil (by rfl)) (by rfl)) (by rfl)) (by rfl)) (by rfl) (by decide) (by rfl) (by rfl)) (@hv _ 0 _ _ (by rfl) (by first | exact Or.inl rfl | exact Or.inr (Or.inl rfl) | exact Or.inr (Or.inr rfl)) (by decide) (by decide)) (@nomark _ _ (by decide) (by decide)))) (fun _ _ _ _ _ => (@hv _ 0 _ _ (by rfl) (by first | exact Or.inl rfl | exact Or.inr (Or.inl rfl) | exact Or.inr (Or.inr rfl)) (by decide) (by decide))) (by intro _; rfl))))))), fun ts M Q h => ?_⟩
 unfold sp_colourings at h
 split at h
 · rename_i t n w
   obtain ⟨tab, ws, rfl, rfl, ht, ok, hb, h⟩ := h
   obtain ⟨n1, n6, hl, hw⟩ := ok
   have tok := tabB_ok ht
   have l1 := tok.l1
   have l7 := tok.l7
   refine seq_cut3 fun K1 hK1 => ?_
   walk_at "rd"
   refine ⟨ws, rfl, ⟨n1, n6, hl, hw⟩, tab, rfl, ht, tab, rfl, ht, fun kvs q hC hq => ?_⟩
   have hMq : (updM M q (.dt kvs)) q = some (.dt kvs) := updM_same
   have hS : Sub M (updM M q (.dt kvs)) := Sub.new hq
   generalize updM M q (.dt kvs) = M1 at hMq hS ⊢
   rw [hK1]
   clear hK1
   walk_at "rd"
   refine ⟨by lia, by lia, by lia, by lia, by rw [Int.toNat_natCast]; exact hb, fun r hr => ?_⟩
   have hrq : q ≠ r := fun z => by rw [← z, hMq] at hr; cases hr
   have hMr : (updM M1 r (.lst ((alR tab.length n.toNat).map tupT))) r = some (.lst ((alR tab.length n.toNat).map tupT)) := updM_same
   have hMq2 : (updM M1 r (.lst ((alR tab.length n.toNat).map tupT))) q = some (.dt kvs) := by rw [updM_ne hrq]; exact hMq
   have hS2 := hS.newr hr (o := .lst ((alR tab.length n.toNat).map tupT))
   generalize updM M1 r (.lst ((alR tab.length n.toNat).map tupT)) = M2 at hMr hMq2 hS2 ⊢
   have hal := alR_len (tab.length : Int) n.toNat
   rw [Int.toNat_natCast] at hal
   dsimp only
   rw [hMr]
   dsimp only
   refine ⟨fun i ys M' => ys = (((alR tab.length n.toNat).take i).filter fun row => decide (dn tab ws row = row)).map tupT ∧ M' = M2, ⟨rfl, rfl⟩, ?_, by rw [List.length_map]; exact line_len (by lia), ?_, ?_⟩
   · rintro i ys M' ⟨_, rfl⟩
     exact hMr
   · rintro i x ys M' hx ⟨rfl, rfl⟩
     obtain ⟨row, hx2, rfl⟩ := get_tupT hx
     obtain ⟨hrl, hri⟩ := alR_mem (List.mem_of_getElem? hx2)
     refine ⟨tab, ws, row, kvs, rfl, rfl, rfl, hMq2, ht, hC, ?_, hri, by lia, by lia, ?_⟩
     · rw [hrl, show ((n.toNat : Nat) : Int) = n by lia]; exact hw
     dsimp only
     rw [filt_snoc (fun row => decide (dn tab ws row = row)) hx2]
     refine ⟨by rw [pureT_tup, pureTs_ints], by unfold tupT; rw [pureT_tup, pureTs_ints], by rw [depT_tup, depTs_ints]; decide, ?_⟩
     rw [show eqT (.tup ((dn tab ws row).map T.int)) (tupT row) = decide (dn tab ws row = row) by unfold tupT; rw [eqT_tup, eqTs_ints]]
     by_cases z : dn tab ws row = row
     · rw [decide_eq_true z, if_pos rfl, if_pos rfl, List.map_append]
       exact ⟨rfl, rfl⟩
     · rw [decide_eq_false z, if_neg (by decide), if_neg (by decide), List.append_nil]
       exact ⟨rfl, rfl⟩
   · rintro ys M' ⟨rfl, rfl⟩ p hp
     rw [List.length_map, List.take_length]
     have hp0 : M p = none := by
       cases e : M p with
       | none => rfl
       | some o => rw [hS2 _ _ e] at hp; cases hp
     refine rt3_sub (h p hp0) ?_
     exact (hS2.newr hp).mk1 updM_same
 · exact h.elim
noncomputable def oddP (p : Int) : Bool := decide (3 ≤ p) && decide (p ≤ 97) && ((List.range (p - 2).toNat).all fun i => decide (p % (2 + (i : Nat)) ≠ 0))
noncomputable def sp_is_odd_prime : Sp3 := fun ts M Q => match ts with
 | [.int p] => Q (.bl (oddP p)) M
 | _ => False
theorem ok_is_odd_prime {P : Program} {w : World} {K : PySem.W.Frag} {mg : Str → Option Value} {base : Heap} {f : Addr} {fd : FuncData} {n : Nat}  (F : Fun K "is_odd_prime" "is_odd_prime" s_is_odd_prime f fd) (hm : mg "is_odd_prime" = some (.ref f)) (hb : Binds K fd ["number"] []) (Z : Zs mg)  : Df P w K mg base (n + 1) "is_odd_prime" ["number"] sp_is_odd_prime := by
 obtain ⟨tk_MOST_PRIME, c_MOST_PRIME⟩ := Z.c_MOST_PRIME
 refine F.dfn hm hb sc_is_odd_prime (by intro ts M Q h; unfold sp_is_odd_prime at h; first | (split at h <;> first | rfl | exact h.elim) | (obtain ⟨_, _, _, _, _, rfl, _⟩ := h; rfl) | (obtain ⟨_, _, _, _, rfl, _⟩ := h; rfl) | (obtain ⟨_, _, _, rfl, _⟩ := h; rfl) | (obtain ⟨_, _, rfl, _⟩ := h; rfl) | (obtain ⟨_, rfl, _⟩ := h; rfl)) ⟨_, fun cdv A outer s H E hr => (@ss_cons _ _ _ _ _ (@s_if _ _ _ _ _ _ _ _ (@h_not _ _ _ _ (@h_tchain _ _ _ _ _ _ _ _ _ _ _ _ op3_le op3_le h_int (@hv _ 0 _ _ (by rfl) (by first | exact Or.inl rfl | exact Or.inr (Or.inl rfl) | exact Or.inr (Or.inr rfl)) (by decide) (by decide)) (@h_globI _ _ _ _ _ c_MOST_PRIME (by rfl) (by decide)) (by with_unfolding_all rfl))) (@ss_one _ _ _ (@s_ret _ _ _ _ h_bl)) ss_nil) (@ss_one _ _ _ (@s_ret _ _ _ _ (@h_callB _ _ _ _ _ _ _ _ _ (@call3_all _ rfl) Z.b_all PyProof.Rows.boot_all (@a_cons _ _ _ _ _ (@h_comp _ _ _ _ _ _ _ _ _ _ _ _ _ _ rfl (@i_range2 _ _ _ _ _ _ _ Z.b_range (@a_cons _ _ _ _ _ h_int (@a_cons _ _ _ _ _ (@hv _ 0 _ _ (by rfl) (by first | exact Or.inl rfl | exact Or.inr (Or.inl rfl) | exact Or.inr (Or.inr rfl)) (by decide) (by decide)) a_nil (by rfl)) (by rfl)) (by rfl) (by rfl) (by rfl)) (@blk_scope _ (defScope s_is_odd_prime) _ ["number"] (["other", "number"]) ([none, some 0]) (by decide +kernel) rfl rfl) bt_name (fun _ _ _ _ _ => @pg_name _ _ 0 _ (show List.Nodup (["other", "number"] : List Str) by decide +kernel) rfl (Or.inl rfl) (Or.inr rfl)) (fun _ _ _ _ _ => ts_nil) (fun _ _ _ _ _ => (@h_cmp _ _ _ _ _ _ _ _ (@op3_ne _ hr.units) (@h_bin _ _ _ _ _ _ _ _ op3_mod (@hv _ 1 _ _ (by rfl) (by first | exact Or.inl rfl | exact Or.inr (Or.inl rfl) | exact Or.inr (Or.inr rfl)) (by decide) (by decide)) (@hv _ 0 _ _ (by rfl) (by first | exact Or.inl rfl | exact Or.inr (Or.inl rfl) | exact Or.inr (Or.inr rfl)) (by decide) (by decide))) h_int (@nomark _ _ (by decide) (by decide)))) (by intro _; rfl)) a_nil (by rfl)) (by rfl) (by decide) (by decide) (by rfl) (by rfl))))), fun ts M Q h => ?_⟩
 unfold sp_is_odd_prime at h
 split at h
 · rename_i p
   unfold oddP at h
   walk_at "rd"
   refine ite2 (fun c1 => ite2 (fun c2 => ?_) (fun c2 => ?_)) (fun c1 => ?_)
   · rw [decide_eq_false c2, Bool.and_false, Bool.false_and] at h
     exact rt3_here h
   · rw [decide_eq_true c1, decide_eq_true (show p ≤ 97 by lia)] at h
     refine ⟨⟨by decide, by decide, by lia, by lia⟩, fun i ys M' => ys = ((List.range i).map fun i : Nat => decide (p % (2 + (i : Int)) ≠ 0)).map T.bl ∧ M' = M, ⟨rfl, rfl⟩, fun _ _ _ _ => trivial, by rw [rangeT_length]; exact line_len (by lia), ?_, ?_⟩
     · rintro i x ys M' hx ⟨rfl, rfl⟩
       have hl := (List.getElem?_eq_some_iff.mp hx).1
       rw [rangeT_length] at hl
       unfold rangeT at hx
       rw [List.getElem?_map, List.getElem?_range hl] at hx
       obtain rfl := (Option.some.inj hx).symm
       refine ⟨by lia, ?_, rfl⟩
       rw [List.range_succ, List.map_append, List.map_append, ← decide_not]; rfl
     · rintro ys M' ⟨rfl, rfl⟩ q hq
       rw [rangeT_length, bools_map]
       dsimp only
       refine rt3_sub (M0 := M') ?_ (Sub.new hq)
       rw [List.all_map]
       exact h
   · rw [decide_eq_false c1, Bool.false_and, Bool.false_and] at h
     exact rt3_here h
 · exact h.elim
noncomputable def twL (a b : List Int) : List Int := List.zipWith (fun x y => 2 * x - y) a b
theorem twL_get {a b : List Int} {i : Nat} {x y : Int} (hx : a[i]? = some x) (hy : b[i]? = some y) : (twL a b)[i]? = some (2 * x - y) := by
 unfold twL
 rw [List.getElem?_zipWith, hx, hy]
theorem take_snoc_of {α : Type} {L : List α} {i : Nat} {x : α} (h : L[i]? = some x) : L.take i ++ [x] = L.take (i + 1) := by
 rw [List.take_add_one, h]; rfl
noncomputable def sp_twice_less : Sp3 := fun ts M Q => match ts with
 | [.adr p, .adr q] => ∃ (a b : List Int), M p = some (.lst (a.map .int)) ∧ M q = some (.lst (b.map .int)) ∧ a.length = b.length ∧ a.length ≤ 6 ∧ ∀ r, M r = none → Q (.adr r) (updM M r (.lst ((twL a b).map .int)))
 | _ => False
theorem ok_twice_less {P : Program} {w : World} {K : PySem.W.Frag} {mg : Str → Option Value} {base : Heap} {f : Addr} {fd : FuncData} {n : Nat}  (F : Fun K "twice_less" "twice_less" s_twice_less f fd) (hm : mg "twice_less" = some (.ref f)) (hb : Binds K fd ["row", "other"] []) (Z : Zs mg)  : Df P w K mg base (n + 1) "twice_less" ["row", "other"] sp_twice_less := by
 refine F.dfn hm hb sc_twice_less (by intro ts M Q h; unfold sp_twice_less at h; first | (split at h <;> first | rfl | exact h.elim) | (obtain ⟨_, _, _, _, _, rfl, _⟩ := h; rfl) | (obtain ⟨_, _, _, _, rfl, _⟩ := h; rfl) | (obtain ⟨_, _, _, rfl, _⟩ := h; rfl) | (obtain ⟨_, _, rfl, _⟩ := h; rfl) | (obtain ⟨_, rfl, _⟩ := h; rfl)) ⟨_, fun cdv A outer s H E hr => (@ss_one _ _ _ (@s_ret _ _ _ _ (@h_comp _ _ _ _ _ _ _ _ _ _ _ _ _ _ rfl (@i_zip _ _ _ _ _ _ _ _ _ Z.b_zip (@a_cons _ _ _ _ _ (@hv _ 0 _ _ (by rfl) (by first | exact Or.inl rfl | exact Or.inr (Or.inl rfl) | exact Or.inr (Or.inr rfl)) (by decide) (by decide)) (@a_cons _ _ _ _ _ (@hv _ 1 _ _ (by rfl) (by first | exact Or.inl rfl | exact Or.inr (Or.inl rfl) | exact Or.inr (Or.inr rfl)) (by decide) (by decide)) a_nil (by rfl)) (by rfl)) (by rfl) (by rfl) (by rfl)) (@blk_scope _ (defScope s_twice_less) _ (["row", "other"]) (["here", "there"]) ([none, none]) (by decide +kernel) rfl rfl) bt_tup2 (fun _ _ _ _ _ => pg_tup rfl (@pgs_cons _ _ _ _ _ (@pg_name _ _ 0 _ (show List.Nodup (["here", "there"] : List Str) by decide +kernel) rfl (Or.inl rfl) (Or.inr rfl)) (@pgs_cons _ _ _ _ _ (@pg_name _ _ 1 _ (show List.Nodup (["here", "there"] : List Str) by decide +kernel) rfl (Or.inl rfl) (Or.inr rfl)) pgs_nil (by rfl)) (by rfl))) (fun _ _ _ _ _ => ts_nil) (fun _ _ _ _ _ => (@h_bin _ _ _ _ _ _ _ _ op3_sub (@h_bin _ _ _ _ _ _ _ _ op3_mul h_int (@hv _ 0 _ _ (by rfl) (by first | exact Or.inl rfl | exact Or.inr (Or.inl rfl) | exact Or.inr (Or.inr rfl)) (by decide) (by decide))) (@hv _ 1 _ _ (by rfl) (by first | exact Or.inl rfl | exact Or.inr (Or.inl rfl) | exact Or.inr (Or.inr rfl)) (by decide) (by decide)))) (by intro _; rfl)))), fun ts M Q h => ?_⟩
 unfold sp_twice_less at h
 split at h
 · rename_i p q
   obtain ⟨a, b, hp, hq, hl, h6, h⟩ := h
   walk_at "rd"
   rw [hp, hq]
   dsimp only
   refine ⟨by rw [List.length_map, List.length_map, hl], fun i ys M' => ys = ((twL a b).take i).map T.int ∧ M' = M, ⟨rfl, rfl⟩, ?_, by rw [zpT_len (by rw [List.length_map, List.length_map, hl]), List.length_map]; exact line_len (by lia), ?_, ?_⟩
   · rintro i ys M' ⟨_, rfl⟩
     exact ⟨hp, hq⟩
   · rintro i x ys M' hx ⟨rfl, rfl⟩
     obtain ⟨t, u, ht, hu, rfl⟩ := zpT_get hx
     obtain ⟨x, hx2, rfl⟩ := get_map_int ht
     obtain ⟨y, hy2, rfl⟩ := get_map_int hu
     walk_at "rd"
     refine ⟨by unfold CMul; exact .inl (by decide), ?_⟩
     rw [← take_snoc_of (twL_get hx2 hy2), List.map_append]; rfl
   · rintro ys M' ⟨rfl, rfl⟩ r hr
     rw [zpT_len (by rw [List.length_map, List.length_map, hl]), List.length_map, List.take_of_length_le (by unfold twL; rw [List.length_zipWith]; exact Nat.min_le_left _ _)]
     exact rt3_here (h r hr)
 · exact h.elim
noncomputable def Fr (M : MH) (as : List Addr) : Prop := ∀ a ∈ as, M a = none
theorem Fr.set {M : MH} {as : List Addr} {j : Nat} {x : Addr} (h : Fr M as) (hx : M x = none) : Fr M (as.set j x) := fun b hb => by
 rcases List.mem_or_eq_of_mem_set hb with z | rfl
 · exact h b z
 · exact hx
theorem Sub.none {M M' : MH} {q : Addr} (s : Sub M M') (h : M' q = none) : M q = none := by
 cases e : M q with
 | none => rfl
 | some o => rw [s _ _ e] at h; cases h
theorem notin_set2 {α : Type} {as : List α} {j k : Nat} {x y r : α} (h : r ∉ as) (hx : x ≠ r) (hy : y ≠ r) : r ∉ (as.set j x).set k y := fun z => by
 rcases List.mem_or_eq_of_mem_set z with z | z
 · rcases List.mem_or_eq_of_mem_set z with z | z
   · exact h z
   · exact hx z.symm
 · exact hy z.symm
theorem nodup_snoc' {α : Type} {as : List α} {p : α} (h : as.Nodup) (hp : p ∉ as) : (as ++ [p]).Nodup := List.nodup_append.mpr ⟨h, List.pairwise_singleton _ _, fun a ha b hb e => by rw [List.mem_singleton.mp hb] at e; exact hp (by rw [← e]; exact ha)⟩
noncomputable def sp_shares_behind : Sp3 := fun ts M Q => match ts with
 | [.tup [.int n, .tup w]] => ∃ ws : List Int, w = ws.map .int ∧ PlOK n ws ∧ ∀ r as M', M r = none → Sub M M' → M' r = some (.lst (as.map T.adr)) → RowsV M' as (shL (unR n.toNat) ws) → as.Nodup → Fr M as → Q (.adr r) M'
 | _ => False
theorem ok_shares_behind {P : Program} {w : World} {K : PySem.W.Frag} {mg : Str → Option Value} {base : Heap} {f : Addr} {fd : FuncData} {n : Nat}  (F : Fun K "shares_behind" "shares_behind" s_shares_behind f fd) (hm : mg "shares_behind" = some (.ref f)) (hb : Binds K fd ["plait"] []) (Z : Zs mg) (D_twice_less : Df P w K mg base n "twice_less" ["row", "other"] sp_twice_less) : Df P w K mg base (n + 1) "shares_behind" ["plait"] sp_shares_behind := by
 refine F.dfn hm hb sc_shares_behind (by intro ts M Q h; unfold sp_shares_behind at h; first | (split at h <;> first | rfl | exact h.elim) | (obtain ⟨_, _, _, _, _, rfl, _⟩ := h; rfl) | (obtain ⟨_, _, _, _, rfl, _⟩ := h; rfl) | (obtain ⟨_, _, _, rfl, _⟩ := h; rfl) | (obtain ⟨_, _, rfl, _⟩ := h; rfl) | (obtain ⟨_, rfl, _⟩ := h; rfl)) ⟨_, fun cdv A outer s H E hr => (@ss_cons _ _ _ _ _ (@s_set _ _ _ _ 1 _ _ (@h_ix _ _ _ _ _ _ (@hv _ 0 _ _ (by rfl) (by first | exact Or.inl rfl | exact Or.inr (Or.inl rfl) | exact Or.inr (Or.inr rfl)) (by decide) (by decide)) h_int (by intro _ _; rfl)) sc_shares_behind.nd (by rfl) (by first | exact Or.inl rfl | exact Or.inr rfl) (by rfl) (by first | exact .inl rfl | exact .inr rfl | assumption)) (@ss_cons _ _ _ _ _ (@s_setC _ _ _ _ _ _ _ _ _ _ _ _ _ _ 2 _ _ _ rfl (@i_range1 _ _ _ _ _ _ Z.b_range (@a_cons _ _ _ _ _ (@hv _ 1 _ _ (by rfl) (by first | exact Or.inl rfl | exact Or.inr (Or.inl rfl) | exact Or.inr (Or.inr rfl)) (by decide) (by decide)) a_nil (by rfl)) (by rfl) (by rfl)) (@blk_scope _ (defScope s_shares_behind) _ (["plait", "strands", "rows", "letter", "at", "pair"]) (["place", "strands"]) ([none, some 1]) (by decide +kernel) rfl rfl) bt_name (fun _ _ _ _ _ => @pg_name _ _ 0 _ (show List.Nodup (["place", "strands"] : List Str) by decide +kernel) rfl (Or.inr rfl) (Or.inl rfl)) (fun _ _ _ _ _ => ts_nil) (fun _ _ _ _ _ => (@h_comp _ _ _ _ _ _ _ _ _ _ _ _ _ _ rfl (@i_range1 _ _ _ _ _ _ Z.b_range (@a_cons _ _ _ _ _ (@hv _ 1 _ _ (by rfl) (by first | exact Or.inl rfl | exact Or.inr (Or.inl rfl) | exact Or.inr (Or.inr rfl)) (by decide) (by decide)) a_nil (by rfl)) (by rfl) (by rfl)) (@blk_scope2 _ (defScope s_shares_behind) _ _ (["place", "strands"]) (["other", "place"]) _ ([none, some 0]) _ _ _ _ _ (by decide +kernel) rfl rfl) bt_name (fun _ _ _ _ _ => @pg_name _ _ 0 _ (show List.Nodup (["other", "place"] : List Str) by decide +kernel) rfl (Or.inl rfl) (Or.inr rfl)) (fun _ _ _ _ _ => ts_nil) (fun _ _ _ _ _ => (@h_callT _ _ _ _ _ _ _ _ _ call3_int Z.b_int PyProof.Rows.boot_int (@a_cons _ _ _ _ _ (@h_cmp _ _ _ _ _ _ _ _ (@op3_eq _ hr.units) (@hv _ 1 _ _ (by rfl) (by first | exact Or.inl rfl | exact Or.inr (Or.inl rfl) | exact Or.inr (Or.inr rfl)) (by decide) (by decide)) (@hv _ 0 _ _ (by rfl) (by first | exact Or.inl rfl | exact Or.inr (Or.inl rfl) | exact Or.inr (Or.inr rfl)) (by decide) (by decide)) (@nomark _ _ (by decide) (by decide))) a_nil (by rfl)) (by rfl) (by decide) (by decide) (by rfl) (by rfl))) (by intro _; rfl))) sc_shares_behind.nd (by rfl) (by first | exact Or.inl rfl | exact Or.inr rfl) (by rfl) (by intro _; rfl) (by first | exact .inl rfl | exact .inr rfl | assumption)) (@ss_cons _ _ _ _ _ (@s_for _ _ _ _ _ _ _ _ PassesOwn.never rfl (@i_seq _ _ _ _ (@h_ix _ _ _ _ _ _ (@hv _ 0 _ _ (by rfl) (by first | exact Or.inl rfl | exact Or.inr (Or.inl rfl) | exact Or.inr (Or.inr rfl)) (by decide) (by decide)) h_int (by intro _ _; rfl))) (@g_name _ _ 3 _ sc_shares_behind.nd (by rfl) (by first | exact Or.inl rfl | exact Or.inr rfl) (by first | exact .inl rfl | exact .inr rfl | assumption)) (@ss_cons _ _ _ _ _ (@s_set _ _ _ _ 4 _ _ (@h_bin _ _ _ _ _ _ _ _ op3_sub (@h_callB _ _ _ _ _ _ _ _ _ call3_abs Z.b_abs PyProof.Rows.boot_abs (@a_cons _ _ _ _ _ (@hv _ 3 _ _ (by rfl) (by first | exact Or.inl rfl | exact Or.inr (Or.inl rfl) | exact Or.inr (Or.inr rfl)) (by decide) (by decide)) a_nil (by rfl)) (by rfl) (by decide) (by decide) (by rfl) (by rfl)) h_int) sc_shares_behind.nd (by rfl) (by first | exact Or.inl rfl | exact Or.inr rfl) (by rfl) (by first | exact .inl rfl | exact .inr rfl | assumption)) (@ss_cons _ _ _ _ _ (@s_set _ _ _ _ 5 _ _ (@h_lst _ _ _ _ (@a_cons _ _ _ _ _ (@h_ix _ _ _ _ _ _ (@hv _ 2 _ _ (by rfl) (by first | exact Or.inl rfl | exact Or.inr (Or.inl rfl) | exact Or.inr (Or.inr rfl)) (by decide) (by decide)) (@hv _ 4 _ _ (by rfl) (by first | exact Or.inl rfl | exact Or.inr (Or.inl rfl) | exact Or.inr (Or.inr rfl)) (by decide) (by decide)) (by intro _ _; rfl)) (@a_cons _ _ _ _ _ (@h_ix _ _ _ _ _ _ (@hv _ 2 _ _ (by rfl) (by first | exact Or.inl rfl | exact Or.inr (Or.inl rfl) | exact Or.inr (Or.inr rfl)) (by decide) (by decide)) (@h_bin _ _ _ _ _ _ _ _ op3_add (@hv _ 4 _ _ (by rfl) (by first | exact Or.inl rfl | exact Or.inr (Or.inl rfl) | exact Or.inr (Or.inr rfl)) (by decide) (by decide)) h_int) (by intro _ _; rfl)) a_nil (by rfl)) (by rfl))) sc_shares_behind.nd (by rfl) (by first | exact Or.inl rfl | exact Or.inr rfl) (by rfl) (by first | exact .inl rfl | exact .inr rfl | assumption)) (@ss_one _ _ _ (@s_if _ _ _ _ _ _ _ _ (@h_tcmp _ _ _ _ _ _ _ _ op3_gt (@hv _ 3 _ _ (by rfl) (by first | exact Or.inl rfl | exact Or.inr (Or.inl rfl) | exact Or.inr (Or.inr rfl)) (by decide) (by decide)) h_int (@nomark _ _ (by decide) (by decide))) (@ss_cons _ _ _ _ _ (@s_asg _ _ _ _ _ _ (@h_ix _ _ _ _ _ _ (@hv _ 5 _ _ (by rfl) (by first | exact Or.inl rfl | exact Or.inr (Or.inl rfl) | exact Or.inr (Or.inr rfl)) (by decide) (by decide)) h_int (by intro _ _; rfl)) (@g_sub _ _ _ _ _ _ (@hv _ 2 _ _ (by rfl) (by first | exact Or.inl rfl | exact Or.inr (Or.inl rfl) | exact Or.inr (Or.inr rfl)) (by decide) (by decide)) (@hv _ 4 _ _ (by rfl) (by first | exact Or.inl rfl | exact Or.inr (Or.inl rfl) | exact Or.inr (Or.inr rfl)) (by decide) (by decide)) (by intro _; rfl)) (by rfl) (by rfl) (by rfl)) (@ss_one _ _ _ (@s_asg _ _ _ _ _ _ (@h_call _ _ _ _ _ _ _ _ _ _ D_twice_less hr (@a_cons _ _ _ _ _ (@h_ix _ _ _ _ _ _ (@hv _ 5 _ _ (by rfl) (by first | exact Or.inl rfl | exact Or.inr (Or.inl rfl) | exact Or.inr (Or.inr rfl)) (by decide) (by decide)) h_int (by intro _ _; rfl)) (@a_cons _ _ _ _ _ (@h_ix _ _ _ _ _ _ (@hv _ 5 _ _ (by rfl) (by first | exact Or.inl rfl | exact Or.inr (Or.inl rfl) | exact Or.inr (Or.inr rfl)) (by decide) (by decide)) h_int (by intro _ _; rfl)) a_nil (by rfl)) (by rfl)) (by rfl) (by decide) (by rfl) (by rfl)) (@g_sub _ _ _ _ _ _ (@hv _ 2 _ _ (by rfl) (by first | exact Or.inl rfl | exact Or.inr (Or.inl rfl) | exact Or.inr (Or.inr rfl)) (by decide) (by decide)) (@h_bin _ _ _ _ _ _ _ _ op3_add (@hv _ 4 _ _ (by rfl) (by first | exact Or.inl rfl | exact Or.inr (Or.inl rfl) | exact Or.inr (Or.inr rfl)) (by decide) (by decide)) h_int) (by intro _; rfl)) (by rfl) (by rfl) (by rfl)))) (@ss_cons _ _ _ _ _ (@s_asg _ _ _ _ _ _ (@h_call _ _ _ _ _ _ _ _ _ _ D_twice_less hr (@a_cons _ _ _ _ _ (@h_ix _ _ _ _ _ _ (@hv _ 5 _ _ (by rfl) (by first | exact Or.inl rfl | exact Or.inr (Or.inl rfl) | exact Or.inr (Or.inr rfl)) (by decide) (by decide)) h_int (by intro _ _; rfl)) (@a_cons _ _ _ _ _ (@h_ix _ _ _ _ _ _ (@hv _ 5 _ _ (by rfl) (by first | exact Or.inl rfl | exact Or.inr (Or.inl rfl) | exact Or.inr (Or.inr rfl)) (by decide) (by decide)) h_int (by intro _ _; rfl)) a_nil (by rfl)) (by rfl)) (by rfl) (by decide) (by rfl) (by rfl)) (@g_sub _ _ _ _ _ _ (@hv _ 2 _ _ (by rfl) (by first | exact Or.inl rfl | exact Or.inr (Or.inl rfl) | exact Or.inr (Or.inr rfl)) (by decide) (by decide)) (@hv _ 4 _ _ (by rfl) (by first | exact Or.inl rfl | exact Or.inr (Or.inl rfl) | exact Or.inr (Or.inr rfl)) (by decide) (by decide)) (by intro _; rfl)) (by rfl) (by rfl) (by rfl)) (@ss_one _ _ _ (@s_asg _ _ _ _ _ _ (@h_ix _ _ _ _ _ _ (@hv _ 5 _ _ (by rfl) (by first | exact Or.inl rfl | exact Or.inr (Or.inl rfl) | exact Or.inr (Or.inr rfl)) (by decide) (by decide)) h_int (by intro _ _; rfl)) (@g_sub _ _ _ _ _ _ (@hv _ 2 _ _ (by rfl) (by first | exact Or.inl rfl | exact Or.inr (Or.inl rfl) | exact Or.inr (Or.inr rfl)) (by decide) (by decide)) (@h_bin _ _ _ _ _ _ _ _ op3_add (@hv _ 4 _ _ (by rfl) (by first | exact Or.inl rfl | exact Or.inr (Or.inl rfl) | exact Or.inr (Or.inr rfl)) (by decide) (by decide)) h_int) (by intro _; rfl)) (by rfl) (by rfl) (by rfl)))))))) (by intro _; rfl)) (@ss_one _ _ _ (@s_ret _ _ _ _ (@hv _ 2 _ _ (by rfl) (by first | exact Or.inl rfl | exact Or.inr (Or.inl rfl) | exact Or.inr (Or.inr rfl)) (by decide) (by decide))))))), fun ts M Q h => ?_⟩
 unfold sp_shares_behind at h
 split at h
 · rename_i n w
   obtain ⟨ws, rfl, ⟨n1, n6, hl, hw⟩, h⟩ := h
   have hwn : WordOK (n.toNat : Nat) ws := by rw [show ((n.toNat : Nat) : Int) = n by lia]; exact hw
   refine seq_cut2 fun K1 hK1 => ?_
   walk_at "rd"
   refine ⟨by lia, by lia, fun i ys M' => (∃ as : List Addr, ys = as.map T.adr ∧ as.length = i ∧ Fr M as ∧ as.Nodup ∧ RowsV M' as ((unR n.toNat).take i)) ∧ Sub M M', ⟨⟨[], rfl, rfl, fun _ z => absurd z List.not_mem_nil, .nil, RowsV.nil⟩, Sub.refl⟩, fun _ _ _ _ => trivial, by rw [rangeT_length]; exact line_len (by lia), ?_, ?_⟩
   · rintro i x ys M' hx ⟨⟨as, rfl, hal, hfr, hnd, has⟩, hS⟩
     obtain ⟨hi, rfl⟩ := rangeT0_get hx
     have hun := unR_get hi
     refine ⟨by lia, by lia, fun j zs M2 => zs = (((List.range n.toNat).map fun j => if i = j then (1 : Int) else 0).take j).map T.int ∧ M2 = M', ⟨rfl, rfl⟩, fun _ _ _ _ => trivial, by rw [rangeT_length]; exact line_len (by lia), ?_, ?_⟩
     · rintro j y zs M2 hy ⟨rfl, rfl⟩
       obtain ⟨hj, rfl⟩ := rangeT0_get hy
       dsimp only
       refine ⟨by rw [pureT_int], by rw [pureT_int], by rw [depT_int]; decide, ?_⟩
       refine ⟨?_, rfl⟩
       have ej : ((List.range n.toNat).map fun j => if i = j then (1 : Int) else 0)[j]? = some (if i = j then 1 else 0) := by
         rw [List.getElem?_map, List.getElem?_range hj]; rfl
       rw [← take_snoc_of ej, List.map_append, eqT_int]
       by_cases z : i = j
       · rw [if_pos z, if_pos (decide_eq_true (by rw [z]))]; rfl
       · rw [if_neg z, if_neg (by rw [decide_eq_true_eq]; lia)]; rfl
     · rintro zs M2 ⟨rfl, rfl⟩ p hp
       rw [rangeT_length, List.take_of_length_le (by rw [List.length_map, List.length_range]; exact Nat.le_refl _)]
       have hX := Sub.new hp (o := MO.lst (((List.range n.toNat).map fun j => if i = j then (1 : Int) else 0).map T.int))
       refine ⟨⟨as ++ [p], by rw [List.map_append]; rfl, by rw [List.length_append, hal]; rfl, fun a ha => ?_, nodup_snoc' hnd (has.fresh hp), ?_⟩, hS.trans hX⟩
       · rcases List.mem_append.mp ha with z | z
         · exact hfr a z
         · rw [List.mem_singleton.mp z]; exact hS.none hp
       · rw [← take_snoc_of hun]
         exact (has.sub hX).snoc updM_same
   · rintro ys M' ⟨⟨as, rfl, hal, hfr, hnd, has⟩, hS⟩ r hr
     rw [rangeT_length, List.take_of_length_le (by rw [unR_len]; exact Nat.le_refl _)] at has
     have hX := Sub.new hr (o := MO.lst (as.map T.adr))
     have hr0 : M r = none := hS.none hr
     have hok : RowsV (updM M' r (MO.lst (as.map T.adr))) as (shL (unR n.toNat) (ws.take 0)) := has.sub hX
     have hMr : (updM M' r (MO.lst (as.map T.adr))) r = some (.lst (as.map T.adr)) := updM_same
     have hS1 := hS.trans hX
     generalize updM M' r (MO.lst (as.map T.adr)) = M1 at hok hMr hS1 ⊢
     clear hX hr has hS
     rw [hK1]; clear hK1
     refine seq_cut fun K2 hK2 => ?_
     refine for_cut fun B hB => ?_
     unfold tFor3
     walk_at "rd"
     refine ⟨fun i ρ M2 => (∃ x1 x2 x3, ρ = [some (T.tup [T.int n, T.tup (List.map T.int ws)]), some (T.int n), some (T.adr r), x1, x2, x3]) ∧ (∃ as : List Addr, M2 r = some (.lst (as.map T.adr)) ∧ RowsV M2 as (shL (unR n.toNat) (ws.take i)) ∧ as.Nodup ∧ Fr M as) ∧ Sub M M2, ⟨⟨_, _, _, rfl⟩, ⟨as, hMr, hok, hnd, hfr⟩, hS1⟩, fun _ _ _ _ => trivial, ?_, ?_⟩
     · rintro i x ρ M2 hx ⟨⟨x1, x2, x3, rfl⟩, ⟨as, hMr, hok, hnd, hfr⟩, hS⟩
       obtain ⟨l, hx2, rfl⟩ := get_map_int hx
       obtain ⟨hl1, hl2⟩ := hw l (List.mem_of_getElem? hx2)
       obtain ⟨k, hk⟩ : ∃ k : Nat, l.natAbs = k + 1 := ⟨l.natAbs - 1, by lia⟩
       have hrb := shL_rb (unR_rb n.toNat) (ws := ws.take i) fun y hy => hwn y (List.mem_of_mem_take hy)
       have hsn : shL (unR n.toNat) (ws.take (i + 1)) = sh1 (shL (unR n.toNat) (ws.take i)) l := by rw [← take_snoc_of hx2, shL_snoc]
       generalize shL (unR n.toNat) (ws.take i) = R at hok hrb hsn
       have hal := hok.1.trans hrb.1
       obtain ⟨a, ea⟩ : ∃ a, as[k]? = some a := ⟨_, List.getElem?_eq_getElem (by lia)⟩
       obtain ⟨b, eb⟩ : ∃ b, as[k + 1]? = some b := ⟨_, List.getElem?_eq_getElem (by lia)⟩
       have aa : atI (as.map T.adr) (k : Int) = some (.adr a) := atI_nat (by rw [List.getElem?_map, ea]; rfl)
       have ab : atI (as.map T.adr) ((k : Int) + 1) = some (.adr b) := by
         rw [show (k : Int) + 1 = ((k + 1 : Nat) : Int) by lia]
         exact atI_nat (by rw [List.getElem?_map, eb]; rfl)
       rw [hB]; clear hB
       refine seq_cut2 fun K3 hK3 => ?_
       walk_at "rd"
       rw [hk, show ((k + 1 : Nat) : Int) - 1 = (k : Int) by lia, hMr]
       dsimp only
       rw [aa, ab]
       dsimp only
       refine ⟨by decide, fun p hp => ?_⟩
       have hpr : p ≠ r := fun z => by rw [z, hMr] at hp; cases hp
       have hX := Sub.new hp (o := MO.lst [T.adr a, T.adr b])
       have hok2 := hok.sub hX
       have hMr2 := hX _ _ hMr
       have hMp : (updM M2 p (MO.lst [T.adr a, T.adr b])) p = some (.lst [T.adr a, T.adr b]) := updM_same
       have hS2 := hS.trans hX
       generalize updM M2 p (MO.lst [T.adr a, T.adr b]) = M3 at hok2 hMr2 hMp hS2 ⊢
       clear hX hp hok hMr hS
       obtain ⟨ia, ra, ma⟩ := hok2.get ea
       obtain ⟨ib, rb, mb⟩ := hok2.get eb
       obtain ⟨la, ba⟩ := hrb.2 ia (List.mem_of_getElem? ra)
       obtain ⟨lb, bb⟩ := hrb.2 ib (List.mem_of_getElem? rb)
       have esh : sh1 R l = if l > 0 then (R.set k ib).set (k + 1) (tw2 ib ia) else (R.set k (tw2 ia ib)).set (k + 1) ia := by
         unfold sh1
         rw [hk, Nat.add_sub_cancel, List.getD_eq_getElem?_getD, List.getD_eq_getElem?_getD, ra, rb]; rfl
       rw [hK3]; clear hK3
       walk_at "rd"
       have hne : as ≠ [] := fun z => by rw [z] at ea; cases ea
       have hra := hok2.ne hMr2 hne
       have har : a ≠ r := fun z => hra (by rw [← z]; exact List.mem_of_getElem? ea)
       have hbr : b ≠ r := fun z => hra (by rw [← z]; exact List.mem_of_getElem? eb)
       rw [hMp]
       dsimp only
       rw [atI_1, atI_0]
       dsimp only
       have hkl : ((k : Nat) : Int) < ((as.map T.adr).length : Nat) := by rw [List.length_map]; lia
       have hkl2 : ((k : Nat) : Int) + 1 < ((as.map T.adr).length : Nat) := by rw [List.length_map]; lia
       refine ite2 (fun c => ?_) (fun c => ?_)
       · rw [hMr2]
         dsimp only
         rw [ixN_nat (by lia) hkl]
         dsimp only
         rw [show ((k : Nat) : Int).toNat = k by lia]
         have hok4 : RowsV (updM M3 r (.lst ((as.map T.adr).set k (.adr b)))) as R := hok2.upd hra
         have mr2 : (updM M3 r (.lst ((as.map T.adr).set k (.adr b)))) r = some (.lst ((as.map T.adr).set k (.adr b))) := updM_same
         have hS4 : Sub M (updM M3 r (.lst ((as.map T.adr).set k (.adr b)))) := hS2.updF hr0
         have ma2 : updM M3 r (.lst ((as.map T.adr).set k (.adr b))) a = some (.lst (ia.map .int)) := by rw [updM_ne har]; exact ma
         have mb2 : updM M3 r (.lst ((as.map T.adr).set k (.adr b))) b = some (.lst (ib.map .int)) := by rw [updM_ne hbr]; exact mb
         have hMp2 : updM M3 r (.lst ((as.map T.adr).set k (.adr b))) p = some (.lst [T.adr a, T.adr b]) := by rw [updM_ne hpr]; exact hMp
         rw [hMp2]
         dsimp only
         generalize updM M3 r (.lst ((as.map T.adr).set k (.adr b))) = M4 at mr2 hok4 hS4 ma2 mb2 ⊢
         rw [atI_1, atI_0]
         dsimp only
         refine ⟨ib, ia, mb2, ma2, by rw [la, lb], by lia, fun q hq => ?_⟩
         have hqr : q ≠ r := fun z => by rw [z, mr2] at hq; cases hq
         have hqas : q ∉ as := hok4.fresh hq
         dsimp only
         rw [updM_ne hqr.symm, mr2]
         dsimp only
         rw [ixN_nat (by lia) (by rw [List.length_set, List.length_map]; lia)]
         dsimp only
         rw [show ((k : Nat) : Int) + 1 = ((k + 1 : Nat) : Int) by lia, show ((k + 1 : Nat) : Int).toNat = k + 1 by lia]
         have hX := Sub.new hq (o := .lst ((twL ib ia).map .int))
         have e2 : ((as.map T.adr).set k (T.adr b)).set (k + 1) (T.adr q) = ((as.set k b).set (k + 1) q).map T.adr := by rw [List.map_set, List.map_set]
         rw [esh, if_pos c] at hsn
         rw [e2]
         exact ⟨⟨_, _, _, rfl⟩, ⟨(as.set k b).set (k + 1) q, rfl, by rw [hsn]; exact RowsV.upd (((hok4.sub hX).set (hX _ _ mb2)).set updM_same) (notin_set2 hra hbr hqr), nodup_set_up hnd eb hqas, (hfr.set (hfr b (List.mem_of_getElem? eb))).set (hS4.none hq)⟩, (hS4.newr hq).updF hr0⟩
       · refine ⟨ia, ib, ma, mb, by rw [la, lb], by lia, fun q hq => ?_⟩
         have hqr : q ≠ r := fun z => by rw [z, hMr2] at hq; cases hq
         have hpq : p ≠ q := fun z => by rw [← z, hMp] at hq; cases hq
         have hqas : q ∉ as := hok2.fresh hq
         dsimp only
         rw [updM_ne hqr.symm, hMr2]
         dsimp only
         rw [ixN_nat (by lia) hkl]
         dsimp only
         rw [show ((k : Nat) : Int).toNat = k by lia]
         have hX := Sub.new hq (o := .lst ((twL ia ib).map .int))
         have hok4 := (hok2.sub hX).upd hra (o := .lst ((as.map T.adr).set k (.adr q)))
         have hS4 := (hS2.newr hq (o := .lst ((twL ia ib).map .int))).updF hr0 (o := .lst ((as.map T.adr).set k (.adr q)))
         have haq : a ≠ q := fun z => by rw [← z, ma] at hq; cases hq
         have ma2 : updM (updM M3 q (.lst ((twL ia ib).map .int))) r (.lst ((as.map T.adr).set k (.adr q))) a = some (.lst (ia.map .int)) := by rw [updM_ne har, updM_ne haq]; exact ma
         have mq2 : updM (updM M3 q (.lst ((twL ia ib).map .int))) r (.lst ((as.map T.adr).set k (.adr q))) q = some (.lst ((twL ia ib).map .int)) := by rw [updM_ne hqr, updM_same]
         have mr2 : updM (updM M3 q (.lst ((twL ia ib).map .int))) r (.lst ((as.map T.adr).set k (.adr q))) r = some (.lst ((as.map T.adr).set k (.adr q))) := updM_same
         have hMp2 : updM (updM M3 q (.lst ((twL ia ib).map .int))) r (.lst ((as.map T.adr).set k (.adr q))) p = some (.lst [T.adr a, T.adr b]) := by rw [updM_ne hpr, updM_ne hpq]; exact hMp
         rw [hMp2]
         dsimp only
         generalize updM (updM M3 q (.lst ((twL ia ib).map .int))) r (.lst ((as.map T.adr).set k (.adr q))) = M4 at mr2 mq2 hok4 hS4 ma2 ⊢
         rw [atI_0]
         dsimp only
         rw [ixN_nat (by lia) (by rw [List.length_set, List.length_map]; lia)]
         dsimp only
         rw [show ((k : Nat) : Int) + 1 = ((k + 1 : Nat) : Int) by lia, show ((k + 1 : Nat) : Int).toNat = k + 1 by lia]
         have e2 : ((as.map T.adr).set k (T.adr q)).set (k + 1) (T.adr a) = ((as.set k q).set (k + 1) a).map T.adr := by rw [List.map_set, List.map_set]
         rw [esh, if_neg c] at hsn
         rw [e2]
         exact ⟨⟨_, _, _, rfl⟩, ⟨(as.set k q).set (k + 1) a, rfl, by rw [hsn]; exact RowsV.upd (((hok2.sub hX).set updM_same).set (hX _ _ ma)) (notin_set2 hra hqr har), nodup_set_dn hnd ea (by lia) hqas, (hfr.set (hS2.none hq)).set (hfr a (List.mem_of_getElem? ea))⟩, (hS2.newr hq).updF hr0⟩
     · rintro ρ M2 ⟨⟨x1, x2, x3, rfl⟩, ⟨as, hMr, hok, hnd, hfr⟩, hS⟩
       rw [hK2]
       walk_at "rd"
       first | rw [List.length_map, List.take_length] at hok | rw [List.take_length] at hok
       refine rt3_here (h r as M2 hr0 hS hMr hok hnd hfr)
 · exact h.elim
noncomputable def sp_cleared : Sp3 := fun ts M Q => match ts with
 | [.adr p, .adr q, .int c, .int m] => ∃ (a b : List Int), M p = some (.lst (a.map .int)) ∧ M q = some (.lst (b.map .int)) ∧ a.length = b.length ∧ a.length ≤ 6 ∧ 0 ≤ c ∧ c < a.length ∧ 0 < m ∧ m ≤ 97 ∧ (∀ x ∈ a, x.natAbs ≤ 2 ^ 60) ∧ (∀ x ∈ b, x.natAbs ≤ 2 ^ 60) ∧ ∀ (r : Addr), M r = none → Q (.adr r) (updM M r (.lst ((clr m c.toNat a b).map .int)))
 | _ => False
theorem clr_at {m : Int} {c i : Nat} {a b : List Int} {x y u v : Int} (hx : a[i]? = some x) (hy : b[i]? = some y) (hu : a[c]? = some u) (hv : b[c]? = some v) : (clr m c a b)[i]? = some ((x * v - y * u) % m) := by
 unfold clr
 rw [List.getElem?_zipWith, hx, hy, List.getD_eq_getElem?_getD, List.getD_eq_getElem?_getD, hu, hv]; rfl
theorem ok_cleared {P : Program} {w : World} {K : PySem.W.Frag} {mg : Str → Option Value} {base : Heap} {f : Addr} {fd : FuncData} {n : Nat}  (F : Fun K "cleared" "cleared" s_cleared f fd) (hm : mg "cleared" = some (.ref f)) (hb : Binds K fd ["row", "first", "column", "prime"] []) (Z : Zs mg)  : Df P w K mg base (n + 1) "cleared" ["row", "first", "column", "prime"] sp_cleared := by
 refine F.dfn hm hb sc_cleared (by intro ts M Q h; unfold sp_cleared at h; first | (split at h <;> first | rfl | exact h.elim) | (obtain ⟨_, _, _, _, _, rfl, _⟩ := h; rfl) | (obtain ⟨_, _, _, _, rfl, _⟩ := h; rfl) | (obtain ⟨_, _, _, rfl, _⟩ := h; rfl) | (obtain ⟨_, _, rfl, _⟩ := h; rfl) | (obtain ⟨_, rfl, _⟩ := h; rfl)) ⟨_, fun cdv A outer s H E hr => (@ss_one _ _ _ (@s_ret _ _ _ _ (@h_comp _ _ _ _ _ _ _ _ _ _ _ _ _ _ rfl (@i_zip _ _ _ _ _ _ _ _ _ Z.b_zip (@a_cons _ _ _ _ _ (@hv _ 0 _ _ (by rfl) (by first | exact Or.inl rfl | exact Or.inr (Or.inl rfl) | exact Or.inr (Or.inr rfl)) (by decide) (by decide)) (@a_cons _ _ _ _ _ (@hv _ 1 _ _ (by rfl) (by first | exact Or.inl rfl | exact Or.inr (Or.inl rfl) | exact Or.inr (Or.inr rfl)) (by decide) (by decide)) a_nil (by rfl)) (by rfl)) (by rfl) (by rfl) (by rfl)) (@blk_scope _ (defScope s_cleared) _ (["row", "first", "column", "prime"]) (["here", "there", "first", "column", "row", "prime"]) ([none, none, some 1, some 2, some 0, some 3]) (by decide +kernel) rfl rfl) bt_tup2 (fun _ _ _ _ _ => pg_tup rfl (@pgs_cons _ _ _ _ _ (@pg_name _ _ 0 _ (show List.Nodup (["here", "there", "first", "column", "row", "prime"] : List Str) by decide +kernel) rfl (Or.inl rfl) (Or.inr rfl)) (@pgs_cons _ _ _ _ _ (@pg_name _ _ 1 _ (show List.Nodup (["here", "there", "first", "column", "row", "prime"] : List Str) by decide +kernel) rfl (Or.inl rfl) (Or.inr rfl)) pgs_nil (by rfl)) (by rfl))) (fun _ _ _ _ _ => ts_nil) (fun _ _ _ _ _ => (@h_bin _ _ _ _ _ _ _ _ op3_mod (@h_bin _ _ _ _ _ _ _ _ op3_sub (@h_bin _ _ _ _ _ _ _ _ op3_mul (@hv _ 0 _ _ (by rfl) (by first | exact Or.inl rfl | exact Or.inr (Or.inl rfl) | exact Or.inr (Or.inr rfl)) (by decide) (by decide)) (@h_ix _ _ _ _ _ _ (@hv _ 2 _ _ (by rfl) (by first | exact Or.inl rfl | exact Or.inr (Or.inl rfl) | exact Or.inr (Or.inr rfl)) (by decide) (by decide)) (@hv _ 3 _ _ (by rfl) (by first | exact Or.inl rfl | exact Or.inr (Or.inl rfl) | exact Or.inr (Or.inr rfl)) (by decide) (by decide)) (by intro _ _; rfl))) (@h_bin _ _ _ _ _ _ _ _ op3_mul (@hv _ 1 _ _ (by rfl) (by first | exact Or.inl rfl | exact Or.inr (Or.inl rfl) | exact Or.inr (Or.inr rfl)) (by decide) (by decide)) (@h_ix _ _ _ _ _ _ (@hv _ 4 _ _ (by rfl) (by first | exact Or.inl rfl | exact Or.inr (Or.inl rfl) | exact Or.inr (Or.inr rfl)) (by decide) (by decide)) (@hv _ 3 _ _ (by rfl) (by first | exact Or.inl rfl | exact Or.inr (Or.inl rfl) | exact Or.inr (Or.inr rfl)) (by decide) (by decide)) (by intro _ _; rfl)))) (@hv _ 5 _ _ (by rfl) (by first | exact Or.inl rfl | exact Or.inr (Or.inl rfl) | exact Or.inr (Or.inr rfl)) (by decide) (by decide)))) (by intro _; rfl)))), fun ts M Q h => ?_⟩
 unfold sp_cleared at h
 split at h
 · rename_i p q c m
   obtain ⟨a, b, hp, hq, hl, h6, c0, cl, m0, m97, ba, bb, h⟩ := h
   obtain ⟨u, hu⟩ : ∃ u, a[c.toNat]? = some u := ⟨_, List.getElem?_eq_getElem (by lia)⟩
   obtain ⟨v, hv⟩ : ∃ v, b[c.toNat]? = some v := ⟨_, List.getElem?_eq_getElem (by lia)⟩
   have au : atI (a.map T.int) c = some (.int u) := by
     rw [show c = ((c.toNat : Nat) : Int) by lia]; exact atI_nat (by rw [List.getElem?_map, hu]; rfl)
   have av : atI (b.map T.int) c = some (.int v) := by
     rw [show c = ((c.toNat : Nat) : Int) by lia]; exact atI_nat (by rw [List.getElem?_map, hv]; rfl)
   have bu := ba u (List.mem_of_getElem? hu)
   have bv := bb v (List.mem_of_getElem? hv)
   walk_at "rd"
   rw [hp, hq]
   dsimp only
   refine ⟨by rw [List.length_map, List.length_map, hl], fun i ys M' => ys = ((clr m c.toNat a b).take i).map T.int ∧ M' = M, ⟨rfl, rfl⟩, ?_, by rw [zpT_len (by rw [List.length_map, List.length_map, hl]), List.length_map]; exact line_len (by lia), ?_, ?_⟩
   · rintro i ys M' ⟨_, rfl⟩
     exact ⟨hp, hq⟩
   · rintro i x ys M' hx ⟨rfl, rfl⟩
     obtain ⟨t, w, ht, hw, rfl⟩ := zpT_get hx
     obtain ⟨x, hx2, rfl⟩ := get_map_int ht
     obtain ⟨y, hy2, rfl⟩ := get_map_int hw
     walk_at "rd"
     rw [hq]
     dsimp only
     rw [av]
     dsimp only
     rw [hp]
     dsimp only
     rw [au]
     dsimp only
     have bx := ba x (List.mem_of_getElem? hx2)
     have by' := bb y (List.mem_of_getElem? hy2)
     refine ⟨.inl ⟨by lia, by lia⟩, .inl ⟨by lia, by lia⟩, m0, ?_⟩
     rw [← take_snoc_of (clr_at hx2 hy2 hu hv), List.map_append]; rfl
   · rintro ys M' ⟨rfl, rfl⟩ r hr
     rw [zpT_len (by rw [List.length_map, List.length_map, hl]), List.length_map, List.take_of_length_le (by unfold clr; rw [List.length_zipWith]; exact Nat.min_le_left _ _)]
     exact rt3_here (h r hr)
 · exact h.elim
noncomputable def sp_rank_of : Sp3 := fun ts M Q => match ts with
 | [.adr d, .int m] => ∃ (as : List Addr) (n : Nat) (rows : List (List Int)), M d = some (.lst (as.map .adr)) ∧ RowsV M as rows ∧ RB n (2 ^ 60) rows ∧ n ≤ 6 ∧ 0 < m ∧ m ≤ 97 ∧ Q (.int (rkL m n 0 rows : Nat)) M
 | _ => False
theorem rkL_nil {p : Int} {k c : Nat} {rows : List (List Int)} (h : rows.filter (fun r => decide (r.getD c 0 % p ≠ 0)) = []) : rkL p (k + 1) c rows = rkL p k (c + 1) rows := by
 conv => lhs; unfold rkL
 rw [h]
theorem rkL_cons {p : Int} {k c : Nat} {rows t : List (List Int)} {f : List Int} (h : rows.filter (fun r => decide (r.getD c 0 % p ≠ 0)) = f :: t) : rkL p (k + 1) c rows = rkL p k (c + 1) (rows.map fun r => clr p c r f) + 1 := by
 conv => lhs; unfold rkL
 rw [h]
theorem ok_rank_of {P : Program} {w : World} {K : PySem.W.Frag} {mg : Str → Option Value} {base : Heap} {f : Addr} {fd : FuncData} {n : Nat}  (F : Fun K "rank_of" "rank_of" s_rank_of f fd) (hm : mg "rank_of" = some (.ref f)) (hb : Binds K fd ["rows", "prime"] []) (Z : Zs mg) (D_cleared : Df P w K mg base n "cleared" ["row", "first", "column", "prime"] sp_cleared) : Df P w K mg base (n + 1) "rank_of" ["rows", "prime"] sp_rank_of := by
 refine F.dfn hm hb sc_rank_of (by intro ts M Q h; unfold sp_rank_of at h; first | (split at h <;> first | rfl | exact h.elim) | (obtain ⟨_, _, _, _, _, rfl, _⟩ := h; rfl) | (obtain ⟨_, _, _, _, rfl, _⟩ := h; rfl) | (obtain ⟨_, _, _, rfl, _⟩ := h; rfl) | (obtain ⟨_, _, rfl, _⟩ := h; rfl) | (obtain ⟨_, rfl, _⟩ := h; rfl)) ⟨_, fun cdv A outer s H E hr => (@ss_cons _ _ _ _ _ (@s_set _ _ _ _ 2 _ _ h_int sc_rank_of.nd (by rfl) (by first | exact Or.inl rfl | exact Or.inr rfl) (by rfl) (by first | exact .inl rfl | exact .inr rfl | assumption)) (@ss_cons _ _ _ _ _ (@s_for _ _ _ _ _ _ _ _ PassesOwn.never rfl (@i_range1 _ _ _ _ _ _ Z.b_range (@a_cons _ _ _ _ _ (@h_callB _ _ _ _ _ _ _ _ _ call3_len Z.b_len PySem.boot_len (@a_cons _ _ _ _ _ (@hv _ 0 _ _ (by rfl) (by first | exact Or.inl rfl | exact Or.inr (Or.inl rfl) | exact Or.inr (Or.inr rfl)) (by decide) (by decide)) a_nil (by rfl)) (by rfl) (by decide) (by decide) (by rfl) (by rfl)) a_nil (by rfl)) (by rfl) (by rfl)) (@g_name _ _ 3 _ sc_rank_of.nd (by rfl) (by first | exact Or.inl rfl | exact Or.inr rfl) (by first | exact .inl rfl | exact .inr rfl | assumption)) (@ss_cons _ _ _ _ _ (@s_set _ _ _ _ 4 _ _ (@h_comp _ _ _ _ _ _ _ _ _ _ _ _ _ _ rfl (@i_seq _ _ _ _ (@hv _ 0 _ _ (by rfl) (by first | exact Or.inl rfl | exact Or.inr (Or.inl rfl) | exact Or.inr (Or.inr rfl)) (by decide) (by decide))) (@blk_scope _ (defScope s_rank_of) _ (["rows", "prime", "rank", "column", "found"]) (["row", "column", "prime"]) ([none, some 3, some 1]) (by decide +kernel) rfl rfl) bt_name (fun _ _ _ _ _ => @pg_name _ _ 0 _ (show List.Nodup (["row", "column", "prime"] : List Str) by decide +kernel) rfl (Or.inl rfl) (Or.inr rfl)) (fun _ _ _ _ _ => ts_one (@h_tcmp _ _ _ _ _ _ _ _ (@op3_ne _ hr.units) (@h_bin _ _ _ _ _ _ _ _ op3_mod (@h_ix _ _ _ _ _ _ (@hv _ 0 _ _ (by rfl) (by first | exact Or.inl rfl | exact Or.inr (Or.inl rfl) | exact Or.inr (Or.inr rfl)) (by decide) (by decide)) (@hv _ 1 _ _ (by rfl) (by first | exact Or.inl rfl | exact Or.inr (Or.inl rfl) | exact Or.inr (Or.inr rfl)) (by decide) (by decide)) (by intro _ _; rfl)) (@hv _ 2 _ _ (by rfl) (by first | exact Or.inl rfl | exact Or.inr (Or.inl rfl) | exact Or.inr (Or.inr rfl)) (by decide) (by decide))) h_int (@nomark _ _ (by decide) (by decide)))) (fun _ _ _ _ _ => (@hv _ 0 _ _ (by rfl) (by first | exact Or.inl rfl | exact Or.inr (Or.inl rfl) | exact Or.inr (Or.inr rfl)) (by decide) (by decide))) (by intro _; rfl)) sc_rank_of.nd (by rfl) (by first | exact Or.inl rfl | exact Or.inr rfl) (by rfl) (by first | exact .inl rfl | exact .inr rfl | assumption)) (@ss_one _ _ _ (@s_if _ _ _ _ _ _ _ _ (@h_truth _ _ _ (@hv _ 4 _ _ (by rfl) (by first | exact Or.inl rfl | exact Or.inr (Or.inl rfl) | exact Or.inr (Or.inr rfl)) (by decide) (by decide)) (by intro _; rfl)) (@ss_cons _ _ _ _ _ (@s_augI _ 2 _ _ _ _ _ _ _ ip_add h_int sc_rank_of.nd (by rfl) (by first | exact Or.inl rfl | exact Or.inr rfl) (by first | exact .inl rfl | exact .inr rfl | assumption)) (@ss_one _ _ _ (@s_setC _ _ _ _ _ _ _ _ _ _ _ _ _ _ 0 _ _ _ rfl (@i_seq _ _ _ _ (@hv _ 0 _ _ (by rfl) (by first | exact Or.inl rfl | exact Or.inr (Or.inl rfl) | exact Or.inr (Or.inr rfl)) (by decide) (by decide))) (@blk_scope _ (defScope s_rank_of) _ (["rows", "prime", "rank", "column", "found"]) (["row", "found", "column", "prime"]) ([none, some 4, some 3, some 1]) (by decide +kernel) rfl rfl) bt_name (fun _ _ _ _ _ => @pg_name _ _ 0 _ (show List.Nodup (["row", "found", "column", "prime"] : List Str) by decide +kernel) rfl (Or.inl rfl) (Or.inr rfl)) (fun _ _ _ _ _ => ts_nil) (fun _ _ _ _ _ => (@h_call _ _ _ _ _ _ _ _ _ _ D_cleared hr (@a_cons _ _ _ _ _ (@hv _ 0 _ _ (by rfl) (by first | exact Or.inl rfl | exact Or.inr (Or.inl rfl) | exact Or.inr (Or.inr rfl)) (by decide) (by decide)) (@a_cons _ _ _ _ _ (@h_ix _ _ _ _ _ _ (@hv _ 1 _ _ (by rfl) (by first | exact Or.inl rfl | exact Or.inr (Or.inl rfl) | exact Or.inr (Or.inr rfl)) (by decide) (by decide)) h_int (by intro _ _; rfl)) (@a_cons _ _ _ _ _ (@hv _ 2 _ _ (by rfl) (by first | exact Or.inl rfl | exact Or.inr (Or.inl rfl) | exact Or.inr (Or.inr rfl)) (by decide) (by decide)) (@a_cons _ _ _ _ _ (@hv _ 3 _ _ (by rfl) (by first | exact Or.inl rfl | exact Or.inr (Or.inl rfl) | exact Or.inr (Or.inr rfl)) (by decide) (by decide)) a_nil (by rfl)) (by rfl)) (by rfl)) (by rfl)) (by rfl) (by decide) (by rfl) (by rfl))) sc_rank_of.nd (by rfl) (by first | exact Or.inl rfl | exact Or.inr rfl) (by rfl) (by intro _; rfl) (by first | exact .inl rfl | exact .inr rfl | assumption)))) ss_nil))) (by intro _; rfl)) (@ss_one _ _ _ (@s_ret _ _ _ _ (@hv _ 2 _ _ (by rfl) (by first | exact Or.inl rfl | exact Or.inr (Or.inl rfl) | exact Or.inr (Or.inr rfl)) (by decide) (by decide)))))), fun ts M Q h => ?_⟩
 unfold sp_rank_of at h
 split at h
 · rename_i d m
   obtain ⟨as, n, rows, hd, hrv, hrb, h6, m0, m97, h⟩ := h
   refine seq_cut fun K1 hK1 => ?_
   walk_at "rd"
   rw [hK1]; clear hK1
   refine seq_cut fun K2 hK2 => ?_
   refine for_cut fun B hB => ?_
   unfold tFor3
   walk_at "rd"
   rw [hd]
   dsimp only
   have hal := hrv.1.trans hrb.1
   refine ⟨by rw [List.length_map, hal]; lia, by rw [List.length_map, hal]; lia, fun i ρ M' => (∃ d' k x1 x2, ρ = [some (T.adr d'), some (T.int m), some (T.int (k : Nat)), x1, x2] ∧ ∃ as rs, M' d' = some (.lst (as.map .adr)) ∧ RowsV M' as rs ∧ RB n (2 ^ 60) rs ∧ k + rkL m (n - i) i rs = rkL m n 0 rows) ∧ Sub M M', ⟨⟨d, 0, _, _, rfl, as, rows, hd, hrv, hrb, Nat.zero_add _⟩, Sub.refl⟩, fun _ _ _ _ => trivial, ?_, ?_⟩
   · rintro c x ρ M' hx ⟨⟨d', k, x1, x2, rfl, as', rs, hd', hrv', hrb', hk⟩, hS⟩
     have hc := (List.getElem?_eq_some_iff.mp hx).1
     rw [rangeT_length, List.length_map, hal] at hc
     obtain ⟨_, rfl⟩ := rangeT0_get hx
     clear hx
     replace hc : c < n := by lia
     have hal' := hrv'.1.trans hrb'.1
     rw [show n - c = (n - (c + 1)) + 1 by lia] at hk
     rw [hB]; clear hB
     refine seq_cut fun K3 hK3 => ?_
     walk_at "rd"
     rw [hd']
     dsimp only
     refine ⟨fun i ys M2 => (∃ fs : List Addr, ys = fs.map T.adr ∧ RowsV M' fs ((rs.take i).filter fun r => decide (r.getD c 0 % m ≠ 0))) ∧ M2 = M', ⟨⟨[], rfl, RowsV.nil⟩, rfl⟩, ?_, by rw [List.length_map]; exact line_len (by lia), ?_, ?_⟩
     · rintro i ys M2 ⟨_, rfl⟩
       exact hd'
     · rintro i y ys M2 hy ⟨⟨fs, rfl, hfs⟩, rfl⟩
       obtain ⟨a, hy2, rfl⟩ : ∃ a, as'[i]? = some a ∧ y = .adr a := by
         rw [List.getElem?_map] at hy
         cases e : as'[i]? with
         | none => rw [e] at hy; cases hy
         | some a => rw [e] at hy; exact ⟨a, rfl, (Option.some.inj hy).symm⟩
       obtain ⟨is, hrs, ma⟩ := hrv'.get hy2
       obtain ⟨la, ba⟩ := hrb'.2 is (List.mem_of_getElem? hrs)
       obtain ⟨u, hu⟩ : ∃ u, is[c]? = some u := ⟨_, List.getElem?_eq_getElem (by lia)⟩
       have au : atI (is.map T.int) (c : Int) = some (.int u) := atI_nat (by rw [List.getElem?_map, hu]; rfl)
       have eg : is.getD c 0 = u := by rw [List.getD_eq_getElem?_getD, hu]; rfl
       dsimp only
       rw [ma]
       dsimp only
       rw [au]
       dsimp only
       rw [filt_snoc (fun r : List Int => decide (r.getD c 0 % m ≠ 0)) hrs]
       refine ⟨m0, ?_⟩
       rw [eg]
       by_cases z : u % m = 0
       · have d : decide (u % m ≠ 0) = false := decide_eq_false fun y => y z
         rw [if_neg (fun y => y z), d, if_neg (by decide), List.append_nil]
         exact ⟨⟨fs, rfl, hfs⟩, rfl⟩
       · have d : decide (u % m ≠ 0) = true := decide_eq_true z
         rw [if_pos z, d, if_pos rfl]
         exact ⟨⟨fs ++ [a], by rw [List.map_append]; rfl, hfs.snoc ma⟩, rfl⟩
     · rintro ys M2 ⟨⟨fs, rfl, hfs⟩, rfl⟩ q hq
       rw [hK3]; clear hK3
       rw [List.length_map, List.take_of_length_le (by rw [hrv'.1]; exact Nat.le_refl _)] at hfs
       have hX := Sub.new hq (o := MO.lst (fs.map T.adr))
       have hS2 := hS.trans hX
       have hrv2 := hrv'.sub hX
       have hfs2 := hfs.sub hX
       have hd2 := hX _ _ hd'
       have hMq : (updM M2 q (MO.lst (fs.map T.adr))) q = some (.lst (fs.map T.adr)) := updM_same
       generalize updM M2 q (MO.lst (fs.map T.adr)) = M3 at hS2 hrv2 hfs2 hd2 hMq ⊢
       walk_at "rd"
       rw [hMq]
       dsimp only
       cases fs with
       | nil =>
         have e0 := List.eq_nil_of_length_eq_zero hfs2.1.symm
         refine ⟨⟨d', k, _, _, rfl, as', rs, hd2, hrv2, hrb', ?_⟩, hS2⟩
         rw [← hk, rkL_nil e0]
       | cons f fs =>
         obtain ⟨js, hjs, mf⟩ := hfs2.get (i := 0) rfl
         obtain ⟨t, e0⟩ : ∃ t, rs.filter (fun r => decide (r.getD c 0 % m ≠ 0)) = js :: t := by
           cases e : rs.filter (fun r => decide (r.getD c 0 % m ≠ 0)) with
           | nil => rw [e] at hjs; cases hjs
           | cons y t => rw [e] at hjs; exact ⟨t, by rw [Option.some.inj hjs]⟩
         have hjm : js ∈ rs := (List.mem_filter.mp (show js ∈ rs.filter (fun r => decide (r.getD c 0 % m ≠ 0)) by rw [e0]; exact .head _)).1
         obtain ⟨lf, bf⟩ := hrb'.2 js hjm
         rw [show (!(List.map T.adr (f :: fs)).isEmpty) = true from rfl, if_pos rfl, hd2]
         dsimp only
         refine ⟨fun i ys M4 => (∃ bs : List Addr, ys = bs.map T.adr ∧ RowsV M4 bs ((rs.take i).map fun r => clr m c r js)) ∧ Sub M3 M4, ⟨⟨[], rfl, RowsV.nil⟩, Sub.refl⟩, ?_, by rw [List.length_map]; exact line_len (by lia), ?_, ?_⟩
         · rintro i ys M4 ⟨_, hS4⟩
           exact hS4 _ _ hd2
         · rintro i y ys M4 hy ⟨⟨bs, rfl, hbs⟩, hS4⟩
           obtain ⟨a, hy2, rfl⟩ : ∃ a, as'[i]? = some a ∧ y = .adr a := by
             rw [List.getElem?_map] at hy
             cases e : as'[i]? with
             | none => rw [e] at hy; cases hy
             | some a => rw [e] at hy; exact ⟨a, rfl, (Option.some.inj hy).symm⟩
           obtain ⟨is, hrs, ma⟩ := hrv2.get hy2
           obtain ⟨la, ba⟩ := hrb'.2 is (List.mem_of_getElem? hrs)
           rw [hS4 _ _ hMq]
           dsimp only
           rw [List.map_cons, atI_0]
           dsimp only
           refine ⟨is, js, hS4 _ _ ma, hS4 _ _ mf, by rw [la, lf], by lia, by lia, by lia, m0, m97, ba, bf, fun r hr => ?_⟩
           rw [Int.toNat_natCast]
           have hY := Sub.new hr (o := MO.lst ((clr m c is js).map T.int))
           refine ⟨⟨bs ++ [r], by rw [List.map_append]; rfl, ?_⟩, hS4.trans hY⟩
           rw [← take_succ_map (fun r => clr m c r js) hrs]
           exact (hbs.sub hY).snoc updM_same
         · rintro ys M4 ⟨⟨bs, rfl, hbs⟩, hS4⟩ p hp
           rw [List.length_map, List.take_of_length_le (by rw [hrv'.1]; exact Nat.le_refl _)] at hbs
           have hY := Sub.new hp (o := MO.lst (bs.map T.adr))
           refine ⟨⟨p, k + 1, _, _, rfl, bs, _, updM_same, hbs.sub hY, ⟨by rw [List.length_map]; exact hrb'.1, fun r hr => ?_⟩, ?_⟩, (hS2.trans hS4).trans hY⟩
           · obtain ⟨q, hq, rfl⟩ := List.mem_map.mp hr
             obtain ⟨l1, l2⟩ := clr_rb m0 m97 (c := c) (hrb'.2 q hq).1 lf
             exact ⟨l1, fun x hx => Nat.le_trans (l2 x hx) (by decide)⟩
           · rw [rkL_cons e0] at hk
             rw [← hk]; lia
   · rintro ρ M' ⟨⟨d', k, x1, x2, rfl, as', rs, hd', hrv', hrb', hk⟩, hS⟩
     rw [hK2]
     walk_at "rd"
     rw [rangeT_length, List.length_map, hal, show (((n : Nat) : Int)).toNat = n by lia, Nat.sub_self] at hk
     have e : rkL m n 0 rows = k := by rw [← hk]; rfl
     rw [e] at h
     exact rt3_sub h hS
 · exact h.elim
noncomputable def sp_free_colours : Sp3 := fun ts M Q => match ts with
 | [.int m, .tup [.int n, .tup w]] => ∃ ws : List Int, w = ws.map .int ∧ PlOK n ws ∧ oddP m = true ∧ Q (.int (n - (rkL m n.toNat 0 (minU n.toNat (shL (unR n.toNat) ws)) : Nat))) M
 | _ => False
theorem ok_free_colours {P : Program} {w : World} {K : PySem.W.Frag} {mg : Str → Option Value} {base : Heap} {f : Addr} {fd : FuncData} {n : Nat}  (F : Fun K "free_colours" "free_colours" s_free_colours f fd) (hm : mg "free_colours" = some (.ref f)) (hb : Binds K fd ["prime", "plait"] []) (Z : Zs mg) (D_looked : Df P w K mg base n "looked" ["plait"] sp_looked) (D_is_odd_prime : Df P w K mg base n "is_odd_prime" ["number"] sp_is_odd_prime) (D_shares_behind : Df P w K mg base n "shares_behind" ["plait"] sp_shares_behind) (D_rank_of : Df P w K mg base n "rank_of" ["rows", "prime"] sp_rank_of) : Df P w K mg base (n + 1) "free_colours" ["prime", "plait"] sp_free_colours := by
 refine F.dfn hm hb sc_free_colours (by intro ts M Q h; unfold sp_free_colours at h; first | (split at h <;> first | rfl | exact h.elim) | (obtain ⟨_, _, _, _, _, rfl, _⟩ := h; rfl) | (obtain ⟨_, _, _, _, rfl, _⟩ := h; rfl) | (obtain ⟨_, _, _, rfl, _⟩ := h; rfl) | (obtain ⟨_, _, rfl, _⟩ := h; rfl) | (obtain ⟨_, rfl, _⟩ := h; rfl)) ⟨_, fun cdv A outer s H E hr => (@ss_cons _ _ _ _ _ (@s_expr _ _ _ _ (@h_call _ _ _ _ _ _ _ _ _ _ D_looked hr (@a_cons _ _ _ _ _ (@hv _ 1 _ _ (by rfl) (by first | exact Or.inl rfl | exact Or.inr (Or.inl rfl) | exact Or.inr (Or.inr rfl)) (by decide) (by decide)) a_nil (by rfl)) (by rfl) (by decide) (by rfl) (by rfl)) (by rfl)) (@ss_cons _ _ _ _ _ (@s_if _ _ _ _ _ _ _ _ (@h_not _ _ _ _ (@h_truth _ _ _ (@h_call _ _ _ _ _ _ _ _ _ _ D_is_odd_prime hr (@a_cons _ _ _ _ _ (@hv _ 0 _ _ (by rfl) (by first | exact Or.inl rfl | exact Or.inr (Or.inl rfl) | exact Or.inr (Or.inr rfl)) (by decide) (by decide)) a_nil (by rfl)) (by rfl) (by decide) (by rfl) (by rfl)) (by intro _; rfl))) (@ss_one _ _ _ s_never) ss_nil) (@ss_cons _ _ _ _ _ (@s_set _ _ _ _ 2 _ _ (@h_call _ _ _ _ _ _ _ _ _ _ D_shares_behind hr (@a_cons _ _ _ _ _ (@hv _ 1 _ _ (by rfl) (by first | exact Or.inl rfl | exact Or.inr (Or.inl rfl) | exact Or.inr (Or.inr rfl)) (by decide) (by decide)) a_nil (by rfl)) (by rfl) (by decide) (by rfl) (by rfl)) sc_free_colours.nd (by rfl) (by first | exact Or.inl rfl | exact Or.inr rfl) (by rfl) (by first | exact .inl rfl | exact .inr rfl | assumption)) (@ss_cons _ _ _ _ _ (@s_for _ _ _ _ _ _ _ _ PassesOwn.never rfl (@i_range1 _ _ _ _ _ _ Z.b_range (@a_cons _ _ _ _ _ (@h_callB _ _ _ _ _ _ _ _ _ call3_len Z.b_len PySem.boot_len (@a_cons _ _ _ _ _ (@hv _ 2 _ _ (by rfl) (by first | exact Or.inl rfl | exact Or.inr (Or.inl rfl) | exact Or.inr (Or.inr rfl)) (by decide) (by decide)) a_nil (by rfl)) (by rfl) (by decide) (by decide) (by rfl) (by rfl)) a_nil (by rfl)) (by rfl) (by rfl)) (@g_name _ _ 3 _ sc_free_colours.nd (by rfl) (by first | exact Or.inl rfl | exact Or.inr rfl) (by first | exact .inl rfl | exact .inr rfl | assumption)) (@ss_one _ _ _ (@s_augSub _ _ _ _ _ _ _ _ _ _ _ ip_sub (@h_ix _ _ _ _ _ _ (@hv _ 2 _ _ (by rfl) (by first | exact Or.inl rfl | exact Or.inr (Or.inl rfl) | exact Or.inr (Or.inr rfl)) (by decide) (by decide)) (@hv _ 3 _ _ (by rfl) (by first | exact Or.inl rfl | exact Or.inr (Or.inl rfl) | exact Or.inr (Or.inr rfl)) (by decide) (by decide)) (by intro _ _; rfl)) (@hv _ 3 _ _ (by rfl) (by first | exact Or.inl rfl | exact Or.inr (Or.inl rfl) | exact Or.inr (Or.inr rfl)) (by decide) (by decide)) h_int (by intros; rfl))) (by intro _; rfl)) (@ss_one _ _ _ (@s_ret _ _ _ _ (@h_bin _ _ _ _ _ _ _ _ op3_sub (@h_ix _ _ _ _ _ _ (@hv _ 1 _ _ (by rfl) (by first | exact Or.inl rfl | exact Or.inr (Or.inl rfl) | exact Or.inr (Or.inr rfl)) (by decide) (by decide)) h_int (by intro _ _; rfl)) (@h_call _ _ _ _ _ _ _ _ _ _ D_rank_of hr (@a_cons _ _ _ _ _ (@hv _ 2 _ _ (by rfl) (by first | exact Or.inl rfl | exact Or.inr (Or.inl rfl) | exact Or.inr (Or.inr rfl)) (by decide) (by decide)) (@a_cons _ _ _ _ _ (@hv _ 0 _ _ (by rfl) (by first | exact Or.inl rfl | exact Or.inr (Or.inl rfl) | exact Or.inr (Or.inr rfl)) (by decide) (by decide)) a_nil (by rfl)) (by rfl)) (by rfl) (by decide) (by rfl) (by rfl))))))))), fun ts M Q h => ?_⟩
 unfold sp_free_colours at h
 split at h
 · rename_i m n w
   obtain ⟨ws, rfl, ok, hp, h⟩ := h
   refine seq_cut3 fun K1 hK1 => ?_
   walk_at "rd"
   refine ⟨ws, rfl, ok, ?_⟩
   show match some (oddP m) with | some k => if k = false then _ else _ | none => False
   rw [hp]
   dsimp only
   rw [if_neg (by decide)]
   obtain ⟨m3, m97⟩ : 3 ≤ m ∧ m ≤ 97 := by
     unfold oddP at hp
     rw [Bool.and_eq_true, Bool.and_eq_true, decide_eq_true_eq, decide_eq_true_eq] at hp
     exact hp.1
   refine ⟨ws, rfl, ok, fun r as M1 hr hS hMr hok hnd hfr => ?_⟩
   obtain ⟨n1, n6, hl16, hw⟩ := ok
   have hrb := shL_rb (unR_rb n.toNat) (ws := ws) (by rw [show ((n.toNat : Nat) : Int) = n by lia]; exact hw)
   generalize shL (unR n.toNat) ws = R at hok hrb h
   have hRB : ∀ i, i ≤ 6 → RB n.toNat (2 ^ 60) (minK i R) := fun i hi => by
     refine ⟨by rw [minK_len]; exact hrb.1, fun q hq => ?_⟩
     unfold minK at hq
     obtain ⟨j, hj, rfl⟩ := List.mem_map.mp hq
     have hj := List.mem_range.mp hj
     obtain ⟨l1, l2⟩ := hrb.row (k := j) (by rw [← hrb.1]; exact hj)
     have h3 : 3 ^ ws.length * 1 ≤ 3 ^ 16 := by rw [Nat.mul_one]; exact Nat.pow_le_pow_right (by decide) hl16
     have l3 : ∀ x ∈ R.getD j [], x.natAbs ≤ 3 ^ 16 := fun x hx => Nat.le_trans (l2 x hx) h3
     have e16 : 3 ^ 16 + 1 ≤ 2 ^ 60 := by decide
     generalize 3 ^ 16 = P at l3 e16
     generalize 2 ^ 60 = P2 at e16 ⊢
     split
     · refine ⟨by rw [List.length_set]; exact l1, fun x hx => ?_⟩
       rcases List.mem_or_eq_of_mem_set hx with z | rfl
       · have := l3 x z; lia
       · have : (R.getD j []).getD j 0 ∈ R.getD j [] := by
           rw [List.getD_eq_getElem?_getD (i := j) (l := R.getD j []), List.getElem?_eq_getElem (by rw [l1, ← hrb.1]; exact hj)]
           exact List.getElem_mem _
         have := l3 _ this
         lia
     · exact ⟨l1, fun x hx => by have := l3 x hx; lia⟩
   rw [hK1]; clear hK1
   refine seq_cut fun K2 hK2 => ?_
   refine for_cut fun B hB => ?_
   unfold tFor3
   walk_at "rd"
   rw [hMr]
   dsimp only
   have hal := hok.1.trans hrb.1
   refine ⟨by rw [List.length_map, hal]; lia, by rw [List.length_map, hal]; lia, fun i ρ M2 => (∃ x1, ρ = [some (T.int m), some (T.tup [T.int n, T.tup (List.map T.int ws)]), some (T.adr r), x1]) ∧ M2 r = some (.lst (as.map T.adr)) ∧ RowsV M2 as (minK i R) ∧ Sub M M2, ⟨⟨_, rfl⟩, hMr, by rw [minK_zero]; exact hok, hS⟩, fun _ _ _ _ => trivial, ?_, ?_⟩
   · rintro i x ρ M2 hx ⟨⟨x1, rfl⟩, hMr2, hok2, hS2⟩
     have hi := (List.getElem?_eq_some_iff.mp hx).1
     obtain ⟨_, rfl⟩ := rangeT0_get hx
     rw [rangeT_length, List.length_map] at hi
     replace hi : i < as.length := by lia
     obtain ⟨a, ea⟩ : ∃ a, as[i]? = some a := ⟨_, List.getElem?_eq_getElem hi⟩
     have aa : atI (as.map T.adr) (i : Int) = some (.adr a) := atI_nat (by rw [List.getElem?_map, ea]; rfl)
     have ha := List.mem_of_getElem? ea
     obtain ⟨is, eis, ma⟩ := hok2.get ea
     have eR : R[i]? = some is := by
       have hiR : i < R.length := by rw [hrb.1, ← hal]; exact hi
       rw [minK_get hiR, if_neg (Nat.lt_irrefl i), List.getD_eq_getElem?_getD, List.getElem?_eq_getElem hiR] at eis
       rw [List.getElem?_eq_getElem hiR]
       exact eis
     obtain ⟨la, ba⟩ := (hRB i (by lia)).2 is (List.mem_of_getElem? eis)
     obtain ⟨u, hu⟩ : ∃ u, is[i]? = some u := ⟨_, List.getElem?_eq_getElem (by lia)⟩
     have au : atI (is.map T.int) (i : Int) = some (.int u) := atI_nat (by rw [List.getElem?_map, hu]; rfl)
     have eu : is.getD i 0 = u := by rw [List.getD_eq_getElem?_getD, hu]; rfl
     have har : a ≠ r := fun z => hok2.ne hMr2 (fun y => by rw [y] at ea; cases ea) (by rw [← z]; exact ha)
     rw [hB]; clear hB
     walk_at "rd"
     rw [hMr2]
     dsimp only
     rw [aa]
     dsimp only
     rw [ma]
     dsimp only
     have e2 : (is.map T.int).set ((i : Int)).toNat (T.int (u - 1)) = (is.set i (u - 1)).map T.int := by rw [List.map_set]; rfl
     refine ⟨u, by lia, by rw [List.getElem?_map, show ((i : Int)).toNat = i by lia, hu]; rfl, rfl, ⟨_, rfl⟩, by rw [updM_ne har.symm]; exact hMr2, ?_, hS2.updF (hfr a ha)⟩
     rw [e2, minK_succ eR, eu]
     exact hok2.put hnd ea
   · rintro ρ M2 ⟨⟨x1, rfl⟩, hMr2, hok2, hS2⟩
     rw [hK2]; clear hK2
     walk_at "rd"
     rw [rangeT_length, List.length_map, show ((as.length : Nat) : Int).toNat = as.length by lia, hal] at hok2
     refine ⟨as, n.toNat, minK n.toNat R, hMr2, hok2, hRB _ (by lia), by lia, by lia, m97, ?_⟩
     rw [minK_all hrb.1]
     exact rt3_sub h hS2
 · exact h.elim
noncomputable def ringT (m : Int) : List (List Int) := (range0 m).map fun a => (range0 m).map fun b => (2 * b - a) % m
noncomputable def sp_ring_table : Sp3 := fun ts M Q => match ts with
 | [.int m] => 1 ≤ m ∧ m ≤ 7 ∧ Q (.tup ((ringT m).map tupT)) M
 | _ => False
theorem ok_ring_table {P : Program} {w : World} {K : PySem.W.Frag} {mg : Str → Option Value} {base : Heap} {f : Addr} {fd : FuncData} {n : Nat}  (F : Fun K "ring_table" "ring_table" s_ring_table f fd) (hm : mg "ring_table" = some (.ref f)) (hb : Binds K fd ["many"] []) (Z : Zs mg)  : Df P w K mg base (n + 1) "ring_table" ["many"] sp_ring_table := by
 obtain ⟨tk_MOST_COLOURS, c_MOST_COLOURS⟩ := Z.c_MOST_COLOURS
 refine F.dfn hm hb sc_ring_table (by intro ts M Q h; unfold sp_ring_table at h; first | (split at h <;> first | rfl | exact h.elim) | (obtain ⟨_, _, _, _, _, rfl, _⟩ := h; rfl) | (obtain ⟨_, _, _, _, rfl, _⟩ := h; rfl) | (obtain ⟨_, _, _, rfl, _⟩ := h; rfl) | (obtain ⟨_, _, rfl, _⟩ := h; rfl) | (obtain ⟨_, rfl, _⟩ := h; rfl)) ⟨_, fun cdv A outer s H E hr => (@ss_cons _ _ _ _ _ (@s_if _ _ _ _ _ _ _ _ (@h_not _ _ _ _ (@h_tchain _ _ _ _ _ _ _ _ _ _ _ _ op3_le op3_le h_int (@hv _ 0 _ _ (by rfl) (by first | exact Or.inl rfl | exact Or.inr (Or.inl rfl) | exact Or.inr (Or.inr rfl)) (by decide) (by decide)) (@h_globI _ _ _ _ _ c_MOST_COLOURS (by rfl) (by decide)) (by with_unfolding_all rfl))) (@ss_one _ _ _ s_never) ss_nil) (@ss_one _ _ _ (@s_ret _ _ _ _ (@h_callT _ _ _ _ _ _ _ _ _ call3_tuple Z.b_tuple PyProof.Rows.boot_tuple (@a_cons _ _ _ _ _ (@h_comp _ _ _ _ _ _ _ _ _ _ _ _ _ _ rfl (@i_range1 _ _ _ _ _ _ Z.b_range (@a_cons _ _ _ _ _ (@hv _ 0 _ _ (by rfl) (by first | exact Or.inl rfl | exact Or.inr (Or.inl rfl) | exact Or.inr (Or.inr rfl)) (by decide) (by decide)) a_nil (by rfl)) (by rfl) (by rfl)) (@blk_scope _ (defScope s_ring_table) _ ["many"] (["a", "many"]) ([none, some 0]) (by decide +kernel) rfl rfl) bt_name (fun _ _ _ _ _ => @pg_name _ _ 0 _ (show List.Nodup (["a", "many"] : List Str) by decide +kernel) rfl (Or.inr rfl) (Or.inl rfl)) (fun _ _ _ _ _ => ts_nil) (fun _ _ _ _ _ => (@h_callT _ _ _ _ _ _ _ _ _ call3_tuple Z.b_tuple PyProof.Rows.boot_tuple (@a_cons _ _ _ _ _ (@h_comp _ _ _ _ _ _ _ _ _ _ _ _ _ _ rfl (@i_range1 _ _ _ _ _ _ Z.b_range (@a_cons _ _ _ _ _ (@hv _ 1 _ _ (by rfl) (by first | exact Or.inl rfl | exact Or.inr (Or.inl rfl) | exact Or.inr (Or.inr rfl)) (by decide) (by decide)) a_nil (by rfl)) (by rfl) (by rfl)) (@blk_scope2 _ (defScope s_ring_table) _ _ (["a", "many"]) (["b", "a", "many"]) _ ([none, some 0, some 1]) _ _ _ _ _ (by decide +kernel) rfl rfl) bt_name (fun _ _ _ _ _ => @pg_name _ _ 0 _ (show List.Nodup (["b", "a", "many"] : List Str) by decide +kernel) rfl (Or.inl rfl) (Or.inr rfl)) (fun _ _ _ _ _ => ts_nil) (fun _ _ _ _ _ => (@h_bin _ _ _ _ _ _ _ _ op3_mod (@h_bin _ _ _ _ _ _ _ _ op3_sub (@h_bin _ _ _ _ _ _ _ _ op3_mul h_int (@hv _ 0 _ _ (by rfl) (by first | exact Or.inl rfl | exact Or.inr (Or.inl rfl) | exact Or.inr (Or.inr rfl)) (by decide) (by decide))) (@hv _ 1 _ _ (by rfl) (by first | exact Or.inl rfl | exact Or.inr (Or.inl rfl) | exact Or.inr (Or.inr rfl)) (by decide) (by decide))) (@hv _ 2 _ _ (by rfl) (by first | exact Or.inl rfl | exact Or.inr (Or.inl rfl) | exact Or.inr (Or.inr rfl)) (by decide) (by decide)))) (by intro _; rfl)) a_nil (by rfl)) (by rfl) (by decide) (by decide) (by rfl) (by rfl))) (by intro _; rfl)) a_nil (by rfl)) (by rfl) (by decide) (by decide) (by rfl) (by rfl))))), fun ts M Q h => ?_⟩
 unfold sp_ring_table at h
 split at h
 · rename_i m
   obtain ⟨h1, h7, h⟩ := h
   walk_at "rd"
   rw [if_pos h1, if_neg (by lia)]
   refine ⟨by lia, by lia, fun i ys M' => ys = (((range0 m).take i).map fun a => tupT ((range0 m).map fun b => (2 * b - a) % m)) ∧ Sub M M', ⟨rfl, Sub.refl⟩, fun _ _ _ _ => trivial, by rw [rangeT_length]; exact line_len (by lia), ?_, ?_⟩
   · rintro i x ys M' hx ⟨rfl, hS⟩
     rw [rangeT_range0] at hx ⊢
     obtain ⟨a, hx2, rfl⟩ := get_map_int hx
     refine ⟨by lia, by lia, fun j zs M2 => zs = (((range0 m).take j).map fun b => (2 * b - a) % m).map T.int ∧ M2 = M', ⟨rfl, rfl⟩, fun _ _ _ _ => trivial, by rw [List.length_map, range0_length]; exact line_len (by lia), ?_, ?_⟩
     · rintro j y zs M2 hy ⟨rfl, rfl⟩
       obtain ⟨b, hy2, rfl⟩ := get_map_int hy
       dsimp only
       refine ⟨by unfold CMul; exact .inl (by decide), by lia, ?_, rfl⟩
       rw [← take_succ_map (fun b : Int => (2 * b - a) % m) hy2, List.map_append]; rfl
     · rintro zs M2 ⟨rfl, rfl⟩ p hp
       refine ⟨?_, hS.newr hp⟩
       rw [List.length_map, List.take_length, ← take_succ_map (fun a : Int => tupT ((range0 m).map fun b => (2 * b - a) % m)) hx2]; rfl
   · rintro ys M' ⟨rfl, hS⟩ p hp
     rw [rangeT_length, show m.toNat = (range0 m).length by rw [range0_length], List.take_length]
     have : List.map tupT (ringT m) = ((range0 m).map fun a => tupT ((range0 m).map fun b => (2 * b - a) % m)) := by unfold ringT; rw [List.map_map]; rfl
     rw [← this]
     exact rt3_sub h (hS.newr hp)
 · exact h.elim
noncomputable def sp__law_state : Sp3 := fun ts M Q => match ts with
 | [.rd s, .int k] => ∃ ns : List Int, s = ns.map .int ∧ 0 ≤ k ∧ k < 100 ∧ ∀ p c f, M p = none → Q (.adr p) (updM M p (.lst [.int c, .int f]))
 | _ => False
theorem ok__law_state {P : Program} {w : World} {K : PySem.W.Frag} {mg : Str → Option Value} {base : Heap} {f : Addr} {fd : FuncData} {n : Nat}  (F : Fun K "_law_state" "_law_state" s__law_state f fd) (hm : mg "_law_state" = some (.ref f)) (hb : Binds K fd ["script", "k"] []) (Z : Zs mg)  : Df P w K mg base (n + 1) "_law_state" ["script", "k"] sp__law_state := by
 refine F.dfn hm hb sc__law_state (by intro ts M Q h; unfold sp__law_state at h; first | (split at h <;> first | rfl | exact h.elim) | (obtain ⟨_, _, _, _, _, rfl, _⟩ := h; rfl) | (obtain ⟨_, _, _, _, rfl, _⟩ := h; rfl) | (obtain ⟨_, _, _, rfl, _⟩ := h; rfl) | (obtain ⟨_, _, rfl, _⟩ := h; rfl) | (obtain ⟨_, rfl, _⟩ := h; rfl)) ⟨_, fun cdv A outer s H E hr => (@ss_cons _ _ _ _ _ (@s_set _ _ _ _ 2 _ _ h_int sc__law_state.nd (by rfl) (by first | exact Or.inl rfl | exact Or.inr rfl) (by rfl) (by first | exact .inl rfl | exact .inr rfl | assumption)) (@ss_cons _ _ _ _ _ (@s_if _ _ _ _ _ _ _ _ (@h_tcmp _ _ _ _ _ _ _ _ op3_lt (@hv _ 1 _ _ (by rfl) (by first | exact Or.inl rfl | exact Or.inr (Or.inl rfl) | exact Or.inr (Or.inr rfl)) (by decide) (by decide)) (@h_callB _ _ _ _ _ _ _ _ _ call3_len Z.b_len PySem.boot_len (@a_cons _ _ _ _ _ (@hv _ 0 _ _ (by rfl) (by first | exact Or.inl rfl | exact Or.inr (Or.inl rfl) | exact Or.inr (Or.inr rfl)) (by decide) (by decide)) a_nil (by rfl)) (by rfl) (by decide) (by decide) (by rfl) (by rfl)) (@nomark _ _ (by decide) (by decide))) (@ss_one _ _ _ (@s_set _ _ _ _ 2 _ _ (@h_ix _ _ _ _ _ _ (@hv _ 0 _ _ (by rfl) (by first | exact Or.inl rfl | exact Or.inr (Or.inl rfl) | exact Or.inr (Or.inr rfl)) (by decide) (by decide)) (@hv _ 1 _ _ (by rfl) (by first | exact Or.inl rfl | exact Or.inr (Or.inl rfl) | exact Or.inr (Or.inr rfl)) (by decide) (by decide)) (by intro _ _; rfl)) sc__law_state.nd (by rfl) (by first | exact Or.inl rfl | exact Or.inr rfl) (by rfl) (by first | exact .inl rfl | exact .inr rfl | assumption))) ss_nil) (@ss_cons _ _ _ _ _ (@s_if _ _ _ _ _ _ _ _ (@h_tcmp _ _ _ _ _ _ _ _ op3_ge (@hv _ 2 _ _ (by rfl) (by first | exact Or.inl rfl | exact Or.inr (Or.inl rfl) | exact Or.inr (Or.inr rfl)) (by decide) (by decide)) (@h_bin _ _ _ _ _ _ _ _ op3_pow h_int h_int) (@nomark _ _ (by decide) (by decide))) (@ss_one _ _ _ (@s_ret _ _ _ _ (@h_lst _ _ _ _ (@a_cons _ _ _ _ _ (@h_bin _ _ _ _ _ _ _ _ op3_sub (@hv _ 2 _ _ (by rfl) (by first | exact Or.inl rfl | exact Or.inr (Or.inl rfl) | exact Or.inr (Or.inr rfl)) (by decide) (by decide)) (@h_bin _ _ _ _ _ _ _ _ op3_pow h_int h_int)) (@a_cons _ _ _ _ _ h_int a_nil (by rfl)) (by rfl))))) ss_nil) (@ss_one _ _ _ (@s_ret _ _ _ _ (@h_lst _ _ _ _ (@a_cons _ _ _ _ _ (@h_bin _ _ _ _ _ _ _ _ op3_mod (@h_bin _ _ _ _ _ _ _ _ op3_add (@hv _ 2 _ _ (by rfl) (by first | exact Or.inl rfl | exact Or.inr (Or.inl rfl) | exact Or.inr (Or.inr rfl)) (by decide) (by decide)) (@h_bin _ _ _ _ _ _ _ _ op3_mul h_int (@hv _ 1 _ _ (by rfl) (by first | exact Or.inl rfl | exact Or.inr (Or.inl rfl) | exact Or.inr (Or.inr rfl)) (by decide) (by decide)))) h_int) (@a_cons _ _ _ _ _ h_int a_nil (by rfl)) (by rfl)))))))), fun ts M Q h => ?_⟩
 unfold sp__law_state at h
 split at h
 · rename_i s k
   obtain ⟨ns, rfl, h0, h1, h⟩ := h
   walk_at "rd"
   refine ite2 (fun c => ?_) (fun c => ?_)
   · rw [atI_ints ns k h0 c]
     refine ⟨⟨by decide, by decide, by decide⟩, ite2 (fun _ => ⟨⟨by decide, by decide, by decide⟩, by decide, fun p hp => rt3_here (h _ _ _ hp)⟩) (fun _ => ⟨.inl ⟨by decide, by decide⟩, by decide, by decide, fun p hp => rt3_here (h _ _ _ hp)⟩)⟩
   · refine ⟨⟨by decide, by decide, by decide⟩, ite2 (fun _ => ⟨⟨by decide, by decide, by decide⟩, by decide, fun p hp => rt3_here (h _ _ _ hp)⟩) (fun _ => ⟨.inl ⟨by decide, by decide⟩, by decide, by decide, fun p hp => rt3_here (h _ _ _ hp)⟩)⟩
 · exact h.elim
theorem cdiv_ok {x m : Int} (h0 : 0 < m) (h1 : m < 2 ^ 100) : CDivB x m := by
 refine ⟨h0, ?_⟩
 have : m.natAbs.log2 < 100 := (Nat.log2_lt (by lia)).mpr (by lia)
 lia
theorem cmul_mod {x y k : Int} (hk : 0 < k) (hk' : k ≤ 2 ^ 64) : CMul (x % k) y := by
 have h1 := Int.emod_nonneg x (Int.ne_of_gt hk)
 have h2 := Int.emod_lt_of_pos x hk
 exact .inl ⟨by lia, by lia⟩
noncomputable def sp__law_take : Sp3 := fun ts M Q => match ts with
 | [.adr p, .int m] => ∃ s f, M p = some (.lst [.int s, .int f]) ∧ 0 < m ∧ m < 2 ^ 60 ∧ ∀ c s' f', 0 ≤ c → c < m → Q (.int c) (updM M p (.lst [.int s', .int f']))
 | _ => False
theorem ok__law_take {P : Program} {w : World} {K : PySem.W.Frag} {mg : Str → Option Value} {base : Heap} {f : Addr} {fd : FuncData} {n : Nat}  (F : Fun K "_law_take" "_law_take" s__law_take f fd) (hm : mg "_law_take" = some (.ref f)) (hb : Binds K fd ["state", "many"] []) (Z : Zs mg)  : Df P w K mg base (n + 1) "_law_take" ["state", "many"] sp__law_take := by
 refine F.dfn hm hb sc__law_take (by intro ts M Q h; unfold sp__law_take at h; first | (split at h <;> first | rfl | exact h.elim) | (obtain ⟨_, _, _, _, _, rfl, _⟩ := h; rfl) | (obtain ⟨_, _, _, _, rfl, _⟩ := h; rfl) | (obtain ⟨_, _, _, rfl, _⟩ := h; rfl) | (obtain ⟨_, _, rfl, _⟩ := h; rfl) | (obtain ⟨_, rfl, _⟩ := h; rfl)) ⟨_, fun cdv A outer s H E hr => (@ss_cons _ _ _ _ _ (@s_if _ _ _ _ _ _ _ _ (@HW.ht _ _ _ (@w_and _ _ _ _ _ _ _ (@h_tcmp _ _ _ _ _ _ _ _ (@op3_eq _ hr.units) (@h_ix _ _ _ _ _ _ (@hv _ 0 _ _ (by rfl) (by first | exact Or.inl rfl | exact Or.inr (Or.inl rfl) | exact Or.inr (Or.inr rfl)) (by decide) (by decide)) h_int (by intro _ _; rfl)) h_int (@nomark _ _ (by decide) (by decide))) (@w_and1 _ _ _ _ (@h_tcmp _ _ _ _ _ _ _ _ op3_gt (@h_ix _ _ _ _ _ _ (@hv _ 0 _ _ (by rfl) (by first | exact Or.inl rfl | exact Or.inr (Or.inl rfl) | exact Or.inr (Or.inr rfl)) (by decide) (by decide)) h_int (by intro _ _; rfl)) h_int (@nomark _ _ (by decide) (by decide)))))) (@ss_cons _ _ _ _ _ (@s_set _ _ _ _ 2 _ _ (@h_bin _ _ _ _ _ _ _ _ op3_mod (@h_ix _ _ _ _ _ _ (@hv _ 0 _ _ (by rfl) (by first | exact Or.inl rfl | exact Or.inr (Or.inl rfl) | exact Or.inr (Or.inr rfl)) (by decide) (by decide)) h_int (by intro _ _; rfl)) (@hv _ 1 _ _ (by rfl) (by first | exact Or.inl rfl | exact Or.inr (Or.inl rfl) | exact Or.inr (Or.inr rfl)) (by decide) (by decide))) sc__law_take.nd (by rfl) (by first | exact Or.inl rfl | exact Or.inr rfl) (by rfl) (by first | exact .inl rfl | exact .inr rfl | assumption)) (@ss_cons _ _ _ _ _ (@s_asg _ _ _ _ _ _ (@h_bin _ _ _ _ _ _ _ _ op3_div (@h_ix _ _ _ _ _ _ (@hv _ 0 _ _ (by rfl) (by first | exact Or.inl rfl | exact Or.inr (Or.inl rfl) | exact Or.inr (Or.inr rfl)) (by decide) (by decide)) h_int (by intro _ _; rfl)) (@hv _ 1 _ _ (by rfl) (by first | exact Or.inl rfl | exact Or.inr (Or.inl rfl) | exact Or.inr (Or.inr rfl)) (by decide) (by decide))) (@g_sub _ _ _ _ _ _ (@hv _ 0 _ _ (by rfl) (by first | exact Or.inl rfl | exact Or.inr (Or.inl rfl) | exact Or.inr (Or.inr rfl)) (by decide) (by decide)) h_int (by intro _; rfl)) (by rfl) (by rfl) (by rfl)) (@ss_one _ _ _ (@s_ret _ _ _ _ (@hv _ 2 _ _ (by rfl) (by first | exact Or.inl rfl | exact Or.inr (Or.inl rfl) | exact Or.inr (Or.inr rfl)) (by decide) (by decide)))))) ss_nil) (@ss_cons _ _ _ _ _ (@s_asg _ _ _ _ _ _ h_int (@g_sub _ _ _ _ _ _ (@hv _ 0 _ _ (by rfl) (by first | exact Or.inl rfl | exact Or.inr (Or.inl rfl) | exact Or.inr (Or.inr rfl)) (by decide) (by decide)) h_int (by intro _; rfl)) (by rfl) (by rfl) (by rfl)) (@ss_cons _ _ _ _ _ (@s_asg _ _ _ _ _ _ (@h_bin _ _ _ _ _ _ _ _ op3_mod (@h_bin _ _ _ _ _ _ _ _ op3_add (@h_bin _ _ _ _ _ _ _ _ op3_mul (@h_ix _ _ _ _ _ _ (@hv _ 0 _ _ (by rfl) (by first | exact Or.inl rfl | exact Or.inr (Or.inl rfl) | exact Or.inr (Or.inr rfl)) (by decide) (by decide)) h_int (by intro _ _; rfl)) h_int) h_int) h_int) (@g_sub _ _ _ _ _ _ (@hv _ 0 _ _ (by rfl) (by first | exact Or.inl rfl | exact Or.inr (Or.inl rfl) | exact Or.inr (Or.inr rfl)) (by decide) (by decide)) h_int (by intro _; rfl)) (by rfl) (by rfl) (by rfl)) (@ss_cons _ _ _ _ _ (@s_set _ _ _ _ 3 _ _ (@h_bin _ _ _ _ _ _ _ _ op3_mod (@h_bin _ _ _ _ _ _ _ _ op3_add (@h_bin _ _ _ _ _ _ _ _ op3_mul (@h_ix _ _ _ _ _ _ (@hv _ 0 _ _ (by rfl) (by first | exact Or.inl rfl | exact Or.inr (Or.inl rfl) | exact Or.inr (Or.inr rfl)) (by decide) (by decide)) h_int (by intro _ _; rfl)) (@h_ix _ _ _ _ _ _ (@hv _ 0 _ _ (by rfl) (by first | exact Or.inl rfl | exact Or.inr (Or.inl rfl) | exact Or.inr (Or.inr rfl)) (by decide) (by decide)) h_int (by intro _ _; rfl))) (@h_bin _ _ _ _ _ _ _ _ op3_mul h_int (@h_ix _ _ _ _ _ _ (@hv _ 0 _ _ (by rfl) (by first | exact Or.inl rfl | exact Or.inr (Or.inl rfl) | exact Or.inr (Or.inr rfl)) (by decide) (by decide)) h_int (by intro _ _; rfl)))) h_int) sc__law_take.nd (by rfl) (by first | exact Or.inl rfl | exact Or.inr rfl) (by rfl) (by first | exact .inl rfl | exact .inr rfl | assumption)) (@ss_cons _ _ _ _ _ (@s_set _ _ _ _ 3 _ _ (@h_bin _ _ _ _ _ _ _ _ op3_mod (@h_bin _ _ _ _ _ _ _ _ op3_add (@h_bin _ _ _ _ _ _ _ _ op3_mul (@hv _ 3 _ _ (by rfl) (by first | exact Or.inl rfl | exact Or.inr (Or.inl rfl) | exact Or.inr (Or.inr rfl)) (by decide) (by decide)) (@hv _ 3 _ _ (by rfl) (by first | exact Or.inl rfl | exact Or.inr (Or.inl rfl) | exact Or.inr (Or.inr rfl)) (by decide) (by decide))) (@h_bin _ _ _ _ _ _ _ _ op3_mul h_int (@hv _ 3 _ _ (by rfl) (by first | exact Or.inl rfl | exact Or.inr (Or.inl rfl) | exact Or.inr (Or.inr rfl)) (by decide) (by decide)))) h_int) sc__law_take.nd (by rfl) (by first | exact Or.inl rfl | exact Or.inr rfl) (by rfl) (by first | exact .inl rfl | exact .inr rfl | assumption)) (@ss_one _ _ _ (@s_ret _ _ _ _ (@h_bin _ _ _ _ _ _ _ _ op3_mod (@h_bin _ _ _ _ _ _ _ _ op3_div (@hv _ 3 _ _ (by rfl) (by first | exact Or.inl rfl | exact Or.inr (Or.inl rfl) | exact Or.inr (Or.inr rfl)) (by decide) (by decide)) h_int) (@hv _ 1 _ _ (by rfl) (by first | exact Or.inl rfl | exact Or.inr (Or.inl rfl) | exact Or.inr (Or.inr rfl)) (by decide) (by decide)))))))))), fun ts M Q h => ?_⟩
 unfold sp__law_take at h
 split at h
 · rename_i p m
   obtain ⟨s, f, hM, h0, h1, h⟩ := h
   refine seq_cut fun K1 hK1 => ?_
   have hk : K1 [some (.adr p), some (.int m), none, none] M := by
     rw [hK1]
     clear hK1
     walk_at "rd"
     simp only [hM]
     walk_at "rd"
     have i1 : ixN (0 + 1 + 1) 1 = some 1 := by decide
     simp only [i1]
     exact ⟨.inr ⟨by decide, by decide⟩, by decide, cmul_mod (by decide) (by decide), .inl ⟨by decide, by decide⟩, by decide, cmul_mod (by decide) (by decide), .inl ⟨by decide, by decide⟩, by decide, cdiv_ok (by decide) (by decide), h0,
       rt3_here (h _ _ _ (Int.emod_nonneg _ (Int.ne_of_gt h0)) (Int.emod_lt_of_pos _ h0))⟩
   walk_at "rd"
   simp only [hM]
   walk_at "rd"
   have i0 : ixN 2 0 = some 0 := by decide
   exact ite2 (fun c => ite2 (fun c2 => ⟨h0, cdiv_ok h0 (by lia), rt3_here (h _ _ _ (Int.emod_nonneg _ (Int.ne_of_gt h0)) (Int.emod_lt_of_pos _ h0))⟩) (fun c2 => hk)) (fun c => hk)
 · exact h.elim
noncomputable def sp__law_letter : Sp3 := fun ts M Q => match ts with
 | [.adr p, .int n] => ∃ s f, M p = some (.lst [.int s, .int f]) ∧ 2 ≤ n ∧ n ≤ 6 ∧ ∀ l s' f', LetOK n l → Q (.int l) (updM M p (.lst [.int s', .int f']))
 | _ => False
theorem ok__law_letter {P : Program} {w : World} {K : PySem.W.Frag} {mg : Str → Option Value} {base : Heap} {f : Addr} {fd : FuncData} {n : Nat}  (F : Fun K "_law_letter" "_law_letter" s__law_letter f fd) (hm : mg "_law_letter" = some (.ref f)) (hb : Binds K fd ["state", "strands"] []) (Z : Zs mg) (D__law_take : Df P w K mg base n "_law_take" ["state", "many"] sp__law_take) : Df P w K mg base (n + 1) "_law_letter" ["state", "strands"] sp__law_letter := by
 refine F.dfn hm hb sc__law_letter (by intro ts M Q h; unfold sp__law_letter at h; first | (split at h <;> first | rfl | exact h.elim) | (obtain ⟨_, _, _, _, _, rfl, _⟩ := h; rfl) | (obtain ⟨_, _, _, _, rfl, _⟩ := h; rfl) | (obtain ⟨_, _, _, rfl, _⟩ := h; rfl) | (obtain ⟨_, _, rfl, _⟩ := h; rfl) | (obtain ⟨_, rfl, _⟩ := h; rfl)) ⟨_, fun cdv A outer s H E hr => (@ss_cons _ _ _ _ _ (@s_set _ _ _ _ 2 _ _ (@h_call _ _ _ _ _ _ _ _ _ _ D__law_take hr (@a_cons _ _ _ _ _ (@hv _ 0 _ _ (by rfl) (by first | exact Or.inl rfl | exact Or.inr (Or.inl rfl) | exact Or.inr (Or.inr rfl)) (by decide) (by decide)) (@a_cons _ _ _ _ _ (@h_bin _ _ _ _ _ _ _ _ op3_mul h_int (@h_bin _ _ _ _ _ _ _ _ op3_sub (@hv _ 1 _ _ (by rfl) (by first | exact Or.inl rfl | exact Or.inr (Or.inl rfl) | exact Or.inr (Or.inr rfl)) (by decide) (by decide)) h_int)) a_nil (by rfl)) (by rfl)) (by rfl) (by decide) (by rfl) (by rfl)) sc__law_letter.nd (by rfl) (by first | exact Or.inl rfl | exact Or.inr rfl) (by rfl) (by first | exact .inl rfl | exact .inr rfl | assumption)) (@ss_one _ _ _ (@s_ret _ _ _ _ (@h_bin _ _ _ _ _ _ _ _ op3_mul (@h_ix _ _ _ _ _ _ (@h_lst _ _ _ _ (@a_cons _ _ _ _ _ h_int (@a_cons _ _ _ _ _ (@h_un _ _ _ _ _ _ un3_neg h_int) a_nil (by rfl)) (by rfl))) (@h_bin _ _ _ _ _ _ _ _ op3_mod (@hv _ 2 _ _ (by rfl) (by first | exact Or.inl rfl | exact Or.inr (Or.inl rfl) | exact Or.inr (Or.inr rfl)) (by decide) (by decide)) h_int) (by intro _ _; rfl)) (@h_bin _ _ _ _ _ _ _ _ op3_add h_int (@h_bin _ _ _ _ _ _ _ _ op3_div (@hv _ 2 _ _ (by rfl) (by first | exact Or.inl rfl | exact Or.inr (Or.inl rfl) | exact Or.inr (Or.inr rfl)) (by decide) (by decide)) h_int)))))), fun ts M Q h => ?_⟩
 unfold sp__law_letter at h
 split at h
 · rename_i p n
   obtain ⟨s, f, hM, h0, h1, h⟩ := h
   walk_at "rd"
   refine ⟨.inl ⟨by lia, by lia⟩, s, f, hM, by lia, by lia, fun c s1 f1 c0 c1 => ?_⟩
   walk_at "rd"
   refine ⟨by decide, fun p1 hp1 => ?_⟩
   have n1 : p ≠ p1 := fun z => by rw [← z, updM_same] at hp1; cases hp1
   have e1 : ∃ b : Int, (b = 1 ∨ b = -1) ∧ atI [T.int 1, T.int (-1)] (c % 2) = some (.int b) := by
     rcases (show c % 2 = 0 ∨ c % 2 = 1 by lia) with e | e
     · rw [e]; exact ⟨1, .inl rfl, rfl⟩
     · rw [e]; exact ⟨-1, .inr rfl, rfl⟩
   obtain ⟨b, hb, e1⟩ := e1
   simp only [e1]
   have hl : LetOK n (b * (1 + c / 2)) := by
     unfold LetOK
     rcases hb with rfl | rfl
     · lia
     · lia
   exact ⟨by decide, ⟨by decide, by decide⟩, .inl ⟨by lia, by lia⟩, rt3_sub (h _ _ _ hl) (Sub.new hp1)⟩
 · exact h.elim
noncomputable def sp__law_plait : Sp3 := fun ts M Q => match ts with
 | [.adr p, .int most, .int longest] => ∃ s f, M p = some (.lst [.int s, .int f]) ∧ 1 ≤ most ∧ most ≤ 6 ∧ 0 ≤ longest ∧ longest ≤ 100 ∧ ∀ (n : Int) (w : List Int) s' f', 1 ≤ n → n ≤ most → (w.length : Int) ≤ longest → WordOK n w → Q (.tup [.int n, .tup (w.map .int)]) (updM M p (.lst [.int s', .int f']))
 | _ => False
theorem ok__law_plait {P : Program} {w : World} {K : PySem.W.Frag} {mg : Str → Option Value} {base : Heap} {f : Addr} {fd : FuncData} {n : Nat}  (F : Fun K "_law_plait" "_law_plait" s__law_plait f fd) (hm : mg "_law_plait" = some (.ref f)) (hb : Binds K fd ["state", "most", "longest"] []) (Z : Zs mg) (D__law_take : Df P w K mg base n "_law_take" ["state", "many"] sp__law_take) (D__law_letter : Df P w K mg base n "_law_letter" ["state", "strands"] sp__law_letter) : Df P w K mg base (n + 1) "_law_plait" ["state", "most", "longest"] sp__law_plait := by
 refine F.dfn hm hb sc__law_plait (by intro ts M Q h; unfold sp__law_plait at h; first | (split at h <;> first | rfl | exact h.elim) | (obtain ⟨_, _, _, _, _, rfl, _⟩ := h; rfl) | (obtain ⟨_, _, _, _, rfl, _⟩ := h; rfl) | (obtain ⟨_, _, _, rfl, _⟩ := h; rfl) | (obtain ⟨_, _, rfl, _⟩ := h; rfl) | (obtain ⟨_, rfl, _⟩ := h; rfl)) ⟨_, fun cdv A outer s H E hr => (@ss_cons _ _ _ _ _ (@s_set _ _ _ _ 3 _ _ (@h_bin _ _ _ _ _ _ _ _ op3_add h_int (@h_bin _ _ _ _ _ _ _ _ op3_div (@h_bin _ _ _ _ _ _ _ _ op3_mod (@h_bin _ _ _ _ _ _ _ _ op3_add (@h_call _ _ _ _ _ _ _ _ _ _ D__law_take hr (@a_cons _ _ _ _ _ (@hv _ 0 _ _ (by rfl) (by first | exact Or.inl rfl | exact Or.inr (Or.inl rfl) | exact Or.inr (Or.inr rfl)) (by decide) (by decide)) (@a_cons _ _ _ _ _ (@h_bin _ _ _ _ _ _ _ _ op3_mul h_int (@hv _ 1 _ _ (by rfl) (by first | exact Or.inl rfl | exact Or.inr (Or.inl rfl) | exact Or.inr (Or.inr rfl)) (by decide) (by decide))) a_nil (by rfl)) (by rfl)) (by rfl) (by decide) (by rfl) (by rfl)) h_int) (@h_bin _ _ _ _ _ _ _ _ op3_mul h_int (@hv _ 1 _ _ (by rfl) (by first | exact Or.inl rfl | exact Or.inr (Or.inl rfl) | exact Or.inr (Or.inr rfl)) (by decide) (by decide)))) h_int)) sc__law_plait.nd (by rfl) (by first | exact Or.inl rfl | exact Or.inr rfl) (by rfl) (by first | exact .inl rfl | exact .inr rfl | assumption)) (@ss_cons _ _ _ _ _ (@s_set _ _ _ _ 4 _ _ (@h_lst _ _ _ _ a_nil) sc__law_plait.nd (by rfl) (by first | exact Or.inl rfl | exact Or.inr rfl) (by rfl) (by first | exact .inl rfl | exact .inr rfl | assumption)) (@ss_cons _ _ _ _ _ (@s_for _ _ _ _ _ _ _ _ PassesOwn.never rfl (@i_range1 _ _ _ _ _ _ Z.b_range (@a_cons _ _ _ _ _ (@h_bin _ _ _ _ _ _ _ _ op3_mul (@h_call _ _ _ _ _ _ _ _ _ _ D__law_take hr (@a_cons _ _ _ _ _ (@hv _ 0 _ _ (by rfl) (by first | exact Or.inl rfl | exact Or.inr (Or.inl rfl) | exact Or.inr (Or.inr rfl)) (by decide) (by decide)) (@a_cons _ _ _ _ _ (@h_bin _ _ _ _ _ _ _ _ op3_add (@hv _ 2 _ _ (by rfl) (by first | exact Or.inl rfl | exact Or.inr (Or.inl rfl) | exact Or.inr (Or.inr rfl)) (by decide) (by decide)) h_int) a_nil (by rfl)) (by rfl)) (by rfl) (by decide) (by rfl) (by rfl)) (@h_callT _ _ _ _ _ _ _ _ _ call3_int Z.b_int PyProof.Rows.boot_int (@a_cons _ _ _ _ _ (@h_cmp _ _ _ _ _ _ _ _ op3_gt (@hv _ 3 _ _ (by rfl) (by first | exact Or.inl rfl | exact Or.inr (Or.inl rfl) | exact Or.inr (Or.inr rfl)) (by decide) (by decide)) h_int (@nomark _ _ (by decide) (by decide))) a_nil (by rfl)) (by rfl) (by decide) (by decide) (by rfl) (by rfl))) a_nil (by rfl)) (by rfl) (by rfl)) (@g_name _ _ 5 _ sc__law_plait.nd (by rfl) (by first | exact Or.inl rfl | exact Or.inr rfl) (by first | exact .inl rfl | exact .inr rfl | assumption)) (@ss_cons _ _ _ _ _ (@s_expr _ _ _ _ (@h_m_append _ _ _ _ _ _ _ _ (@hv _ 4 _ _ (by rfl) (by first | exact Or.inl rfl | exact Or.inr (Or.inl rfl) | exact Or.inr (Or.inr rfl)) (by decide) (by decide)) (@a_cons _ _ _ _ _ (@h_call _ _ _ _ _ _ _ _ _ _ D__law_letter hr (@a_cons _ _ _ _ _ (@hv _ 0 _ _ (by rfl) (by first | exact Or.inl rfl | exact Or.inr (Or.inl rfl) | exact Or.inr (Or.inr rfl)) (by decide) (by decide)) (@a_cons _ _ _ _ _ (@hv _ 3 _ _ (by rfl) (by first | exact Or.inl rfl | exact Or.inr (Or.inl rfl) | exact Or.inr (Or.inr rfl)) (by decide) (by decide)) a_nil (by rfl)) (by rfl)) (by rfl) (by decide) (by rfl) (by rfl)) a_nil (by rfl)) (by rfl) (by rfl) (by rfl) (by rfl) (by rfl)) (by rfl)) (@ss_one _ _ _ (@s_if _ _ _ _ _ _ _ _ (@HW.ht _ _ _ (@w_and _ _ _ _ _ _ _ (@h_tcmp _ _ _ _ _ _ _ _ (@op3_eq _ hr.units) (@h_call _ _ _ _ _ _ _ _ _ _ D__law_take hr (@a_cons _ _ _ _ _ (@hv _ 0 _ _ (by rfl) (by first | exact Or.inl rfl | exact Or.inr (Or.inl rfl) | exact Or.inr (Or.inr rfl)) (by decide) (by decide)) (@a_cons _ _ _ _ _ h_int a_nil (by rfl)) (by rfl)) (by rfl) (by decide) (by rfl) (by rfl)) h_int (@nomark _ _ (by decide) (by decide))) (@w_and1 _ _ _ _ (@h_tcmp _ _ _ _ _ _ _ _ op3_gt (@h_callB _ _ _ _ _ _ _ _ _ call3_len Z.b_len PySem.boot_len (@a_cons _ _ _ _ _ (@hv _ 4 _ _ (by rfl) (by first | exact Or.inl rfl | exact Or.inr (Or.inl rfl) | exact Or.inr (Or.inr rfl)) (by decide) (by decide)) a_nil (by rfl)) (by rfl) (by decide) (by decide) (by rfl) (by rfl)) h_int (@nomark _ _ (by decide) (by decide)))))) (@ss_one _ _ _ (@s_asg _ _ _ _ _ _ (@h_ix _ _ _ _ _ _ (@h_lst _ _ _ _ (@a_cons _ _ _ _ _ (@h_ix _ _ _ _ _ _ (@hv _ 4 _ _ (by rfl) (by first | exact Or.inl rfl | exact Or.inr (Or.inl rfl) | exact Or.inr (Or.inr rfl)) (by decide) (by decide)) (@h_un _ _ _ _ _ _ un3_neg h_int) (by intro _ _; rfl)) (@a_cons _ _ _ _ _ (@h_bin _ _ _ _ _ _ _ _ op3_sub h_int (@h_ix _ _ _ _ _ _ (@hv _ 4 _ _ (by rfl) (by first | exact Or.inl rfl | exact Or.inr (Or.inl rfl) | exact Or.inr (Or.inr rfl)) (by decide) (by decide)) (@h_un _ _ _ _ _ _ un3_neg h_int) (by intro _ _; rfl))) a_nil (by rfl)) (by rfl))) (@h_call _ _ _ _ _ _ _ _ _ _ D__law_take hr (@a_cons _ _ _ _ _ (@hv _ 0 _ _ (by rfl) (by first | exact Or.inl rfl | exact Or.inr (Or.inl rfl) | exact Or.inr (Or.inr rfl)) (by decide) (by decide)) (@a_cons _ _ _ _ _ h_int a_nil (by rfl)) (by rfl)) (by rfl) (by decide) (by rfl) (by rfl)) (by intro _ _; rfl)) (@g_sub _ _ _ _ _ _ (@hv _ 4 _ _ (by rfl) (by first | exact Or.inl rfl | exact Or.inr (Or.inl rfl) | exact Or.inr (Or.inr rfl)) (by decide) (by decide)) (@h_un _ _ _ _ _ _ un3_neg h_int) (by intro _; rfl)) (by rfl) (by rfl) (by rfl))) ss_nil))) (by intro _; rfl)) (@ss_one _ _ _ (@s_ret _ _ _ _ (@h_tup _ _ _ _ _ (@a_cons _ _ _ _ _ (@hv _ 3 _ _ (by rfl) (by first | exact Or.inl rfl | exact Or.inr (Or.inl rfl) | exact Or.inr (Or.inr rfl)) (by decide) (by decide)) (@a_cons _ _ _ _ _ (@h_callT _ _ _ _ _ _ _ _ _ call3_tuple Z.b_tuple PyProof.Rows.boot_tuple (@a_cons _ _ _ _ _ (@hv _ 4 _ _ (by rfl) (by first | exact Or.inl rfl | exact Or.inr (Or.inl rfl) | exact Or.inr (Or.inr rfl)) (by decide) (by decide)) a_nil (by rfl)) (by rfl) (by decide) (by decide) (by rfl) (by rfl)) a_nil (by rfl)) (by rfl)))))))), fun ts M Q h => ?_⟩
 unfold sp__law_plait at h
 split at h
 · rename_i p most longest
   obtain ⟨s, f, hM, hm1, hm2, hl0, hl1, h⟩ := h
   refine seq_cut2 fun K2 hK2 => ?_
   walk_at "rd"
   refine ⟨.inl ⟨by decide, by decide⟩, s, f, hM, by lia, by lia, fun c s1 f1 c0 c1 => ?_⟩
   refine ⟨.inl ⟨by decide, by decide⟩, by lia, ⟨by decide, by decide⟩, fun r hr => ?_⟩
   have hn : 1 ≤ 1 + (c + 1) % (12 * most) / 12 ∧ 1 + (c + 1) % (12 * most) / 12 ≤ most := by
     have e1 := Int.emod_nonneg (c + 1) (show 12 * most ≠ 0 by lia)
     have e2 := Int.emod_lt_of_pos (c + 1) (show 0 < 12 * most by lia)
     lia
   generalize 1 + (c + 1) % (12 * most) / 12 = n at hn ⊢
   have nr : p ≠ r := fun z => by rw [← z, updM_same] at hr; cases hr
   have hrn : ∀ x, updM M p x r = none := fun x => by
     rw [updM_ne nr.symm] at hr ⊢; exact hr
   rw [hK2]
   refine seq_cut fun K3 hK3 => ?_
   refine for_cut fun B hB => ?_
   walk_at "rd"
   refine ⟨s1, f1, by rw [updM_ne nr, updM_same], by lia, by lia, fun c2 s2 f2 c20 c21 => ?_⟩
   have hb : ∃ k : Int, (if 1 < n then (1 : Int) else 0) = k ∧ ((k = 0) ∨ (k = 1 ∧ 2 ≤ n)) := by
     by_cases c : 1 < n
     · exact ⟨1, if_pos c, .inr ⟨rfl, by lia⟩⟩
     · exact ⟨0, if_neg c, .inl rfl⟩
   obtain ⟨k, ek, hb⟩ := hb
   have hS0 : Sub (updM M p (.lst [.int s2, .int f2])) (updM (updM (updM M p (MO.lst [T.int s1, T.int f1])) r (MO.lst [])) p (MO.lst [T.int s2, T.int f2])) := (Sub.new hr).set
   have hr0 : updM (updM (updM M p (MO.lst [T.int s1, T.int f1])) r (MO.lst [])) p (MO.lst [T.int s2, T.int f2]) r = some (.lst []) := by rw [updM_ne nr.symm, updM_same]
   generalize updM (updM (updM M p (MO.lst [T.int s1, T.int f1])) r (MO.lst [])) p (MO.lst [T.int s2, T.int f2]) = M0 at hS0 hr0 ⊢
   walk_at "rd"
   rw [ek]
   have hck : 0 ≤ c2 * k ∧ c2 * k ≤ longest ∧ (0 < c2 * k → 2 ≤ n) := by
     rcases hb with rfl | ⟨rfl, h2⟩
     · rw [Int.mul_zero]; lia
     · rw [Int.mul_one]; lia
   have hcm : CMul c2 k := .inl ⟨by lia, by lia⟩
   generalize c2 * k = cnt at hck ⊢
   refine ⟨hcm, by lia, by lia, fun i ρ M' => ∃ a w s' f', ρ = [some (T.adr p), some (T.int most), some (T.int longest), some (T.int n), some (T.adr r), a] ∧ M' r = some (.lst (List.map T.int w)) ∧ Sub (updM M p (.lst [.int s', .int f'])) M' ∧ w.length = i ∧ WordOK n w, ⟨none, [], s2, f2, rfl, hr0, hS0, rfl, WordOK.nil⟩, fun _ _ _ _ => trivial, ?_, ?_⟩
   · rintro i x ρ M' hx ⟨a, w, s', f', rfl, hw, hS, hwl, hok⟩
     obtain ⟨hi, rfl⟩ := rangeT0_get hx
     have hp' : M' p = some (.lst [.int s', .int f']) := hS _ _ updM_same
     rw [hB]
     refine seq_cut fun K4 hK4 => ?_
     walk_at "rd"
     rw [hw]
     refine ⟨trivial, s', f', hp', by lia, by lia, fun l s3 f3 hl => ?_⟩
     simp only [updM_ne nr.symm, hw]
     have e1 : List.map T.int w ++ [T.int l] = (w ++ [l]).map T.int := by rw [List.map_append]; rfl
     rw [e1]
     have hS1 : Sub (updM M p (.lst [.int s3, .int f3])) (updM (updM M' p (.lst [.int s3, .int f3])) r (.lst ((w ++ [l]).map T.int))) := hS.set.updF (hrn _)
     have hw1 : updM (updM M' p (.lst [.int s3, .int f3])) r (.lst ((w ++ [l]).map T.int)) r = some (.lst ((w ++ [l]).map T.int)) := updM_same
     generalize updM (updM M' p (.lst [.int s3, .int f3])) r (.lst ((w ++ [l]).map T.int)) = M1 at hS1 hw1 ⊢
     have hp1 : M1 p = some (.lst [.int s3, .int f3]) := hS1 _ _ updM_same
     refine ⟨by rw [List.length_map]; exact line_len (by lia), ?_⟩
     have hok1 : WordOK n (w ++ [l]) := hok.append fun x hx => by rw [List.mem_singleton.mp hx]; exact hl
     rw [hK4]
     walk_at "rd"
     refine ⟨s3, f3, hp1, by decide, by decide, fun c4 s4 f4 c40 c41 => ?_⟩
     have hr2 : updM M1 p (.lst [.int s4, .int f4]) r = some (.lst ((w ++ [l]).map T.int)) := by rw [updM_ne nr.symm, hw1]
     have hS2 : Sub (updM M p (.lst [.int s4, .int f4])) (updM M1 p (.lst [.int s4, .int f4])) := hS1.set
     generalize updM M1 p (.lst [.int s4, .int f4]) = M2 at hr2 hS2 ⊢
     have hp2 : M2 p = some (.lst [.int s4, .int f4]) := hS2 _ _ updM_same
     have hlen : (w ++ [l]).length = i + 1 := by rw [List.length_append, hwl]; rfl
     refine ⟨rfl, by rw [depT_int]; lia, ite2 (fun hc => ?_) (fun hc => ⟨_, _, s4, f4, rfl, hr2, hS2, hlen, hok1⟩)⟩
     simp only [hr2]
     refine ite2 (fun hc2 => ?_) (fun hc2 => ⟨_, _, s4, f4, rfl, rfl, hS2, hlen, hok1⟩)
     rw [List.length_map, hlen] at hc2
     obtain ⟨w0, y, rfl⟩ : ∃ w0 y, w = w0 ++ [y] := by
       rcases List.eq_nil_or_concat w with e | ⟨w0, y, e⟩
       · rw [e] at hwl; simp at hwl; lia
       · exact ⟨w0, y, by rw [e, List.concat_eq_append]⟩
     have e2 : List.map T.int (w0 ++ [y] ++ [l]) = List.map T.int w0 ++ [T.int y, T.int l] := by simp
     have a2 : atI (List.map T.int (w0 ++ [y] ++ [l])) (-2) = some (T.int y) := by rw [e2]; exact atI_last2 _ _ _
     have hy : LetOK n y := hok y (by simp)
     simp only [a2]
     refine ⟨by decide, fun p3 hp3 => ?_⟩
     have q1 : p ≠ p3 := fun z => by rw [← z, hp2] at hp3; cases hp3
     have q2 : r ≠ p3 := fun z => by rw [← z, hr2] at hp3; cases hp3
     refine ⟨s4, f4, by rw [updM_ne q1, hp2], by decide, by decide, fun c5 s5 f5 c50 c51 => ?_⟩
     have e5 : ∃ b : Int, LetOK n b ∧ atI [T.int y, T.int (0 - y)] c5 = some (.int b) := by
       rcases (show c5 = 0 ∨ c5 = 1 by lia) with rfl | rfl
       · exact ⟨y, hy, rfl⟩
       · exact ⟨0 - y, by unfold LetOK at hy ⊢; lia, rfl⟩
     obtain ⟨b, hbL, e5⟩ := e5
     simp only [updM_ne q1.symm, updM_same, e5, updM_ne nr.symm, updM_ne q2, hr2]
     have ix : ixN (List.map T.int (w0 ++ [y] ++ [l])).length (-1) = some (w0.length + 1) := by
       unfold ixN
       rw [List.length_map]
       simp only [List.length_append, List.length_singleton]
       rw [if_neg (by decide), if_pos (by lia)]
       congr 1
       lia
     rw [ix]
     have e6 : (List.map T.int (w0 ++ [y] ++ [l])).set (w0.length + 1) (T.int b) = List.map T.int (w0 ++ [y] ++ [b]) := by
       rw [← List.map_set]
       congr 1
       rw [List.set_append_right _ _ (by simp)]
       simp
     dsimp only
     rw [e6]
     refine ⟨_, w0 ++ [y] ++ [b], s5, f5, rfl, rfl, ?_, by rw [List.length_append, hwl]; rfl, hok.append fun x hx => by rw [List.mem_singleton.mp hx]; exact hbL⟩
     exact ((hS2.newr hp3).set).updF (hrn _)
   · rintro ρ M' ⟨a, w, s', f', rfl, hw, hS, hwl, hok⟩
     rw [rangeT_length] at hwl
     rw [hK3]
     walk_at "rd"
     simp only [hw]
     exact ⟨by decide, rt3_sub (h n w s' f' hn.1 hn.2 (by lia) hok) hS⟩
 · exact h.elim
noncomputable def sp__law_whole : Sp3 := fun ts M Q => match ts with
 | [.int _] => Q (.bl true) M
 | _ => False
theorem ok__law_whole {P : Program} {w : World} {K : PySem.W.Frag} {mg : Str → Option Value} {base : Heap} {f : Addr} {fd : FuncData} {n : Nat}  (F : Fun K "_law_whole" "_law_whole" s__law_whole f fd) (hm : mg "_law_whole" = some (.ref f)) (hb : Binds K fd ["found"] []) (Z : Zs mg)  : Df P w K mg base (n + 1) "_law_whole" ["found"] sp__law_whole := by
 refine F.dfn hm hb sc__law_whole (by intro ts M Q h; unfold sp__law_whole at h; first | (split at h <;> first | rfl | exact h.elim) | (obtain ⟨_, _, _, _, _, rfl, _⟩ := h; rfl) | (obtain ⟨_, _, _, _, rfl, _⟩ := h; rfl) | (obtain ⟨_, _, _, rfl, _⟩ := h; rfl) | (obtain ⟨_, _, rfl, _⟩ := h; rfl) | (obtain ⟨_, rfl, _⟩ := h; rfl)) ⟨_, fun cdv A outer s H E hr => (@ss_one _ _ _ (@s_ret _ _ _ _ (@h_and _ _ _ _ _ _ _ (@h_isi _ _ _ _ _ _ _ .int (@hv _ 0 _ _ (by rfl) (by first | exact Or.inl rfl | exact Or.inr (Or.inl rfl) | exact Or.inr (Or.inr rfl)) (by decide) (by decide)) Z.b_isinstance Z.b_int PyProof.Rows.boot_int (by intro z; cases z) (by rfl) (by rfl) (by decide) (by decide) (by rfl) (by rfl) (by rfl)) (@h_one _ _ _ _ _ (@h_notV _ _ _ _ (@h_isi _ _ _ _ _ _ _ .bool (@hv _ 0 _ _ (by rfl) (by first | exact Or.inl rfl | exact Or.inr (Or.inl rfl) | exact Or.inr (Or.inr rfl)) (by decide) (by decide)) Z.b_isinstance Z.b_bool PyProof.Rows.boot_bool (by intro z; cases z) (by rfl) (by rfl) (by decide) (by decide) (by rfl) (by rfl) (by rfl))))))), fun ts M Q h => ?_⟩
 unfold sp__law_whole at h
 split at h
 · walk_at "rd"
   exact rt3_here h
 · exact h.elim
noncomputable def sp__law_down : Sp3 := fun ts M Q => match ts with
 | [.int m, .tup w, .adr p0] => ∃ (ws cs : List Int), w = ws.map .int ∧ M p0 = some (.lst (cs.map .int)) ∧ 1 ≤ m ∧ m ≤ 7 ∧ WordOK cs.length ws ∧ InA m cs ∧ ws.length < 60 ∧ cs.length < 60 ∧ ∀ r M', M r = none → Sub M M' → M' r = some (.lst ((dn (linT m) ws cs).map .int)) → Q (.adr r) M'
 | _ => False
theorem ok__law_down {P : Program} {w : World} {K : PySem.W.Frag} {mg : Str → Option Value} {base : Heap} {f : Addr} {fd : FuncData} {n : Nat}  (F : Fun K "_law_down" "_law_down" s__law_down f fd) (hm : mg "_law_down" = some (.ref f)) (hb : Binds K fd ["prime", "word", "numbers"] []) (Z : Zs mg)  : Df P w K mg base (n + 1) "_law_down" ["prime", "word", "numbers"] sp__law_down := by
 refine F.dfn hm hb sc__law_down (by intro ts M Q h; unfold sp__law_down at h; first | (split at h <;> first | rfl | exact h.elim) | (obtain ⟨_, _, _, _, _, rfl, _⟩ := h; rfl) | (obtain ⟨_, _, _, _, rfl, _⟩ := h; rfl) | (obtain ⟨_, _, _, rfl, _⟩ := h; rfl) | (obtain ⟨_, _, rfl, _⟩ := h; rfl) | (obtain ⟨_, rfl, _⟩ := h; rfl)) ⟨_, fun cdv A outer s H E hr => (@ss_cons _ _ _ _ _ (@s_set _ _ _ _ 3 _ _ (@h_callT _ _ _ _ _ _ _ _ _ call3_list Z.b_list PyProof.Rows.boot_list (@a_cons _ _ _ _ _ (@hv _ 2 _ _ (by rfl) (by first | exact Or.inl rfl | exact Or.inr (Or.inl rfl) | exact Or.inr (Or.inr rfl)) (by decide) (by decide)) a_nil (by rfl)) (by rfl) (by decide) (by decide) (by rfl) (by rfl)) sc__law_down.nd (by rfl) (by first | exact Or.inl rfl | exact Or.inr rfl) (by rfl) (by first | exact .inl rfl | exact .inr rfl | assumption)) (@ss_cons _ _ _ _ _ (@s_for _ _ _ _ _ _ _ _ PassesOwn.never rfl (@i_seq _ _ _ _ (@hv _ 1 _ _ (by rfl) (by first | exact Or.inl rfl | exact Or.inr (Or.inl rfl) | exact Or.inr (Or.inr rfl)) (by decide) (by decide))) (@g_name _ _ 4 _ sc__law_down.nd (by rfl) (by first | exact Or.inl rfl | exact Or.inr rfl) (by first | exact .inl rfl | exact .inr rfl | assumption)) (@ss_cons _ _ _ _ _ (@s_set _ _ _ _ 5 _ _ (@h_bin _ _ _ _ _ _ _ _ op3_sub (@h_callB _ _ _ _ _ _ _ _ _ call3_abs Z.b_abs PyProof.Rows.boot_abs (@a_cons _ _ _ _ _ (@hv _ 4 _ _ (by rfl) (by first | exact Or.inl rfl | exact Or.inr (Or.inl rfl) | exact Or.inr (Or.inr rfl)) (by decide) (by decide)) a_nil (by rfl)) (by rfl) (by decide) (by decide) (by rfl) (by rfl)) h_int) sc__law_down.nd (by rfl) (by first | exact Or.inl rfl | exact Or.inr rfl) (by rfl) (by first | exact .inl rfl | exact .inr rfl | assumption)) (@ss_cons _ _ _ _ _ (@s_asg _ _ _ _ _ _ (@h_slice _ _ _ _ _ _ _ _ _ (@hv _ 3 _ _ (by rfl) (by first | exact Or.inl rfl | exact Or.inr (Or.inl rfl) | exact Or.inr (Or.inr rfl)) (by decide) (by decide)) (@o_some _ _ _ (@hv _ 5 _ _ (by rfl) (by first | exact Or.inl rfl | exact Or.inr (Or.inl rfl) | exact Or.inr (Or.inr rfl)) (by decide) (by decide))) (@o_some _ _ _ (@h_bin _ _ _ _ _ _ _ _ op3_add (@hv _ 5 _ _ (by rfl) (by first | exact Or.inl rfl | exact Or.inr (Or.inl rfl) | exact Or.inr (Or.inr rfl)) (by decide) (by decide)) h_int))) (@g_tupL _ _ _ _ _ 2 rfl (@gs_cons _ _ _ _ _ (@g_name _ _ 6 _ sc__law_down.nd (by rfl) (by first | exact Or.inl rfl | exact Or.inr rfl) (by first | exact .inl rfl | exact .inr rfl | assumption)) (@gs_cons _ _ _ _ _ (@g_name _ _ 7 _ sc__law_down.nd (by rfl) (by first | exact Or.inl rfl | exact Or.inr rfl) (by first | exact .inl rfl | exact .inr rfl | assumption)) gs_nil (by rfl)) (by rfl)) (by rfl) (by rfl)) (by rfl) (by rfl) (by rfl)) (@ss_one _ _ _ (@s_if _ _ _ _ _ _ _ _ (@h_tcmp _ _ _ _ _ _ _ _ op3_gt (@hv _ 4 _ _ (by rfl) (by first | exact Or.inl rfl | exact Or.inr (Or.inl rfl) | exact Or.inr (Or.inr rfl)) (by decide) (by decide)) h_int (@nomark _ _ (by decide) (by decide))) (@ss_one _ _ _ (@s_asg _ _ _ _ _ _ (@h_lst _ _ _ _ (@a_cons _ _ _ _ _ (@hv _ 7 _ _ (by rfl) (by first | exact Or.inl rfl | exact Or.inr (Or.inl rfl) | exact Or.inr (Or.inr rfl)) (by decide) (by decide)) (@a_cons _ _ _ _ _ (@h_bin _ _ _ _ _ _ _ _ op3_mod (@h_bin _ _ _ _ _ _ _ _ op3_sub (@h_bin _ _ _ _ _ _ _ _ op3_mul h_int (@hv _ 7 _ _ (by rfl) (by first | exact Or.inl rfl | exact Or.inr (Or.inl rfl) | exact Or.inr (Or.inr rfl)) (by decide) (by decide))) (@hv _ 6 _ _ (by rfl) (by first | exact Or.inl rfl | exact Or.inr (Or.inl rfl) | exact Or.inr (Or.inr rfl)) (by decide) (by decide))) (@hv _ 0 _ _ (by rfl) (by first | exact Or.inl rfl | exact Or.inr (Or.inl rfl) | exact Or.inr (Or.inr rfl)) (by decide) (by decide))) a_nil (by rfl)) (by rfl))) (@g_sl _ _ _ _ _ _ _ _ _ (@hv _ 3 _ _ (by rfl) (by first | exact Or.inl rfl | exact Or.inr (Or.inl rfl) | exact Or.inr (Or.inr rfl)) (by decide) (by decide)) (@o_some _ _ _ (@hv _ 5 _ _ (by rfl) (by first | exact Or.inl rfl | exact Or.inr (Or.inl rfl) | exact Or.inr (Or.inr rfl)) (by decide) (by decide))) (@o_some _ _ _ (@h_bin _ _ _ _ _ _ _ _ op3_add (@hv _ 5 _ _ (by rfl) (by first | exact Or.inl rfl | exact Or.inr (Or.inl rfl) | exact Or.inr (Or.inr rfl)) (by decide) (by decide)) h_int)) (by intro _; rfl)) (by rfl) (by rfl) (by rfl))) (@ss_one _ _ _ (@s_asg _ _ _ _ _ _ (@h_lst _ _ _ _ (@a_cons _ _ _ _ _ (@h_bin _ _ _ _ _ _ _ _ op3_mod (@h_bin _ _ _ _ _ _ _ _ op3_sub (@h_bin _ _ _ _ _ _ _ _ op3_mul h_int (@hv _ 6 _ _ (by rfl) (by first | exact Or.inl rfl | exact Or.inr (Or.inl rfl) | exact Or.inr (Or.inr rfl)) (by decide) (by decide))) (@hv _ 7 _ _ (by rfl) (by first | exact Or.inl rfl | exact Or.inr (Or.inl rfl) | exact Or.inr (Or.inr rfl)) (by decide) (by decide))) (@hv _ 0 _ _ (by rfl) (by first | exact Or.inl rfl | exact Or.inr (Or.inl rfl) | exact Or.inr (Or.inr rfl)) (by decide) (by decide))) (@a_cons _ _ _ _ _ (@hv _ 6 _ _ (by rfl) (by first | exact Or.inl rfl | exact Or.inr (Or.inl rfl) | exact Or.inr (Or.inr rfl)) (by decide) (by decide)) a_nil (by rfl)) (by rfl))) (@g_sl _ _ _ _ _ _ _ _ _ (@hv _ 3 _ _ (by rfl) (by first | exact Or.inl rfl | exact Or.inr (Or.inl rfl) | exact Or.inr (Or.inr rfl)) (by decide) (by decide)) (@o_some _ _ _ (@hv _ 5 _ _ (by rfl) (by first | exact Or.inl rfl | exact Or.inr (Or.inl rfl) | exact Or.inr (Or.inr rfl)) (by decide) (by decide))) (@o_some _ _ _ (@h_bin _ _ _ _ _ _ _ _ op3_add (@hv _ 5 _ _ (by rfl) (by first | exact Or.inl rfl | exact Or.inr (Or.inl rfl) | exact Or.inr (Or.inr rfl)) (by decide) (by decide)) h_int)) (by intro _; rfl)) (by rfl) (by rfl) (by rfl))))))) (by intro _; rfl)) (@ss_one _ _ _ (@s_ret _ _ _ _ (@hv _ 3 _ _ (by rfl) (by first | exact Or.inl rfl | exact Or.inr (Or.inl rfl) | exact Or.inr (Or.inr rfl)) (by decide) (by decide)))))), fun ts M Q h => ?_⟩
 unfold sp__law_down at h
 split at h
 · rename_i m w p0
   obtain ⟨ws, cs, rfl, hp0, m1, m7, hw, hc, lw, lc, h⟩ := h
   have hm := linT_m m1
   have ok := linT_ok m1
   refine seq_cut fun K1 hK1 => ?_
   walk_at "rd"
   rw [hp0]
   dsimp only
   intro q hq
   rw [hK1]
   clear hK1
   refine seq_cut fun K2 hK2 => ?_
   refine for_cut fun B1 hB1 => ?_
   unfold tFor3
   walk_at "rd"
   refine ⟨fun i ρ M' => ∃ x1 x2 x3 x4, ρ = [some (T.int m), some (T.tup (List.map T.int ws)), some (T.adr p0), some (T.adr q), x1, x2, x3, x4] ∧ M' q = some (.lst ((dn (linT m) (ws.take i) cs).map .int)) ∧ Sub M M', ⟨_, _, _, _, rfl, updM_same, Sub.new hq⟩, fun _ _ _ _ => trivial, ?_, ?_⟩
   · rintro i x ρ M' hx ⟨x1, x2, x3, x4, rfl, hMq, hS⟩
     obtain ⟨l, hx2, rfl⟩ := get_map_int hx
     obtain ⟨hl1, hl2⟩ := hw l (List.mem_of_getElem? hx2)
     have hin : InA m (dn (linT m) (ws.take i) cs) := by
       have := dn_in ok (WordOK.take hw i) (by rw [hm]; exact hc)
       rwa [hm] at this
     have hlen : (dn (linT m) (ws.take i) cs).length = cs.length := dn_length ..
     have hdn := dn_succ (linT m) hx2 cs
     dsimp only
     rw [hdn]
     generalize dn (linT m) (ws.take i) cs = ds at hin hlen hMq ⊢
     obtain ⟨p, a, b, r, rfl, hp⟩ := cutC (cs := ds) (k := l.natAbs - 1) (by lia)
     have hk : p.length + 1 = l.natAbs := by lia
     obtain ⟨_, ha, hb, _⟩ := inA_cut.mp hin
     rw [dn1_cut hk, hB1]
     clear hB1
     refine seq_cut2 fun K3 hK3 => ?_
     walk_at "rd"
     rw [hMq]
     dsimp only
     intro e he
     have e1 : ((l.natAbs : Nat) : Int) - 1 = (p.length : Int) := by lia
     have hqe : q ≠ e := fun z => by rw [← z, hMq] at he; cases he
     rw [e1, cut_two]
     refine ⟨rfl, rfl, ?_⟩
     have hMq2 : (updM M' e (MO.lst [.int a, .int b])) q = some (.lst ((p ++ a :: b :: r).map T.int)) := by rw [updM_ne hqe]; exact hMq
     have hS2 : Sub M (updM M' e (MO.lst [.int a, .int b])) := hS.newr he
     have hq0 : M q = none := hq
     generalize updM M' e (MO.lst [.int a, .int b]) = M2 at hMq2 hS2 ⊢
     rw [hK3]
     clear hK3
     have fin : ∀ (x y : Int) (M4 : MH) (f : Addr), M4 q = some (.lst ((p ++ a :: b :: r).map T.int)) → Sub M M4 → M4 f = none → ∃ i j : Nat, some (p.length : Int) = some (i : Int) ∧ some ((p.length : Int) + 2) = some (j : Int) ∧ i ≤ j ∧ j ≤ ((p ++ a :: b :: r).map T.int).length ∧ ((p ++ a :: b :: r).map T.int).length + [T.int x, T.int y].length ≤ sizeLine ∧ ∃ x1 x2 x3 x4, [some (T.int m), some (T.tup (List.map T.int ws)), some (T.adr p0), some (T.adr q), some (T.int l), some (T.int p.length), some (T.int a), some (T.int b)] = [some (T.int m), some (T.tup (List.map T.int ws)), some (T.adr p0), some (T.adr q), x1, x2, x3, x4] ∧ some (MO.lst (((p ++ a :: b :: r).map T.int).take i ++ [T.int x, T.int y] ++ ((p ++ a :: b :: r).map T.int).drop j)) = some (MO.lst ((p ++ x :: y :: r).map T.int)) ∧ Sub M (updM (updM M4 f (MO.lst [T.int x, T.int y])) q (MO.lst (((p ++ a :: b :: r).map T.int).take i ++ [T.int x, T.int y] ++ ((p ++ a :: b :: r).map T.int).drop j))) := by
       intro x y M4 f hq4 hS4 hf4
       have hl4 : (p ++ a :: b :: r).length < 60 := by rw [hlen]; exact lc
       refine ⟨p.length, p.length + 2, rfl, rfl, by lia, by rw [List.length_map, List.length_append, List.length_cons, List.length_cons]; lia, line_len' (by rw [List.length_map]; simp only [List.length_cons, List.length_nil] at hl4 ⊢; lia), _, _, _, _, rfl, by rw [put_two], (hS4.newr hf4).updF hq0⟩
     have ea1 := ha.1
     have ea2 := ha.2
     have eb1 := hb.1
     have eb2 := hb.2
     walk_at "rd"
     refine ite2 (fun pos => ?_) (fun pos => ?_)
     · rw [show pr1 (linT m) l a b = b from if_pos pos, show pr2 (linT m) l a b = g2 (linT m) a b from if_pos pos, linT_g ha hb]
       refine ⟨.inl ⟨by lia, by lia⟩, by lia, by decide, fun f hf => ?_⟩
       have hqf : q ≠ f := fun z => by rw [← z, hMq2] at hf; cases hf
       rw [updM_ne hqf, hMq2]
       exact fin _ _ M2 f hMq2 hS2 hf
     · rw [show pr1 (linT m) l a b = iv (linT m) b a from if_neg pos, show pr2 (linT m) l a b = a from if_neg pos, iv_lin m1 ha hb]
       refine ⟨.inl ⟨by lia, by lia⟩, by lia, by decide, fun f hf => ?_⟩
       have hqf : q ≠ f := fun z => by rw [← z, hMq2] at hf; cases hf
       rw [updM_ne hqf, hMq2]
       exact fin _ _ M2 f hMq2 hS2 hf
   · rintro ρ M' ⟨x1, x2, x3, x4, rfl, hMq, hS⟩
     rw [hK2]
     walk_at "rd"
     rw [List.take_length] at hMq
     exact rt3_here (h q M' hq hS hMq)
 · exact h.elim
theorem oddP_prime {p : Int} (h : oddP p = true) : PrimeI p := by
 unfold oddP at h
 rw [Bool.and_eq_true, Bool.and_eq_true, decide_eq_true_eq, decide_eq_true_eq, List.all_eq_true] at h
 obtain ⟨⟨h1, h2⟩, h3⟩ := h
 refine ⟨by lia, fun q q2 qp => ?_⟩
 have := h3 (q - 2).toNat (List.mem_range.mpr (by lia))
 rw [decide_eq_true_eq, show 2 + (((q - 2).toNat : Nat) : Int) = q by lia] at this
 exact this
theorem tab357 {m : Int} (h : m = 3 ∨ m = 5 ∨ m = 7) : tabB (ringT m) = true := by
 rcases h with rfl | rfl | rfl
 · decide +kernel
 · decide +kernel
 · decide +kernel
noncomputable def affL (m t s x : Int) : Int := (t * x + s) % m
theorem affL_in {m : Int} (hm : 1 ≤ m) (t s x : Int) : InM m (affL m t s x) := mod_in hm
theorem aff_lin {m : Int} (hm : 1 ≤ m) (t s a b : Int) : (2 * affL m t s b - affL m t s a) % m = affL m t s ((2 * b - a) % m) := by
 unfold affL
 have e1 : (2 * ((t * b + s) % m) - (t * a + s) % m) % m = (2 * (t * b + s) - (t * a + s)) % m := by
   rw [Int.sub_emod, Int.mul_emod, Int.emod_emod, Int.emod_emod, ← Int.mul_emod, ← Int.sub_emod]
 have e2 : (t * ((2 * b - a) % m) + s) % m = (t * (2 * b - a) + s) % m := by
   rw [Int.add_emod, Int.mul_emod, Int.emod_emod, ← Int.mul_emod, ← Int.add_emod]
 rw [e1, e2]
 congr 1
 grind
theorem dn1_aff {m : Int} (hm : 1 ≤ m) {t s : Int} {cs : List Int} {l : Int} (hl : LetOK cs.length l) (hc : InA m cs) : dn1 (linT m) (cs.map (affL m t s)) l = (dn1 (linT m) cs l).map (affL m t s) := by
 obtain ⟨hl1, hl2⟩ := hl
 obtain ⟨p, a, b, r, rfl, hp⟩ := cutC (cs := cs) (k := l.natAbs - 1) (by lia)
 have hk : p.length + 1 = l.natAbs := by lia
 obtain ⟨_, ha, hb, _⟩ := inA_cut.mp hc
 rw [dn1_cut hk, List.map_append, List.map_cons, List.map_cons, dn1_cut (by rw [List.length_map]; exact hk), List.map_append, List.map_cons, List.map_cons]
 have fa := affL_in hm t s a
 have fb := affL_in hm t s b
 by_cases c : l > 0
 · rw [show ∀ a b, pr1 (linT m) l a b = b from fun a b => if_pos c, show ∀ a b, pr1 (linT m) l a b = b from fun a b => if_pos c, show ∀ a b, pr2 (linT m) l a b = g2 (linT m) a b from fun a b => if_pos c, show ∀ a b, pr2 (linT m) l a b = g2 (linT m) a b from fun a b => if_pos c, linT_g ha hb, linT_g fa fb, aff_lin hm]
 · rw [show ∀ a b, pr1 (linT m) l a b = iv (linT m) b a from fun a b => if_neg c, show ∀ a b, pr1 (linT m) l a b = iv (linT m) b a from fun a b => if_neg c, show ∀ a b, pr2 (linT m) l a b = a from fun a b => if_neg c, show ∀ a b, pr2 (linT m) l a b = a from fun a b => if_neg c, iv_lin hm ha hb, iv_lin hm fa fb, aff_lin hm]
theorem dn_aff {m : Int} (hm : 1 ≤ m) {t s : Int} : ∀ {w cs : List Int}, WordOK cs.length w → InA m cs → dn (linT m) w (cs.map (affL m t s)) = (dn (linT m) w cs).map (affL m t s)
 | [], _, _, _ => rfl
 | l :: w, cs, hw, hc => by
   show dn (linT m) w (dn1 (linT m) (cs.map (affL m t s)) l) = (dn (linT m) w (dn1 (linT m) cs l)).map (affL m t s)
   rw [dn1_aff hm (hw l (.head _)) hc]
   have hin := dn1_in (linT_ok hm) (hw l (.head _)) (by rw [linT_m hm]; exact hc)
   rw [linT_m hm] at hin
   exact dn_aff hm (w := w) (by rw [dn1_length]; exact fun x hx => hw x (.tail _ hx)) hin
theorem dn_const {m : Int} (hm : 1 ≤ m) {a : Int} (ha : InM m a) {n : Nat} {w : List Int} (hw : WordOK n w) : dn (linT m) w (List.replicate n a) = List.replicate n a := by
 induction w with
 | nil => rfl
 | cons l w ih =>
   obtain ⟨hl1, hl2⟩ := hw l (.head _)
   obtain ⟨p, x, y, r, e, hp⟩ := cutC (cs := List.replicate n a) (k := l.natAbs - 1) (by rw [List.length_replicate]; lia)
   have hk : p.length + 1 = l.natAbs := by lia
   have all : ∀ z ∈ p ++ x :: y :: r, z = a := fun z hz => by rw [← e] at hz; exact List.eq_of_mem_replicate hz
   have hx : x = a := all x (by simp)
   have hy : y = a := all y (by simp)
   subst hx; subst hy
   show dn (linT m) w (dn1 (linT m) (List.replicate n y) l) = _
   have ps := pr_same (linT_ok hm) (l := l) (a := y) (by rw [linT_m hm]; exact ha)
   rw [e, dn1_cut hk, ps.1, ps.2, ← e]
   exact ih fun z hz => hw z (.tail _ hz)
theorem free_one {p : Int} (hp : PrimeI p) {n : Nat} (hn : 1 ≤ n) {ws : List Int} (hw : WordOK n ws) : 1 ≤ freeI p n ws := by
 have hc := free_count hp hw
 have p2 := hp.1
 by_cases z : freeI p n ws = 0
 · rw [z, Nat.pow_zero] at hc
   have mem : ∀ a, InM p a → List.replicate n a ∈ fixR (linT p) ws n := fun a ha => by
     refine fixR_iff.mpr ⟨⟨List.length_replicate .., fun c hc => ?_⟩, dn_const (by lia) ha hw⟩
     rw [List.eq_of_mem_replicate hc, linT_m (by lia)]; exact ha
   have m0 := mem 0 ⟨by lia, by lia⟩
   have m1 := mem 1 ⟨by lia, by lia⟩
   match h : fixR (linT p) ws n, hc with
   | [x], _ =>
     rw [h] at m0 m1
     have e := (List.mem_singleton.mp m0).trans (List.mem_singleton.mp m1).symm
     obtain ⟨k, rfl⟩ : ∃ k, n = k + 1 := ⟨n - 1, by lia⟩
     rw [List.replicate_succ, List.replicate_succ] at e
     injection e with e _
     exact absurd e (by decide)
 · lia
noncomputable def primesL : List Int := [3, 5, 7, 11, 13, 17, 19, 23, 29, 31, 37, 41, 43, 47, 53, 59, 61, 67, 71, 73, 79, 83, 89, 97]
theorem primes_ok : ∀ p ∈ primesL, oddP p = true := by decide +kernel
noncomputable def sp_law : Sp3 := fun ts M Q => match ts with
 | [.rd s] => ∃ ns : List Int, s = ns.map .int ∧ Q (.bl true) M
 | _ => False
theorem law_starts (ns : List Int) (M : MH) (Q : VK3) (_ : ns.length ≤ 63) (h : Q (.bl true) M) : sp_law [.rd (ns.map .int)] M Q := ⟨ns, rfl, h⟩
theorem ok_law {P : Program} {w : World} {K : PySem.W.Frag} {mg : Str → Option Value} {base : Heap} {f : Addr} {fd : FuncData} {n : Nat}  (F : Fun K "law" "law" s_law f fd) (Z : Zs mg) (D__law_state : Df P w K mg base n "_law_state" ["script", "k"] sp__law_state) (D__law_plait : Df P w K mg base n "_law_plait" ["state", "most", "longest"] sp__law_plait) (D__law_take : Df P w K mg base n "_law_take" ["state", "many"] sp__law_take) (D_free_colours : Df P w K mg base n "free_colours" ["prime", "plait"] sp_free_colours) (D_colourings : Df P w K mg base n "colourings" ["table", "plait"] sp_colourings) (D_ring_table : Df P w K mg base n "ring_table" ["many"] sp_ring_table) (D__law_whole : Df P w K mg base n "_law_whole" ["found"] sp__law_whole) (D__law_down : Df P w K mg base n "_law_down" ["prime", "word", "numbers"] sp__law_down) : FnOk P w K mg base CX0 (n + 1) f fd ["script"] (dSp K sp_law) := by
 refine F.fnk sc_law (by intro ts M Q h; unfold sp_law at h; first | (split at h <;> first | rfl | exact h.elim) | (obtain ⟨_, _, _, _, _, rfl, _⟩ := h; rfl) | (obtain ⟨_, _, _, _, rfl, _⟩ := h; rfl) | (obtain ⟨_, _, _, rfl, _⟩ := h; rfl) | (obtain ⟨_, _, rfl, _⟩ := h; rfl) | (obtain ⟨_, rfl, _⟩ := h; rfl)) ⟨_, fun cdv A outer s H E hr => (@ss_cons _ _ _ _ _ (@s_set _ _ _ _ 1 _ _ (@h_call _ _ _ _ _ _ _ _ _ _ D__law_state hr (@a_cons _ _ _ _ _ (@hv _ 0 _ _ (by rfl) (by first | exact Or.inl rfl | exact Or.inr (Or.inl rfl) | exact Or.inr (Or.inr rfl)) (by decide) (by decide)) (@a_cons _ _ _ _ _ h_int a_nil (by rfl)) (by rfl)) (by rfl) (by decide) (by rfl) (by rfl)) sc_law.nd (by rfl) (by first | exact Or.inl rfl | exact Or.inr rfl) (by rfl) (by first | exact .inl rfl | exact .inr rfl | assumption)) (@ss_cons _ _ _ _ _ (@s_set _ _ _ _ 2 _ _ (@h_call _ _ _ _ _ _ _ _ _ _ D__law_plait hr (@a_cons _ _ _ _ _ (@hv _ 1 _ _ (by rfl) (by first | exact Or.inl rfl | exact Or.inr (Or.inl rfl) | exact Or.inr (Or.inr rfl)) (by decide) (by decide)) (@a_cons _ _ _ _ _ h_int (@a_cons _ _ _ _ _ h_int a_nil (by rfl)) (by rfl)) (by rfl)) (by rfl) (by decide) (by rfl) (by rfl)) sc_law.nd (by rfl) (by first | exact Or.inl rfl | exact Or.inr rfl) (by rfl) (by first | exact .inl rfl | exact .inr rfl | assumption)) (@ss_cons _ _ _ _ _ (@s_set _ _ _ _ 3 _ _ (by exact (@h_ix _ _ _ _ _ _ (@h_lst _ _ _ _ (@a_cons _ _ _ _ _ h_int (@a_cons _ _ _ _ _ (@h_ix _ _ _ _ _ _ (@h_lst _ _ _ _ (@a_cons _ _ _ _ _ h_int (@a_cons _ _ _ _ _ h_int (@a_cons _ _ _ _ _ (@h_ix _ _ _ _ _ _ (@h_lst _ _ _ _ (@a_cons _ _ _ _ _ h_int (@a_cons _ _ _ _ _ h_int a_nil (by rfl)) (by rfl))) (@h_callT _ _ _ _ _ _ _ _ _ call3_int Z.b_int PyProof.Rows.boot_int (@a_cons _ _ _ _ _ (@h_cmp _ _ _ _ _ _ _ _ op3_lt (@h_ix _ _ _ _ _ _ (@hv _ 2 _ _ (by rfl) (by first | exact Or.inl rfl | exact Or.inr (Or.inl rfl) | exact Or.inr (Or.inr rfl)) (by decide) (by decide)) h_int (by intro _ _; rfl)) h_int (@nomark _ _ (by decide) (by decide))) a_nil (by rfl)) (by rfl) (by decide) (by decide) (by rfl) (by rfl)) (by intro _ _; rfl)) a_nil (by rfl)) (by rfl)) (by rfl))) (@h_call _ _ _ _ _ _ _ _ _ _ D__law_take hr (@a_cons _ _ _ _ _ (@hv _ 1 _ _ (by rfl) (by first | exact Or.inl rfl | exact Or.inr (Or.inl rfl) | exact Or.inr (Or.inr rfl)) (by decide) (by decide)) (@a_cons _ _ _ _ _ h_int a_nil (by rfl)) (by rfl)) (by rfl) (by decide) (by rfl) (by rfl)) (by intro _ _; rfl)) a_nil (by rfl)) (by rfl))) (@h_callT _ _ _ _ _ _ _ _ _ call3_int Z.b_int PyProof.Rows.boot_int (@a_cons _ _ _ _ _ (@h_cmp _ _ _ _ _ _ _ _ op3_lt (@h_ix _ _ _ _ _ _ (@hv _ 2 _ _ (by rfl) (by first | exact Or.inl rfl | exact Or.inr (Or.inl rfl) | exact Or.inr (Or.inr rfl)) (by decide) (by decide)) h_int (by intro _ _; rfl)) h_int (@nomark _ _ (by decide) (by decide))) a_nil (by rfl)) (by rfl) (by decide) (by decide) (by rfl) (by rfl)) (by intro _ _; rfl))) sc_law.nd (by rfl) (by first | exact Or.inl rfl | exact Or.inr rfl) (by rfl) (by first | exact .inl rfl | exact .inr rfl | assumption)) (@ss_cons _ _ _ _ _ (@s_set _ _ _ _ 4 _ _ (@h_call _ _ _ _ _ _ _ _ _ _ D_free_colours hr (@a_cons _ _ _ _ _ (@hv _ 3 _ _ (by rfl) (by first | exact Or.inl rfl | exact Or.inr (Or.inl rfl) | exact Or.inr (Or.inr rfl)) (by decide) (by decide)) (@a_cons _ _ _ _ _ (@hv _ 2 _ _ (by rfl) (by first | exact Or.inl rfl | exact Or.inr (Or.inl rfl) | exact Or.inr (Or.inr rfl)) (by decide) (by decide)) a_nil (by rfl)) (by rfl)) (by rfl) (by decide) (by rfl) (by rfl)) sc_law.nd (by rfl) (by first | exact Or.inl rfl | exact Or.inr rfl) (by rfl) (by first | exact .inl rfl | exact .inr rfl | assumption)) (@ss_cons _ _ _ _ _ (@s_set _ _ _ _ 5 _ _ (@h_call _ _ _ _ _ _ _ _ _ _ D_colourings hr (@a_cons _ _ _ _ _ (@h_call _ _ _ _ _ _ _ _ _ _ D_ring_table hr (@a_cons _ _ _ _ _ (@hv _ 3 _ _ (by rfl) (by first | exact Or.inl rfl | exact Or.inr (Or.inl rfl) | exact Or.inr (Or.inr rfl)) (by decide) (by decide)) a_nil (by rfl)) (by rfl) (by decide) (by rfl) (by rfl)) (@a_cons _ _ _ _ _ (@hv _ 2 _ _ (by rfl) (by first | exact Or.inl rfl | exact Or.inr (Or.inl rfl) | exact Or.inr (Or.inr rfl)) (by decide) (by decide)) a_nil (by rfl)) (by rfl)) (by rfl) (by decide) (by rfl) (by rfl)) sc_law.nd (by rfl) (by first | exact Or.inl rfl | exact Or.inr rfl) (by rfl) (by first | exact .inl rfl | exact .inr rfl | assumption)) (@ss_cons _ _ _ _ _ (@s_set _ _ _ _ 6 _ _ h_int sc_law.nd (by rfl) (by first | exact Or.inl rfl | exact Or.inr rfl) (by rfl) (by first | exact .inl rfl | exact .inr rfl | assumption)) (@ss_cons _ _ _ _ _ (@s_for _ _ _ _ _ _ _ _ PassesOwn.never rfl (@i_range1 _ _ _ _ _ _ Z.b_range (@a_cons _ _ _ _ _ (@hv _ 4 _ _ (by rfl) (by first | exact Or.inl rfl | exact Or.inr (Or.inl rfl) | exact Or.inr (Or.inr rfl)) (by decide) (by decide)) a_nil (by rfl)) (by rfl) (by rfl)) (@g_name _ _ 7 _ sc_law.nd (by rfl) (by first | exact Or.inl rfl | exact Or.inr rfl) (by first | exact .inl rfl | exact .inr rfl | assumption)) (@ss_one _ _ _ (@s_set _ _ _ _ 6 _ _ (@h_bin _ _ _ _ _ _ _ _ op3_mul (@hv _ 6 _ _ (by rfl) (by first | exact Or.inl rfl | exact Or.inr (Or.inl rfl) | exact Or.inr (Or.inr rfl)) (by decide) (by decide)) (@hv _ 3 _ _ (by rfl) (by first | exact Or.inl rfl | exact Or.inr (Or.inl rfl) | exact Or.inr (Or.inr rfl)) (by decide) (by decide))) sc_law.nd (by rfl) (by first | exact Or.inl rfl | exact Or.inr rfl) (by rfl) (by first | exact .inl rfl | exact .inr rfl | assumption))) (by intro _; rfl)) (@ss_cons _ _ _ _ _ (@s_if _ _ _ _ _ _ _ _ (@HW.ht _ _ _ (@w_or _ _ _ _ _ _ _ (@h_not _ _ _ _ (@h_truth _ _ _ (@h_call _ _ _ _ _ _ _ _ _ _ D__law_whole hr (@a_cons _ _ _ _ _ (@hv _ 4 _ _ (by rfl) (by first | exact Or.inl rfl | exact Or.inr (Or.inl rfl) | exact Or.inr (Or.inr rfl)) (by decide) (by decide)) a_nil (by rfl)) (by rfl) (by decide) (by rfl) (by rfl)) (by intro _; rfl))) (@w_or1 _ _ _ _ (@h_tcmp _ _ _ _ _ _ _ _ (@op3_ne _ hr.units) (@h_callB _ _ _ _ _ _ _ _ _ call3_len Z.b_len PySem.boot_len (@a_cons _ _ _ _ _ (@hv _ 5 _ _ (by rfl) (by first | exact Or.inl rfl | exact Or.inr (Or.inl rfl) | exact Or.inr (Or.inr rfl)) (by decide) (by decide)) a_nil (by rfl)) (by rfl) (by decide) (by decide) (by rfl) (by rfl)) (@hv _ 6 _ _ (by rfl) (by first | exact Or.inl rfl | exact Or.inr (Or.inl rfl) | exact Or.inr (Or.inr rfl)) (by decide) (by decide)) (@nomark _ _ (by decide) (by decide)))))) (@ss_one _ _ _ (@s_ret _ _ _ _ h_bl)) ss_nil) (@ss_cons _ _ _ _ _ (@s_set _ _ _ _ 8 _ _ (by exact (@h_lst _ _ _ _ (@a_I _ _ _ _ _ _ (@a_I _ _ _ _ _ _ (@a_I _ _ _ _ _ _ (@a_I _ _ _ _ _ _ (@a_I _ _ _ _ _ _ (@a_I _ _ _ _ _ _ (@a_I _ _ _ _ _ _ (@a_I _ _ _ _ _ _ (@a_I _ _ _ _ _ _ (@a_I _ _ _ _ _ _ (@a_I _ _ _ _ _ _ (@a_I _ _ _ _ _ _ (@a_I _ _ _ _ _ _ (@a_I _ _ _ _ _ _ (@a_I _ _ _ _ _ _ (@a_I _ _ _ _ _ _ (@a_I _ _ _ _ _ _ (@a_I _ _ _ _ _ _ (@a_I _ _ _ _ _ _ (@a_I _ _ _ _ _ _ (@a_I _ _ _ _ _ _ (@a_I _ _ _ _ _ _ (@a_I _ _ _ _ _ _ (@a_I _ _ _ _ _ _ a_nil)))))))))))))))))))))))))) sc_law.nd (by rfl) (by first | exact Or.inl rfl | exact Or.inr rfl) (by rfl) (by first | exact .inl rfl | exact .inr rfl | assumption)) (@ss_cons _ _ _ _ _ (@s_set _ _ _ _ 9 _ _ (@h_ix _ _ _ _ _ _ (@hv _ 8 _ _ (by rfl) (by first | exact Or.inl rfl | exact Or.inr (Or.inl rfl) | exact Or.inr (Or.inr rfl)) (by decide) (by decide)) (@h_call _ _ _ _ _ _ _ _ _ _ D__law_take hr (@a_cons _ _ _ _ _ (@hv _ 1 _ _ (by rfl) (by first | exact Or.inl rfl | exact Or.inr (Or.inl rfl) | exact Or.inr (Or.inr rfl)) (by decide) (by decide)) (@a_cons _ _ _ _ _ h_int a_nil (by rfl)) (by rfl)) (by rfl) (by decide) (by rfl) (by rfl)) (by intro _ _; rfl)) sc_law.nd (by rfl) (by first | exact Or.inl rfl | exact Or.inr rfl) (by rfl) (by first | exact .inl rfl | exact .inr rfl | assumption)) (@ss_cons _ _ _ _ _ (@s_if _ _ _ _ _ _ _ _ (@h_not _ _ _ _ (@h_tchain _ _ _ _ _ _ _ _ _ _ _ _ op3_le op3_le h_int (@h_call _ _ _ _ _ _ _ _ _ _ D_free_colours hr (@a_cons _ _ _ _ _ (@hv _ 9 _ _ (by rfl) (by first | exact Or.inl rfl | exact Or.inr (Or.inl rfl) | exact Or.inr (Or.inr rfl)) (by decide) (by decide)) (@a_cons _ _ _ _ _ (@hv _ 2 _ _ (by rfl) (by first | exact Or.inl rfl | exact Or.inr (Or.inl rfl) | exact Or.inr (Or.inr rfl)) (by decide) (by decide)) a_nil (by rfl)) (by rfl)) (by rfl) (by decide) (by rfl) (by rfl)) (@h_ix _ _ _ _ _ _ (@hv _ 2 _ _ (by rfl) (by first | exact Or.inl rfl | exact Or.inr (Or.inl rfl) | exact Or.inr (Or.inr rfl)) (by decide) (by decide)) h_int (by intro _ _; rfl)) (by with_unfolding_all rfl))) (@ss_one _ _ _ (@s_ret _ _ _ _ h_bl)) ss_nil) (@ss_cons _ _ _ _ _ (@s_set _ _ _ _ 10 _ _ (@h_ix _ _ _ _ _ _ (@hv _ 5 _ _ (by rfl) (by first | exact Or.inl rfl | exact Or.inr (Or.inl rfl) | exact Or.inr (Or.inr rfl)) (by decide) (by decide)) (@h_call _ _ _ _ _ _ _ _ _ _ D__law_take hr (@a_cons _ _ _ _ _ (@hv _ 1 _ _ (by rfl) (by first | exact Or.inl rfl | exact Or.inr (Or.inl rfl) | exact Or.inr (Or.inr rfl)) (by decide) (by decide)) (@a_cons _ _ _ _ _ (@h_callB _ _ _ _ _ _ _ _ _ call3_len Z.b_len PySem.boot_len (@a_cons _ _ _ _ _ (@hv _ 5 _ _ (by rfl) (by first | exact Or.inl rfl | exact Or.inr (Or.inl rfl) | exact Or.inr (Or.inr rfl)) (by decide) (by decide)) a_nil (by rfl)) (by rfl) (by decide) (by decide) (by rfl) (by rfl)) a_nil (by rfl)) (by rfl)) (by rfl) (by decide) (by rfl) (by rfl)) (by intro _ _; rfl)) sc_law.nd (by rfl) (by first | exact Or.inl rfl | exact Or.inr rfl) (by rfl) (by first | exact .inl rfl | exact .inr rfl | assumption)) (@ss_cons _ _ _ _ _ (@s_set _ _ _ _ 11 _ _ (@h_call _ _ _ _ _ _ _ _ _ _ D__law_take hr (@a_cons _ _ _ _ _ (@hv _ 1 _ _ (by rfl) (by first | exact Or.inl rfl | exact Or.inr (Or.inl rfl) | exact Or.inr (Or.inr rfl)) (by decide) (by decide)) (@a_cons _ _ _ _ _ (@hv _ 3 _ _ (by rfl) (by first | exact Or.inl rfl | exact Or.inr (Or.inl rfl) | exact Or.inr (Or.inr rfl)) (by decide) (by decide)) a_nil (by rfl)) (by rfl)) (by rfl) (by decide) (by rfl) (by rfl)) sc_law.nd (by rfl) (by first | exact Or.inl rfl | exact Or.inr rfl) (by rfl) (by first | exact .inl rfl | exact .inr rfl | assumption)) (@ss_cons _ _ _ _ _ (@s_set _ _ _ _ 12 _ _ (@h_call _ _ _ _ _ _ _ _ _ _ D__law_take hr (@a_cons _ _ _ _ _ (@hv _ 1 _ _ (by rfl) (by first | exact Or.inl rfl | exact Or.inr (Or.inl rfl) | exact Or.inr (Or.inr rfl)) (by decide) (by decide)) (@a_cons _ _ _ _ _ (@hv _ 3 _ _ (by rfl) (by first | exact Or.inl rfl | exact Or.inr (Or.inl rfl) | exact Or.inr (Or.inr rfl)) (by decide) (by decide)) a_nil (by rfl)) (by rfl)) (by rfl) (by decide) (by rfl) (by rfl)) sc_law.nd (by rfl) (by first | exact Or.inl rfl | exact Or.inr rfl) (by rfl) (by first | exact .inl rfl | exact .inr rfl | assumption)) (@ss_cons _ _ _ _ _ (@s_setC _ _ _ _ _ _ _ _ _ _ _ _ _ _ 13 _ _ _ rfl (@i_seq _ _ _ _ (@hv _ 10 _ _ (by rfl) (by first | exact Or.inl rfl | exact Or.inr (Or.inl rfl) | exact Or.inr (Or.inr rfl)) (by decide) (by decide))) (@blk_scope _ (defScope s_law) _ (["script", "state", "plait", "small", "many", "rows", "amount", "k", "primes", "prime", "row", "times", "more", "others"]) (["number", "times", "more", "small"]) ([none, some 11, some 12, some 3]) (by decide +kernel) rfl rfl) bt_name (fun _ _ _ _ _ => @pg_name _ _ 0 _ (show List.Nodup (["number", "times", "more", "small"] : List Str) by decide +kernel) rfl (Or.inl rfl) (Or.inr rfl)) (fun _ _ _ _ _ => ts_nil) (fun _ _ _ _ _ => (@h_bin _ _ _ _ _ _ _ _ op3_mod (@h_bin _ _ _ _ _ _ _ _ op3_add (@h_bin _ _ _ _ _ _ _ _ op3_mul (@hv _ 1 _ _ (by rfl) (by first | exact Or.inl rfl | exact Or.inr (Or.inl rfl) | exact Or.inr (Or.inr rfl)) (by decide) (by decide)) (@hv _ 0 _ _ (by rfl) (by first | exact Or.inl rfl | exact Or.inr (Or.inl rfl) | exact Or.inr (Or.inr rfl)) (by decide) (by decide))) (@hv _ 2 _ _ (by rfl) (by first | exact Or.inl rfl | exact Or.inr (Or.inl rfl) | exact Or.inr (Or.inr rfl)) (by decide) (by decide))) (@hv _ 3 _ _ (by rfl) (by first | exact Or.inl rfl | exact Or.inr (Or.inl rfl) | exact Or.inr (Or.inr rfl)) (by decide) (by decide)))) sc_law.nd (by rfl) (by first | exact Or.inl rfl | exact Or.inr rfl) (by rfl) (by intro _; rfl) (by first | exact .inl rfl | exact .inr rfl | assumption)) (@ss_one _ _ _ (@s_ret _ _ _ _ (@h_cmp _ _ _ _ _ _ _ _ (@op3_eq _ hr.units) (@h_call _ _ _ _ _ _ _ _ _ _ D__law_down hr (@a_cons _ _ _ _ _ (@hv _ 3 _ _ (by rfl) (by first | exact Or.inl rfl | exact Or.inr (Or.inl rfl) | exact Or.inr (Or.inr rfl)) (by decide) (by decide)) (@a_cons _ _ _ _ _ (@h_ix _ _ _ _ _ _ (@hv _ 2 _ _ (by rfl) (by first | exact Or.inl rfl | exact Or.inr (Or.inl rfl) | exact Or.inr (Or.inr rfl)) (by decide) (by decide)) h_int (by intro _ _; rfl)) (@a_cons _ _ _ _ _ (@hv _ 13 _ _ (by rfl) (by first | exact Or.inl rfl | exact Or.inr (Or.inl rfl) | exact Or.inr (Or.inr rfl)) (by decide) (by decide)) a_nil (by rfl)) (by rfl)) (by rfl)) (by rfl) (by decide) (by rfl) (by rfl)) (@hv _ 13 _ _ (by rfl) (by first | exact Or.inl rfl | exact Or.inr (Or.inl rfl) | exact Or.inr (Or.inr rfl)) (by decide) (by decide)) (@nomark _ _ (by decide) (by decide)))))))))))))))))))), fun ts M Q h => ?_⟩
 unfold sp_law at h
 split at h
 · rename_i s
   obtain ⟨ns, rfl, h⟩ := h
   refine seq_cut2 fun K1 hK1 => ?_
   walk_at "rd"
   refine ⟨ns, rfl, by decide, by decide, fun p c0 f0 hp => ?_⟩
   refine ⟨c0, f0, updM_same, by decide, by decide, by decide, by decide, fun n w s1 f1 hn1 hn6 hwl hw => ?_⟩
   simp only [updM_updM]
   have hS0 : Sub M (updM M p (.lst [.int s1, .int f1])) := Sub.new hp
   have hMp0 : (updM M p (.lst [.int s1, .int f1])) p = some (.lst [.int s1, .int f1]) := updM_same
   generalize updM M p (.lst [.int s1, .int f1]) = M0 at hS0 hMp0 ⊢
   have ow : PlOK n w := ⟨hn1, by lia, by lia, hw⟩
   rw [hK1]; clear hK1
   refine seq_cut fun K2 hK2 => ?_
   walk_at "rd"
   refine ⟨by decide, fun q1 hq1 => ?_⟩
   have e1 : ∃ t : Int, atI [T.int 5, T.int 7] (if n < 4 then 1 else 0) = some (.int t) ∧ (t = 5 ∨ (t = 7 ∧ n < 4)) := by
     by_cases c : n < 4
     · rw [if_pos c]; exact ⟨7, rfl, .inr ⟨rfl, c⟩⟩
     · rw [if_neg c]; exact ⟨5, rfl, .inl rfl⟩
   obtain ⟨t1, e1, ht1⟩ := e1
   rw [e1]
   dsimp only
   refine ⟨by decide, fun q2 hq2 => ?_⟩
   have hpq1 : p ≠ q1 := fun z => by rw [← z, hMp0] at hq1; cases hq1
   have hM1 : (updM M0 q1 (MO.lst [T.int 5, T.int 7])) p = some (.lst [.int s1, .int f1]) := by rw [updM_ne hpq1]; exact hMp0
   have hpq2 : p ≠ q2 := fun z => by rw [← z, hM1] at hq2; cases hq2
   refine ⟨s1, f1, by rw [updM_ne hpq2]; exact hM1, by decide, by decide, fun c s2 f2 c0 c3 => ?_⟩
   have hS1 := ((hS0.newr hq1 (o := MO.lst [T.int 5, T.int 7])).newr hq2 (o := MO.lst [T.int 3, T.int 5, T.int t1])).updF hp (o := .lst [.int s2, .int f2])
   have hMp1 : (updM (updM (updM M0 q1 (MO.lst [T.int 5, T.int 7])) q2 (MO.lst [T.int 3, T.int 5, T.int t1])) p (.lst [.int s2, .int f2])) p = some (.lst [.int s2, .int f2]) := updM_same
   have hMq2 : (updM (updM (updM M0 q1 (MO.lst [T.int 5, T.int 7])) q2 (MO.lst [T.int 3, T.int 5, T.int t1])) p (.lst [.int s2, .int f2])) q2 = some (.lst [T.int 3, T.int 5, T.int t1]) := by rw [updM_ne hpq2.symm, updM_same]
   generalize updM (updM (updM M0 q1 (MO.lst [T.int 5, T.int 7])) q2 (MO.lst [T.int 3, T.int 5, T.int t1])) p (.lst [.int s2, .int f2]) = M1 at hS1 hMp1 hMq2 ⊢
   clear hM1 hq1 hq2
   dsimp only
   rw [hMq2]
   dsimp only
   have e2 : ∃ t : Int, atI [T.int 3, T.int 5, T.int t1] c = some (.int t) ∧ (t = 3 ∨ t = 5 ∨ (t = 7 ∧ n < 4)) := by
     obtain ⟨j, rfl⟩ := Int.eq_ofNat_of_zero_le c0
     rcases (show j = 0 ∨ j = 1 ∨ j = 2 by lia) with rfl | rfl | rfl
     · exact ⟨3, rfl, .inl rfl⟩
     · exact ⟨5, rfl, .inr (.inl rfl)⟩
     · exact ⟨t1, rfl, by rcases ht1 with z | z; exact .inr (.inl z); exact .inr (.inr z)⟩
   obtain ⟨t2, e2, ht2⟩ := e2
   rw [e2]
   dsimp only
   refine ⟨by decide, fun q3 hq3 => ?_⟩
   have e3 : ∃ m : Int, atI [T.int 3, T.int t2] (if n < 5 then 1 else 0) = some (.int m) ∧ (m = 3 ∨ m = 5 ∨ m = 7) ∧ (4 ≤ n → m ≤ 5) ∧ (5 ≤ n → m = 3) := by
     by_cases c : n < 5
     · rw [if_pos c]; exact ⟨t2, rfl, by lia, fun _ => by lia, fun _ => by lia⟩
     · rw [if_neg c]; exact ⟨3, rfl, .inl rfl, fun _ => by decide, fun _ => rfl⟩
   obtain ⟨m, e3, hm, hm4, hm5⟩ := e3
   rw [e3]
   dsimp only
   have hS2 := hS1.newr hq3 (o := MO.lst [T.int 3, T.int t2])
   have hMp2 := (Sub.new hq3 (o := MO.lst [T.int 3, T.int t2])) _ _ hMp1
   generalize updM M1 q3 (MO.lst [T.int 3, T.int t2]) = M2 at hS2 hMp2 ⊢
   clear hS0 hMp0 hS1 hMp1 hMq2 hq3 e1 e2 e3 ht1 ht2 t1 t2 hpq1 hpq2 q1 q2 q3
   have om : oddP m = true := by rcases hm with rfl | rfl | rfl <;> decide +kernel
   have hP := oddP_prime om
   have tok := tab357 hm
   have wok : WordOK (n.toNat : Nat) w := by rw [show ((n.toNat : Nat) : Int) = n by lia]; exact hw
   have hcount := free_count hP wok
   have hrk := rkL_le (p := m) n.toNat 0 (minU n.toNat (shL (unR n.toNat) w))
   have hfree : n - ((rkL m n.toNat 0 (minU n.toNat (shL (unR n.toNat) w)) : Nat) : Int) = (freeI m n.toNat w : Nat) := by unfold freeI; lia
   have hle : freeI m n.toNat w ≤ n.toNat := by unfold freeI; lia
   have hge := free_one hP (show 1 ≤ n.toNat by lia) wok
   have hml : (ringT m).length = m.toNat := linT_len
   have hpow : ∀ k, k ≤ n.toNat → m.toNat ^ k ≤ 2500 := fun k hk => by
     by_cases c4 : 5 ≤ n
     · rw [hm5 c4]
       exact Nat.le_trans (Nat.pow_le_pow_right (by decide) (show k ≤ 6 by lia)) (by decide)
     · by_cases c5 : 4 ≤ n
       · exact Nat.le_trans (Nat.pow_le_pow_left (show m.toNat ≤ 5 by have := hm4 c5; lia) _) (Nat.le_trans (Nat.pow_le_pow_right (by decide) (show k ≤ 4 by lia)) (by decide))
       · exact Nat.le_trans (Nat.pow_le_pow_left (show m.toNat ≤ 7 by lia) _) (Nat.le_trans (Nat.pow_le_pow_right (by decide) (show k ≤ 3 by lia)) (by decide))
   rw [hK2]; clear hK2
   refine seq_cut2 fun K3 hK3 => ?_
   walk_at "rd"
   refine ⟨w, rfl, ow, om, ?_⟩
   rw [hfree]
   refine ⟨by lia, by lia, ?_⟩
   refine ⟨ringT m, w, rfl, rfl, tok, ow, by rw [hml]; exact hpow _ (Nat.le_refl _), fun d hd => ?_⟩
   have hS3 := hS2.newr hd (o := .lst ((backR (ringT m) w n.toNat).map tupT))
   have hMp3 := (Sub.new hd (o := .lst ((backR (ringT m) w n.toNat).map tupT))) _ _ hMp2
   have hMd : (updM M2 d (.lst ((backR (ringT m) w n.toNat).map tupT))) d = some (.lst ((backR (ringT m) w n.toNat).map tupT)) := updM_same
   show K3 _ (updM M2 d (.lst ((backR (ringT m) w n.toNat).map tupT)))
   generalize updM M2 d (.lst ((backR (ringT m) w n.toNat).map tupT)) = M3 at hS3 hMp3 hMd ⊢
   have hbl : (backR (ringT m) w n.toNat).length = m.toNat ^ freeI m n.toNat w := hcount
   have hbm : ∀ r ∈ backR (ringT m) w n.toNat, (r.length = n.toNat ∧ InA m r) ∧ dn (linT m) w r = r := fun r hr => by
     have := fixR_iff.mp (show r ∈ fixR (linT m) w n.toNat from hr)
     rwa [linT_m (show 1 ≤ m by lia)] at this
   generalize backR (ringT m) w n.toNat = R at hMd hbl hbm
   generalize freeI m n.toNat w = F at hbl hle hge ⊢
   clear hcount hfree hrk
   rw [hK3]; clear hK3
   refine seq_cut fun K4 hK4 => ?_
   walk_at "rd"
   rw [hK4]; clear hK4
   refine seq_cut fun K5 hK5 => ?_
   refine for_cut fun B hB => ?_
   unfold tFor3
   walk_at "rd"
   refine ⟨by lia, by lia, fun i ρ M' => M' = M3 ∧ ∃ x, ρ = [some (T.rd (List.map T.int ns)), some (T.adr p), some (T.tup [T.int n, T.tup (List.map T.int w)]), some (T.int m), some (T.int F), some (T.adr d), some (T.int (m ^ i)), x, none, none, none, none, none, none], ⟨rfl, none, by rw [Int.pow_zero]⟩, fun _ _ _ _ => trivial, ?_, ?_⟩
   · rintro i x ρ M' hx ⟨rfl, y, rfl⟩
     obtain ⟨hi, rfl⟩ := rangeT0_get hx
     have hb : m ^ i ≤ 2500 ∧ 0 ≤ m ^ i := by
       have := hpow i (by lia)
       have e : (m ^ i : Int) = ((m.toNat ^ i : Nat) : Int) := by rw [Int.natCast_pow, show ((m.toNat : Nat) : Int) = m by lia]
       rw [e]; lia
     rw [hB]; clear hB
     walk_at "rd"
     refine ⟨.inl ⟨by lia, by lia⟩, some (T.int (i : Nat)), ?_⟩
     rw [Int.pow_succ]
   · rintro ρ M' ⟨rfl, y, rfl⟩
     rw [rangeT_length, show ((F : Nat) : Int).toNat = F by lia]
     rw [hK5]; clear hK5
     refine seq_cut fun K6 hK6 => ?_
     walk_at "rd"
     have hml2 : (m ^ F : Int) = ((m.toNat ^ F : Nat) : Int) := by rw [Int.natCast_pow, show ((m.toNat : Nat) : Int) = m by lia]
     unfold sp__law_whole
     dsimp only
     rw [if_neg (by decide), hMd]
     dsimp only
     rw [if_neg (by rw [List.length_map, hbl, hml2]; exact fun z => z rfl), hK6]
     clear hK6
     have hF := hpow F hle
     refine seq_cut fun K7 hK7 => ?_
     walk_at "rd"
     refine ⟨by decide, fun u hu => ?_⟩
     have hS4 := hS3.newr hu (o := MO.lst (primesL.map T.int))
     have hMp4 := (Sub.new hu (o := MO.lst (primesL.map T.int))) _ _ hMp3
     have hMd4 := (Sub.new hu (o := MO.lst (primesL.map T.int))) _ _ hMd
     have hMu : (updM M' u (MO.lst (primesL.map T.int))) u = some (MO.lst (primesL.map T.int)) := updM_same
     show K7 _ (updM M' u (MO.lst (primesL.map T.int)))
     generalize updM M' u (MO.lst (primesL.map T.int)) = M4 at hS4 hMp4 hMd4 hMu ⊢
     rw [hK7]; clear hK7
     refine seq_cut fun K8 hK8 => ?_
     walk_at "rd"
     refine ⟨s2, f2, hMp4, by decide, by decide, fun c3 s3 f3 c30 c31 => ?_⟩
     have hpu : p ≠ u := fun z => by rw [← z, hMp3] at hu; cases hu
     have hpd : p ≠ d := fun z => by rw [← z, hMp2] at hd; cases hd
     dsimp only
     rw [updM_ne hpu.symm, hMu]
     dsimp only
     obtain ⟨P, eP, oP⟩ : ∃ P : Int, atI (primesL.map T.int) c3 = some (.int P) ∧ oddP P = true := by
       obtain ⟨j, rfl⟩ := Int.eq_ofNat_of_zero_le c30
       have hj : j < primesL.length := by show j < 24; lia
       exact ⟨primesL[j], atI_nat (by rw [List.getElem?_map, List.getElem?_eq_getElem hj]; rfl), primes_ok _ (List.getElem_mem hj)⟩
     rw [eP]
     dsimp only
     have hS5 := hS4.updF hp (o := .lst [.int s3, .int f3])
     have hMp5 : (updM M4 p (.lst [.int s3, .int f3])) p = some (.lst [.int s3, .int f3]) := updM_same
     have hMd5 : (updM M4 p (.lst [.int s3, .int f3])) d = some (.lst (R.map tupT)) := by rw [updM_ne hpd.symm]; exact hMd4
     generalize updM M4 p (.lst [.int s3, .int f3]) = M5 at hS5 hMp5 hMd5 ⊢
     rw [hK8]; clear hK8
     have hfr2 := free_one (oddP_prime oP) (show 1 ≤ n.toNat by lia) wok
     have hrk2 := rkL_le (p := P) n.toNat 0 (minU n.toNat (shL (unR n.toNat) w))
     unfold freeI at hfr2
     refine seq_cut fun K9 hK9 => ?_
     walk_at "rd"
     refine ⟨w, rfl, ow, oP, ?_⟩
     generalize rkL P n.toNat 0 (minU n.toNat (shL (unR n.toNat) w)) = rk at hfr2 hrk2 ⊢
     dsimp only
     rw [if_pos (by lia), if_neg (by lia), hK9]; clear hK9
     refine seq_cut fun K10 hK10 => ?_
     walk_at "rd"
     rw [hMd5]
     dsimp only
     refine ⟨s3, f3, hMp5, by rw [List.length_map, hbl]; have := Nat.pow_pos (n := F) (show 0 < m.toNat by lia); lia, by rw [List.length_map, hbl]; lia, fun c4 s4 f4 c40 c41 => ?_⟩
     dsimp only
     have hMd6 : (updM M5 p (.lst [.int s4, .int f4])) d = some (.lst (R.map tupT)) := by rw [updM_ne hpd.symm]; exact hMd5
     rw [hMd6]
     dsimp only
     have hS6 := hS5.updF hp (o := .lst [.int s4, .int f4])
     have hMp6 : (updM M5 p (.lst [.int s4, .int f4])) p = some (.lst [.int s4, .int f4]) := updM_same
     generalize updM M5 p (.lst [.int s4, .int f4]) = M6 at hS6 hMp6 hMd6 ⊢
     obtain ⟨row, er, hrow⟩ : ∃ row, atI (R.map tupT) c4 = some (tupT row) ∧ row ∈ R := by
       obtain ⟨j, rfl⟩ := Int.eq_ofNat_of_zero_le c40
       rw [List.length_map] at c41
       have hj : j < R.length := by lia
       exact ⟨R[j], atI_nat (by rw [List.getElem?_map, List.getElem?_eq_getElem hj]; rfl), List.getElem_mem hj⟩
     rw [er]
     dsimp only
     obtain ⟨⟨hrl, hrin⟩, hrd⟩ := hbm row hrow
     rw [hK10]; clear hK10
     refine seq_cut2 fun K11 hK11 => ?_
     walk_at "rd"
     refine ⟨s4, f4, hMp6, by lia, by lia, fun c5 s5 f5 c50 c51 => ?_⟩
     refine ⟨s5, f5, updM_same, by lia, by lia, fun c6 s6 f6 c60 c61 => ?_⟩
     rw [updM_updM]
     have hS7 := hS6.updF hp (o := .lst [.int s6, .int f6])
     show K11 _ (updM M6 p (.lst [.int s6, .int f6]))
     generalize updM M6 p (.lst [.int s6, .int f6]) = M7 at hS7 ⊢
     rw [hK11]; clear hK11
     refine seq_cut fun K12 hK12 => ?_
     unfold tupT
     walk_at "rd"
     have hdn := dn_aff (show 1 ≤ m by lia) (t := c5) (s := c6) (w := w) (cs := row) (by rw [hrl]; exact wok) hrin
     rw [hrd] at hdn
     refine ⟨fun i ys M8 => ys = ((row.map (affL m c5 c6)).take i).map T.int ∧ M8 = M7, ⟨rfl, rfl⟩, fun _ _ _ _ => trivial, line_len (by lia), ?_, ?_⟩
     · rintro i x ys M8 hx ⟨rfl, rfl⟩
       obtain ⟨y2, hy2, rfl⟩ := get_map_int hx
       obtain ⟨b1, b2⟩ := hrin y2 (List.mem_of_getElem? hy2)
       dsimp only
       refine ⟨.inl ⟨by lia, by lia⟩, by lia, ?_, rfl⟩
       have e : (row.map (affL m c5 c6))[i]? = some ((c5 * y2 + c6) % m) := by rw [List.getElem?_map, hy2]; rfl
       rw [List.take_add_one, e, List.map_append]; rfl
     · rintro ys M8 ⟨rfl, rfl⟩ v hv
       rw [List.take_of_length_le (by rw [List.length_map]; exact Nat.le_refl _)]
       have hS8 := hS7.newr hv (o := .lst ((row.map (affL m c5 c6)).map T.int))
       have hMv : (updM M8 v (.lst ((row.map (affL m c5 c6)).map T.int))) v = some (.lst ((row.map (affL m c5 c6)).map T.int)) := updM_same
       generalize updM M8 v (.lst ((row.map (affL m c5 c6)).map T.int)) = M9 at hS8 hMv ⊢
       rw [hK12]; clear hK12
       walk_at "rd"
       refine ⟨w, row.map (affL m c5 c6), rfl, hMv, by lia, by lia, by rw [List.length_map, hrl]; exact wok, fun x hx => ?_, by lia, by rw [List.length_map]; lia, fun r M10 hr hS9 hMr => ?_⟩
       · obtain ⟨z, _, rfl⟩ := List.mem_map.mp hx
         exact affL_in (by lia) _ _ _
       · rw [hdn] at hMr
         dsimp only
         rw [hMr, hS9 _ _ hMv]
         dsimp only
         refine ⟨pureTs_ints _, pureTs_ints _, by rw [depTs_ints]; decide, ?_⟩
         rw [eqTs_refl _ (pureTs_ints _)]
         exact rt3_sub h (hS8.trans hS9)
 · exact h.elim
theorem all_mk {l : PySem.W.OpenLaw} {w : World} {K : PySem.W.Frag} {h : Heap} {mg : Str → Option Value} {fa f1 f2 f3 f4 f5 f6 f7 f8 f9 f10 f11 f12 f13 f14 f15 f16 f17 f18 f19 f20 f21 f22 f23 f24 f25 f26 : Addr} (X : K.In h) (G : h.Ns mainGlobals mg) (hfa : mg "law" = some (.ref fa))
   {od1 od2 od3 od4 od5 od6 od7 od8 od9 od10 od11 od12 od13 od14 od15 od16 od17 od18 od19 od20 od21 od22 od23 od24 od25 od26 an1 an2 an3 an4 an5 an6 an7 an8 an9 an10 an11 an12 an13 an14 an15 an16 an17 an18 an19 an20 an21 an22 an23 an24 an25 an26 : Option Addr} {sl1 sl2 sl3 sl4 sl5 sl6 sl7 sl8 sl9 sl10 sl11 sl12 sl13 sl14 sl15 sl16 sl17 sl18 sl19 sl20 sl21 sl22 sl23 sl24 sl25 sl26 : Array (Option Value)} {oc1 oc2 oc3 oc4 oc5 oc6 oc7 oc8 oc9 oc10 oc11 oc12 oc13 oc14 oc15 oc16 oc17 oc18 oc19 oc20 oc21 oc22 oc23 oc24 oc25 oc26 kV1 kV2 kV3 kV4 kV5 kV6 kV7 kV8 kV9 kV10 kV11 kV12 kV13 kV14 kV15 kV16 kV17 kV18 kV19 kV20 kV21 kV22 kV23 kV24 kV25 kV26 dc1 dc2 dc3 dc4 dc5 dc6 dc7 dc8 dc9 dc10 dc11 dc12 dc13 dc14 dc15 dc16 dc17 dc18 dc19 dc20 dc21 dc22 dc23 dc24 dc25 dc26 pm1 pm2 pm3 pm4 pm5 pm6 pm7 pm8 pm9 pm10 pm11 pm12 pm13 pm14 pm15 pm16 pm17 pm18 pm19 pm20 pm21 pm22 pm23 pm24 pm25 pm26 cd1 cd2 cd3 cd4 cd5 cd6 cd7 cd8 cd9 cd10 cd11 cd12 cd13 cd14 cd15 cd16 cd17 cd18 cd19 cd20 cd21 cd22 cd23 cd24 cd25 cd26 ct1 ct2 ct3 ct4 ct5 ct6 ct7 ct8 ct9 ct10 ct11 ct12 ct13 ct14 ct15 ct16 ct17 ct18 ct19 ct20 ct21 ct22 ct23 ct24 ct25 ct26 : Value}
   (a1 : PySem.W.nsIn K mainGlobals "is_letter" = some (some (.ref f1))) (l1 : K.lookup f1 = some ⟨oc1, od1, .func (PySem.W.fnOf "is_letter" "is_letter" (defArgs s_is_letter) (defBody s_is_letter) (defScope s_is_letter) .none kV1 dc1 pm1 an1 cd1 ct1), sl1⟩) (c1 : PySem.W.codeIn K cd1 "is_letter" = true) (k1 : PySem.W.keepIn K (.ref f1) = true)
   (a2 : PySem.W.nsIn K mainGlobals "is_word" = some (some (.ref f2))) (l2 : K.lookup f2 = some ⟨oc2, od2, .func (PySem.W.fnOf "is_word" "is_word" (defArgs s_is_word) (defBody s_is_word) (defScope s_is_word) .none kV2 dc2 pm2 an2 cd2 ct2), sl2⟩) (c2 : PySem.W.codeIn K cd2 "is_word" = true) (k2 : PySem.W.keepIn K (.ref f2) = true)
   (a3 : PySem.W.nsIn K mainGlobals "is_plait" = some (some (.ref f3))) (l3 : K.lookup f3 = some ⟨oc3, od3, .func (PySem.W.fnOf "is_plait" "is_plait" (defArgs s_is_plait) (defBody s_is_plait) (defScope s_is_plait) .none kV3 dc3 pm3 an3 cd3 ct3), sl3⟩) (c3 : PySem.W.codeIn K cd3 "is_plait" = true) (k3 : PySem.W.keepIn K (.ref f3) = true)
   (a4 : PySem.W.nsIn K mainGlobals "looked" = some (some (.ref f4))) (l4 : K.lookup f4 = some ⟨oc4, od4, .func (PySem.W.fnOf "looked" "looked" (defArgs s_looked) (defBody s_looked) (defScope s_looked) .none kV4 dc4 pm4 an4 cd4 ct4), sl4⟩) (c4 : PySem.W.codeIn K cd4 "looked" = true) (k4 : PySem.W.keepIn K (.ref f4) = true)
   (a5 : PySem.W.nsIn K mainGlobals "has_form" = some (some (.ref f5))) (l5 : K.lookup f5 = some ⟨oc5, od5, .func (PySem.W.fnOf "has_form" "has_form" (defArgs s_has_form) (defBody s_has_form) (defScope s_has_form) .none kV5 dc5 pm5 an5 cd5 ct5), sl5⟩) (c5 : PySem.W.codeIn K cd5 "has_form" = true) (k5 : PySem.W.keepIn K (.ref f5) = true)
   (a6 : PySem.W.nsIn K mainGlobals "keeps_third_rule" = some (some (.ref f6))) (l6 : K.lookup f6 = some ⟨oc6, od6, .func (PySem.W.fnOf "keeps_third_rule" "keeps_third_rule" (defArgs s_keeps_third_rule) (defBody s_keeps_third_rule) (defScope s_keeps_third_rule) .none kV6 dc6 pm6 an6 cd6 ct6), sl6⟩) (c6 : PySem.W.codeIn K cd6 "keeps_third_rule" = true) (k6 : PySem.W.keepIn K (.ref f6) = true)
   (a7 : PySem.W.nsIn K mainGlobals "is_table" = some (some (.ref f7))) (l7 : K.lookup f7 = some ⟨oc7, od7, .func (PySem.W.fnOf "is_table" "is_table" (defArgs s_is_table) (defBody s_is_table) (defScope s_is_table) .none kV7 dc7 pm7 an7 cd7 ct7), sl7⟩) (c7 : PySem.W.codeIn K cd7 "is_table" = true) (k7 : PySem.W.keepIn K (.ref f7) = true)
   (a8 : PySem.W.nsIn K mainGlobals "looked_table" = some (some (.ref f8))) (l8 : K.lookup f8 = some ⟨oc8, od8, .func (PySem.W.fnOf "looked_table" "looked_table" (defArgs s_looked_table) (defBody s_looked_table) (defScope s_looked_table) .none kV8 dc8 pm8 an8 cd8 ct8), sl8⟩) (c8 : PySem.W.codeIn K cd8 "looked_table" = true) (k8 : PySem.W.keepIn K (.ref f8) = true)
   (a9 : PySem.W.nsIn K mainGlobals "undone" = some (some (.ref f9))) (l9 : K.lookup f9 = some ⟨oc9, od9, .func (PySem.W.fnOf "undone" "undone" (defArgs s_undone) (defBody s_undone) (defScope s_undone) .none kV9 dc9 pm9 an9 cd9 ct9), sl9⟩) (c9 : PySem.W.codeIn K cd9 "undone" = true) (k9 : PySem.W.keepIn K (.ref f9) = true)
   (a10 : PySem.W.nsIn K mainGlobals "led_down" = some (some (.ref f10))) (l10 : K.lookup f10 = some ⟨oc10, od10, .func (PySem.W.fnOf "led_down" "led_down" (defArgs s_led_down) (defBody s_led_down) (defScope s_led_down) .none kV10 dc10 pm10 an10 cd10 ct10), sl10⟩) (c10 : PySem.W.codeIn K cd10 "led_down" = true) (k10 : PySem.W.keepIn K (.ref f10) = true)
   (a11 : PySem.W.nsIn K mainGlobals "all_rows" = some (some (.ref f11))) (l11 : K.lookup f11 = some ⟨oc11, od11, .func (PySem.W.fnOf "all_rows" "all_rows" (defArgs s_all_rows) (defBody s_all_rows) (defScope s_all_rows) .none kV11 dc11 pm11 an11 cd11 ct11), sl11⟩) (c11 : PySem.W.codeIn K cd11 "all_rows" = true) (k11 : PySem.W.keepIn K (.ref f11) = true)
   (a12 : PySem.W.nsIn K mainGlobals "colourings" = some (some (.ref f12))) (l12 : K.lookup f12 = some ⟨oc12, od12, .func (PySem.W.fnOf "colourings" "colourings" (defArgs s_colourings) (defBody s_colourings) (defScope s_colourings) .none kV12 dc12 pm12 an12 cd12 ct12), sl12⟩) (c12 : PySem.W.codeIn K cd12 "colourings" = true) (k12 : PySem.W.keepIn K (.ref f12) = true)
   (a13 : PySem.W.nsIn K mainGlobals "is_odd_prime" = some (some (.ref f13))) (l13 : K.lookup f13 = some ⟨oc13, od13, .func (PySem.W.fnOf "is_odd_prime" "is_odd_prime" (defArgs s_is_odd_prime) (defBody s_is_odd_prime) (defScope s_is_odd_prime) .none kV13 dc13 pm13 an13 cd13 ct13), sl13⟩) (c13 : PySem.W.codeIn K cd13 "is_odd_prime" = true) (k13 : PySem.W.keepIn K (.ref f13) = true)
   (a14 : PySem.W.nsIn K mainGlobals "twice_less" = some (some (.ref f14))) (l14 : K.lookup f14 = some ⟨oc14, od14, .func (PySem.W.fnOf "twice_less" "twice_less" (defArgs s_twice_less) (defBody s_twice_less) (defScope s_twice_less) .none kV14 dc14 pm14 an14 cd14 ct14), sl14⟩) (c14 : PySem.W.codeIn K cd14 "twice_less" = true) (k14 : PySem.W.keepIn K (.ref f14) = true)
   (a15 : PySem.W.nsIn K mainGlobals "shares_behind" = some (some (.ref f15))) (l15 : K.lookup f15 = some ⟨oc15, od15, .func (PySem.W.fnOf "shares_behind" "shares_behind" (defArgs s_shares_behind) (defBody s_shares_behind) (defScope s_shares_behind) .none kV15 dc15 pm15 an15 cd15 ct15), sl15⟩) (c15 : PySem.W.codeIn K cd15 "shares_behind" = true) (k15 : PySem.W.keepIn K (.ref f15) = true)
   (a16 : PySem.W.nsIn K mainGlobals "cleared" = some (some (.ref f16))) (l16 : K.lookup f16 = some ⟨oc16, od16, .func (PySem.W.fnOf "cleared" "cleared" (defArgs s_cleared) (defBody s_cleared) (defScope s_cleared) .none kV16 dc16 pm16 an16 cd16 ct16), sl16⟩) (c16 : PySem.W.codeIn K cd16 "cleared" = true) (k16 : PySem.W.keepIn K (.ref f16) = true)
   (a17 : PySem.W.nsIn K mainGlobals "rank_of" = some (some (.ref f17))) (l17 : K.lookup f17 = some ⟨oc17, od17, .func (PySem.W.fnOf "rank_of" "rank_of" (defArgs s_rank_of) (defBody s_rank_of) (defScope s_rank_of) .none kV17 dc17 pm17 an17 cd17 ct17), sl17⟩) (c17 : PySem.W.codeIn K cd17 "rank_of" = true) (k17 : PySem.W.keepIn K (.ref f17) = true)
   (a18 : PySem.W.nsIn K mainGlobals "free_colours" = some (some (.ref f18))) (l18 : K.lookup f18 = some ⟨oc18, od18, .func (PySem.W.fnOf "free_colours" "free_colours" (defArgs s_free_colours) (defBody s_free_colours) (defScope s_free_colours) .none kV18 dc18 pm18 an18 cd18 ct18), sl18⟩) (c18 : PySem.W.codeIn K cd18 "free_colours" = true) (k18 : PySem.W.keepIn K (.ref f18) = true)
   (a19 : PySem.W.nsIn K mainGlobals "ring_table" = some (some (.ref f19))) (l19 : K.lookup f19 = some ⟨oc19, od19, .func (PySem.W.fnOf "ring_table" "ring_table" (defArgs s_ring_table) (defBody s_ring_table) (defScope s_ring_table) .none kV19 dc19 pm19 an19 cd19 ct19), sl19⟩) (c19 : PySem.W.codeIn K cd19 "ring_table" = true) (k19 : PySem.W.keepIn K (.ref f19) = true)
   (a20 : PySem.W.nsIn K mainGlobals "_law_state" = some (some (.ref f20))) (l20 : K.lookup f20 = some ⟨oc20, od20, .func (PySem.W.fnOf "_law_state" "_law_state" (defArgs s__law_state) (defBody s__law_state) (defScope s__law_state) .none kV20 dc20 pm20 an20 cd20 ct20), sl20⟩) (c20 : PySem.W.codeIn K cd20 "_law_state" = true) (k20 : PySem.W.keepIn K (.ref f20) = true)
   (a21 : PySem.W.nsIn K mainGlobals "_law_take" = some (some (.ref f21))) (l21 : K.lookup f21 = some ⟨oc21, od21, .func (PySem.W.fnOf "_law_take" "_law_take" (defArgs s__law_take) (defBody s__law_take) (defScope s__law_take) .none kV21 dc21 pm21 an21 cd21 ct21), sl21⟩) (c21 : PySem.W.codeIn K cd21 "_law_take" = true) (k21 : PySem.W.keepIn K (.ref f21) = true)
   (a22 : PySem.W.nsIn K mainGlobals "_law_letter" = some (some (.ref f22))) (l22 : K.lookup f22 = some ⟨oc22, od22, .func (PySem.W.fnOf "_law_letter" "_law_letter" (defArgs s__law_letter) (defBody s__law_letter) (defScope s__law_letter) .none kV22 dc22 pm22 an22 cd22 ct22), sl22⟩) (c22 : PySem.W.codeIn K cd22 "_law_letter" = true) (k22 : PySem.W.keepIn K (.ref f22) = true)
   (a23 : PySem.W.nsIn K mainGlobals "_law_plait" = some (some (.ref f23))) (l23 : K.lookup f23 = some ⟨oc23, od23, .func (PySem.W.fnOf "_law_plait" "_law_plait" (defArgs s__law_plait) (defBody s__law_plait) (defScope s__law_plait) .none kV23 dc23 pm23 an23 cd23 ct23), sl23⟩) (c23 : PySem.W.codeIn K cd23 "_law_plait" = true) (k23 : PySem.W.keepIn K (.ref f23) = true)
   (a24 : PySem.W.nsIn K mainGlobals "_law_whole" = some (some (.ref f24))) (l24 : K.lookup f24 = some ⟨oc24, od24, .func (PySem.W.fnOf "_law_whole" "_law_whole" (defArgs s__law_whole) (defBody s__law_whole) (defScope s__law_whole) .none kV24 dc24 pm24 an24 cd24 ct24), sl24⟩) (c24 : PySem.W.codeIn K cd24 "_law_whole" = true) (k24 : PySem.W.keepIn K (.ref f24) = true)
   (a25 : PySem.W.nsIn K mainGlobals "_law_down" = some (some (.ref f25))) (l25 : K.lookup f25 = some ⟨oc25, od25, .func (PySem.W.fnOf "_law_down" "_law_down" (defArgs s__law_down) (defBody s__law_down) (defScope s__law_down) .none kV25 dc25 pm25 an25 cd25 ct25), sl25⟩) (c25 : PySem.W.codeIn K cd25 "_law_down" = true) (k25 : PySem.W.keepIn K (.ref f25) = true)
   (a26 : PySem.W.nsIn K mainGlobals "law" = some (some (.ref f26))) (l26 : K.lookup f26 = some ⟨oc26, od26, .func (PySem.W.fnOf "law" "law" (defArgs s_law) (defBody s_law) (defScope s_law) .none kV26 dc26 pm26 an26 cd26 ct26), sl26⟩) (c26 : PySem.W.codeIn K cd26 "law" = true) (k26 : PySem.W.keepIn K (.ref f26) = true)
   (z_abs : PySem.W.nsIn K mainGlobals "abs" = some none)
   (z_all : PySem.W.nsIn K mainGlobals "all" = some none)
   (z_bool : PySem.W.nsIn K mainGlobals "bool" = some none)
   (z_enumerate : PySem.W.nsIn K mainGlobals "enumerate" = some none)
   (z_int : PySem.W.nsIn K mainGlobals "int" = some none)
   (z_isinstance : PySem.W.nsIn K mainGlobals "isinstance" = some none)
   (z_len : PySem.W.nsIn K mainGlobals "len" = some none)
   (z_list : PySem.W.nsIn K mainGlobals "list" = some none)
   (z_range : PySem.W.nsIn K mainGlobals "range" = some none)
   (z_sorted : PySem.W.nsIn K mainGlobals "sorted" = some none)
   (z_tuple : PySem.W.nsIn K mainGlobals "tuple" = some none)
   (z_zip : PySem.W.nsIn K mainGlobals "zip" = some none)
   {tk_MOST_COLOURS : Tok} (g_MOST_COLOURS : PySem.W.nsIn K mainGlobals "MOST_COLOURS" = some (some (.int 7 tk_MOST_COLOURS)))
   {tk_MOST_LETTERS : Tok} (g_MOST_LETTERS : PySem.W.nsIn K mainGlobals "MOST_LETTERS" = some (some (.int 16 tk_MOST_LETTERS)))
   {tk_MOST_PRIME : Tok} (g_MOST_PRIME : PySem.W.nsIn K mainGlobals "MOST_PRIME" = some (some (.int 97 tk_MOST_PRIME)))
   {tk_MOST_ROWS : Tok} (g_MOST_ROWS : PySem.W.nsIn K mainGlobals "MOST_ROWS" = some (some (.int 2500 tk_MOST_ROWS)))
   {tk_MOST_STRANDS : Tok} (g_MOST_STRANDS : PySem.W.nsIn K mainGlobals "MOST_STRANDS" = some (some (.int 6 tk_MOST_STRANDS)))
   : ∃ fd : FuncData, (∀ (s : Shared) (v : Value), BindsTo s fd ⟨[v], []⟩ [("script", v)]) ∧ ∀ base : Heap, K.In base → base.Ns mainGlobals mg → FnOk l.prog w K mg base CX0 6 fa fd ["script"] (dSp K sp_law) := by
 have e := hfa.symm.trans (PySem.W.mg_of X G a26)
 cases e
 have Z : Zs mg := ⟨PySem.W.mg_none_of X G z_abs, PySem.W.mg_none_of X G z_all, PySem.W.mg_none_of X G z_bool, PySem.W.mg_none_of X G z_enumerate, PySem.W.mg_none_of X G z_int, PySem.W.mg_none_of X G z_isinstance, PySem.W.mg_none_of X G z_len, PySem.W.mg_none_of X G z_list, PySem.W.mg_none_of X G z_range, PySem.W.mg_none_of X G z_sorted, PySem.W.mg_none_of X G z_tuple, PySem.W.mg_none_of X G z_zip, ⟨tk_MOST_COLOURS, PySem.W.mg_of X G g_MOST_COLOURS⟩, ⟨tk_MOST_LETTERS, PySem.W.mg_of X G g_MOST_LETTERS⟩, ⟨tk_MOST_PRIME, PySem.W.mg_of X G g_MOST_PRIME⟩, ⟨tk_MOST_ROWS, PySem.W.mg_of X G g_MOST_ROWS⟩, ⟨tk_MOST_STRANDS, PySem.W.mg_of X G g_MOST_STRANDS⟩⟩
 have F1 := fun_mk (st := s_is_letter) l1 c1 k1
 have b1 := F1.binds (ps := ["strands", "letter"]) fun _ _ _ _ _ _ us hl => len_2 (P := fun us => bindArgs _ ⟨us, []⟩ = pure (List.zip _ us)) hl (fun _ _ => rfl)
 have F2 := fun_mk (st := s_is_word) l2 c2 k2
 have b2 := F2.binds (ps := ["strands", "word", "most"]) fun _ _ _ _ _ _ us hl => len_3 (P := fun us => bindArgs _ ⟨us, []⟩ = pure (List.zip _ us)) hl (fun _ _ _ => rfl)
 have F3 := fun_mk (st := s_is_plait) l3 c3 k3
 have b3 := F3.binds (ps := ["plait"]) fun _ _ _ _ _ _ us hl => len_1 (P := fun us => bindArgs _ ⟨us, []⟩ = pure (List.zip _ us)) hl (fun _ => rfl)
 have F4 := fun_mk (st := s_looked) l4 c4 k4
 have b4 := F4.binds (ps := ["plait"]) fun _ _ _ _ _ _ us hl => len_1 (P := fun us => bindArgs _ ⟨us, []⟩ = pure (List.zip _ us)) hl (fun _ => rfl)
 have F5 := fun_mk (st := s_has_form) l5 c5 k5
 have b5 := F5.binds (ps := ["table"]) fun _ _ _ _ _ _ us hl => len_1 (P := fun us => bindArgs _ ⟨us, []⟩ = pure (List.zip _ us)) hl (fun _ => rfl)
 have F6 := fun_mk (st := s_keeps_third_rule) l6 c6 k6
 have b6 := F6.binds (ps := ["table", "c"]) fun _ _ _ _ _ _ us hl => len_2 (P := fun us => bindArgs _ ⟨us, []⟩ = pure (List.zip _ us)) hl (fun _ _ => rfl)
 have F7 := fun_mk (st := s_is_table) l7 c7 k7
 have b7 := F7.binds (ps := ["table"]) fun _ _ _ _ _ _ us hl => len_1 (P := fun us => bindArgs _ ⟨us, []⟩ = pure (List.zip _ us)) hl (fun _ => rfl)
 have F8 := fun_mk (st := s_looked_table) l8 c8 k8
 have b8 := F8.binds (ps := ["table"]) fun _ _ _ _ _ _ us hl => len_1 (P := fun us => bindArgs _ ⟨us, []⟩ = pure (List.zip _ us)) hl (fun _ => rfl)
 have F9 := fun_mk (st := s_undone) l9 c9 k9
 have b9 := F9.binds (ps := ["table"]) fun _ _ _ _ _ _ us hl => len_1 (P := fun us => bindArgs _ ⟨us, []⟩ = pure (List.zip _ us)) hl (fun _ => rfl)
 have F10 := fun_mk (st := s_led_down) l10 c10 k10
 have b10 := F10.binds (ps := ["table", "colour_by", "word", "colours"]) fun _ _ _ _ _ _ us hl => len_4 (P := fun us => bindArgs _ ⟨us, []⟩ = pure (List.zip _ us)) hl (fun _ _ _ _ => rfl)
 have F11 := fun_mk (st := s_all_rows) l11 c11 k11
 have b11 := F11.binds (ps := ["many", "places"]) fun _ _ _ _ _ _ us hl => len_2 (P := fun us => bindArgs _ ⟨us, []⟩ = pure (List.zip _ us)) hl (fun _ _ => rfl)
 have F12 := fun_mk (st := s_colourings) l12 c12 k12
 have b12 := F12.binds (ps := ["table", "plait"]) fun _ _ _ _ _ _ us hl => len_2 (P := fun us => bindArgs _ ⟨us, []⟩ = pure (List.zip _ us)) hl (fun _ _ => rfl)
 have F13 := fun_mk (st := s_is_odd_prime) l13 c13 k13
 have b13 := F13.binds (ps := ["number"]) fun _ _ _ _ _ _ us hl => len_1 (P := fun us => bindArgs _ ⟨us, []⟩ = pure (List.zip _ us)) hl (fun _ => rfl)
 have F14 := fun_mk (st := s_twice_less) l14 c14 k14
 have b14 := F14.binds (ps := ["row", "other"]) fun _ _ _ _ _ _ us hl => len_2 (P := fun us => bindArgs _ ⟨us, []⟩ = pure (List.zip _ us)) hl (fun _ _ => rfl)
 have F15 := fun_mk (st := s_shares_behind) l15 c15 k15
 have b15 := F15.binds (ps := ["plait"]) fun _ _ _ _ _ _ us hl => len_1 (P := fun us => bindArgs _ ⟨us, []⟩ = pure (List.zip _ us)) hl (fun _ => rfl)
 have F16 := fun_mk (st := s_cleared) l16 c16 k16
 have b16 := F16.binds (ps := ["row", "first", "column", "prime"]) fun _ _ _ _ _ _ us hl => len_4 (P := fun us => bindArgs _ ⟨us, []⟩ = pure (List.zip _ us)) hl (fun _ _ _ _ => rfl)
 have F17 := fun_mk (st := s_rank_of) l17 c17 k17
 have b17 := F17.binds (ps := ["rows", "prime"]) fun _ _ _ _ _ _ us hl => len_2 (P := fun us => bindArgs _ ⟨us, []⟩ = pure (List.zip _ us)) hl (fun _ _ => rfl)
 have F18 := fun_mk (st := s_free_colours) l18 c18 k18
 have b18 := F18.binds (ps := ["prime", "plait"]) fun _ _ _ _ _ _ us hl => len_2 (P := fun us => bindArgs _ ⟨us, []⟩ = pure (List.zip _ us)) hl (fun _ _ => rfl)
 have F19 := fun_mk (st := s_ring_table) l19 c19 k19
 have b19 := F19.binds (ps := ["many"]) fun _ _ _ _ _ _ us hl => len_1 (P := fun us => bindArgs _ ⟨us, []⟩ = pure (List.zip _ us)) hl (fun _ => rfl)
 have F20 := fun_mk (st := s__law_state) l20 c20 k20
 have b20 := F20.binds (ps := ["script", "k"]) fun _ _ _ _ _ _ us hl => len_2 (P := fun us => bindArgs _ ⟨us, []⟩ = pure (List.zip _ us)) hl (fun _ _ => rfl)
 have F21 := fun_mk (st := s__law_take) l21 c21 k21
 have b21 := F21.binds (ps := ["state", "many"]) fun _ _ _ _ _ _ us hl => len_2 (P := fun us => bindArgs _ ⟨us, []⟩ = pure (List.zip _ us)) hl (fun _ _ => rfl)
 have F22 := fun_mk (st := s__law_letter) l22 c22 k22
 have b22 := F22.binds (ps := ["state", "strands"]) fun _ _ _ _ _ _ us hl => len_2 (P := fun us => bindArgs _ ⟨us, []⟩ = pure (List.zip _ us)) hl (fun _ _ => rfl)
 have F23 := fun_mk (st := s__law_plait) l23 c23 k23
 have b23 := F23.binds (ps := ["state", "most", "longest"]) fun _ _ _ _ _ _ us hl => len_3 (P := fun us => bindArgs _ ⟨us, []⟩ = pure (List.zip _ us)) hl (fun _ _ _ => rfl)
 have F24 := fun_mk (st := s__law_whole) l24 c24 k24
 have b24 := F24.binds (ps := ["found"]) fun _ _ _ _ _ _ us hl => len_1 (P := fun us => bindArgs _ ⟨us, []⟩ = pure (List.zip _ us)) hl (fun _ => rfl)
 have F25 := fun_mk (st := s__law_down) l25 c25 k25
 have b25 := F25.binds (ps := ["prime", "word", "numbers"]) fun _ _ _ _ _ _ us hl => len_3 (P := fun us => bindArgs _ ⟨us, []⟩ = pure (List.zip _ us)) hl (fun _ _ _ => rfl)
 have F26 := fun_mk (st := s_law) l26 c26 k26
 refine ⟨PySem.W.fnOf "law" "law" (defArgs s_law) (defBody s_law) (defScope s_law) .none kV26 dc26 pm26 an26 cd26 ct26, fun s v => .of_eq rfl, fun base _ _ => ?_⟩
 have D1 := ok_is_letter (P := l.prog) (w := w) (base := base) (n := 0) F1 (PySem.W.mg_of X G a1) b1 Z 
 have D2 := ok_is_word (P := l.prog) (w := w) (base := base) (n := 1) F2 (PySem.W.mg_of X G a2) b2 Z (D1.mono (by decide))
 have D3 := ok_is_plait (P := l.prog) (w := w) (base := base) (n := 2) F3 (PySem.W.mg_of X G a3) b3 Z (D2.mono (by decide))
 have D4 := ok_looked (P := l.prog) (w := w) (base := base) (n := 3) F4 (PySem.W.mg_of X G a4) b4 Z (D3.mono (by decide))
 have D5 := ok_has_form (P := l.prog) (w := w) (base := base) (n := 0) F5 (PySem.W.mg_of X G a5) b5 Z 
 have D6 := ok_keeps_third_rule (P := l.prog) (w := w) (base := base) (n := 0) F6 (PySem.W.mg_of X G a6) b6 Z 
 have D7 := ok_is_table (P := l.prog) (w := w) (base := base) (n := 1) F7 (PySem.W.mg_of X G a7) b7 Z (D5.mono (by decide)) (D6.mono (by decide))
 have D8 := ok_looked_table (P := l.prog) (w := w) (base := base) (n := 2) F8 (PySem.W.mg_of X G a8) b8 Z (D7.mono (by decide))
 have D9 := ok_undone (P := l.prog) (w := w) (base := base) (n := 0) F9 (PySem.W.mg_of X G a9) b9 Z 
 have D10 := ok_led_down (P := l.prog) (w := w) (base := base) (n := 0) F10 (PySem.W.mg_of X G a10) b10 Z 
 have D11 := ok_all_rows (P := l.prog) (w := w) (base := base) (n := 0) F11 (PySem.W.mg_of X G a11) b11 Z 
 have D12 := ok_colourings (P := l.prog) (w := w) (base := base) (n := 4) F12 (PySem.W.mg_of X G a12) b12 Z (D4.mono (by decide)) (D8.mono (by decide)) (D9.mono (by decide)) (D11.mono (by decide)) (D10.mono (by decide))
 have D13 := ok_is_odd_prime (P := l.prog) (w := w) (base := base) (n := 0) F13 (PySem.W.mg_of X G a13) b13 Z 
 have D14 := ok_twice_less (P := l.prog) (w := w) (base := base) (n := 0) F14 (PySem.W.mg_of X G a14) b14 Z 
 have D15 := ok_shares_behind (P := l.prog) (w := w) (base := base) (n := 1) F15 (PySem.W.mg_of X G a15) b15 Z (D14.mono (by decide))
 have D16 := ok_cleared (P := l.prog) (w := w) (base := base) (n := 0) F16 (PySem.W.mg_of X G a16) b16 Z 
 have D17 := ok_rank_of (P := l.prog) (w := w) (base := base) (n := 1) F17 (PySem.W.mg_of X G a17) b17 Z (D16.mono (by decide))
 have D18 := ok_free_colours (P := l.prog) (w := w) (base := base) (n := 4) F18 (PySem.W.mg_of X G a18) b18 Z (D4.mono (by decide)) (D13.mono (by decide)) (D15.mono (by decide)) (D17.mono (by decide))
 have D19 := ok_ring_table (P := l.prog) (w := w) (base := base) (n := 0) F19 (PySem.W.mg_of X G a19) b19 Z 
 have D20 := ok__law_state (P := l.prog) (w := w) (base := base) (n := 0) F20 (PySem.W.mg_of X G a20) b20 Z 
 have D21 := ok__law_take (P := l.prog) (w := w) (base := base) (n := 0) F21 (PySem.W.mg_of X G a21) b21 Z 
 have D22 := ok__law_letter (P := l.prog) (w := w) (base := base) (n := 1) F22 (PySem.W.mg_of X G a22) b22 Z (D21.mono (by decide))
 have D23 := ok__law_plait (P := l.prog) (w := w) (base := base) (n := 2) F23 (PySem.W.mg_of X G a23) b23 Z (D21.mono (by decide)) (D22.mono (by decide))
 have D24 := ok__law_whole (P := l.prog) (w := w) (base := base) (n := 0) F24 (PySem.W.mg_of X G a24) b24 Z 
 have D25 := ok__law_down (P := l.prog) (w := w) (base := base) (n := 0) F25 (PySem.W.mg_of X G a25) b25 Z 
 exact ok_law (n := 5) F26 Z (D20.mono (by decide)) (D23.mono (by decide)) (D21.mono (by decide)) (D18.mono (by decide)) (D12.mono (by decide)) (D19.mono (by decide)) (D24.mono (by decide)) (D25.mono (by decide))
end L2
namespace PySem.W.Fast
theorem tw13899724747717524801:True:=⟨⟩
theorem tw16749844254104837120:True:=⟨⟩
theorem tw10773916813238886009:True:=⟨⟩
theorem tw7470152225279817627:True:=⟨⟩
theorem tw17934849576135519094:True:=⟨⟩
theorem tw1088690837677135916:True:=⟨⟩
theorem tw12194293880062405041:True:=⟨⟩
theorem tw17976677609266997627:True:=⟨⟩
theorem tw6451016628662922670:True:=⟨⟩
theorem tw12680690259328043715:True:=⟨⟩
theorem tw10181468490145121385:True:=⟨⟩
theorem tw15702585632827473138:True:=⟨⟩
theorem tw17427140424806162703:True:=⟨⟩
theorem tw412051941621334185:True:=⟨⟩
theorem tw5341893432051027823:True:=⟨⟩
theorem tw4640532460477161837:True:=⟨⟩
theorem tw12709773357258989199:True:=⟨⟩
theorem tw12456194179670803873:True:=⟨⟩
theorem tw16152211508491814772:True:=⟨⟩
theorem tw214431603490898427:True:=⟨⟩
theorem tw9273349222265899786:True:=⟨⟩
theorem tw10292204506431298275:True:=⟨⟩
theorem tw8971511852108301183:True:=⟨⟩
theorem tw17989405805789726094:True:=⟨⟩
theorem tw9388817786033297299:True:=⟨⟩
theorem tw12456806369373876564:True:=⟨⟩
theorem tw17433490175609210927:True:=⟨⟩
theorem tw12760327553107460654:True:=⟨⟩
theorem tw6309570444890605834:True:=⟨⟩
theorem tw16048735558637978536:True:=⟨⟩
theorem tw243221015522990573:True:=⟨⟩
theorem tw15892428710401922389:True:=⟨⟩
theorem tw4799297458502329979:True:=⟨⟩
theorem tw1136105941029342982:True:=⟨⟩
theorem tw1240656649225734139:True:=⟨⟩
theorem tw673002318037131304:True:=⟨⟩
theorem tw9583826344828654158:True:=⟨⟩
theorem tw3125380780116628032:True:=⟨⟩
theorem tw14193612560748981244:True:=⟨⟩
theorem tw9080134184188481069:True:=⟨⟩
theorem tw11746979985947660400:True:=⟨⟩
theorem tw16232208011734109969:True:=⟨⟩
theorem tw5774393422828362958:True:=⟨⟩
theorem tw4888131230620467355:True:=⟨⟩
theorem tw11197142968999001897:True:=⟨⟩
theorem tw7349551048047027001:True:=⟨⟩
theorem tw17203417573531472496:True:=⟨⟩
theorem tw10844091864673881590:True:=⟨⟩
theorem tw12741546996234259741:True:=⟨⟩
theorem tw7688811448495037856:True:=⟨⟩
theorem tw1425486995326770599:True:=⟨⟩
theorem tw3341844600292050475:True:=⟨⟩
theorem tw6642129672591235600:True:=⟨⟩
theorem tw13366350343186489711:True:=⟨⟩
theorem tw9656067070995329255:True:=⟨⟩
theorem tw15082311184669494565:True:=⟨⟩
theorem tw6846867103691963604:True:=⟨⟩
theorem tw15644403438802263131:True:=⟨⟩
theorem tw1181636271722704737:True:=⟨⟩
theorem tw9188183314693733400:True:=⟨⟩
theorem tw7270023469014949676:True:=⟨⟩
theorem tw13570957263432826529:True:=⟨⟩
theorem tw17503849059870698295:True:=⟨⟩
theorem tw15663131006846862786:True:=⟨⟩
theorem tw5620606650161063446:True:=⟨⟩
theorem tw15106266694927337362:True:=⟨⟩
theorem tw8672664670239078020:True:=⟨⟩
theorem tw6188467054412718412:True:=⟨⟩
theorem tw2694388798591470241:True:=⟨⟩
theorem tw5797838653862165834:True:=⟨⟩
theorem tw760265039467712252:True:=⟨⟩
theorem tw9369987322151420414:True:=⟨⟩
theorem tw12027119370547536566:True:=⟨⟩
theorem tw3654494996995099844:True:=⟨⟩
theorem tw1562148756610971391:True:=⟨⟩
theorem tw5933768159479706224:True:=⟨⟩
theorem tw2168156609603231680:True:=⟨⟩
theorem tw12460555441816944757:True:=⟨⟩
theorem tw14970674858687591396:True:=⟨⟩
theorem tw18084027490275346124:True:=⟨⟩
theorem tw9092306906525887549:True:=⟨⟩
theorem tw5385703872350888336:True:=⟨⟩
theorem tw5881997491764326090:True:=⟨⟩
theorem tw18129288779113624767:True:=⟨⟩
theorem tw12525948587346961595:True:=⟨⟩
theorem tw6349568923174718267:True:=⟨⟩
theorem tw5660883243811671144:True:=⟨⟩
theorem tw18060016736120245814:True:=⟨⟩
theorem tw86758035118647573:True:=⟨⟩
theorem tw4470115817307655382:True:=⟨⟩
theorem tw2851910717104085406:True:=⟨⟩
theorem tw1505793572344341686:True:=⟨⟩
theorem tw12888021610773159749:True:=⟨⟩
theorem tw3499658989029446640:True:=⟨⟩
theorem tw15867041809920389541:True:=⟨⟩
theorem tw1777806359872216549:True:=⟨⟩
theorem tw7058229316003234296:True:=⟨⟩
theorem tw16549713264275948362:True:=⟨⟩
theorem tw15054355408741645640:True:=⟨⟩
theorem tw13721550304469017808:True:=⟨⟩
theorem tw13478412036228505079:True:=⟨⟩
theorem tw9227699352574757804:True:=⟨⟩
theorem tw14691623550194947857:True:=⟨⟩
theorem tw556046907964039924:True:=⟨⟩
theorem tw3891898000471512127:True:=⟨⟩
theorem tw13618237905617233114:True:=⟨⟩
theorem tw1936791943614088666:True:=⟨⟩
theorem tw7281415738464882716:True:=⟨⟩
theorem tw5190704926528809314:True:=⟨⟩
theorem tw1195779141438637393:True:=⟨⟩
theorem tw8155677042272543767:True:=⟨⟩
theorem tw12075306629081678407:True:=⟨⟩
theorem tw1386663990172870116:True:=⟨⟩
theorem tw13410703744634184450:True:=⟨⟩
theorem tw7599362568037051408:True:=⟨⟩
theorem tw5905627748230434189:True:=⟨⟩
theorem tw8210351349770717587:True:=⟨⟩
theorem tw854331770038612652:True:=⟨⟩
theorem tw18354906466845984550:True:=⟨⟩
theorem tw10517257159845740402:True:=⟨⟩
theorem tw16183423844735675556:True:=⟨⟩
theorem tw15906758349577244894:True:=⟨⟩
theorem tw2723005076381462343:True:=⟨⟩
theorem tw18227597424130193718:True:=⟨⟩
theorem tw3688031144469567399:True:=⟨⟩
theorem tw11940640722913599664:True:=⟨⟩
theorem tw804548030533045202:True:=⟨⟩
theorem tw5693269843242421496:True:=⟨⟩
theorem tw15804288138500596603:True:=⟨⟩
theorem tw4276887404764041278:True:=⟨⟩
theorem tw632498779268223999:True:=⟨⟩
theorem tw4157544243566278829:True:=⟨⟩
theorem tw9013790102948153173:True:=⟨⟩
theorem tw6006912896246754486:True:=⟨⟩
theorem tw16328706705804179964:True:=⟨⟩
theorem tw5619037925530054894:True:=⟨⟩
theorem tw15633471497542203789:True:=⟨⟩
theorem tw5410314380098054849:True:=⟨⟩
theorem tw16865060704392028353:True:=⟨⟩
theorem tw4310415167178977765:True:=⟨⟩
theorem tw9677761231879311688:True:=⟨⟩
theorem tw8248262666629381090:True:=⟨⟩
theorem tw17067260907411511469:True:=⟨⟩
theorem tw7910111832447285766:True:=⟨⟩
theorem tw15859012998855346244:True:=⟨⟩
theorem tw14137629629739264324:True:=⟨⟩
theorem tw7661458879396025119:True:=⟨⟩
theorem tw3557287722711327779:True:=⟨⟩
theorem tw16176250449405429368:True:=⟨⟩
theorem tw15197888522970648162:True:=⟨⟩
theorem tw5560686930882974484:True:=⟨⟩
theorem tw17306074261535555093:True:=⟨⟩
theorem tw13631970072998833824:True:=⟨⟩
theorem tw698799420670818719:True:=⟨⟩
theorem tw6388963385628338972:True:=⟨⟩
theorem tw18163472869059716113:True:=⟨⟩
theorem tw15857643181609590858:True:=⟨⟩
theorem tw8306877371039562477:True:=⟨⟩
theorem tw17399888600612467563:True:=⟨⟩
theorem tw11224669355655677668:True:=⟨⟩
theorem tw8105906793146499516:True:=⟨⟩
theorem tw4546263611044312996:True:=⟨⟩
theorem tw18136119523433284878:True:=⟨⟩
theorem tw17672957968186548777:True:=⟨⟩
theorem tw11771324606461931176:True:=⟨⟩
theorem tw17705306073790812205:True:=⟨⟩
theorem tw6315370306882751275:True:=⟨⟩
theorem tw15692205495927350701:True:=⟨⟩
theorem tw7016104334261496678:True:=⟨⟩
theorem tw14546241008644184810:True:=⟨⟩
theorem tw5751397025852991977:True:=⟨⟩
theorem tw490672818903685206:True:=⟨⟩
theorem tw13562230558036765909:True:=⟨⟩
theorem tw5871642348279955158:True:=⟨⟩
theorem tw3443372685788512320:True:=⟨⟩
theorem tw17701961358355020544:True:=⟨⟩
theorem tw16215606938052576072:True:=⟨⟩
theorem tw4116175000222822477:True:=⟨⟩
theorem tw9639869227472045407:True:=⟨⟩
theorem tw2958125961587313693:True:=⟨⟩
theorem tw5135719195210354437:True:=⟨⟩
theorem tw5313092962955478109:True:=⟨⟩
theorem tw11174806951898387736:True:=⟨⟩
theorem tw9814586525927453940:True:=⟨⟩
theorem tw8716311547677655563:True:=⟨⟩
theorem tw9867758506576053249:True:=⟨⟩
theorem tw4320286404520687252:True:=⟨⟩
theorem tw14543747813476068643:True:=⟨⟩
theorem tw7443871394939458431:True:=⟨⟩
theorem tw16967377533268628975:True:=⟨⟩
theorem tw6429856942620022555:True:=⟨⟩
theorem tw10545352888240518955:True:=⟨⟩
theorem tw11265326350444789880:True:=⟨⟩
theorem tw13158261610404967822:True:=⟨⟩
theorem tw2532981747538691272:True:=⟨⟩
theorem tw7167870044286816707:True:=⟨⟩
theorem tw12362143539682792018:True:=⟨⟩
theorem tw9411832314376131128:True:=⟨⟩
theorem tw9661978749791486045:True:=⟨⟩
theorem tw13025749799612559093:True:=⟨⟩
theorem tw15066453850317548:True:=⟨⟩
theorem tw17203778364274996104:True:=⟨⟩
theorem tw14182612272671008675:True:=⟨⟩
theorem tw4205109906853399788:True:=⟨⟩
theorem tw15358796606627023667:True:=⟨⟩
theorem tw15143420140859082429:True:=⟨⟩
theorem tw2363748433828540203:True:=⟨⟩
theorem tw9887804878280122696:True:=⟨⟩
theorem tw4218278400123314209:True:=⟨⟩
theorem tw260838328738356165:True:=⟨⟩
theorem tw13236915862508071140:True:=⟨⟩
theorem tw2271229699560121779:True:=⟨⟩
theorem tw18271747065581908237:True:=⟨⟩
theorem tw6825298450257788730:True:=⟨⟩
theorem tw4536753010803118103:True:=⟨⟩
theorem tw15458647698281361090:True:=⟨⟩
theorem tw1975242114227283403:True:=⟨⟩
theorem tw15307571905849548907:True:=⟨⟩
theorem tw451903686908212405:True:=⟨⟩
theorem tw10498651945185479478:True:=⟨⟩
theorem tw16225462308466393147:True:=⟨⟩
theorem tw17947250015345851826:True:=⟨⟩
theorem tw10853974908619256438:True:=⟨⟩
theorem tw7419379581743813919:True:=⟨⟩
theorem tw8054061739479797010:True:=⟨⟩
theorem tw1183622514632791349:True:=⟨⟩
theorem tw14149325188962633479:True:=⟨⟩
theorem tw2618202737627398261:True:=⟨⟩
theorem tw8781992412867206669:True:=⟨⟩
theorem tw16566773299463252826:True:=⟨⟩
theorem tw17189913817296531969:True:=⟨⟩
theorem tw15817266017609769825:True:=⟨⟩
theorem tw1368075107362039002:True:=⟨⟩
theorem tw18070122344949524961:True:=⟨⟩
theorem tw10599600183412065382:True:=⟨⟩
theorem tw9035258496003935655:True:=⟨⟩
theorem tw3758851327369290124:True:=⟨⟩
theorem tw9122478284240498203:True:=⟨⟩
theorem tw6006890356106427670:True:=⟨⟩
theorem tw2253204232911268942:True:=⟨⟩
theorem tw3228056431008339267:True:=⟨⟩
theorem tw2649723301944247844:True:=⟨⟩
theorem tw9010043293089097368:True:=⟨⟩
theorem tw10435830275190901087:True:=⟨⟩
theorem tw2969262660549536810:True:=⟨⟩
theorem tw614587602482370874:True:=⟨⟩
theorem tw3983800013113712325:True:=⟨⟩
theorem tw12829870289138457251:True:=⟨⟩
theorem tw4106420420801972115:True:=⟨⟩
theorem tw18338029291816147213:True:=⟨⟩
theorem tw5805256810728338881:True:=⟨⟩
theorem tw8942650574932111341:True:=⟨⟩
theorem tw3020724020906233220:True:=⟨⟩
theorem tw17700114864388564665:True:=⟨⟩
theorem tw754470320724057876:True:=⟨⟩
theorem tw6069302909182666155:True:=⟨⟩
theorem tw13850946603204682507:True:=⟨⟩
theorem tw12984214505466778120:True:=⟨⟩
theorem tw8824540480207790523:True:=⟨⟩
theorem tw235002649638280846:True:=⟨⟩
theorem tw7679737012692428532:True:=⟨⟩
theorem tw18192432623350111525:True:=⟨⟩
end PySem.W.Fast
open PySem PySem.W PyProof.Rows
set_option maxRecDepth 100000 in
set_option maxHeartbeats 0 in
theorem PySem.Challenge.cw_loopwright_k65_whole_free_colours_holds : PySem.Challenge.rw_loopwright_k65_whole_free_colours.Holds := by
 w_on; o_law; k_head; (case hw => w_witness2)
 k_fill
 refine L2.law_walk (l := PySem.Challenge.rw_loopwright_k65_whole_free_colours) (k := 6) (sp := L2.sp_law) rfl rfl ⟨rfl, by decide, by decide⟩ (fun w h Y => PySem.W.kIn_of Y) L2.law_starts ?F
 case F =>
   intro w mg fa h KX G hmg
   refine' L2.all_mk KX G hmg ?a1 ?l1 ?c1 ?k1 ?a2 ?l2 ?c2 ?k2 ?a3 ?l3 ?c3 ?k3 ?a4 ?l4 ?c4 ?k4 ?a5 ?l5 ?c5 ?k5 ?a6 ?l6 ?c6 ?k6 ?a7 ?l7 ?c7 ?k7 ?a8 ?l8 ?c8 ?k8 ?a9 ?l9 ?c9 ?k9 ?a10 ?l10 ?c10 ?k10 ?a11 ?l11 ?c11 ?k11 ?a12 ?l12 ?c12 ?k12 ?a13 ?l13 ?c13 ?k13 ?a14 ?l14 ?c14 ?k14 ?a15 ?l15 ?c15 ?k15 ?a16 ?l16 ?c16 ?k16 ?a17 ?l17 ?c17 ?k17 ?a18 ?l18 ?c18 ?k18 ?a19 ?l19 ?c19 ?k19 ?a20 ?l20 ?c20 ?k20 ?a21 ?l21 ?c21 ?k21 ?a22 ?l22 ?c22 ?k22 ?a23 ?l23 ?c23 ?k23 ?a24 ?l24 ?c24 ?k24 ?a25 ?l25 ?c25 ?k25 ?a26 ?l26 ?c26 ?k26 ?z_abs ?z_all ?z_bool ?z_enumerate ?z_int ?z_isinstance ?z_len ?z_list ?z_range ?z_sorted ?z_tuple ?z_zip ?g_MOST_COLOURS ?g_MOST_LETTERS ?g_MOST_PRIME ?g_MOST_ROWS ?g_MOST_STRANDS
   (case a1 => k_is)
   (case l1 => k_is)
   (case c1 => k_is)
   (case k1 => k_is)
   (case a2 => k_is)
   (case l2 => k_is)
   (case c2 => k_is)
   (case k2 => k_is)
   (case a3 => k_is)
   (case l3 => k_is)
   (case c3 => k_is)
   (case k3 => k_is)
   (case a4 => k_is)
   (case l4 => k_is)
   (case c4 => k_is)
   (case k4 => k_is)
   (case a5 => k_is)
   (case l5 => k_is)
   (case c5 => k_is)
   (case k5 => k_is)
   (case a6 => k_is)
   (case l6 => k_is)
   (case c6 => k_is)
   (case k6 => k_is)
   (case a7 => k_is)
   (case l7 => k_is)
   (case c7 => k_is)
   (case k7 => k_is)
   (case a8 => k_is)
   (case l8 => k_is)
   (case c8 => k_is)
   (case k8 => k_is)
   (case a9 => k_is)
   (case l9 => k_is)
   (case c9 => k_is)
   (case k9 => k_is)
   (case a10 => k_is)
   (case l10 => k_is)
   (case c10 => k_is)
   (case k10 => k_is)
   (case a11 => k_is)
   (case l11 => k_is)
   (case c11 => k_is)
   (case k11 => k_is)
   (case a12 => k_is)
   (case l12 => k_is)
   (case c12 => k_is)
   (case k12 => k_is)
   (case a13 => k_is)
   (case l13 => k_is)
   (case c13 => k_is)
   (case k13 => k_is)
   (case a14 => k_is)
   (case l14 => k_is)
   (case c14 => k_is)
   (case k14 => k_is)
   (case a15 => k_is)
   (case l15 => k_is)
   (case c15 => k_is)
   (case k15 => k_is)
   (case a16 => k_is)
   (case l16 => k_is)
   (case c16 => k_is)
   (case k16 => k_is)
   (case a17 => k_is)
   (case l17 => k_is)
   (case c17 => k_is)
   (case k17 => k_is)
   (case a18 => k_is)
   (case l18 => k_is)
   (case c18 => k_is)
   (case k18 => k_is)
   (case a19 => k_is)
   (case l19 => k_is)
   (case c19 => k_is)
   (case k19 => k_is)
   (case a20 => k_is)
   (case l20 => k_is)
   (case c20 => k_is)
   (case k20 => k_is)
   (case a21 => k_is)
   (case l21 => k_is)
   (case c21 => k_is)
   (case k21 => k_is)
   (case a22 => k_is)
   (case l22 => k_is)
   (case c22 => k_is)
   (case k22 => k_is)
   (case a23 => k_is)
   (case l23 => k_is)
   (case c23 => k_is)
   (case k23 => k_is)
   (case a24 => k_is)
   (case l24 => k_is)
   (case c24 => k_is)
   (case k24 => k_is)
   (case a25 => k_is)
   (case l25 => k_is)
   (case c25 => k_is)
   (case k25 => k_is)
   (case a26 => k_is)
   (case l26 => k_is)
   (case c26 => k_is)
   (case k26 => k_is)
   (case z_abs => k_is)
   (case z_all => k_is)
   (case z_bool => k_is)
   (case z_enumerate => k_is)
   (case z_int => k_is)
   (case z_isinstance => k_is)
   (case z_len => k_is)
   (case z_list => k_is)
   (case z_range => k_is)
   (case z_sorted => k_is)
   (case z_tuple => k_is)
   (case z_zip => k_is)
   (case g_MOST_COLOURS => k_is)
   (case g_MOST_LETTERS => k_is)
   (case g_MOST_PRIME => k_is)
   (case g_MOST_ROWS => k_is)
   (case g_MOST_STRANDS => k_is)
