import PyProof.Rows.All
import Wide.All
import OpenK.AllK
import Wide.FinOn
import Lean
import PyProof.EqAt
import PyProof.EqKinds
import PyProof.TupleCall
import PySem.Challenge.RW_loopwright_k61_tables_looked_at
set_option Elab.async false
set_option linter.all false
set_option maxRecDepth 100000
namespace L2
open PySem PySem.Spec PyProof.Rows
noncomputable abbrev Key := Sum Int Str
noncomputable def keyIs : Key → Value → Bool
 | .inl k, v => Value.isInt k v
 | .inr x, v => Value.isStrOf x v
noncomputable def keyH (w : World) : Key → Int
 | .inl k => hashInt k
 | .inr x => hashStr w x
theorem keyIs_shape : ∀ {k : Key} {v : Value}, keyIs k v = true → (∃ i t, k = Sum.inl i ∧ v = Value.int i t) ∨ (∃ x t, k = Sum.inr x ∧ v = Value.str x t)
 | .inl i, v, h => by
   obtain ⟨t, e⟩ := Value.isInt_shape (k := i) (v := v) h
   exact .inl ⟨i, t, rfl, e⟩
 | .inr x, v, h => by
   obtain ⟨t, e⟩ := Value.isStrOf_shape (x := x) (v := v) h
   exact .inr ⟨x, t, rfl, e⟩
theorem keyIs_int (i : Int) (t : Tok) : keyIs (.inl i) (.int i t) = true := by simp [keyIs, Value.isInt]
theorem keyIs_str (x : Str) (t : Tok) : keyIs (.inr x) (.str x t) = true := by simp [keyIs, Value.isStrOf]
theorem key_ll (a b : Int) : decide ((Sum.inl a : Key) = Sum.inl b) = (a == b) := by
 by_cases e : a = b
 · subst e; simp
 · have h : ¬ (Sum.inl a : Key) = Sum.inl b := fun q => e (Sum.inl.inj q)
   rw [decide_eq_false h]
   exact (beq_eq_false_iff_ne.mpr e).symm
theorem key_rr (a b : Str) : decide ((Sum.inr a : Key) = Sum.inr b) = decide (a = b) := by
 by_cases e : a = b
 · subst e; simp
 · have h : ¬ (Sum.inr a : Key) = Sum.inr b := fun q => e (Sum.inr.inj q)
   rw [decide_eq_false h, decide_eq_false e]
theorem key_lr (a : Int) (b : Str) : decide ((Sum.inl a : Key) = Sum.inr b) = false := decide_eq_false (fun q => nomatch q)
theorem key_rl (a : Str) (b : Int) : decide ((Sum.inr a : Key) = Sum.inl b) = false := decide_eq_false (fun q => nomatch q)
noncomputable def mixKind (prog : Program) (w : World) : PySem.KeyKind prog w Key where
 is := keyIs
 hash := keyH w
 inj := fun v a b ha hb => by
   rcases keyIs_shape ha with ⟨i, t, rfl, rfl⟩ | ⟨x, t, rfl, rfl⟩
   · rcases keyIs_shape hb with ⟨j, u, rfl, e⟩ | ⟨y, u, rfl, e⟩
     · injection e with e1 _; rw [e1]
     · exact nomatch e
   · rcases keyIs_shape hb with ⟨j, u, rfl, e⟩ | ⟨y, u, rfl, e⟩
     · exact nomatch e
     · injection e with e1 _; rw [e1]
 byValue := fun k v h => by
   rcases keyIs_shape h with ⟨i, t, rfl, rfl⟩ | ⟨x, t, rfl, rfl⟩ <;> rfl
 pyHash := fun hv h => by
   rcases keyIs_shape hv with ⟨i, t, rfl, rfl⟩ | ⟨x, t, rfl, rfl⟩
   · exact wpAny_pyHash_int h
   · exact wpAny_pyHash_str h
 eqBool := fun hu hv h => by
   rcases keyIs_shape hu with ⟨i, t, rfl, rfl⟩ | ⟨x, t, rfl, rfl⟩
   · rcases keyIs_shape hv with ⟨j, u, rfl, rfl⟩ | ⟨y, u, rfl, rfl⟩
     · rw [key_ll] at h; exact wpAny_eqBool_int h
     · rw [key_lr] at h; exact SeqAt.EqAt.int_str i t y u _ _ _ _ h
   · rcases keyIs_shape hv with ⟨j, u, rfl, rfl⟩ | ⟨y, u, rfl, rfl⟩
     · rw [key_rl] at h; exact SeqAt.EqAt.str_int x t j u _ _ _ _ h
     · rw [key_rr] at h; exact wpAny_eqBool_str h
 «strs» := fun k x t v h => by
   rcases keyIs_shape h with ⟨i, u, rfl, e⟩ | ⟨y, u, rfl, e⟩
   · exact nomatch e
   · injection e with e1 _
     subst e1
     cases v <;> rfl
theorem mixKind_int (prog : Program) (w : World) (i : Int) (t : Tok) : (mixKind prog w).is (.inl i) (.int i t) = true := keyIs_int i t
theorem mixKind_str (prog : Program) (w : World) (x : Str) (t : Tok) : (mixKind prog w).is (.inr x) (.str x t) = true := keyIs_str x t
end L2
namespace L2
open PySem PySem.Spec PyProof.Rows
inductive V where
 | non | bl (b : Bool) | int (i : Int) | str (x : Str) | byt (b : Array UInt8) | flt (b : UInt64) | ref (a : Addr) | ty (n : String)
 deriving DecidableEq
noncomputable def RelV : V → Value → Prop
 | .non, u => u = Value.none
 | .bl b, u => u = Value.bool b
 | .int i, u => ∃ t, u = Value.int i t
 | .str x, u => ∃ t, u = Value.str x t
 | .byt b, u => ∃ t, u = Value.bytes b t
 | .flt b, u => ∃ t, u = Value.float b t
 | .ref a, u => u = Value.ref a
 | .ty n, u => u = Value.type n
noncomputable abbrev Vals : List V → List Value → Prop := Paired RelV
theorem Vals.length {xs : List V} {us : List Value} (r : Vals xs us) : xs.length = us.length := Paired.length r
theorem Vals.get : ∀ {xs : List V} {us : List Value} {i : Nat} {x : V}, Vals xs us → xs[i]? = some x → ∃ u, us[i]? = some u ∧ RelV x u
 | _, _, _, _, .nil, e => by simp at e
 | _, _, 0, _, .cons r _, e => by simp at e; subst e; exact ⟨_, rfl, r⟩
 | _, _, i + 1, x, .cons _ t, e => by
   obtain ⟨u, h1, h2⟩ := Vals.get (i := i) (x := x) t (by simpa using e)
   exact ⟨u, by simpa using h1, h2⟩
theorem Vals.set {x : V} {u : Value} (r : RelV x u) : ∀ {xs : List V} {us : List Value} (i : Nat), Vals xs us → Vals (xs.set i x) (us.set i u)
 | _, _, _, .nil => .nil
 | _, _, 0, .cons _ t => .cons r t
 | _, _, i + 1, .cons q t => .cons q (Vals.set r i t)
theorem Vals.append : ∀ {xs ys : List V} {us ws : List Value}, Vals xs us → Vals ys ws → Vals (xs ++ ys) (us ++ ws)
 | _, _, _, _, .nil, s => s
 | _, _, _, _, .cons r t, s => .cons r (Vals.append t s)
theorem Vals.take : ∀ {xs : List V} {us : List Value} (n : Nat), Vals xs us → Vals (xs.take n) (us.take n)
 | _, _, 0, _ => .nil
 | _, _, _ + 1, .nil => .nil
 | _, _, n + 1, .cons r t => .cons r (Vals.take n t)
theorem Vals.drop : ∀ {xs : List V} {us : List Value} (n : Nat), Vals xs us → Vals (xs.drop n) (us.drop n)
 | _, _, 0, r => r
 | _, _, _ + 1, .nil => .nil
 | _, _, n + 1, .cons _ t => Vals.drop n t
noncomputable def RelO : Option V → Option Value → Prop
 | some v, some u => RelV v u
 | none, none => True
 | _, _ => False
noncomputable def KV {κ : Type} : List (κ × V) → List (κ × Value) → Prop := Paired fun (p : κ × V) (q : κ × Value) => p.1 = q.1 ∧ RelV p.2 q.2
noncomputable def kV : Key → V
 | .inl i => .int i
 | .inr x => .str x
inductive HO where
 /-- a list -/
 | lst (xs : List V)
 /-- a tuple (never changes) -/
 | tup (xs : List V)
 /-- a dict whose keys are ints and texts; one whose keys are tuples of ints and texts (the empty one is both) -/
 | dK (kvs : List (Key × V)) | dT (kvs : List (List Key × V))
 /-- a set of ints: its members, its size -/
 | set (S : Int → Bool) (n : Nat)
 /-- an instance of the class at C, its dict at dx, its attributes -/
 | ins (C dx : Addr) (fs : List (Str × V))
 /-- the dict of the instance at x -/
 | own (x : Addr)
 /-- the dict of an exception -/
 | xd (fs : List (Str × V))
 /-- a bound method, f of x -/
 | met (f x : Addr)
 /-- a range object lo, lo + 1, .. below hi -/
 | rng (lo hi : Int)
 /-- a thing that is known to the object (the script; a dict while a loop walks it): read, never written while it is so -/
 | frz (o : Obj) (u : HO)
 /-- a code object's table -/
 | tbl (ps : Array Value)
 /-- any other thing, by what is true of its one object (a def of one's own: SetO a S n := HO.ext fun h => ..) -/
 | ext (φ : Heap → Prop)
noncomputable abbrev Hp := Addr → Option HO
noncomputable def IsTup0 (h : Heap) (a : Addr) (items : Array Value) : Prop := ∃ o, h.get? a = some o ∧ o.cls = .type "tuple" ∧ o.dict = none ∧ ∃ n, o.data = .seq items n
theorem IsTup0.t {h : Heap} {a : Addr} {items : Array Value} (x : IsTup0 h a items) : IsTup h a items := let ⟨o, e, c, _, n, d⟩ := x; ⟨o, e, c, n, d⟩
theorem IsTup0.lt {h : Heap} {a : Addr} {items : Array Value} (x : IsTup0 h a items) : a < h.objs.size := x.t.lt
theorem IsTup0.new (h : Heap) (items : Array Value) : IsTup0 (h.push { cls := .type "tuple", data := .seq items }) h.objs.size items := ⟨_, Heap.get?_push_size _ rfl, rfl, rfl, 0, rfl⟩
noncomputable def upd (H : Hp) (a : Addr) (o : HO) : Hp := fun b => if b = a then some o else H b
theorem upd_same {H : Hp} {a : Addr} {o : HO} : upd H a o a = some o := by unfold upd; rw [if_pos rfl]
theorem upd_ne {H : Hp} {a b : Addr} {o : HO} (h : b ≠ a) : upd H a o b = H b := by unfold upd; rw [if_neg h]
theorem ne_of {H : Hp} {a b : Addr} {o u : HO} (h : H a = some o) (h' : H b = some u) (d : o ≠ u) : a ≠ b := by
 intro e; subst e; rw [h] at h'; exact d (Option.some.inj h')
theorem ne_of_none {H : Hp} {a b : Addr} {o : HO} (h : H a = some o) (h' : H b = none) : a ≠ b := by
 intro e; subst e; rw [h] at h'; cases h'
section
variable (P : Program) (w : World)
noncomputable def ObjOk (H : Hp) (h : Heap) (a : Addr) : HO → Prop
 | .lst xs => xs.length ≤ sizeLine ∧ ∃ (its : List Value) (n : Nat), Vals xs its ∧ h.get? a = some { cls := .type "list", data := .seq its.toArray n }
 | .tup xs => xs.length ≤ sizeLine ∧ ∃ its : List Value, Vals xs its ∧ IsTup0 h a its.toArray
 | .dK kvs => kvs.length ≤ sizeLine ∧ (a == sysModules) = false ∧ ∃ vs, KV kvs vs ∧ h.DictOf (mixKind P w) a vs
 | .dT kvs => kvs.length ≤ sizeLine ∧ (a == sysModules) = false ∧ ∃ xs : List (List Key × Addr × Value),
     Paired (fun (p : List Key × V) (q : List Key × Addr × Value) => p.1 = q.1 ∧ H q.2.1 = some (.tup (p.1.map kV)) ∧ RelV p.2 q.2.2) kvs xs ∧
     ∃ o es ep, h.get? a = some o ∧ o.ExactDict ∧ o.data = .dict es ep ∧ es.toList = xs.map (entryOfKey (tupleKind (mixKind P w))) ∧ (xs.map (·.1)).Nodup
 | .set S n => h.SetOf (intKind P w) a S n
 | .ins C dx fs => H dx = some (.own a) ∧ fs.length ≤ 1000 ∧ dx ≠ a ∧ h.get? a = some (PySem.W.instObj C dx) ∧
     ∃ mA, h.Ns1 dx mA ∧ (∀ f, RelO (fs.lookup f) (mA f)) ∧ PySem.Within mA (fs.map (·.1))
 | .own _ => ∃ o, h.get? a = some o
 | .xd fs => ∃ mA, h.Ns1 a mA ∧ ∀ f, RelO (fs.lookup f) (mA f)
 | .rng lo hi => ∃ t u v, h.get? a = some { cls := .type "range", data := .fields #[.int lo t, .int hi u, .int 1 v] }
 | .frz o u => h.get? a = some o ∧ ObjOk H h a u
 | .tbl ps => h.get? a = some { cls := .none, data := .fields ps }
 | .met f x => h.get? a = some (PySem.W.methodObj (.ref f) (.ref x))
 | .ext φ => φ h ∧ (∃ o, h.get? a = some o) ∧ ∀ h1 h2 : Heap, φ h1 → (∀ o, h1.get? a = some o → h2.get? a = some o) → φ h2
noncomputable def HOk (H : Hp) (h : Heap) : Prop := ∀ a o, H a = some o → ObjOk P w H h a o
end
section
variable {P : Program} {w : World} {H H' : Hp} {h h' : Heap} {a : Addr} {o : HO}
theorem ObjOk.lt (x : ObjOk P w H h a o) : a < h.objs.size := by
 cases o with
 | lst xs => obtain ⟨_, _, _, _, e⟩ := x; exact Heap.lt_size e
 | tup xs => obtain ⟨_, _, _, p⟩ := x; exact p.lt
 | dK kvs => obtain ⟨_, _, _, _, o, _, _, e, _⟩ := x; exact Heap.lt_size e
 | dT kvs => obtain ⟨_, _, _, _, o, _, _, e, _⟩ := x; exact Heap.lt_size e
 | set S n => obtain ⟨o, _, _, _, e, _⟩ := x; exact Heap.lt_size e
 | ins C dx fs => obtain ⟨_, _, _, e, _⟩ := x; exact Heap.lt_size e
 | own y => obtain ⟨_, e⟩ := x; exact Heap.lt_size e
 | xd fs => obtain ⟨_, ⟨_, _, _, e, _⟩, _⟩ := x; exact Heap.lt_size e
 | rng lo hi => obtain ⟨_, _, _, e⟩ := x; exact Heap.lt_size e
 | frz ob u => obtain ⟨e, _⟩ := x; exact Heap.lt_size e
 | tbl ps => exact Heap.lt_size (show h.get? a = some _ from x)
 | met f y => exact Heap.lt_size (show h.get? a = some _ from x)
 | ext φ => obtain ⟨_, ⟨_, e⟩, _⟩ := x; exact Heap.lt_size e
theorem Paired.mapP {α β : Type} {F G : α → β → Prop} : ∀ {l₁ : List α} {l₂ : List β}, Paired F l₁ l₂ → (∀ a b, F a b → G a b) → Paired G l₁ l₂
 | _, _, .nil, _ => .nil
 | _, _, .cons r t, f => .cons (f _ _ r) (Paired.mapP t f)
theorem ObjOk.stay (x : ObjOk P w H h a o) (k : ∀ b u, (b = a ∨ H b = some (.own a)) → h.get? b = some u → h'.get? b = some u)
   (ho : ∀ b, H b = some (.own a) → H' b = some (.own a)) (ht : ∀ b xs, H b = some (.tup xs) → H' b = some (.tup xs)) : ObjOk P w H' h' a o := by
 induction o with
 | lst xs => obtain ⟨z, its, n, r, e⟩ := x; exact ⟨z, its, n, r, k _ _ (.inl rfl) e⟩
 | tup xs => obtain ⟨z, its, r, ob, e, c⟩ := x; exact ⟨z, its, r, ob, k _ _ (.inl rfl) e, c⟩
 | dK kvs => obtain ⟨z, y, vs, r, ob, es, ep, e, c⟩ := x; exact ⟨z, y, vs, r, ob, es, ep, k _ _ (.inl rfl) e, c⟩
 | dT kvs =>
   obtain ⟨z, y, xs, r, ob, es, ep, e, c⟩ := x
   exact ⟨z, y, xs, Paired.mapP r fun p q z => ⟨z.1, ht _ _ z.2.1, z.2.2⟩, ob, es, ep, k _ _ (.inl rfl) e, c⟩
 | set S n => obtain ⟨ob, es, ep, t, e, c⟩ := x; exact ⟨ob, es, ep, t, k _ _ (.inl rfl) e, c⟩
 | ins C dx fs =>
   obtain ⟨d, z, ne, e, mA, ⟨od, es, ep, e2, c⟩, r⟩ := x
   exact ⟨ho _ d, z, ne, k _ _ (.inl rfl) e, mA, ⟨od, es, ep, k _ _ (.inr d) e2, c⟩, r⟩
 | own y => obtain ⟨ob, e⟩ := x; exact ⟨ob, k _ _ (.inl rfl) e⟩
 | xd fs => obtain ⟨mA, ⟨od, es, ep, e, c⟩, r⟩ := x; exact ⟨mA, ⟨od, es, ep, k _ _ (.inl rfl) e, c⟩, r⟩
 | rng lo hi => obtain ⟨t, u, v, e⟩ := x; exact ⟨t, u, v, k _ _ (.inl rfl) e⟩
 | frz ob u ih => obtain ⟨e, q⟩ := x; exact ⟨k _ _ (.inl rfl) e, ih q⟩
 | tbl ps =>
   have e : h.get? a = some { cls := .none, data := .fields ps } := x
   show h'.get? a = some { cls := .none, data := .fields ps }
   exact k a _ (.inl rfl) e
 | met f y =>
   have e : h.get? a = some (PySem.W.methodObj (.ref f) (.ref y)) := x
   show h'.get? a = some (PySem.W.methodObj (.ref f) (.ref y))
   exact k a _ (.inl rfl) e
 | ext φ => obtain ⟨p, ⟨o, e⟩, st⟩ := x; exact ⟨st _ _ p fun o q => k _ _ (.inl rfl) q, ⟨o, k _ _ (.inl rfl) e⟩, st⟩
theorem HOk.lt (x : HOk P w H h) (e : H a = some o) : a < h.objs.size := (x a o e).lt
theorem HOk.fresh (x : HOk P w H h) (e : h.objs.size ≤ a) : H a = none := by
 cases q : H a with
 | none => rfl
 | some u => exact absurd (Nat.lt_of_lt_of_le (x.lt q) e) (Nat.lt_irrefl _)
theorem HOk.kept (x : HOk P w H h) (k : ∀ b u, h.get? b = some u → h'.get? b = some u) : HOk P w H h' := fun a o e =>
 (x a o e).stay (fun b u _ q => k b u q) (fun _ q => q) fun _ _ q => q
theorem HOk.laid (x : HOk P w H h) (k : ∀ b u, h.get? b = some u → h'.get? b = some u) (hp : h.objs.size ≤ a) (new : ObjOk P w (upd H a o) h' a o) : HOk P w (upd H a o) h' := fun b u e => by
 have hn := x.fresh hp
 by_cases hb : b = a
 · subst hb; rw [upd_same] at e; cases e; exact new
 · rw [upd_ne hb] at e
   exact (x b u e).stay (fun c v _ q => k c v q) (fun c q => by rw [upd_ne (ne_of_none q hn)]; exact q) fun c xs q => by rw [upd_ne (ne_of_none q hn)]; exact q
end
noncomputable def Rd (H : Hp) (a : Addr) (u : HO) : Prop := H a = some u ∨ ∃ o, H a = some (.frz o u)
theorem Rd.ok {P : Program} {w : World} {H : Hp} {h : Heap} {a : Addr} {u : HO} (r : Rd H a u) (x : HOk P w H h) : ObjOk P w H h a u := by
 rcases r with r | ⟨o, r⟩
 · exact x a u r
 · obtain ⟨_, q⟩ := x a _ r
   exact q
noncomputable def Mut : Option HO → Prop
 | some (.lst _) => True
 | some (.dK _) => True
 | some (.dT _) => True
 | some (.set _ _) => True
 | some (.ins _ _ _) => True
 | some (.ext _) => True
 | _ => False
section
variable {P : Program} {w : World} {H : Hp} {h h' : Heap} {x e : Addr} {o' : HO}
theorem HOk.write (ok : HOk P w H h) (mu : Mut (H x)) (he : e = x ∨ H e = some (.own x)) (k : ∀ b u, b ≠ e → h.get? b = some u → h'.get? b = some u) (heo : ∃ u, h'.get? e = some u)
   (new : ObjOk P w (upd H x o') h' x o') : HOk P w (upd H x o') h' := fun b u q => by
 have nown : ∀ c y, H c = some (.own y) → c ≠ x := fun c y r z => by subst z; rw [r] at mu; exact mu
 have ntup : ∀ c xs, H c = some (.tup xs) → c ≠ x := fun c xs r z => by subst z; rw [r] at mu; exact mu
 by_cases hb : b = x
 · subst hb; rw [upd_same] at q; cases q; exact new
 · rw [upd_ne hb] at q
   by_cases hbe : b = e
   · have q' : H b = some (.own x) := by
       rcases he with z | z
       · exact absurd (hbe.trans z) hb
       · rw [hbe]; exact z
     rw [q] at q'; cases q'
     obtain ⟨v, hv⟩ := heo
     exact ⟨v, by rw [hbe]; exact hv⟩
   · refine (ok b u q).stay (fun c v hc r => k c v ?_ r) (fun c r => by rw [upd_ne (nown c b r)]; exact r) fun c xs r => by rw [upd_ne (ntup c xs r)]; exact r
     rcases hc with rfl | hc
     · exact hbe
     · rintro rfl
       rcases he with z | z
       · exact nown c b hc z
       · rw [hc] at z; cases z; exact hb rfl
end
structure Un (fs ex : List Addr) (H H' : Hp) (h h' : Heap) : Prop where
 keep : ∀ b o, h.get? b = some o → H b = none → b ∉ fs → b ∉ ex → h'.get? b = some o
 slot : ∀ b o, h.get? b = some o → H b = none → b ∈ fs → b ∉ ex → ∃ sl, h'.get? b = some { o with slots := sl }
 free : ∀ b o, h.get? b = some o → H b = none → b ∉ ex → H' b = none
 there : ∀ b o, h.get? b = some o → b ∉ ex → ∃ o', h'.get? b = some o'
 tups : ∀ b xs, H b = some (.tup xs) → H' b = some (.tup xs)
 frzs : ∀ b o u, H b = some (.frz o u) → H' b = some (.frz o u)
 tbls : ∀ b ps, H b = some (.tbl ps) → ∃ more, H' b = some (.tbl (ps ++ more))
section
variable {fs fs' ex ex' : List Addr} {H H1 H2 : Hp} {h h1 h2 h' : Heap} {a x e : Addr} {o : HO}
theorem Un.any (u : Un fs ex H H1 h h1) {b : Addr} {ob : Obj} (q : h.get? b = some ob) (n : H b = none) (hx : b ∉ ex) : ∃ sl, h1.get? b = some { ob with slots := sl } := by
 by_cases hb : b ∈ fs
 · exact u.slot b ob q n hb hx
 · exact ⟨ob.slots, u.keep b ob q n hb hx⟩
theorem Un.kept (k : ∀ b u, h.get? b = some u → h'.get? b = some u) : Un fs ex H H h h' :=
 ⟨fun b ob q _ _ _ => k b ob q, fun b ob q _ _ _ => ⟨ob.slots, k b ob q⟩, fun _ _ _ n _ => n, fun b ob q _ => ⟨ob, k b ob q⟩, fun _ _ q => q, fun _ _ _ q => q, fun _ ps q => ⟨#[], by rw [q]; simp⟩⟩
theorem Un.refl : Un fs ex H H h h := Un.kept fun _ _ q => q
theorem Un.laid (k : ∀ b u, h.get? b = some u → h'.get? b = some u) (hp : h.objs.size ≤ a) (hn : H a = none) : Un fs ex H (upd H a o) h h' where
 keep := fun b u q _ _ _ => k b u q
 slot := fun b u q _ _ _ => ⟨u.slots, k b u q⟩
 free := fun b u q n _ => by rw [upd_ne (Nat.ne_of_lt (Nat.lt_of_lt_of_le (Heap.lt_size q) hp))]; exact n
 there := fun b u q _ => ⟨u, k b u q⟩
 tups := fun b xs q => by rw [upd_ne (ne_of_none q hn)]; exact q
 frzs := fun b u xs q => by rw [upd_ne (ne_of_none q hn)]; exact q
 tbls := fun b ps q => ⟨#[], by rw [upd_ne (ne_of_none q hn), q]; simp⟩
theorem Un.write (mu : Mut (H x)) (he : e = x ∨ H e = some (.own x)) (k : ∀ b u, b ≠ e → h.get? b = some u → h'.get? b = some u) (heo : ∃ u, h'.get? e = some u) : Un fs ex H (upd H x o) h h' := by
 have hx : ∀ b, H b = none → b ≠ x := fun b n z => by subst z; rw [n] at mu; exact mu
 have hb : ∀ b, H b = none → b ≠ e := fun b n z => by
   subst z
   rcases he with r | r
   · exact hx b n r
   · rw [n] at r; cases r
 have hm : ∀ b u, H b = some u → ¬ Mut (some u) → b ≠ x := fun b u q nm z => by subst z; rw [q] at mu; exact nm mu
 refine ⟨fun b u q n _ _ => k b u (hb b n) q, fun b u q n _ _ => ⟨u.slots, k b u (hb b n) q⟩, fun b u q n _ => by rw [upd_ne (hx b n)]; exact n, fun b u q _ => ?_,
   fun b xs q => by rw [upd_ne (hm b _ q fun z => z)]; exact q, fun b u xs q => by rw [upd_ne (hm b _ q fun z => z)]; exact q, fun b ps q => ⟨#[], by rw [upd_ne (hm b _ q fun z => z), q]; simp⟩⟩
 by_cases hbe : b = e
 · subst hbe; exact heo
 · exact ⟨u, k b u hbe q⟩
end
noncomputable def trk (h : Heap) (H : Hp) : List Addr := (List.range h.objs.size).filter fun a => (H a).isSome
noncomputable def hidT (h : Heap) (H : Hp) : Heap := PySem.W.hideAll h (trk h H)
theorem hidT_size (h : Heap) (H : Hp) : (hidT h H).objs.size = h.objs.size := PySem.W.hideAll_size _ _
theorem hidT_get {h : Heap} {H : Hp} {b : Addr} {o : Obj} (e : h.get? b = some o) (n : H b = none) : (hidT h H).get? b = some o :=
 PySem.W.hideAll_get _ e fun hm => by
   have q : (H b).isSome = true := (List.mem_filter.mp hm).2
   rw [n] at q; simp at q
theorem of_hidT {h : Heap} {H : Hp} {b : Addr} {o : Obj} (e : (hidT h H).get? b = some o) : h.get? b = some o ∧ H b = none := by
 have e' : h.get? b = some o := PySem.W.of_hideAll (trk h H) e
 refine ⟨e', ?_⟩
 cases q : H b with
 | none => rfl
 | some x =>
   have hm : b ∈ trk h H := List.mem_filter.mpr ⟨List.mem_range.mpr (Heap.lt_size e'), by simp [q]⟩
   have z : (hidT h H).get? b = none := PySem.W.hideAll_none (trk h H) hm
   rw [z] at e; cases e
end L2
namespace L2
open PySem PySem.Spec PyProof.Rows
structure Mod (K : PySem.W.Frag) (mg : Str → Option Value) (base : Heap) : Prop where
 kin : K.In base
 glob : base.Ns mainGlobals mg
 blt : ∃ mb, base.Ns builtinsNs mb ∧ ∀ x : Str, x ≠ "__name__" → mb x = bootBuiltins x
 nolimit : base.NoLimit
structure Cx where
 prog : Program
 w : World
 K : PySem.W.Frag
 mg : Str → Option Value
 base : Heap
 A : Around
 N : List Str
 s₀ : Shared
 H₀ : Hp
 env : Env
 outer : List Env
 stack : List Env
 ex : List Addr
 fn : Str → Bool
 calm : Bool
 pn : List (Addr × Obj)
 xe : Value → Shared → Prop
noncomputable def frs (l : List Env) : List Addr := l.filterMap (·.frame)
noncomputable abbrev Cx.fs (X : Cx) : List Addr := frs X.outer
noncomputable def Vis (sc : Scope) (x : Str) : Prop := sc.names.lookup x = some .local ∨ sc.names.lookup x = some .cell ∨ sc.names.lookup x = some .free
noncomputable def Loc (sc : Scope) (x : Str) : Prop := sc.names.lookup x = some .local ∨ sc.names.lookup x = some .cell
noncomputable def Look (env : Env) (h : Heap) (m : Str → Option Value) (x : Str) (u : Value) : Prop :=
 (env.kindOf x = some .local ∧ m x = some u) ∨ ((env.kindOf x = some .cell ∨ env.kindOf x = some .free) ∧ ∃ c, env.cells.lookup x = some c ∧ h.IsCell c (some u))
structure Cx.Ok (X : Cx) : Prop where
 mod : Mod X.K X.mg X.base
 kind : X.env.scope.kind = .function
 glob : X.env.globals = mainGlobals
 blt : X.env.builtins = builtinsNs
 above : X.s₀.heap.objs.size ≤ X.env.locals
 inj : ∀ x y c, X.env.cells.lookup x = some c → X.env.cells.lookup y = some c → x = y
 has : ∀ x, (X.env.kindOf x = some .cell ∨ X.env.kindOf x = some .free) → ∃ c, X.env.cells.lookup x = some c
 cab : ∀ x c, X.fn x = true → X.env.cells.lookup x = some c → X.s₀.heap.objs.size ≤ c
 hd : X.calm = true → X.A.handled = none
 frames : X.A.frames = some X.stack
 stk : X.stack = X.outer ∨ (X.stack = X.env :: X.outer ∧ X.env.frame = some X.env.locals)
 exf : ∀ b ∈ X.ex, b ≠ X.env.locals ∧ ∀ x c, X.env.cells.lookup x = some c → c ≠ b
 bs : ∀ b o, X.base.get? b = some o → X.s₀.heap.get? b = some o ∧ X.H₀ b = none
 bsz : X.base.objs.size ≤ X.s₀.heap.objs.size
 noex : ∀ b o, X.base.get? b = some o → b ∉ X.ex
 exfs : ∀ b ∈ X.ex, b ∉ X.fs
 funs : X.s₀.heap.FunFrames X.base X.outer
 frf : ∀ b ∈ X.fs, X.H₀ b = none
structure Inv (X : Cx) (pins : List (Addr × Obj)) (σ : List (Option V)) (H : Hp) (s : Shared) : Prop where
 ok : X.Ok
 os : s.os = X.s₀.os
 bare : AllBare s.gens
 base : Un X.fs X.ex X.H₀ H X.s₀.heap s.heap
 loc : ∃ m, s.heap.Ns X.env.locals m ∧ ∀ (i : Nat) (x : Str) (v : V), X.N[i]? = some x → σ[i]? = some (some v) → Vis X.env.scope x → ∃ u, RelV v u ∧ Look X.env s.heap m x u
 cell : ∀ x c, X.env.cells.lookup x = some c → ∃ v, s.heap.IsCell c v
 free : H X.env.locals = none
 freeC : ∀ x c, X.env.cells.lookup x = some c → H c = none
 pin : ∀ p ∈ X.pn ++ pins, s.heap.get? p.1 = some p.2 ∧ H p.1 = none ∧ p.1 ≠ X.env.locals ∧ p.1 ∉ X.fs ∧ ∀ v, p.2.data ≠ .cell v
 hok : HOk X.prog X.w H s.heap
 len : σ.length = X.N.length
section
variable {X : Cx} {pins : List (Addr × Obj)} {σ : List (Option V)} {H H' : Hp} {s : Shared} {h' : Heap}
theorem Cx.Ok.nofr (ok : X.Ok) {b : Addr} {o : Obj} (e : X.base.get? b = some o) : b ∉ X.fs := fun hb => by
 have := (ok.funs.mem hb).1
 rw [e] at this; cases this
theorem Inv.bs (I : Inv X pins σ H s) : ∀ b o, X.base.get? b = some o → s.heap.get? b = some o ∧ H b = none := fun b o e =>
 ⟨I.base.keep b o (I.ok.bs b o e).1 (I.ok.bs b o e).2 (I.ok.nofr e) (I.ok.noex b o e), I.base.free b o (I.ok.bs b o e).1 (I.ok.bs b o e).2 (I.ok.noex b o e)⟩
theorem Inv.bk (I : Inv X pins σ H s) : ∀ b o, X.base.get? b = some o → s.heap.get? b = some o := fun b o e => (I.bs b o e).1
theorem Inv.mod (I : Inv X pins σ H s) : Mod X.K X.mg X.base := I.ok.mod
theorem Inv.kIn (I : Inv X pins σ H s) : X.K.In s.heap := I.ok.mod.kin.keeps I.bk
theorem Inv.lt (I : Inv X pins σ H s) : X.env.locals < s.heap.objs.size := let ⟨_, hn, _⟩ := I.loc; hn.lt
theorem Inv.sz (I : Inv X pins σ H s) : X.s₀.heap.objs.size ≤ s.heap.objs.size := Nat.le_trans I.ok.above (Nat.le_of_lt I.lt)
theorem Inv.nofs (I : Inv X pins σ H s) {a : Addr} (h : s.heap.objs.size ≤ a) : a ∉ X.fs := fun hb => by
 obtain ⟨_, o, ho, _⟩ := I.ok.funs.mem hb
 exact absurd (Nat.lt_of_lt_of_le (Heap.lt_size ho) (Nat.le_trans I.sz h)) (Nat.lt_irrefl _)
theorem Inv.cne (I : Inv X pins σ H s) : ∀ x c, X.env.cells.lookup x = some c → c ≠ X.env.locals := fun x c e z => by
 obtain ⟨v, o, ho, hd⟩ := I.cell x c e
 obtain ⟨m, ⟨o', es, ep, ho', hd', _⟩, _⟩ := I.loc
 rw [z, ho'] at ho; cases ho; rw [hd'] at hd; cases hd
theorem Inv.funs (I : Inv X pins σ H s) : s.heap.FunFrames X.base X.outer := by
 have all : ∀ (l : List Env), (∀ b ∈ frs l, b ∈ X.fs) → X.s₀.heap.FunFrames X.base l → s.heap.FunFrames X.base l := by
   intro l
   induction l with
   | nil => intro _ _; trivial
   | cons env r ih =>
     intro hs hl
     obtain ⟨hk, ⟨L, o, hf, hn, ho, hd⟩, hr⟩ := hl
     have hL : L ∈ X.fs := hs L (by unfold frs; rw [List.filterMap_cons, hf]; exact List.mem_cons_self)
     obtain ⟨sl, e⟩ := I.base.slot L o ho (I.ok.frf L hL) hL fun z => I.ok.exfs L z hL
     exact ⟨hk, ⟨L, _, hf, hn, e, hd⟩, ih (fun b hb => hs b (by unfold frs; rw [List.filterMap_cons, hf]; exact List.mem_cons_of_mem _ hb)) hr⟩
 exact all X.outer (fun _ hb => hb) I.ok.funs
theorem Inv.stack (I : Inv X pins σ H s) : s.heap.FunFrames X.base X.stack := by
 rcases I.ok.stk with e | ⟨e, hf⟩
 · rw [e]; exact I.funs
 · rw [e]
   obtain ⟨m, hn, _⟩ := I.loc
   refine .cons (by rw [I.ok.kind]; decide) hf hn ?_ I.funs
   exact Heap.get?_none_of_le (Nat.le_trans I.ok.bsz I.ok.above)
theorem Inv.stkSub (I : Inv X pins σ H s) : ∀ b ∈ frs X.stack, b ∈ X.env.locals :: X.fs := fun b hb => by
 rcases I.ok.stk with e | ⟨e, hf⟩
 · rw [e] at hb; exact List.mem_cons_of_mem _ hb
 · rw [e] at hb
   unfold frs at hb
   rw [List.filterMap_cons, hf] at hb
   exact hb
theorem Inv.stkFree (I : Inv X pins σ H s) : ∀ b ∈ frs X.stack, H b = none := fun b hb => by
 rcases List.mem_cons.mp (I.stkSub b hb) with e | hb
 · rw [e]; exact I.free
 · obtain ⟨_, o, ho, _⟩ := I.ok.funs.mem hb
   exact I.base.free b o ho (I.ok.frf b hb) fun z => I.ok.exfs b z hb
theorem Inv.step {g' : Array GenState} {t' : Nat} {d' : Drawn} {ch : List Addr} (I : Inv X pins σ H s)
   (hch : ∀ b ∈ ch, (b ∈ X.ex ∨ X.s₀.heap.objs.size ≤ b) ∧ b ≠ X.env.locals ∧ (∀ x c, X.env.cells.lookup x = some c → c ≠ b) ∧ ∀ p ∈ X.pn ++ pins, p.1 ≠ b)
   (keep : ∀ b o, b ≠ X.env.locals → b ∉ X.fs → b ∉ ch → s.heap.get? b = some o → H b = none → h'.get? b = some o)
   (slot : ∀ b o, b ≠ X.env.locals → b ∈ X.fs → b ∉ ch → s.heap.get? b = some o → H b = none → ∃ sl, h'.get? b = some { o with slots := sl }) (free : ∀ b o, b ∉ ch → s.heap.get? b = some o → H b = none → H' b = none)
   (there : ∀ b o, b ∉ ch → s.heap.get? b = some o → ∃ o', h'.get? b = some o')
   (tups : ∀ b xs, H b = some (.tup xs) → H' b = some (.tup xs)) (frzs : ∀ b o u, H b = some (.frz o u) → H' b = some (.frz o u)) (tbls : ∀ b ps, H b = some (.tbl ps) → ∃ more, H' b = some (.tbl (ps ++ more)))
   (ns : ∀ m, s.heap.Ns X.env.locals m → h'.Ns X.env.locals m) (hok : HOk X.prog X.w H' h') (hg : AllBare g') :
   Inv X pins σ H' { s with heap := h', gens := g', drawn := d', toks := t' } := by
 have neL : ∀ b o, X.s₀.heap.get? b = some o → b ≠ X.env.locals := fun b o e => Nat.ne_of_lt (Nat.lt_of_lt_of_le (Heap.lt_size e) I.ok.above)
 have neC : ∀ b o, X.s₀.heap.get? b = some o → b ∉ X.ex → b ∉ ch := fun b o e hx hb => by
   rcases (hch b hb).1 with z | z
   · exact hx z
   · exact absurd (Nat.lt_of_lt_of_le (Heap.lt_size e) z) (Nat.lt_irrefl _)
 have cellK : ∀ x c, X.env.cells.lookup x = some c → ∀ v, s.heap.IsCell c v → h'.IsCell c v := fun x c e v ⟨o, ho, hd⟩ => by
   have nch : c ∉ ch := fun z => (hch c z).2.2.1 x c e rfl
   by_cases hc : c ∈ X.fs
   · obtain ⟨sl, q⟩ := slot c o (I.cne x c e) hc nch ho (I.freeC x c e)
     exact ⟨_, q, hd⟩
   · exact ⟨o, keep c o (I.cne x c e) hc nch ho (I.freeC x c e), hd⟩
 refine ⟨I.ok, I.os, hg, ⟨fun b o e n hb hx => ?_, fun b o e n hb hx => ?_, fun b o e n hx => ?_, fun b o e hx => ?_, fun b xs e => tups b xs (I.base.tups b xs e), fun b o xs e => frzs b o xs (I.base.frzs b o xs e), fun b ps e => ?_⟩, ?_, fun x c e => ?_, ?_, fun x c e => ?_, fun p hp => ?_, hok, I.len⟩
 · exact keep b o (neL b o e) hb (neC b o e hx) (I.base.keep b o e n hb hx) (I.base.free b o e n hx)
 · obtain ⟨sl, e1⟩ := I.base.slot b o e n hb hx
   obtain ⟨sl', e2⟩ := slot b _ (neL b o e) hb (neC b o e hx) e1 (I.base.free b o e n hx)
   exact ⟨sl', e2⟩
 · obtain ⟨o', e1⟩ := I.base.there b o e hx
   exact free b o' (neC b o e hx) e1 (I.base.free b o e n hx)
 · obtain ⟨o', e1⟩ := I.base.there b o e hx
   exact there b o' (neC b o e hx) e1
 · obtain ⟨m1, e1⟩ := I.base.tbls b ps e
   obtain ⟨m2, e2⟩ := tbls b _ e1
   exact ⟨m1 ++ m2, by rw [e2, Array.append_assoc]⟩
 · obtain ⟨m, hn, hl⟩ := I.loc
   refine ⟨m, ns m hn, fun i x v e1 e2 e3 => ?_⟩
   obtain ⟨u, r, l⟩ := hl i x v e1 e2 e3
   refine ⟨u, r, ?_⟩
   rcases l with l | ⟨k, c, e, z⟩
   · exact .inl l
   · exact .inr ⟨k, c, e, cellK x c e _ z⟩
 · obtain ⟨v, z⟩ := I.cell x c e
   exact ⟨v, cellK x c e v z⟩
 · obtain ⟨m, ⟨o, _, _, ho, _⟩, _⟩ := I.loc
   exact free _ o (fun z => (hch _ z).2.1 rfl) ho I.free
 · obtain ⟨v, o, ho, hd⟩ := I.cell x c e
   exact free c o (fun z => (hch c z).2.2.1 x c e rfl) ho (I.freeC x c e)
 · obtain ⟨e, n, ne, nf, d⟩ := I.pin p hp
   have nch : p.1 ∉ ch := fun z => (hch p.1 z).2.2.2 p hp rfl
   exact ⟨keep p.1 p.2 ne nf nch e n, free p.1 p.2 nch e n, ne, nf, d⟩
theorem Inv.un {t' : Nat} (I : Inv X pins σ H s) (u : Un X.fs [] H H' s.heap h') (hok : HOk X.prog X.w H' h') : Inv X pins σ H' { s with heap := h', toks := t' } := by
 obtain ⟨m, ⟨o, es, ep, ho, r⟩, _⟩ := id I.loc
 obtain ⟨sl, hL⟩ := u.any ho I.free (by simp)
 exact I.step (g' := s.gens) (d' := s.drawn) (ch := []) (fun _ z => nomatch z) (fun b o _ hb _ e n => u.keep b o e n hb (by simp)) (fun b o _ hb _ e n => u.slot b o e n hb (by simp)) (fun b o _ e n => u.free b o e n (by simp)) (fun b o _ e => u.there b o e (by simp)) u.tups u.frzs u.tbls (fun m' hm => by
   obtain ⟨o', es', ep', ho', r'⟩ := hm
   rw [ho] at ho'; cases ho'
   exact ⟨_, es', ep', hL, r'⟩) hok I.bare
theorem Inv.call {g' : Array GenState} {t' : Nat} {d' : Drawn} {ch : List Addr} (I : Inv X pins σ H s) (u : Un (frs X.stack) ch H H' s.heap h') (hok : HOk X.prog X.w H' h') (hg : AllBare g')
   (hch : ∀ b ∈ ch, (b ∈ X.ex ∨ X.s₀.heap.objs.size ≤ b) ∧ b ≠ X.env.locals ∧ (∀ x c, X.env.cells.lookup x = some c → c ≠ b) ∧ ∀ p ∈ X.pn ++ pins, p.1 ≠ b) :
   Inv X pins σ H' { s with heap := h', gens := g', drawn := d', toks := t' } := by
 obtain ⟨m, ⟨o, es, ep, ho, r⟩, _⟩ := id I.loc
 obtain ⟨sl, hL⟩ := u.any ho I.free fun z => (hch _ z).2.1 rfl
 exact I.step (ch := ch) hch (fun b o hL hb hc e n => u.keep b o e n (fun z => (List.mem_cons.mp (I.stkSub b z)).elim hL hb) hc) (fun b o _ _ hc e n => u.any e n hc) (fun b o hc e n => u.free b o e n hc) (fun b o hc e => u.there b o e hc) u.tups u.frzs u.tbls (fun m' hm => by
   obtain ⟨o', es', ep', ho', r'⟩ := hm
   rw [ho] at ho'; cases ho'
   exact ⟨_, es', ep', hL, r'⟩) hok hg
theorem Inv.turned {t' : Nat} {it : Addr} (I : Inv X pins σ H s) (k : ∀ b o, b ≠ it → s.heap.get? b = some o → h'.get? b = some o) (hn : H it = none) (hL : it ≠ X.env.locals)
   (h1 : it ∈ X.ex ∨ X.s₀.heap.objs.size ≤ it) (h2 : ∀ x c, X.env.cells.lookup x = some c → c ≠ it) (h3 : ∀ p ∈ X.pn ++ pins, p.1 ≠ it) : Inv X pins σ H { s with heap := h', toks := t' } := by
 have nit : ∀ b u, H b = some u → b ≠ it := fun b u e z => by rw [z, hn] at e; cases e
 refine I.step (g' := s.gens) (d' := s.drawn) (ch := [it]) (fun b hb => ?_) (fun b o _ _ hc e _ => k b o (fun z => hc (by simp [z])) e) (fun b o _ _ hc e _ => ⟨o.slots, k b o (fun z => hc (by simp [z])) e⟩) (fun _ _ _ _ n => n)
   (fun b o hc e => ⟨o, k b o (fun z => hc (by simp [z])) e⟩) (fun _ _ e => e) (fun _ _ _ e => e) (fun b ps e => ⟨#[], by rw [e]; simp⟩) (fun m hm => ?_) (fun b u e => ?_) I.bare
 · have e : b = it := by simpa using hb
   subst e
   exact ⟨h1, hL, h2, h3⟩
 · obtain ⟨o, es, ep, ho, r⟩ := hm
   exact ⟨o, es, ep, k _ o (Ne.symm hL) ho, r⟩
 · refine (I.hok b u e).stay (fun c v hc q => k c v ?_ q) (fun _ q => q) fun _ _ q => q
   rcases hc with z | z
   · rw [z]; exact nit b u e
   · exact nit c _ z
theorem Inv.tok (I : Inv X pins σ H s) (t : Nat) : Inv X pins σ H { s with toks := t } := I.un (h' := s.heap) (t' := t) Un.refl I.hok
theorem Inv.kept {t' : Nat} (I : Inv X pins σ H s) (k : ∀ b u, s.heap.get? b = some u → h'.get? b = some u) : Inv X pins σ H { s with heap := h', toks := t' } := I.un (Un.kept k) (I.hok.kept k)
theorem Inv.laid {a : Addr} {o : HO} {t' : Nat} (I : Inv X pins σ H s) (k : ∀ b u, s.heap.get? b = some u → h'.get? b = some u) (hp : s.heap.objs.size ≤ a) (new : ObjOk X.prog X.w (upd H a o) h' a o) :
   Inv X pins σ (upd H a o) { s with heap := h', toks := t' } := I.un (Un.laid k hp (I.hok.fresh hp)) (I.hok.laid k hp new)
theorem Inv.write {x e : Addr} {o : HO} {t' : Nat} (I : Inv X pins σ H s) (mu : Mut (H x)) (he : e = x ∨ H e = some (.own x)) (k : ∀ b u, b ≠ e → s.heap.get? b = some u → h'.get? b = some u) (heo : ∃ u, h'.get? e = some u)
   (new : ObjOk X.prog X.w (upd H x o) h' x o) : Inv X pins σ (upd H x o) { s with heap := h', toks := t' } := I.un (Un.write mu he k heo) (I.hok.write mu he k heo new)
theorem Inv.weak {σ' : List (Option V)} (I : Inv X pins σ H s) (hl : σ'.length = σ.length) (w : ∀ (i : Nat) v, σ'[i]? = some (some v) → σ[i]? = some (some v)) : Inv X pins σ' H s :=
 ⟨I.ok, I.os, I.bare, I.base, let ⟨m, hn, hl'⟩ := I.loc; ⟨m, hn, fun i x v e1 e2 e3 => hl' i x v e1 (w i v e2) e3⟩, I.cell, I.free, I.freeC, I.pin, I.hok, hl.trans I.len⟩
theorem Inv.pins_of {pins' : List (Addr × Obj)} (I : Inv X pins σ H s) (h : ∀ p ∈ pins', s.heap.get? p.1 = some p.2 ∧ H p.1 = none ∧ p.1 ≠ X.env.locals ∧ p.1 ∉ X.fs ∧ ∀ v, p.2.data ≠ .cell v) : Inv X pins' σ H s :=
 ⟨I.ok, I.os, I.bare, I.base, I.loc, I.cell, I.free, I.freeC, fun p hp => (List.mem_append.mp hp).elim (fun z => I.pin p (List.mem_append_left _ z)) (h p), I.hok, I.len⟩
theorem nodup_ix {N : List Str} (hN : N.Nodup) {i j : Nat} {x : Str} (a : N[i]? = some x) (b : N[j]? = some x) : i = j := by
 obtain ⟨h1, e1⟩ := List.getElem?_eq_some_iff.mp a
 obtain ⟨h2, e2⟩ := List.getElem?_eq_some_iff.mp b
 exact (List.getElem_inj hN).mp (e1.trans e2.symm)
theorem store_ok2 {M : Model} {A : Around} {E : Value → Shared → Prop} {i : Nat} {x : Str} {v : V} {u : Value} {Q : Unit → Shared → Prop} (I : Inv X pins σ H s) (hN : X.N.Nodup) (hi : X.N[i]? = some x) (hx : Loc X.env.scope x) (r : RelV v u)
   (h : ∀ s', Inv X pins (σ.set i (some v)) H s' → (∃ a, Heap.SameBut a s.heap s'.heap ∧ (a = X.env.locals ∨ X.env.cells.lookup x = some a)) → Q () s') (hf : X.fn x = true ∨ X.env.scope.names.lookup x = some .local := by first | exact .inl rfl | exact .inr rfl | assumption) : wpAny M A (storeName X.env x u) Q E s := by
 obtain ⟨m, hn, hl⟩ := id I.loc
 have hcls : (X.env.scope.kind == .class || (X.env.scope.kind == .module && X.env.locals != X.env.globals)) = false := by rw [I.ok.kind]; rfl
 have hiσ : i < σ.length := by rw [I.len]; exact (List.getElem?_eq_some_iff.mp hi).1
 have cne := I.cne
 have tracked : ∀ {a : Addr} {h' : Heap}, (∃ o, s.heap.get? a = some o ∧ H a = none) → Heap.SameBut a s.heap h' → HOk X.prog X.w H h' := fun {a h'} ha hs b ob e => by
   obtain ⟨_, _, hfree⟩ := ha
   refine (I.hok b ob e).stay (fun c w' hc q => (hs.2 c ?_).trans q) (fun _ q => q) fun _ _ q => q
   rintro rfl
   rcases hc with rfl | hc
   · rw [hfree] at e; cases e
   · rw [hfree] at hc; cases hc
 rcases hx with hk | hk
 · refine wpAny_storeName_local hk hn (fun h' hn' hs => ?_) hcls
   obtain ⟨oL, _, _, hoL, _⟩ := id hn
   refine h _ ⟨I.ok, I.os, I.bare, ⟨fun b o e n hb hx => ?_, fun b o e n hb hx => ?_, I.base.free, fun b o e hx => ?_, I.base.tups, I.base.frzs, I.base.tbls⟩, ⟨_, hn', fun j y v' e1 e2 e3 => ?_⟩, fun y c e => ?_, I.free, I.freeC, fun p hp => ?_, tracked ⟨oL, hoL, I.free⟩ hs, by simpa using I.len⟩ ⟨_, hs, .inl rfl⟩
   · exact (hs.2 b (Nat.ne_of_lt (Nat.lt_of_lt_of_le (Heap.lt_size e) I.ok.above))).trans (I.base.keep b o e n hb hx)
   · obtain ⟨sl, e1⟩ := I.base.slot b o e n hb hx
     exact ⟨sl, (hs.2 b (Nat.ne_of_lt (Nat.lt_of_lt_of_le (Heap.lt_size e) I.ok.above))).trans e1⟩
   · obtain ⟨o', e1⟩ := I.base.there b o e hx
     exact ⟨o', (hs.2 b (Nat.ne_of_lt (Nat.lt_of_lt_of_le (Heap.lt_size e) I.ok.above))).trans e1⟩
   · by_cases hj : j = i
     · subst hj
       rw [hi] at e1; cases e1
       rw [List.getElem?_set_self hiσ] at e2
       cases e2
       exact ⟨u, r, .inl ⟨hk, by simp⟩⟩
     · rw [List.getElem?_set_ne (Ne.symm hj)] at e2
       obtain ⟨u', r', q⟩ := hl j y v' e1 e2 e3
       refine ⟨u', r', ?_⟩
       rcases q with ⟨k, e⟩ | ⟨k, c, e, z⟩
       · refine .inl ⟨k, ?_⟩
         have : y ≠ x := fun e => hj (nodup_ix hN e1 (e ▸ hi))
         simp [this, e]
       · exact .inr ⟨k, c, e, z.sameBut hs (cne y c e)⟩
   · obtain ⟨w', z⟩ := I.cell y c e
     exact ⟨w', z.sameBut hs (cne y c e)⟩
   · obtain ⟨e, n, ne, nf, d⟩ := I.pin p hp
     exact ⟨(hs.2 p.1 ne).trans e, n, ne, nf, d⟩
 · have hfn : X.fn x = true := by
     rcases hf with z | z
     · exact z
     · rw [z] at hk; cases hk
   obtain ⟨c, hc⟩ := I.ok.has x (.inl hk)
   obtain ⟨w', z⟩ := I.cell x c hc
   refine wpAny_storeName_cell I.ok.kind hk hc z (fun h' hc' hs => ?_)
   obtain ⟨oc, hoc, hocd⟩ := id z
   refine h { s with heap := h' } ⟨I.ok, I.os, I.bare, ⟨fun b o e n hb hx => ?_, fun b o e n hb hx => ?_, I.base.free, fun b o e hx => ?_, I.base.tups, I.base.frzs, I.base.tbls⟩, ⟨m, hn.sameBut hs (Ne.symm (cne x c hc)), fun j y v' e1 e2 e3 => ?_⟩, fun y c' e => ?_, I.free, I.freeC, fun p hp => ?_, tracked ⟨oc, hoc, I.freeC x c hc⟩ hs, by simpa using I.len⟩ ⟨c, hs, .inr hc⟩
   · exact (hs.2 b (Nat.ne_of_lt (Nat.lt_of_lt_of_le (Heap.lt_size e) (I.ok.cab x c hfn hc)))).trans (I.base.keep b o e n hb hx)
   · obtain ⟨sl, e1⟩ := I.base.slot b o e n hb hx
     exact ⟨sl, (hs.2 b (Nat.ne_of_lt (Nat.lt_of_lt_of_le (Heap.lt_size e) (I.ok.cab x c hfn hc)))).trans e1⟩
   · obtain ⟨o', e1⟩ := I.base.there b o e hx
     exact ⟨o', (hs.2 b (Nat.ne_of_lt (Nat.lt_of_lt_of_le (Heap.lt_size e) (I.ok.cab x c hfn hc)))).trans e1⟩
   · by_cases hj : j = i
     · subst hj
       rw [hi] at e1; cases e1
       rw [List.getElem?_set_self hiσ] at e2
       cases e2
       exact ⟨u, r, .inr ⟨.inl hk, c, hc, hc'⟩⟩
     · rw [List.getElem?_set_ne (Ne.symm hj)] at e2
       obtain ⟨u', r', q⟩ := hl j y v' e1 e2 e3
       refine ⟨u', r', ?_⟩
       rcases q with q | ⟨k, c', e, z'⟩
       · exact .inl q
       · refine .inr ⟨k, c', e, z'.sameBut hs ?_⟩
         rintro rfl
         exact hj (nodup_ix hN e1 (I.ok.inj _ _ _ e hc ▸ hi))
   · by_cases hcc : c' = c
     · subst hcc; exact ⟨_, hc'⟩
     · obtain ⟨w2, z2⟩ := I.cell y c' e
       exact ⟨w2, z2.sameBut hs hcc⟩
   · obtain ⟨e, n, ne, nf, d⟩ := I.pin p hp
     refine ⟨(hs.2 p.1 ?_).trans e, n, ne, nf, d⟩
     intro q
     rw [q, hoc] at e
     have q' : oc = p.2 := Option.some.inj e
     exact d w' (by rw [← q']; exact hocd)
theorem store_ok {M : Model} {A : Around} {E : Value → Shared → Prop} {i : Nat} {x : Str} {v : V} {u : Value} {Q : Unit → Shared → Prop} (I : Inv X pins σ H s) (hN : X.N.Nodup) (hi : X.N[i]? = some x) (hx : Loc X.env.scope x) (r : RelV v u)
   (h : ∀ s', Inv X pins (σ.set i (some v)) H s' → Q () s') (hf : X.fn x = true ∨ X.env.scope.names.lookup x = some .local := by first | exact .inl rfl | exact .inr rfl | assumption) : wpAny M A (storeName X.env x u) Q E s :=
 store_ok2 I hN hi hx r (fun s' I' _ => h s' I') hf
theorem Inv.call' {s' : Shared} {ch : List Addr} (I : Inv X pins σ H s) (ho : s'.os = s.os) (u : Un (frs X.stack) ch H H' s.heap s'.heap) (hok : HOk X.prog X.w H' s'.heap) (hg : AllBare s'.gens)
   (hch : ∀ b ∈ ch, (b ∈ X.ex ∨ X.s₀.heap.objs.size ≤ b) ∧ b ≠ X.env.locals ∧ (∀ x c, X.env.cells.lookup x = some c → c ≠ b) ∧ ∀ p ∈ X.pn ++ pins, p.1 ≠ b) : Inv X pins σ H' s' := by
 obtain ⟨h', g', d', t', o'⟩ := s'
 have e : o' = s.os := ho
 subst e
 exact I.call (g' := g') (t' := t') (d' := d') u hok hg hch
end
noncomputable abbrev XK := Value → Option Addr → Hp → Prop
noncomputable abbrev St := List (Option V)
noncomputable abbrev VK := V → Hp → Prop
noncomputable abbrev TE := St → Hp → VK → Prop
noncomputable abbrev TT := St → Hp → (Bool → Hp → Prop) → Prop
noncomputable abbrev TA := St → Hp → (List V → Hp → Prop) → Prop
structure Ends where
 nx : St → Hp → Prop
 rt : VK
 bk : St → Hp → Prop := fun _ _ => False
 ct : St → Hp → Prop := fun _ _ => False
noncomputable abbrev TS := Ends → St → Hp → Prop
noncomputable def EP (X : Cx) (pins : List (Addr × Obj)) (σ : St) (Q : VK) (u : Value) (s' : Shared) : Prop := ∃ v H', Inv X pins σ H' s' ∧ RelV v u ∧ Q v H'
noncomputable def TP (X : Cx) (pins : List (Addr × Obj)) (σ : St) (Q : Bool → Hp → Prop) (b : Bool) (s' : Shared) : Prop := ∃ H', Inv X pins σ H' s' ∧ Q b H'
noncomputable def AP (X : Cx) (pins : List (Addr × Obj)) (σ : St) (Q : List V → Hp → Prop) (us : List Value) (s' : Shared) : Prop := ∃ vs H', Inv X pins σ H' s' ∧ Vals vs us ∧ Q vs H'
noncomputable def SP (X : Cx) (pins : List (Addr × Obj)) (D : Ends) (f : Flow) (s' : Shared) : Prop :=
 match f with
 | .next => ∃ σ' H', Inv X pins σ' H' s' ∧ D.nx σ' H'
 | .brk => ∃ σ' H', Inv X pins σ' H' s' ∧ D.bk σ' H'
 | .cont => ∃ σ' H', Inv X pins σ' H' s' ∧ D.ct σ' H'
 | .ret u => ∃ v σ' H', Inv X pins σ' H' s' ∧ RelV v u ∧ D.rt v H'
noncomputable def PE (X : Cx) (e : Expr) (t : TE) : Prop :=
 ∀ (pins : List (Addr × Obj)) (s : Shared) (σ : St) (H : Hp) (Q : VK), Inv X pins σ H s → t σ H Q → wpAny (model X.prog X.w) X.A (eval e X.env) (EP X pins σ Q) X.xe s
noncomputable def PT (X : Cx) (e : Expr) (t : TT) : Prop :=
 ∀ (pins : List (Addr × Obj)) (s : Shared) (σ : St) (H : Hp) (Q : Bool → Hp → Prop), Inv X pins σ H s → t σ H Q → wpAny (model X.prog X.w) X.A (isTrue e X.env (eval e X.env)) (TP X pins σ Q) X.xe s
noncomputable def PW (X : Cx) (e : Expr) (t : TT) : Prop :=
 ∀ (whole : Sem Value) (pins : List (Addr × Obj)) (s : Shared) (σ : St) (H : Hp) (Q : Bool → Hp → Prop), Inv X pins σ H s → t σ H Q → wpAny (model X.prog X.w) X.A (isTrue e X.env whole) (TP X pins σ Q) X.xe s
theorem PW.pt {X : Cx} {e : Expr} {t : TT} (h : PW X e t) : PT X e t := h _
noncomputable def PA (X : Cx) (es : List Expr) (t : TA) : Prop :=
 ∀ (pos : Pos) (pins : List (Addr × Obj)) (s : Shared) (σ : St) (H : Hp) (Q : List V → Hp → Prop), Inv X pins σ H s → t σ H Q → wpAny (model X.prog X.w) X.A (spliced (backTo pos (starEach es X.env))) (AP X pins σ Q) X.xe s
noncomputable def PS (X : Cx) (st : Stmt) (t : TS) : Prop :=
 ∀ (pins : List (Addr × Obj)) (s : Shared) (σ : St) (H : Hp) (D : Ends), Inv X pins σ H s → t D σ H → wpAny (model X.prog X.w) X.A (exec st X.env) (SP X pins D) X.xe s
noncomputable def PSs (X : Cx) (st : List Stmt) (t : TS) : Prop :=
 ∀ (pins : List (Addr × Obj)) (s : Shared) (σ : St) (H : Hp) (D : Ends), Inv X pins σ H s → t D σ H → wpAny (model X.prog X.w) X.A (execs st X.env) (SP X pins D) X.xe s
theorem thn {α : Type} {t : Sem α} {Q Q' : α → Shared → Prop} {M : Model} {A : Around} {E : Value → Shared → Prop} {s : Shared} (h : wpAny M A t Q E s) (hQ : ∀ a s, Q a s → Q' a s) : wpAny M A t Q' E s := wpAny_mono h hQ fun _ _ x => x
end L2
namespace L2
open PySem PySem.Spec PyProof.Rows
section
variable {X : Cx}
noncomputable def tVar (i : Nat) : TE := fun σ H Q => ∃ v, σ[i]? = some (some v) ∧ Q v H
noncomputable def tC (v : V) : TE := fun _ H Q => Q v H
theorem pe_var {i : Nat} {x : Str} {pos : Pos} (hN : X.N[i]? = some x) (hv : Vis X.env.scope x) (hd : (x == ("__debug__" : Str)) = false := by decide) (hcd : (x == ("__classdict__" : Str)) = false := by decide) : PE X (.Name x pos) (tVar i) := by
 intro pins s σ H Q I h
 obtain ⟨v, e, h⟩ := h
 obtain ⟨m, hn, hl⟩ := I.loc
 obtain ⟨u, r, l⟩ := hl i x v hN e hv
 have fin : EP X pins σ Q u s := ⟨v, H, I, r, h⟩
 rcases l with ⟨hk, hm⟩ | ⟨hk, c, hc, hcell⟩
 · exact wpAny_Name (wpAny_loadName_local I.ok.kind hk hn hm fin) hd
 · rcases hk with hk | hk
   · exact wpAny_Name (wpAny_loadName_cell I.ok.kind hk hc hcell fin) hd
   · exact wpAny_Name (wpAny_loadName_free I.ok.kind hk hc hcell fin hcd) hd
theorem pe_int {i j pos} : PE X (.Constant (.int i) j pos) (tC (.int i)) := fun _ _ _ H _ I h => wpAny_Constant_int ⟨.int i, H, I.tok _, ⟨_, rfl⟩, h⟩
theorem pe_bl {b j pos} : PE X (.Constant (.bool b) j pos) (tC (.bl b)) := fun _ _ _ H _ I h => Constant_bool ⟨.bl b, H, I, rfl, h⟩
theorem pe_str {x j pos} : PE X (.Constant (.str x) j pos) (tC (.str x)) := fun _ _ _ H _ I h => Calls.Constant_str ⟨.str x, H, I.tok _, ⟨_, rfl⟩, h⟩
noncomputable def Gl (X : Cx) (x : Str) : Prop := X.env.kindOf x = some .globalImplicit
theorem ld_glob {E : Value → Shared → Prop} {pins : List (Addr × Obj)} {s : Shared} {σ : St} {H : Hp} {x : Str} {u : Value} {pos : Pos} {Q : Value → Shared → Prop} (I : Inv X pins σ H s) (hg : Gl X x) (hm : X.mg x = some u) (h : Q u s)
   (hd : (x == ("__debug__" : Str)) = false := by decide) : wpAny (model X.prog X.w) X.A (eval (.Name x pos) X.env) Q E s :=
 Calls.Name_function_global I.ok.kind hg (Calls.loadGlobal_global (by rw [I.ok.glob]; exact I.mod.glob.keeps I.bk) hm h) hd
theorem ld_blt {E : Value → Shared → Prop} {pins : List (Addr × Obj)} {s : Shared} {σ : St} {H : Hp} {x : Str} {u : Value} {pos : Pos} {Q : Value → Shared → Prop} (I : Inv X pins σ H s) (hg : Gl X x) (hm : X.mg x = none) (hv : bootBuiltins x = some u) (h : Q u s)
   (hn : x ≠ "__name__" := by decide) (hd : (x == ("__debug__" : Str)) = false := by decide) : wpAny (model X.prog X.w) X.A (eval (.Name x pos) X.env) Q E s := by
 obtain ⟨mb, h1, h2⟩ := I.mod.blt
 exact Calls.Name_function_global I.ok.kind hg (Calls.loadGlobal_builtin (by rw [I.ok.glob]; exact I.mod.glob.keeps I.bk) hm (by rw [I.ok.blt]; exact h1.keeps I.bk) ((h2 x hn).trans hv) h) hd
theorem pe_glob {x : Str} {v : V} {u : Value} {pos : Pos} (hg : Gl X x) (hm : X.mg x = some u) (r : RelV v u) (hd : (x == ("__debug__" : Str)) = false := by decide) : PE X (.Name x pos) (tC v) :=
 fun _ _ _ H _ I h => ld_glob I hg hm ⟨v, H, I, r, h⟩ hd
variable {a b : Expr} {ta tb : TE} {pos : Pos}
variable {tA tB' : TT} {rest : List Expr}
noncomputable def tAnd (t u : TT) : TT := fun σ H Q => t σ H fun c H1 => if c = true then u σ H1 Q else Q false H1
noncomputable def tOr (t u : TT) : TT := fun σ H Q => t σ H fun c H1 => if c = true then Q true H1 else u σ H1 Q
noncomputable def tNot (t : TT) : TT := fun σ H Q => t σ H fun c H1 => Q (!c) H1
theorem pw_and1 (ha : PT X a tA) : PW X (.BoolOp .And [a] pos) tA := by
 intro wh pins s σ H Q I h
 refine isTrue_and (thn (ha pins s σ H Q I h) fun c s1 e => ?_)
 cases c with
 | true => exact isTrue_and_nil e
 | false => exact e
theorem pw_or1 (ha : PT X a tA) : PW X (.BoolOp .Or [a] pos) tA := by
 intro wh pins s σ H Q I h
 refine isTrue_or (thn (ha pins s σ H Q I h) fun c s1 e => ?_)
 cases c with
 | false => exact isTrue_or_nil e
 | true => exact e
theorem pw_and (ha : PT X a tA) (hb : PW X (.BoolOp .And (b :: rest) pos) tB') : PW X (.BoolOp .And (a :: b :: rest) pos) (tAnd tA tB') := by
 intro wh pins s σ H Q I h
 refine isTrue_and (thn (ha pins s σ H _ I h) fun c s1 ⟨H1, I1, q1⟩ => ?_)
 cases c with
 | true => exact hb wh pins s1 σ H1 Q I1 q1
 | false => exact ⟨H1, I1, q1⟩
theorem pw_or (ha : PT X a tA) (hb : PW X (.BoolOp .Or (b :: rest) pos) tB') : PW X (.BoolOp .Or (a :: b :: rest) pos) (tOr tA tB') := by
 intro wh pins s σ H Q I h
 refine isTrue_or (thn (ha pins s σ H _ I h) fun c s1 ⟨H1, I1, q1⟩ => ?_)
 cases c with
 | true => exact ⟨H1, I1, q1⟩
 | false => exact hb wh pins s1 σ H1 Q I1 q1
theorem pt_not (ha : PT X a tA) : PT X (.UnaryOp .Not a pos) (tNot tA) := by
 intro pins s σ H Q I h
 exact isTrue_not (ha pins s σ H (fun c H1 => Q (!c) H1) I h)
noncomputable def tAndV (ta tb : TE) : TE := fun σ H Q => ta σ H fun x H1 => ∃ c, x = .bl c ∧ if c = true then tb σ H1 Q else Q (.bl false) H1
theorem pe_one {op} {t : TE} (h : PE X a t) : PE X (.BoolOp op [a] pos) t := fun pins s σ H Q I hw => BoolOp_one (h pins s σ H Q I hw)
theorem pe_and (ha : PE X a ta) (hb : PE X (.BoolOp .And (b :: rest) pos) tb) : PE X (.BoolOp .And (a :: b :: rest) pos) (tAndV ta tb) := by
 intro pins s σ H Q I h
 refine BoolOp_and (thn (ha pins s σ H _ I h) fun v s1 ⟨x, H1, I1, r1, q1⟩ => ?_)
 obtain ⟨c, rfl, q1⟩ := q1
 cases r1
 refine wpAny_truthy_bool ?_
 cases c with
 | true => exact hb pins s1 σ H1 Q I1 q1
 | false => exact ⟨.bl false, H1, I1, rfl, q1⟩
end
end L2
namespace L2
open PySem PySem.Spec PyProof.Rows
noncomputable def SqL (K : PySem.W.Frag) (H : Hp) (a : Addr) (xs : List V) : Prop :=
 Rd H a (.lst xs) ∨
   ∃ (o : Obj) (its : Array Value) (n : Nat), K.lookup a = some o ∧ o.cls = .type "list" ∧ o.dict = none ∧ o.data = .seq its n ∧ its.size ≤ sizeLine ∧ Vals xs its.toList
noncomputable def SqT (K : PySem.W.Frag) (H : Hp) (a : Addr) (xs : List V) : Prop :=
 Rd H a (.tup xs) ∨
   ∃ (o : Obj) (its : Array Value) (n : Nat), K.lookup a = some o ∧ o.cls = .type "tuple" ∧ o.dict = none ∧ o.data = .seq its n ∧ its.size ≤ sizeLine ∧ Vals xs its.toList
noncomputable def absV : Value → Option V
 | .none => some .non
 | .bool b => some (.bl b)
 | .int i _ => some (.int i)
 | .str x _ => some (.str x)
 | .bytes b _ => some (.byt b)
 | .float b _ => some (.flt b)
 | .ref a => some (.ref a)
 | .type n => some (.ty n)
 | _ => none
theorem RelV.abs {x : V} {u : Value} (r : RelV x u) : absV u = some x := by
 cases x with
 | non => cases r; rfl
 | bl _ => cases r; rfl
 | int _ => obtain ⟨t, rfl⟩ := r; rfl
 | str _ => obtain ⟨t, rfl⟩ := r; rfl
 | byt _ => obtain ⟨t, rfl⟩ := r; rfl
 | flt _ => obtain ⟨t, rfl⟩ := r; rfl
 | ref _ => cases r; rfl
 | ty _ => cases r; rfl
theorem RelV.inj {x y : V} {u : Value} (r : RelV x u) (q : RelV y u) : x = y := Option.some.inj (r.abs.symm.trans q.abs)
theorem Vals.inj : ∀ {xs ys : List V} {us : List Value}, Vals xs us → Vals ys us → xs = ys
 | _, _, _, .nil, .nil => rfl
 | _, _, _, .cons r t, .cons r' t' => by rw [r.inj r', Vals.inj t t']
section
variable {X : Cx} {pins : List (Addr × Obj)} {σ : St} {H : Hp} {s : Shared} {a : Addr} {xs ys : List V}
theorem SqL.of {K : PySem.W.Frag} (h : H a = some (.lst xs)) : SqL K H a xs := .inl (.inl h)
theorem SqT.of {K : PySem.W.Frag} (h : H a = some (.tup xs)) : SqT K H a xs := .inl (.inl h)
theorem Inv.list (I : Inv X pins σ H s) (h : SqL X.K H a xs) : ∃ its : List Value, Vals xs its ∧ PlainL s.heap a its.toArray ∧ xs.length ≤ sizeLine := by
 rcases h with h | ⟨o, its, n, hk, hc, hd, hs, hz, r⟩
 · obtain ⟨z, its, n, r, e⟩ := h.ok I.hok
   exact ⟨its, r, ⟨_, n, e, rfl, rfl, rfl⟩, z⟩
 · refine ⟨its.toList, r, ⟨o, n, I.kIn a o hk, hc, hd, by simpa using hs⟩, ?_⟩
   have e := r.length
   simp only [Array.length_toList] at e
   lia
theorem Inv.tuple (I : Inv X pins σ H s) (h : SqT X.K H a xs) : ∃ its : List Value, Vals xs its ∧ IsTup s.heap a its.toArray ∧ xs.length ≤ sizeLine := by
 rcases h with h | ⟨o, its, n, hk, hc, hd, hs, hz, r⟩
 · obtain ⟨z, its, r, p⟩ := h.ok I.hok
   exact ⟨its, r, p.t, z⟩
 · refine ⟨its.toList, r, ⟨o, I.kIn a o hk, hc, n, by simpa using hs⟩, ?_⟩
   have e := r.length
   simp only [Array.length_toList] at e
   lia
theorem Inv.tuple0 (I : Inv X pins σ H s) (h : SqT X.K H a xs) : ∃ its : List Value, Vals xs its ∧ IsTup0 s.heap a its.toArray ∧ xs.length ≤ sizeLine := by
 rcases h with h | ⟨o, its, n, hk, hc, hd, hs, hz, r⟩
 · obtain ⟨z, its, r, p⟩ := h.ok I.hok
   exact ⟨its, r, p, z⟩
 · refine ⟨its.toList, r, ⟨o, I.kIn a o hk, hc, hd, n, by simpa using hs⟩, ?_⟩
   have e := r.length
   simp only [Array.length_toList] at e
   lia
theorem Inv.list_inj (I : Inv X pins σ H s) (h : SqL X.K H a xs) (h' : SqL X.K H a ys) : xs = ys := by
 obtain ⟨its, r, ⟨o, n, e, _, _, d⟩, _⟩ := I.list h
 obtain ⟨its', r', ⟨o', n', e', _, _, d'⟩, _⟩ := I.list h'
 rw [e] at e'; cases e'
 rw [d] at d'
 injection d' with d1 _
 have : its = its' := by simpa using congrArg Array.toList d1
 subst this
 exact r.inj r'
theorem Inv.tuple_inj (I : Inv X pins σ H s) (h : SqT X.K H a xs) (h' : SqT X.K H a ys) : xs = ys := by
 obtain ⟨its, r, ⟨o, e, _, n, d⟩, _⟩ := I.tuple h
 obtain ⟨its', r', ⟨o', e', _, n', d'⟩, _⟩ := I.tuple h'
 rw [e] at e'; cases e'
 rw [d] at d'
 injection d' with d1 _
 have : its = its' := by simpa using congrArg Array.toList d1
 subst this
 exact r.inj r'
end
noncomputable abbrev Cx.wish (X : Cx) (E : Value → Shared → Prop) : Cx := { X with xe := E }
noncomputable abbrev Cx.nox (X : Cx) : Cx := X.wish fun _ _ => False
theorem Cx.Ok.wish {X : Cx} (ok : X.Ok) (E : Value → Shared → Prop) : (X.wish E).Ok :=
 ⟨ok.mod, ok.kind, ok.glob, ok.blt, ok.above, ok.inj, ok.has, ok.cab, ok.hd, ok.frames, ok.stk, ok.exf, ok.bs, ok.bsz, ok.noex, ok.exfs, ok.funs, ok.frf⟩
theorem Cx.Ok.unwish {X : Cx} {E : Value → Shared → Prop} (ok : (X.wish E).Ok) : X.Ok :=
 ⟨ok.mod, ok.kind, ok.glob, ok.blt, ok.above, ok.inj, ok.has, ok.cab, ok.hd, ok.frames, ok.stk, ok.exf, ok.bs, ok.bsz, ok.noex, ok.exfs, ok.funs, ok.frf⟩
section
variable {X : Cx} {pins : List (Addr × Obj)} {σ : St} {H : Hp} {s : Shared} {E : Value → Shared → Prop}
theorem Inv.wish (I : Inv X pins σ H s) (E : Value → Shared → Prop) : Inv (X.wish E) pins σ H s := ⟨I.ok.wish E, I.os, I.bare, I.base, I.loc, I.cell, I.free, I.freeC, I.pin, I.hok, I.len⟩
theorem Inv.unwish (I : Inv (X.wish E) pins σ H s) : Inv X pins σ H s := ⟨I.ok.unwish, I.os, I.bare, I.base, I.loc, I.cell, I.free, I.freeC, I.pin, I.hok, I.len⟩
theorem SP.unwish {D : Ends} {f : Flow} {s' : Shared} (h : SP (X.wish E) pins D f s') : SP X pins D f s' := by
 cases f with
 | next => obtain ⟨σ', H', I, q⟩ := h; exact ⟨σ', H', I.unwish, q⟩
 | brk => obtain ⟨σ', H', I, q⟩ := h; exact ⟨σ', H', I.unwish, q⟩
 | cont => obtain ⟨σ', H', I, q⟩ := h; exact ⟨σ', H', I.unwish, q⟩
 | ret u => obtain ⟨v, σ', H', I, r, q⟩ := h; exact ⟨v, σ', H', I.unwish, r, q⟩
theorem PT.nox {e : Expr} {t : TT} (h : PT X.nox e t) : PT X e t := fun pins s σ H Q I hw =>
 wpAny_mono (h pins s σ H Q (I.wish _) hw) (fun _ _ ⟨H', I', q⟩ => ⟨H', I'.unwish, q⟩) fun _ _ z => False.elim z
theorem PSs.nox {st : List Stmt} {t : TS} (h : PSs X.nox st t) : PSs X st t := fun pins s σ H D I hw =>
 wpAny_mono (h pins s σ H D (I.wish _) hw) (fun _ _ q => q.unwish) fun _ _ z => False.elim z
end
section
variable {X : Cx} {st : Stmt} {rest : List Stmt} {t u : TS} {e : Expr} {te : TE} {pos : Pos}
noncomputable def tNext : TS := fun D σ H => D.nx σ H
noncomputable def tSeq (t u : TS) : TS := fun D σ H => t { D with nx := u D } σ H
theorem pss_nil : PSs X [] tNext := fun _ _ σ H _ I h => wpAny_execs_nil ⟨σ, H, I, h⟩
theorem pss_cons (h1 : PS X st t) (h2 : PSs X rest u) : PSs X (st :: rest) (tSeq t u) := by
 intro pins s σ H D I h
 refine wpAny_execs_cons (thn (h1 pins s σ H { D with nx := u D } I h) fun f s1 q => ?_)
 cases f with
 | next =>
   obtain ⟨σ', H', I', q⟩ := q
   exact h2 pins s1 σ' H' D I' q
 | ret v => exact q
 | brk => exact q
 | cont => exact q
theorem pss_one (h1 : PS X st t) : PSs X [st] t := by
 intro pins s σ H D I h
 refine wpAny_execs_cons (thn (h1 pins s σ H D I h) fun f s1 q => ?_)
 cases f with
 | next => exact wpAny_execs_nil q
 | ret v => exact q
 | brk => exact q
 | cont => exact q
theorem Inv.quiet {pins : List (Addr × Obj)} {σ : St} {H : Hp} {s : Shared} (I : Inv X pins σ H s) : interactive X.env = false := by simp [interactive, I.ok.kind]
noncomputable def tDrop (te : TE) : TS := fun D σ H => te σ H fun _ H1 => D.nx σ H1
theorem ps_expr (he : PE X e te) (hs : swapsWith e none pos.line X.env = pure false := by rfl) : PS X (.Expr e pos) (tDrop te) := by
 intro pins s σ H D I h
 exact wpAny_Expr_any (thn (he pins s σ H _ I h) fun v s1 ⟨x, H1, I1, r1, q1⟩ => ⟨σ, H1, I1, q1⟩) I.quiet hs
noncomputable def tRet (te : TE) : TS := fun D σ H => te σ H D.rt
theorem ps_ret (he : PE X e te) : PS X (.Return (some e) pos) (tRet te) := by
 intro pins s σ H D I h
 exact wpAny_Return_some (thn (he pins s σ H _ I h) fun v s1 ⟨x, H1, I1, r1, q1⟩ => ⟨x, σ, H1, I1, r1, q1⟩)
noncomputable def tIfS (c : TT) (t u : TS) : TS := fun D σ H => c σ H fun b H1 => if b = true then t D σ H1 else u D σ H1
theorem ps_if {c : Expr} {a b : List Stmt} {tc : TT} (hc : PT X c tc) (ha : PSs X a t) (hb : PSs X b u) : PS X (.If c a b pos) (tIfS tc t u) := by
 intro pins s σ H D I h
 refine wpAny_If (thn (hc pins s σ H _ I h) fun d s1 ⟨H1, I1, q1⟩ => ?_)
 cases d with
 | true => exact ha pins s1 σ H1 D I1 q1
 | false => exact hb pins s1 σ H1 D I1 q1
end
noncomputable abbrev TG := V → St → Hp → (St → Hp → Prop) → Prop
noncomputable abbrev TGs := List V → St → Hp → (St → Hp → Prop) → Prop
noncomputable def PG (X : Cx) (target : Expr) (t : TG) : Prop :=
 ∀ (pins : List (Addr × Obj)) (s : Shared) (σ : St) (H : Hp) (v : V) (u : Value) (Q : St → Hp → Prop), Inv X pins σ H s → RelV v u → t v σ H Q →
   wpAny (model X.prog X.w) X.A (assign target X.env u) (fun _ s' => ∃ σ' H', Inv X pins σ' H' s' ∧ Q σ' H') X.xe s
noncomputable def PGs (X : Cx) (ts : List Expr) (t : TGs) : Prop :=
 ∀ (pins : List (Addr × Obj)) (s : Shared) (σ : St) (H : Hp) (vs : List V) (us : List Value) (Q : St → Hp → Prop), Inv X pins σ H s → Vals vs us → t vs σ H Q →
   wpAny (model X.prog X.w) X.A (assignInOrder ((assignEach ts X.env).map (·.2)) us) (fun _ s' => ∃ σ' H', Inv X pins σ' H' s' ∧ Q σ' H') X.xe s
noncomputable abbrev TSet := V → V → V → Hp → (Hp → Prop) → Prop
noncomputable def PSet (X : Cx) (t : TSet) : Prop :=
 ∀ (pins : List (Addr × Obj)) (s : Shared) (σ : St) (H : Hp) (o i v : V) (ov iv u : Value) (Q : Hp → Prop), Inv X pins σ H s → RelV o ov → RelV i iv → RelV v u → t o i v H Q →
   wpAny (model X.prog X.w) X.A (setItem ov iv u) (fun _ s' => ∃ H', Inv X pins σ H' s' ∧ Q H') X.xe s
section
variable {X : Cx} {pos : Pos}
noncomputable def gName (i : Nat) : TG := fun v σ H Q => Q (σ.set i (some v)) H
theorem pg_name {i : Nat} {x : Str} (hN : X.N.Nodup) (hi : X.N[i]? = some x) (hx : Loc X.env.scope x) (hf : X.fn x = true ∨ X.env.scope.names.lookup x = some .local := by first | exact .inl rfl | exact .inr rfl | assumption) : PG X (.Name x pos) (gName i) := by
 intro pins s σ H v u Q I r h
 exact wpAny_assign_Name (store_ok I hN hi hx r (fun s' I' => ⟨_, H, I', h⟩) hf)
noncomputable def gNil : TGs := fun vs σ H Q => vs = [] ∧ Q σ H
noncomputable def gCons (t : TG) (u : TGs) : TGs := fun vs σ H Q => ∃ v r, vs = v :: r ∧ t v σ H fun σ' H' => u r σ' H' Q
theorem pgs_nil : PGs X [] gNil := by
 intro pins s σ H vs us Q I r h
 obtain ⟨e, h⟩ := h
 subst e
 cases r
 exact assignInOrder_nil ⟨σ, H, I, h⟩
theorem pgs_cons {e : Expr} {es : List Expr} {t : TG} {u : TGs} (h1 : PG X e t) (h2 : PGs X es u)
   (hs : (assignEach (e :: es) X.env).map (·.2) = assign e X.env :: (assignEach es X.env).map (·.2) := by rfl) : PGs X (e :: es) (gCons t u) := by
 intro pins s σ H vs us Q I r h
 obtain ⟨v, vr, e1, h⟩ := h
 subst e1
 cases r with
 | cons r rr =>
   rw [hs]
   refine assignInOrder_cons (thn (h1 pins s σ H _ _ _ I r h) fun _ s1 ⟨σ1, H1, I1, q1⟩ => ?_)
   exact h2 pins s1 σ1 H1 _ _ Q I1 rr q1
noncomputable def gTup (K : PySem.W.Frag) (n : Nat) (t : TGs) : TG := fun v σ H Q => ∃ a xs, v = .ref a ∧ SqT K H a xs ∧ xs.length = n ∧ t xs σ H Q
theorem pg_tup {es : List Expr} {k : Nat} {t : TGs} {n : Nat} (hc : X.calm = true) (h : PGs X es t)
   (hn : (assignEach es X.env).length = n := by rfl) (hst : (assignEach es X.env).findIdx? (·.1) = none := by rfl) : PG X (.Tuple es k pos) (gTup X.K n t) := by
 intro pins s σ H v u Q I r hw
 obtain ⟨a, xs, e1, hq, hl, hw⟩ := hw
 subst e1
 cases r
 obtain ⟨its, rv, ht, hz⟩ := I.tuple hq
 refine assign_Tuple_tuple (I.ok.hd hc) ht (by simp [hn, ← hl, rv.length]) hst fun h' hx => ?_
 have I1 : Inv X pins σ H { s with heap := h' } := I.kept (t' := s.toks) fun b o e => hx b o (Nat.ne_of_lt (Heap.lt_size e)) e
 exact h pins _ σ H xs _ Q I1 (by simpa using rv) hw
noncomputable def gSub (to ti : TE) (t : TSet) : TG := fun v σ H Q => to σ H fun o H1 => ti σ H1 fun i H2 => t o i v H2 fun H3 => Q σ H3
theorem pg_sub {o i : Expr} {to ti : TE} {t : TSet} (ho : PE X o to) (hi : PE X i ti) (hs : PSet X t)
   (ha : ∀ v, assign (.Subscript o i pos) X.env v = (do
     let ov ← holding [v] (eval o X.env)
     let iv ← holding [v, ov] (eval i X.env)
     standAt pos
     holding [v, ov, iv] (setItem ov iv v)
     release [v, ov, iv] []) := by intro _; rfl) : PG X (.Subscript o i pos) (gSub to ti t) := by
 intro pins s σ H v u Q I r h
 rw [ha]
 refine wpAny_bind (wpAny_holding (thn (ho pins s σ H _ I h) fun ov s1 ⟨x, H1, I1, r1, q1⟩ => ?_))
 refine wpAny_bind (wpAny_holding (thn (hi pins s1 σ H1 _ I1 q1) fun iv s2 ⟨y, H2, I2, r2, q2⟩ => ?_))
 refine wpAny_bind (wpAny_standAt (wpAny_bind (wpAny_holding (thn (hs pins s2 σ H2 x y v ov iv u _ I2 r1 r2 r q2) fun _ s3 ⟨H3, I3, q3⟩ => ?_))))
 exact wpAny_release ⟨σ, H3, I3, q3⟩
noncomputable def tAsg (te : TE) (g : TG) : TS := fun D σ H => te σ H fun x H1 => g x σ H1 D.nx
theorem ps_asg {tg e : Expr} {te : TE} {g : TG} (he : PE X e te) (hg : PG X tg g) (hs : swapsWithSole [tg] e pos.line X.env = pure false := by rfl) (hw : swappedStores [tg] e X.env = pure none := by rfl)
   (h1 : (assignEach [tg] X.env).map (·.2) = [assign tg X.env] := by rfl) : PS X (.Assign [tg] e pos) (tAsg te g) := by
 intro pins s σ H D I h
 refine wpAny_Assign_stores (thn (he pins s σ H _ I h) fun v s1 ⟨x, H1, I1, r1, q1⟩ => ?_) hs hw
 rw [h1]
 exact thn (hg pins s1 σ H1 x v _ I1 r1 q1) fun _ s2 q => q
theorem ps_set {i : Nat} {x : Str} {e : Expr} {te : TE} {pos' : Pos} (hN : X.N.Nodup) (hi : X.N[i]? = some x) (hx : Loc X.env.scope x) (he : PE X e te) (hs : swapsWith e (some (.Name x pos')) pos.line X.env = pure false := by rfl) (hf : X.fn x = true ∨ X.env.scope.names.lookup x = some .local := by first | exact .inl rfl | exact .inr rfl | assumption) :
   PS X (.Assign [.Name x pos'] e pos) (tAsg te (gName i)) := by
 intro pins s σ H D I h
 refine wpAny_Assign_Name (thn (he pins s σ H _ I h) fun v s1 ⟨y, H1, I1, r1, q1⟩ => ?_) hs
 exact store_ok I1 hN hi hx r1 (fun s2 I2 => ⟨_, H1, I2, q1⟩) hf
noncomputable def tPar (i j : Nat) (ta : TA) : TS := fun D σ H => ta σ H fun vs H1 => ∃ v w, vs = [v, w] ∧ D.nx ((σ.set i (some v)).set j (some w)) H1
theorem ps_par {i j : Nat} {x y : Str} {a b : Expr} {ta : TA} {px py pt : Pos} {kt k2 pt2} (hc : X.calm = true) (hN : X.N.Nodup) (hi : X.N[i]? = some x) (hj : X.N[j]? = some y) (hij : i ≠ j)
   (hx : X.env.scope.names.lookup x = some .local) (hy : X.env.scope.names.lookup y = some .local) (ha : PA X [a, b] ta)
   (hw : swappedStores [.Tuple [.Name x px, .Name y py] kt pt] (.Tuple [a, b] k2 pt2) X.env = pure (some [x, y]))
   (hs : swapsWithSole [.Tuple [.Name x px, .Name y py] kt pt] (.Tuple [a, b] k2 pt2) pos.line X.env = pure false := by rfl) :
   PS X (.Assign [.Tuple [.Name x px, .Name y py] kt pt] (.Tuple [a, b] k2 pt2) pos) (tPar i j ta) := by
 intro pins s σ H D I h
 rw [exec_Assign_arm]
 refine wpAny_bind (wpAny_standAt ?_)
 rw [hs]
 refine wpAny_bind (wpAny_pure ?_)
 rw [if_neg (by decide)]
 refine wpAny_bind (Tuple_ (thn (ha _ pins s σ H _ I h) fun us s1 ⟨vs, H1, I1, r1, q1⟩ => ?_))
 obtain ⟨v, w, e1, q1⟩ := q1
 subst e1
 obtain ⟨u1, u2, rfl, rv, rw'⟩ : ∃ u1 u2, us = [u1, u2] ∧ RelV v u1 ∧ RelV w u2 := by
   cases r1 with
   | cons p q =>
     cases q with
     | cons p' q' =>
       cases q'
       exact ⟨_, _, rfl, p, p'⟩
 refine wpAny_newObj_type ?_ (by show 2 ≤ sizeLine; decide)
 have I2 : Inv X pins σ H1 { s1 with heap := s1.heap.push { cls := .type "tuple", data := .seq [u1, u2].toArray } } := I1.kept (t' := s1.toks) fun b o e => Heap.get?_push_of_some _ e
 rw [hw]
 refine wpAny_bind (wpAny_pure ?_)
 show wpAny (model X.prog X.w) X.A (do rule "assign.swapped-stores"; let items ← unpackItems (.ref s1.heap.objs.size) 2 none; assignInOrder [fun v => bindName X.env y v, fun v => bindName X.env x v] items.reverse; pure Flow.next) _ _ _
 refine wpAny_bind (wpAny_rule (wpAny_bind (unpackItems_tuple (items := #[u1, u2]) (I.ok.hd hc) (IsTup.new s1.heap _) fun h' hx' => ?_)))
 have I3 := I2.kept (h' := h') (t' := s1.toks) fun b o e => hx' b o (Nat.ne_of_lt (Heap.lt_size e)) e
 show wpAny _ _ (assignInOrder [fun v => bindName X.env y v, fun v => bindName X.env x v] [u2, u1] >>= fun _ => pure Flow.next) _ _ _
 refine wpAny_bind (assignInOrder_cons (wpAny_bindName (store_ok I3 hN hj (.inl hy) rw' (fun s2 I4 => ?_) (.inr hy))))
 refine assignInOrder_cons (wpAny_bindName (store_ok I4 hN hi (.inl hx) rv (fun s3 I5 => assignInOrder_nil (wpAny_pure ?_)) (.inr hx)))
 rw [List.set_comm _ _ (Ne.symm hij)] at I5
 exact ⟨_, H1, I5, q1⟩
end
section
variable {X : Cx} {pos : Pos}
end
structure It where
 go : Nat → Hp → Prop
 yld : Nat → Hp → V → Hp → Prop
 stop : Nat → Hp → Prop
noncomputable def FpOk (X : Cx) (pins : List (Addr × Obj)) (H : Hp) (b : Addr) : Prop :=
 H b = none ∧ b ≠ X.env.locals ∧ b ∉ X.fs ∧ (b ∈ X.ex ∨ X.s₀.heap.objs.size ≤ b) ∧ (∀ x c, X.env.cells.lookup x = some c → c ≠ b) ∧ ∀ p ∈ X.pn ++ pins, p.1 ≠ b
theorem Inv.fpOk {X : Cx} {pins : List (Addr × Obj)} {σ : St} {H H' : Hp} {s : Shared} {b : Addr} (I : Inv X pins σ H s) (hb : s.heap.objs.size ≤ b) (hn : H' b = none) : FpOk X pins H' b := by
 refine ⟨hn, Nat.ne_of_gt (Nat.lt_of_lt_of_le I.lt hb), I.nofs hb, .inr (Nat.le_trans I.sz hb), fun x c e z => ?_, fun p hp z => ?_⟩
 · obtain ⟨v, q⟩ := I.cell x c e
   exact absurd (Nat.lt_of_lt_of_le q.lt (by rw [z]; exact hb)) (Nat.lt_irrefl _)
 · exact absurd (Nat.lt_of_lt_of_le (Heap.lt_size (I.pin p hp).1) (by rw [z]; exact hb)) (Nat.lt_irrefl _)
structure Turn (P : Program) (w : World) (K : PySem.W.Frag) (tg : Expr) (J : It) (fp : List Addr) (it : Addr) (tn : Nat → Heap → Prop) : Prop where
 mem : it ∈ fp
 obj : ∀ i h, tn i h → ∀ b ∈ fp, ∃ o, h.get? b = some o ∧ ∀ v, o.data ≠ .cell v
 keep : ∀ i h h', tn i h → (∀ b ∈ fp, ∀ o, h.get? b = some o → h'.get? b = some o) → tn i h'
 item : ∀ (X : Cx), X.prog = P → X.w = w → X.K = K → X.calm = true → ∀ (i : Nat) (pins : List (Addr × Obj)) (s : Shared) (σ : St) (H : Hp) (E : Value → Shared → Prop), Inv X pins σ H s → (∀ b ∈ fp, FpOk X pins H b) → tn i s.heap → J.go i H →
   wpAny (model P w) X.A (pyNext (.ref it)) (fun r s1 => ∃ u, r = some u ∧
     wpAny (model P w) X.A (letOwnedTupleGo tg (.ref it) u) (fun _ s2 => ∃ x H', Inv X pins σ H' s2 ∧ RelV x u ∧ J.yld i H x H' ∧ tn (i + 1) s2.heap ∧ ∀ b ∈ fp, H' b = none) E s1) E s
 done : ∀ (X : Cx), X.prog = P → X.w = w → X.K = K → X.calm = true → ∀ (i : Nat) (pins : List (Addr × Obj)) (s : Shared) (σ : St) (H : Hp) (E : Value → Shared → Prop), Inv X pins σ H s → (∀ b ∈ fp, FpOk X pins H b) → tn i s.heap → J.stop i H →
   wpAny (model P w) X.A (pyNext (.ref it)) (fun r s1 => r = none ∧ Inv X pins σ H s1) E s
 self : ∀ (A : Around) (i : Nat) (s : Shared) (Q : Value → Shared → Prop) (E : Value → Shared → Prop), tn i s.heap → Q (.ref it) s → wpAny (model P w) A (pyIter (.ref it)) Q E s
noncomputable abbrev TI := St → Hp → (It → Hp → Prop) → Prop
noncomputable def PIE (X : Cx) (pins : List (Addr × Obj)) (σ : St) (tg : Expr) (R : It → Hp → Prop) (itv : Value) (s2 : Shared) : Prop :=
 ∃ (it : Addr) (fp : List Addr) (tn : Nat → Heap → Prop) (J : It) (H' : Hp), itv = .ref it ∧ Inv X pins σ H' s2 ∧ Turn X.prog X.w X.K tg J fp it tn ∧ tn 0 s2.heap ∧ (∀ b ∈ fp, FpOk X pins H' b) ∧ R J H'
noncomputable def PI (X : Cx) (tg iter : Expr) (wi : TI) : Prop :=
 ∀ (pins : List (Addr × Obj)) (s : Shared) (σ : St) (H : Hp) (R : It → Hp → Prop), Inv X pins σ H s → wi σ H R →
   wpAny (model X.prog X.w) X.A (eval iter X.env) (fun v s1 => wpAny (model X.prog X.w) X.A (pyIter v) (PIE X pins σ tg R) X.xe s1) X.xe s
theorem go_of {M : Model} {A : Around} {E : Value → Shared → Prop} {s : Shared} {tg : Expr} {it : Addr} {u : Value} {o : Obj} {n : String} {vs : Array Value} {Q : Unit → Shared → Prop} (ho : s.heap.get? it = some o) (hc : o.cls = .type n) (hd : o.data = .fields vs)
   (hn : ["enumerate", "zip", "dict_itemiterator", "dict_reverseitemiterator", "odict_iterator", "itertools.zip_longest", "itertools.pairwise"].contains n = false) (hQ : Q () s) : wpAny M A (letOwnedTupleGo tg (.ref it) u) Q E s := by
 unfold letOwnedTupleGo
 cases tg <;> first
   | exact wpAny_pure hQ
   | (cases u <;> first
       | exact wpAny_pure hQ
       | (refine wpAny_bind (wpAny_load ho ?_)
          rw [hc, hd]
          show wpAny M A (if (["enumerate", "zip", "dict_itemiterator", "dict_reverseitemiterator", "odict_iterator", "itertools.zip_longest", "itertools.pairwise"].contains n && vs[0]? == some (rawInt _)) = true then _ else _) Q E s
          rw [if_neg (by intro h; rw [hn, Bool.false_and] at h; cases h)]
          exact wpAny_pure hQ))
noncomputable def Itl (K : PySem.W.Frag) (a : Addr) : It :=
 ⟨fun i H => ∃ xs x, SqL K H a xs ∧ xs[i]? = some x, fun i H x H' => H' = H ∧ ∀ xs, SqL K H a xs → xs[i]? = some x, fun i H => ∃ xs, SqL K H a xs ∧ xs.length ≤ i⟩
noncomputable def Itt (K : PySem.W.Frag) (a : Addr) : It :=
 ⟨fun i H => ∃ xs x, SqT K H a xs ∧ xs[i]? = some x, fun i H x H' => H' = H ∧ ∀ xs, SqT K H a xs → xs[i]? = some x, fun i H => ∃ xs, SqT K H a xs ∧ xs.length ≤ i⟩
noncomputable def Itr (lo : Int) (n : Nat) : It := ⟨fun i _ => i < n, fun i H x H' => H' = H ∧ x = .int (lo + i), fun i _ => n ≤ i⟩
theorem turn_list {P : Program} {w : World} {K : PySem.W.Frag} {tg : Expr} (a it : Addr) : Turn P w K tg (Itl K a) [it] it (fun i h => h.IsListIter it a i) where
 mem := by simp
 obj := fun i h st b hb => by
   have e : b = it := by simpa using hb
   subst e
   obtain ⟨o, e, c, d⟩ := st
   exact ⟨o, e, fun v z => by rw [d] at z; cases z⟩
 keep := fun i h h' st k => st.at fun o e => k it (by simp) o e
 item := by
   intro X hP hw hK hc i pins s σ H E I hf st hg
   subst hP hw hK
   obtain ⟨xs, x, hq, hx⟩ := hg
   obtain ⟨its, rv, p, hz⟩ := I.list hq
   obtain ⟨u, hu, ru⟩ := rv.get hx
   obtain ⟨f0, f1, f2, f3, f4, f5⟩ := hf it (by simp)
   refine wpAny_pyNext_list_item st p.isList (x := u) (by simpa using hu) fun h' st' sb => ?_
   have I1 : Inv X pins σ H { s with heap := h' } := I.turned (t' := s.toks) (fun b o hb e => (sb.2 b hb).trans e) f0 f1 f3 f4 f5
   obtain ⟨o, e, c, d⟩ := id st'
   exact ⟨u, rfl, go_of (s := { s with heap := h' }) e c d (by decide) ⟨x, H, I1, ru, ⟨rfl, fun ys hy => by rw [I.list_inj hy hq]; exact hx⟩, st', fun b hb => (hf b hb).1⟩⟩
 done := by
   intro X hP hw hK hc i pins s σ H E I hf st hg
   subst hP hw hK
   obtain ⟨xs, hq, hx⟩ := hg
   obtain ⟨its, rv, p, hz⟩ := I.list hq
   obtain ⟨f0, f1, f2, f3, f4, f5⟩ := hf it (by simp)
   have hl := rv.length
   exact wpAny_pyNext_list_end (I.ok.hd hc) st p.isList (by simp; lia) fun h' eb => ⟨rfl, I.turned (t' := s.toks) (fun b o hb e => eb b o hb e) f0 f1 f3 f4 f5⟩
 self := fun _ _ _ _ _ st h => wpAny_pyIter_listiter st h
theorem turn_tuple {P : Program} {w : World} {K : PySem.W.Frag} {tg : Expr} (a it : Addr) : Turn P w K tg (Itt K a) [it] it (fun i h => h.IsTupleIter it a i) where
 mem := by simp
 obj := fun i h st b hb => by
   have e : b = it := by simpa using hb
   subst e
   obtain ⟨o, e, c, d⟩ := st
   exact ⟨o, e, fun v z => by rw [d] at z; cases z⟩
 keep := fun i h h' st k => st.at fun o e => k it (by simp) o e
 item := by
   intro X hP hw hK hc i pins s σ H E I hf st hg
   subst hP hw hK
   obtain ⟨xs, x, hq, hx⟩ := hg
   obtain ⟨its, rv, p, hz⟩ := I.tuple hq
   obtain ⟨u, hu, ru⟩ := rv.get hx
   obtain ⟨f0, f1, f2, f3, f4, f5⟩ := hf it (by simp)
   refine wpAny_pyNext_tuple_item st (show s.heap.IsTuple a its.toArray from p) (x := u) (by simpa using hu) fun h' st' sb => ?_
   have I1 : Inv X pins σ H { s with heap := h' } := I.turned (t' := s.toks) (fun b o hb e => (sb.2 b hb).trans e) f0 f1 f3 f4 f5
   obtain ⟨o, e, c, d⟩ := id st'
   exact ⟨u, rfl, go_of (s := { s with heap := h' }) e c d (by decide) ⟨x, H, I1, ru, ⟨rfl, fun ys hy => by rw [I.tuple_inj hy hq]; exact hx⟩, st', fun b hb => (hf b hb).1⟩⟩
 done := by
   intro X hP hw hK hc i pins s σ H E I hf st hg
   subst hP hw hK
   obtain ⟨xs, hq, hx⟩ := hg
   obtain ⟨its, rv, p, hz⟩ := I.tuple hq
   obtain ⟨f0, f1, f2, f3, f4, f5⟩ := hf it (by simp)
   have hl := rv.length
   exact wpAny_pyNext_tuple_end (I.ok.hd hc) st (show s.heap.IsTuple a its.toArray from p) (by simp; lia) fun h' eb => ⟨rfl, I.turned (t' := s.toks) (fun b o hb e => eb b o hb e) f0 f1 f3 f4 f5⟩
 self := fun _ _ _ _ _ st h => wpAny_pyIter_tupleiter st h
theorem turn_range {P : Program} {w : World} {K : PySem.W.Frag} {tg : Expr} (it : Addr) (lo : Int) (n : Nat) : Turn P w K tg (Itr lo n) [it] it (fun i h => IsRangeIter h it (lo + (i : Nat) * 1) ((n : Int) - (i : Nat)) 1) where
 mem := by simp
 obj := fun i h st b hb => by
   have e : b = it := by simpa using hb
   subst e
   exact ⟨_, st, fun v z => by
     have z' : Data.fields _ = Data.cell v := z
     cases z'⟩
 keep := fun i h h' st k => k it (by simp) _ st
 item := by
   intro X hP hw hK hc i pins s σ H E I hf st hg
   subst hP hw hK
   obtain ⟨f0, f1, f2, f3, f4, f5⟩ := hf it (by simp)
   have W := Walks.range (prog := X.prog) (w := X.w) (I.ok.hd hc) it lo 1 n
   refine W.item i s _ _ hg st fun v h' tk hv st' kk => ?_
   obtain ⟨t, rfl⟩ := hv
   have I1 : Inv X pins σ H { s with heap := h', toks := tk } := I.turned (fun b o hb e => kk b o (by simpa using hb) e) f0 f1 f3 f4 f5
   refine ⟨_, rfl, go_of (s := { s with heap := h', toks := tk }) (n := "range_iterator") st' rfl rfl (by decide) ⟨.int (lo + i), H, I1, ⟨t, ?_⟩, ⟨rfl, rfl⟩, st', fun b hb => (hf b hb).1⟩⟩
   rw [Int.mul_one]
 done := by
   intro X hP hw hK hc i pins s σ H E I hf st hg
   subst hP hw hK
   obtain ⟨f0, f1, f2, f3, f4, f5⟩ := hf it (by simp)
   exact wpAny_pyNext_range_end (I.ok.hd hc) st (by have : n ≤ i := hg; lia) fun h' eb => ⟨rfl, I.turned (t' := s.toks) (fun b o hb e => eb b o hb e) f0 f1 f3 f4 f5⟩
 self := fun _ _ _ _ _ st h => wpAny_pyIter_rangeiter st h
end L2
namespace L2
open PySem PySem.Spec PyProof.Rows
section
variable {X : Cx} {tg : Expr}
theorem range_it {pins : List (Addr × Obj)} {σ : St} {H : Hp} {s : Shared} {R : It → Hp → Prop} {E : Value → Shared → Prop} {lo hi : Int} {t u v : Tok} {tk : Nat} (I : Inv X pins σ H s) (h1 : -(2 ^ 62) ≤ lo) (h2 : lo < 2 ^ 62) (h3 : -(2 ^ 62) ≤ hi) (h4 : hi < 2 ^ 62)
   (q : R (Itr lo (hi - lo).toNat) H) : wpAny (model X.prog X.w) X.A (pyIter (.ref s.heap.objs.size)) (PIE X pins σ tg R) E { s with heap := s.heap.push { cls := .type "range", data := .fields #[.int lo t, .int hi u, .int 1 v] }, toks := tk } := by
 refine wpAny_pyIter_range (IsRange.new ..) (small_one h1 h2 h3 h4) ?_
 have I1 : Inv X pins σ H { s with heap := s.heap.push { cls := .type "range", data := .fields #[.int lo t, .int hi u, .int 1 v] }, toks := tk } := I.kept fun b o e => Heap.get?_push_of_some _ e
 refine ⟨(s.heap.push { cls := .type "range", data := .fields #[.int lo t, .int hi u, .int 1 v] }).objs.size, [(s.heap.push { cls := .type "range", data := .fields #[.int lo t, .int hi u, .int 1 v] }).objs.size], _, _, H, rfl,
   I1.kept (t' := tk) fun b o e => Heap.get?_push_of_some _ e, turn_range _ lo (hi - lo).toNat, ?_, fun b hb => ?_, q⟩
 · have e1 : lo + ((0 : Nat) : Int) * 1 = lo := by simp
   have e2 : (((hi - lo).toNat : Nat) : Int) - ((0 : Nat) : Int) = Builtin.Range.rangeSize lo hi 1 := by rw [rangeSize_one]; split <;> lia
   show IsRangeIter _ _ (lo + ((0 : Nat) : Int) * 1) ((((hi - lo).toNat : Nat) : Int) - ((0 : Nat) : Int)) 1
   rw [e1, e2]
   exact Heap.get?_push_size _ rfl
 · have e : b = (s.heap.push { cls := .type "range", data := .fields #[.int lo t, .int hi u, .int 1 v] }).objs.size := by simpa using hb
   subst e
   exact I1.fpOk (Nat.le_refl _) (I1.hok.fresh (Nat.le_refl _))
noncomputable def iRng1 (ta : TA) : TI := fun σ H R => ta σ H fun vs H1 => ∃ j : Int, vs = [.int j] ∧ -(2 ^ 62) ≤ j ∧ j < 2 ^ 62 ∧ R (Itr 0 j.toNat) H1
noncomputable def iRng2 (ta : TA) : TI := fun σ H R => ta σ H fun vs H1 => ∃ i j : Int, vs = [.int i, .int j] ∧ (-(2 ^ 62) ≤ i ∧ i < 2 ^ 62 ∧ -(2 ^ 62) ≤ j ∧ j < 2 ^ 62) ∧ R (Itr i (j - i).toNat) H1
theorem pi_range1 {a : Expr} {ta : TA} {p pos : Pos} (hg : Gl X "range") (hm : X.mg "range" = none) (ha : PA X [a] ta) (hs : starEach [a] X.env = [(false, eval a X.env)] := by rfl) : PI X tg (.Call (.Name "range" p) [a] [] pos) (iRng1 ta) := by
 intro pins s σ H R I h
 refine Call_ (ld_blt I hg hm boot_range (PyProof.Rows.callWith_type1 (thn (ha pos pins s σ H _ I h) fun us s1 ⟨vs, H1, I1, r1, q1⟩ => ?_) hs rfl))
 obtain ⟨j, e, q1, q2, q⟩ := q1
 subst e
 cases r1 with
 | cons r rr =>
   cases rr
   obtain ⟨t, rfl⟩ := r
   exact call_range_1 (range_it I1 (by lia) (by lia) q1 q2 (by simpa using q))
theorem pi_range2 {a b : Expr} {ta : TA} {p pos : Pos} (hg : Gl X "range") (hm : X.mg "range" = none) (ha : PA X [a, b] ta) (hs : starEach [a, b] X.env = [(false, eval a X.env), (false, eval b X.env)] := by rfl) (hs2 : starEach [b] X.env = [(false, eval b X.env)] := by rfl) :
   PI X tg (.Call (.Name "range" p) [a, b] [] pos) (iRng2 ta) := by
 intro pins s σ H R I h
 refine Call_ (ld_blt I hg hm boot_range (PyProof.Rows.callWith_type1 (thn (ha pos pins s σ H _ I h) fun us s1 ⟨vs, H1, I1, r1, q1⟩ => ?_) (by rw [hs, hs2]) (by rw [hs2]; rfl)))
 obtain ⟨i, j, e, ⟨q1, q2, q3, q4⟩, q⟩ := q1
 subst e
 cases r1 with
 | cons r rr =>
   cases rr with
   | cons r' rr =>
     cases rr
     obtain ⟨t, rfl⟩ := r
     obtain ⟨t', rfl⟩ := r'
     exact call_range_2 (range_it I1 q1 q2 q3 q4 q)
noncomputable def tFor (wi : TI) (g : TG) (tb : TS) : TS := fun D σ H => wi σ H fun J H1 => ∃ W : Nat → Nat → St → Hp → Prop, (∃ m, W 0 m σ H1) ∧ ∀ i m σ H, W i m σ H →
 (J.stop i H ∧ D.nx σ H) ∨ (J.go i H ∧ ∃ N : St → Hp → Prop, (∀ σ' H', N σ' H' → ∃ m', m' < m ∧ W (i + 1) m' σ' H') ∧ ∀ x H', J.yld i H x H' → g x σ H' fun σ2 H2 => tb { D with nx := N, ct := N, bk := D.nx } σ2 H2)
noncomputable def pinsAt (fp : List Addr) (h : Heap) : List (Addr × Obj) := fp.filterMap fun b => (h.get? b).map fun o => (b, o)
theorem mem_pinsAt {fp : List Addr} {h : Heap} {b : Addr} {o : Obj} (hb : b ∈ fp) (e : h.get? b = some o) : (b, o) ∈ pinsAt fp h := List.mem_filterMap.mpr ⟨b, hb, by rw [e]; rfl⟩
theorem of_pinsAt {fp : List Addr} {h : Heap} {p : Addr × Obj} (hp : p ∈ pinsAt fp h) : p.1 ∈ fp ∧ h.get? p.1 = some p.2 := by
 obtain ⟨b, hb, e⟩ := List.mem_filterMap.mp hp
 cases q : h.get? b with
 | none => rw [q] at e; cases e
 | some o =>
   rw [q] at e
   have e' : (b, o) = p := Option.some.inj e
   subst e'
   exact ⟨hb, q⟩
theorem Inv.pinned {pins : List (Addr × Obj)} {σ : St} {H : Hp} {s : Shared} {fp : List Addr} (I : Inv X pins σ H s) (hf : ∀ b ∈ fp, FpOk X pins H b) (ho : ∀ b ∈ fp, ∃ o, s.heap.get? b = some o ∧ ∀ v, o.data ≠ .cell v) : Inv X (pins ++ pinsAt fp s.heap) σ H s :=
 I.pins_of fun p hp => (List.mem_append.mp hp).elim (fun z => I.pin p (List.mem_append_right _ z)) fun z => by
   obtain ⟨hb, e⟩ := of_pinsAt z
   obtain ⟨f0, f1, f2, _⟩ := hf p.1 hb
   obtain ⟨o, e', d⟩ := ho p.1 hb
   rw [e] at e'; cases e'
   exact ⟨e, f0, f1, f2, d⟩
theorem Inv.unpinned {pins pl : List (Addr × Obj)} {σ : St} {H : Hp} {s : Shared} (I : Inv X (pins ++ pl) σ H s) : Inv X pins σ H s := I.pins_of fun p hp => I.pin p (List.mem_append_right _ (List.mem_append_left _ hp))
theorem ps_for {iter : Expr} {body : List Stmt} {wi : TI} {g : TG} {tb : TS} {pos : Pos} (hp : PassesOwn (model X.prog X.w) X.A X.env X.xe) (hc : X.calm = true) (hi : PI X tg iter wi) (hg : PG X tg g) (hb : PSs X body tb)
   (hs : ∀ x, foldedSetIterable iter X.env x = pure x := by intro _; rfl) : PS X (.For tg iter body [] pos) (tFor wi g tb) := by
 intro pins s σ H D I h
 refine wpAny_For (thn (hi pins s σ H _ I h) fun v s1 h1 => thn h1 fun itv s2 h2 => ?_) hs
 obtain ⟨it, fp, tn, J, H2, e, I2, T, st2, f2, W, ⟨m0, w0⟩, turn⟩ := h2
 subst e
 -- what stays true of the iterator's objects through the loop
 have stat : ∀ {H' : Hp}, (∀ b ∈ fp, H' b = none) → ∀ b ∈ fp, FpOk X pins H' b := fun hn b hb => ⟨hn b hb, (f2 b hb).2⟩
 refine codeAny_forLoop_any (fun n s' => ∃ i σ' H', Inv X pins σ' H' s' ∧ tn i s'.heap ∧ (∀ b ∈ fp, H' b = none) ∧ W i n σ' H') ?_ m0 ⟨0, σ, H2, I2, st2, fun b hb => (f2 b hb).1, w0⟩
 rintro n s3 ⟨i, σ3, H3, I3, st3, fr3, w3⟩
 rcases turn i n σ3 H3 w3 with ⟨stop, qn⟩ | ⟨go, N, hN, step⟩
 · refine wpAny_passesOwn hp (thn (T.done X rfl rfl rfl hc i pins s3 σ3 H3 X.xe I3 (stat fr3) st3 stop) fun r s4 ⟨hr, I4⟩ => ?_)
   subst hr
   exact wpAny_execs_nil ⟨σ3, H3, I4, qn⟩
 · refine wpAny_passesOwn hp (thn (T.item X rfl rfl rfl hc i pins s3 σ3 H3 X.xe I3 (stat fr3) st3 go) fun r s4 ⟨u, hr, h4⟩ => ?_)
   subst hr
   refine wpAny_passesOwn hp (thn h4 fun _ s5 ⟨x, H5, I5, r5, y5, st5, fr5⟩ => ?_)
   have I5' := I5.pinned (stat fr5) (T.obj _ _ st5)
   refine wpAny_passesOwn hp (thn (hg _ s5 σ3 H5 x u _ I5' r5 (step x H5 y5)) fun _ s6 ⟨σ6, H6, I6, q6⟩ => ?_)
   refine wpAny_passesOwn hp (thn (hb _ s6 σ6 H6 _ I6 q6) fun f s7 q7 => ?_)
   have again : ∀ {σ7 : St} {H7 : Hp}, Inv X (pins ++ pinsAt fp s5.heap) σ7 H7 s7 → N σ7 H7 → ∃ m, m < n ∧ ∃ i σ' H', Inv X pins σ' H' s7 ∧ tn i s7.heap ∧ (∀ b ∈ fp, H' b = none) ∧ W i m σ' H' := fun {σ7 H7} I7 n7 => by
     obtain ⟨m', hm, w7⟩ := hN σ7 H7 n7
     refine ⟨m', hm, i + 1, σ7, H7, I7.unpinned, T.keep _ _ _ st5 fun b hb o e => (I7.pin (b, o) (List.mem_append_right _ (List.mem_append_right _ (mem_pinsAt hb e)))).1, fun b hb => ?_, w7⟩
     obtain ⟨o, e, d⟩ := T.obj _ _ st5 b hb
     exact (I7.pin (b, o) (List.mem_append_right _ (List.mem_append_right _ (mem_pinsAt hb e)))).2.1
   cases f with
   | next => obtain ⟨σ7, H7, I7, n7⟩ := q7; exact again I7 n7
   | cont => obtain ⟨σ7, H7, I7, n7⟩ := q7; exact again I7 n7
   | brk => obtain ⟨σ7, H7, I7, q7⟩ := q7; exact ⟨σ7, H7, I7.unpinned, q7⟩
   | ret v => obtain ⟨x7, σ7, H7, I7, r7, q7⟩ := q7; exact ⟨x7, σ7, H7, I7.unpinned, r7, q7⟩
end
end L2
namespace L2
open PySem PySem.Spec PyProof.Rows
noncomputable abbrev R2 := V → V → Hp → VK → Prop
noncomputable def OpR (X : Cx) (f : Value → Value → Sem Value) (r : R2) : Prop :=
 ∀ (pins : List (Addr × Obj)) (s : Shared) (σ : St) (H : Hp) (x y : V) (v u : Value) (Q : VK), Inv X pins σ H s → RelV x v → RelV y u → r x y H Q →
   wpAny (model X.prog X.w) X.A (f v u) (EP X pins σ Q) X.xe s
noncomputable def UnR (X : Cx) (f : Value → Sem Value) (r : V → Hp → VK → Prop) : Prop :=
 ∀ (pins : List (Addr × Obj)) (s : Shared) (σ : St) (H : Hp) (x : V) (v : Value) (Q : VK), Inv X pins σ H s → RelV x v → r x H Q →
   wpAny (model X.prog X.w) X.A (f v) (EP X pins σ Q) X.xe s
noncomputable def CallR (X : Cx) (f : Value) (r : List V → Hp → VK → Prop) : Prop :=
 ∀ (pins : List (Addr × Obj)) (s : Shared) (σ : St) (H : Hp) (xs : List V) (us : List Value) (Q : VK), Inv X pins σ H s → Vals xs us → r xs H Q →
   wpAny (model X.prog X.w) X.A (call f us) (EP X pins σ Q) X.xe s
noncomputable def TruR (X : Cx) (r : V → Hp → (Bool → Hp → Prop) → Prop) : Prop :=
 ∀ (pins : List (Addr × Obj)) (s : Shared) (σ : St) (H : Hp) (x : V) (v : Value) (Q : Bool → Hp → Prop), Inv X pins σ H s → RelV x v → r x H Q →
   wpAny (model X.prog X.w) X.A (truthy v) (TP X pins σ Q) X.xe s
noncomputable def tOp (r : R2) (ta tb : TE) : TE := fun σ H Q => ta σ H fun x H1 => tb σ H1 fun y H2 => r x y H2 Q
noncomputable def tUn (r : V → Hp → VK → Prop) (ta : TE) : TE := fun σ H Q => ta σ H fun x H1 => r x H1 Q
noncomputable def rI (C : Int → Int → Prop) (g : Int → Int → V) : R2 := fun x y H Q => ∃ i j, x = .int i ∧ y = .int j ∧ C i j ∧ Q (g i j) H
noncomputable def rI0 (g : Int → Int → V) : R2 := fun x y H Q => ∃ i j, x = .int i ∧ y = .int j ∧ Q (g i j) H
noncomputable def rU (g : Int → V) : V → Hp → VK → Prop := fun x H Q => ∃ i, x = .int i ∧ Q (g i) H
section
variable {X : Cx} {a b c : Expr} {ta tb tc : TE} {pos : Pos}
theorem binT (ha : PE X a ta) (hb : PE X b tb) {pins : List (Addr × Obj)} {s : Shared} {σ : St} {H : Hp} {R : V → V → Hp → Prop} (I : Inv X pins σ H s)
   (h : ta σ H fun x H1 => tb σ H1 fun y H2 => R x y H2) {Q : Value → Shared → Prop} {f : Value → Value → Sem Value}
   (hf : ∀ v u s2 x y H2, Inv X pins σ H2 s2 → RelV x v → RelV y u → R x y H2 → wpAny (model X.prog X.w) X.A (f v u) Q X.xe s2) :
   wpAny (model X.prog X.w) X.A (eval a X.env) (fun v s₁ => wpAny (model X.prog X.w) X.A (eval b X.env) (fun u s₂ => wpAny (model X.prog X.w) X.A (f v u) Q X.xe s₂) X.xe s₁) X.xe s := by
 refine thn (ha pins s σ H _ I h) fun v s1 ⟨x, H1, I1, r1, q1⟩ => ?_
 refine thn (hb pins s1 σ H1 _ I1 q1) fun u s2 ⟨y, H2, I2, r2, q2⟩ => ?_
 exact hf v u s2 x y H2 I2 r1 r2 q2
theorem pe_op {op : Operator} {r : R2} (ho : OpR X (binaryOp op) r) (ha : PE X a ta) (hb : PE X b tb) : PE X (.BinOp a op b pos) (tOp r ta tb) := by
 intro pins s σ H Q I h
 exact wpAny_BinOp (binT ha hb I h fun v u s2 x y H2 I2 rx ry q => ho pins s2 σ H2 x y v u Q I2 rx ry q)
theorem pe_un {op : UnaryOp} {r : V → Hp → VK → Prop} (ho : UnR X (unaryOp op) r) (ha : PE X a ta) : PE X (.UnaryOp op a pos) (tUn r ta) := by
 intro pins s σ H Q I h
 exact UnaryOp_ (thn (ha pins s σ H _ I h) fun v s1 ⟨x, H1, I1, r1, q1⟩ => ho pins s1 σ H1 x v Q I1 r1 q1)
theorem opI {f : Value → Value → Sem Value} {C : Int → Int → Prop} {g : Int → Int → Int}
   (rule : ∀ (i j : Int) (t u : Tok) (s : Shared) (Q : Value → Shared → Prop) (E : Value → Shared → Prop), C i j → Q (.int (g i j) s.toks) { s with toks := s.toks + 1 } → wpAny (model X.prog X.w) X.A (f (.int i t) (.int j u)) Q E s) :
   OpR X f (rI C fun i j => .int (g i j)) := by
 intro pins s σ H x y v u Q I rx ry h
 obtain ⟨i, j, rfl, rfl, hc, q⟩ := h
 obtain ⟨t, rfl⟩ := rx
 obtain ⟨t', rfl⟩ := ry
 exact rule i j t t' s _ _ hc ⟨.int (g i j), H, I.tok _, ⟨_, rfl⟩, q⟩
theorem opI0 {f : Value → Value → Sem Value} {g : Int → Int → Int}
   (rule : ∀ (i j : Int) (t u : Tok) (s : Shared) (Q : Value → Shared → Prop) (E : Value → Shared → Prop), Q (.int (g i j) s.toks) { s with toks := s.toks + 1 } → wpAny (model X.prog X.w) X.A (f (.int i t) (.int j u)) Q E s) :
   OpR X f (rI0 fun i j => .int (g i j)) := by
 intro pins s σ H x y v u Q I rx ry h
 obtain ⟨i, j, rfl, rfl, q⟩ := h
 obtain ⟨t, rfl⟩ := rx
 obtain ⟨t', rfl⟩ := ry
 exact rule i j t t' s _ _ ⟨.int (g i j), H, I.tok _, ⟨_, rfl⟩, q⟩
theorem opB0 {f : Value → Value → Sem Value} {g : Int → Int → Bool}
   (rule : ∀ (i j : Int) (t u : Tok) (s : Shared) (Q : Value → Shared → Prop) (E : Value → Shared → Prop), Q (.bool (g i j)) s → wpAny (model X.prog X.w) X.A (f (.int i t) (.int j u)) Q E s) :
   OpR X f (rI0 fun i j => .bl (g i j)) := by
 intro pins s σ H x y v u Q I rx ry h
 obtain ⟨i, j, rfl, rfl, q⟩ := h
 obtain ⟨t, rfl⟩ := rx
 obtain ⟨t', rfl⟩ := ry
 exact rule i j t t' s _ _ ⟨.bl (g i j), H, I, rfl, q⟩
noncomputable def CPow (i j : Int) : Prop := 0 ≤ j ∧ j ≤ 1000000 ∧ i.natAbs < 2 ^ 64
noncomputable def CMul (i j : Int) : Prop := (-(2 ^ 64) < i ∧ i < 2 ^ 64) ∨ (-(2 ^ 64) < j ∧ j < 2 ^ 64)
theorem CMul.ok {i j : Int} (h : CMul i j) : IntMulOk i j := by
 rcases h with ⟨h1, h2⟩ | ⟨h1, h2⟩
 · exact .of_left (intBits_le_64 h1 h2)
 · exact .of_right (intBits_le_64 h1 h2)
theorem op_add : OpR X (binaryOp .Add) (rI0 fun i j => .int (i + j)) := opI0 fun _ _ _ _ _ _ _ q => add_int q
theorem op_sub : OpR X (binaryOp .Sub) (rI0 fun i j => .int (i - j)) := opI0 fun _ _ _ _ _ _ _ q => sub_int q
theorem op_mul : OpR X (binaryOp .Mult) (rI CMul fun i j => .int (i * j)) := opI fun _ _ _ _ _ _ _ hc q => mul_int q hc.ok
theorem op_mod : OpR X (binaryOp .Mod) (rI (fun _ j => 0 < j) fun i j => .int (i % j)) := opI fun i j _ _ _ _ _ hc q => by
 have h1 : (0 : Int) < j := hc
 exact mod_int' (by lia) (by rw [Int.fmod_eq_emod_of_nonneg i (by lia)]; exact q)
theorem op_pow : OpR X (binaryOp .Pow) (rI CPow fun i j => .int (i ^ j.toNat)) := opI fun _ _ _ _ _ _ _ hc q => pow_int_small hc.1 hc.2.1 hc.2.2 q
theorem unI {f : Value → Sem Value} {g : Int → Int}
   (rule : ∀ (i : Int) (t : Tok) (s : Shared) (Q : Value → Shared → Prop) (E : Value → Shared → Prop), Q (.int (g i) s.toks) { s with toks := s.toks + 1 } → wpAny (model X.prog X.w) X.A (f (.int i t)) Q E s) :
   UnR X f (rU fun i => .int (g i)) := by
 intro pins s σ H x v Q I rx h
 obtain ⟨i, rfl, q⟩ := h
 obtain ⟨t, rfl⟩ := rx
 exact rule i t s _ _ ⟨.int (g i), H, I.tok _, ⟨_, rfl⟩, q⟩
theorem un_neg : UnR X (unaryOp .USub) (rU fun i => .int (-i)) := unI fun _ _ _ _ _ q => neg_int q
end
section
variable {X : Cx} {a b c : Expr} {ta tb tc : TE} {pos : Pos}
theorem op_lt : OpR X (compareOp .Lt) (rI0 fun i j => .bl (decide (i < j))) := opB0 fun _ _ _ _ _ _ _ q => lt_int q
theorem op_le : OpR X (compareOp .LtE) (rI0 fun i j => .bl (decide (i ≤ j))) := opB0 fun _ _ _ _ _ _ _ q => le_int q
theorem op_gt : OpR X (compareOp .Gt) (rI0 fun i j => .bl (decide (j < i))) := opB0 fun _ _ _ _ _ _ _ q => gt_int q
theorem op_ge : OpR X (compareOp .GtE) (rI0 fun i j => .bl (decide (j ≤ i))) := opB0 fun _ _ _ _ _ _ _ q => ge_int q
theorem nomark (b : Expr) {op : CmpOp} (h : op ≠ .In := by decide) (h2 : op ≠ .NotIn := by decide) : behindInMarks op b = false := by
 have e1 : (op == CmpOp.In) = false := by cases op <;> first | rfl | exact absurd rfl h
 have e2 : (op == CmpOp.NotIn) = false := by cases op <;> first | rfl | exact absurd rfl h2
 cases b <;> simp [behindInMarks, e1, e2]
theorem pe_cmpR {op : CmpOp} {r : R2} (ho : OpR X (compareOp op) r) (ha : PE X a ta) (hb : PE X b tb) (hm : behindInMarks op b = false) : PE X (.Compare a [op] [b] pos) (tOp r ta tb) := by
 intro pins s σ H Q I h
 exact wpAny_Compare1 (binT ha hb I h fun v u s2 x y H2 I2 rx ry q => ho pins s2 σ H2 x y v u Q I2 rx ry q) hm
noncomputable def tTest (t : TE) : TT := fun σ H Q => t σ H fun x H' => ∃ k, x = .bl k ∧ Q k H'
theorem pt_cmpR {op : CmpOp} {r : R2} (ho : OpR X (compareOp op) r) (ha : PE X a ta) (hb : PE X b tb) (hm : behindInMarks op b = false) : PT X (.Compare a [op] [b] pos) (tTest (tOp r ta tb)) := by
 intro pins s σ H Q I h
 refine wpAny_isTrue_Compare1 (thn (ha pins s σ H _ I h) fun v s1 ⟨x, H1, I1, r1, q1⟩ => thn (hb pins s1 σ H1 _ I1 q1) fun u s2 ⟨y, H2, I2, r2, q2⟩ =>
   thn (ho pins s2 σ H2 x y v u _ I2 r1 r2 q2) fun c s3 ⟨z, H3, I3, r3, k, e, q3⟩ => ?_) hm
 subst e
 cases r3
 exact wpAny_truthy_bool ⟨H3, I3, q3⟩
noncomputable def tChain (r r' : R2) (ta tb tc : TE) : TE := fun σ H Q => ta σ H fun x H1 => tb σ H1 fun y H2 => r x y H2 fun z H3 => ∃ k, z = .bl k ∧
 (if k = true then tc σ H3 fun w' H4 => r' y w' H4 Q else Q (.bl false) H3)
theorem pe_chain {op op' : CmpOp} {r r' : R2} (ho : OpR X (compareOp op) r) (ho' : OpR X (compareOp op') r') (ha : PE X a ta) (hb : PE X b tb) (hc : PE X c tc)
   (hm : lastMarks [op, op'] [b, c] = false := by with_unfolding_all rfl) : PE X (.Compare a [op, op'] [b, c] pos) (tChain r r' ta tb tc) := by
 intro pins s σ H Q I h
 refine Compare_chain (thn (ha pins s σ H _ I h) fun v s1 ⟨x, H1, I1, r1, q1⟩ => chain_link (thn (hb pins s1 σ H1 _ I1 q1) fun u s2 ⟨y, H2, I2, r2, q2⟩ =>
   thn (ho pins s2 σ H2 x y v u _ I2 r1 r2 q2) fun d s3 ⟨z, H3, I3, r3, k, e, q3⟩ => ?_)) hm
 subst e
 cases r3
 refine wpAny_truthy_bool ?_
 cases k with
 | false => exact ite_ff ⟨.bl false, H3, I3, rfl, q3⟩
 | true => exact ite_tt (chain_last (thn (hc pins s3 σ H3 _ I3 q3) fun w' s4 ⟨z', H4, I4, r4, q4⟩ => ho' pins s4 σ H4 y z' u w' Q I4 r2 r4 q4))
theorem pt_chain {op op' : CmpOp} {r r' : R2} (ho : OpR X (compareOp op) r) (ho' : OpR X (compareOp op') r') (ha : PE X a ta) (hb : PE X b tb) (hc : PE X c tc)
   (hm : lastMarks [op, op'] [b, c] = false := by with_unfolding_all rfl) : PT X (.Compare a [op, op'] [b, c] pos) (tTest (tChain r r' ta tb tc)) := by
 intro pins s σ H Q I h
 refine isTrue_chain (thn (ha pins s σ H _ I h) fun v s1 ⟨x, H1, I1, r1, q1⟩ => test_link (thn (hb pins s1 σ H1 _ I1 q1) fun u s2 ⟨y, H2, I2, r2, q2⟩ =>
   thn (ho pins s2 σ H2 x y v u _ I2 r1 r2 q2) fun d s3 ⟨z, H3, I3, r3, k, e, q3⟩ => ?_)) hm
 subst e
 cases r3
 refine wpAny_truthy_bool ?_
 cases k with
 | false =>
   obtain ⟨k', e', q'⟩ := q3
   cases e'
   exact ite_ff ⟨H3, I3, q'⟩
 | true =>
   refine ite_tt (test_last (thn (hc pins s3 σ H3 _ I3 q3) fun w' s4 ⟨z', H4, I4, r4, q4⟩ => thn (ho' pins s4 σ H4 y z' u w' _ I4 r2 r4 q4) fun d' s5 ⟨z2, H5, I5, r5, k2, e2, q5⟩ => ?_))
   subst e2
   cases r5
   exact wpAny_truthy_bool ⟨H5, I5, q5⟩
noncomputable def TruV (K : PySem.W.Frag) (x : V) (H : Hp) (k : Bool) : Prop :=
 match x with
 | .non => k = false
 | .bl b => k = b
 | .int i => k = (i != 0)
 | .str y => y.length ≤ sizeLine ∧ k = ((y.length : Int) != 0)
 | .byt y => y.size ≤ sizeLine ∧ k = ((y.size : Int) != 0)
 | .ref p => (∃ xs, SqL K H p xs ∧ k = !xs.isEmpty) ∨ (∃ xs, SqT K H p xs ∧ k = !xs.isEmpty) ∨ ∃ kvs, H p = some (.dK kvs) ∧ k = !kvs.isEmpty
 | _ => False
theorem isEmpty_kv {κ : Type} {kvs : List (κ × V)} {vs : List (κ × Value)} (r : KV kvs vs) : (!vs.isEmpty) = !kvs.isEmpty := by
 cases r <;> rfl
theorem isEmpty_of {xs : List V} {its : List Value} (r : Vals xs its) : (!its.toArray.isEmpty) = !xs.isEmpty := by
 cases r <;> simp
theorem line63 : (sizeLine : Nat) < 2 ^ 63 := by rw [sizeLine_eq]; decide
theorem tru_ok : TruR X (fun x H Q => ∃ k, TruV X.K x H k ∧ Q k H) := by
 intro pins s σ H x v Q I rx h
 obtain ⟨k, e, q⟩ := h
 have hl := line63
 have hs : sizeLine = 16777216 := sizeLine_eq
 cases x with
 | non =>
   cases rx
   have e' : k = false := e
   subst e'
   exact truthy_none ⟨H, I, q⟩
 | bl b =>
   cases rx
   have e' : k = b := e
   subst e'
   exact wpAny_truthy_bool ⟨H, I, q⟩
 | int i =>
   obtain ⟨t, rfl⟩ := rx
   have e' : k = (i != 0) := e
   subst e'
   exact PySem.P.truthy_int ⟨H, I, q⟩
 | str y =>
   obtain ⟨t, rfl⟩ := rx
   obtain ⟨hy, e'⟩ : y.length ≤ sizeLine ∧ k = ((y.length : Int) != 0) := e
   subst e'
   exact PySem.P.truthy_str (by lia) ⟨H, I.tok _, q⟩
 | byt y =>
   obtain ⟨t, rfl⟩ := rx
   obtain ⟨hy, e'⟩ : y.size ≤ sizeLine ∧ k = ((y.size : Int) != 0) := e
   subst e'
   exact PySem.W.truthy_bytes (by lia) ⟨H, I.tok _, q⟩
 | ref p =>
   cases rx
   have e' : (∃ xs, SqL X.K H p xs ∧ k = !xs.isEmpty) ∨ (∃ xs, SqT X.K H p xs ∧ k = !xs.isEmpty) ∨ ∃ kvs, H p = some (.dK kvs) ∧ k = !kvs.isEmpty := e
   rcases e' with ⟨xs, hx, e'⟩ | ⟨xs, hx, e'⟩ | ⟨kvs, hx, e'⟩
   · subst e'
     obtain ⟨its, r, pl, hz⟩ := I.list hx
     have hlen := r.length
     exact wpAny_truthy_list pl.isList (by simp only [List.size_toArray]; lia) ⟨H, I.tok _, by rw [isEmpty_of r]; exact q⟩
   · subst e'
     obtain ⟨its, r, pl, hz⟩ := I.tuple hx
     have hlen := r.length
     exact truthy_tuple pl (by simp only [List.size_toArray]; lia) ⟨H, I.tok _, by rw [isEmpty_of r]; exact q⟩
   · subst e'
     obtain ⟨hz, hS, vs, r, m⟩ : kvs.length ≤ sizeLine ∧ (p == sysModules) = false ∧ ∃ vs, KV kvs vs ∧ s.heap.DictOf (mixKind X.prog X.w) p vs := I.hok p _ hx
     have hlen : kvs.length = vs.length := Paired.length r
     exact wpAny_truthy_dict hS m (by lia) ⟨H, I.tok _, by rw [isEmpty_kv r]; exact q⟩
 | _ => exact (show False from e).elim
theorem pt_truth (ha : PE X a ta) (he : ∀ whole, isTrue a X.env whole = (do let v ← whole; standAt a.pos; holding [v] (truthy v))) :
   PT X a (fun σ H Q => ta σ H fun x H' => ∃ k, TruV X.K x H' k ∧ Q k H') := by
 intro pins s σ H Q I h
 exact isTrue_plain (thn (ha pins s σ H _ I h) fun v s1 ⟨x, H1, I1, r1, q1⟩ => tru_ok pins s1 σ H1 x v Q I1 r1 q1) (he _)
theorem op_add_str : OpR X (binaryOp .Add) (fun x y H Q => ∃ i j, x = .str i ∧ y = .str j ∧ i.length + j.length ≤ sizeLine ∧ Q (.str (i ++ j)) H) := by
 intro pins s σ H x y v u Q I rx ry h
 obtain ⟨i, j, rfl, rfl, hz, q⟩ := h
 obtain ⟨t, rfl⟩ := rx
 obtain ⟨t', rfl⟩ := ry
 exact add_str (fun t' tk => ⟨.str (i ++ j), H, I.tok _, ⟨_, rfl⟩, q⟩) hz
theorem vals1 {x : V} {us : List Value} (r : Vals [x] us) : ∃ u, us = [u] ∧ RelV x u := by
 cases r with
 | cons r1 r2 => cases r2; exact ⟨_, rfl, r1⟩
theorem call_abs : CallR X (.builtin "abs") (fun xs H Q => ∃ i, xs = [.int i] ∧ Q (.int (if i < 0 then -i else i)) H) := by
 intro pins s σ H xs us Q I r h
 obtain ⟨i, rfl, q⟩ := h
 obtain ⟨u, rfl, t, rfl⟩ := vals1 r
 exact call_abs_int fun u tk => ⟨.int (if i < 0 then -i else i), H, I.tok _, ⟨_, rfl⟩, q⟩
end
end L2
namespace L2
open PySem PySem.Spec PyProof.Rows
section
variable {prog : Program} {w : World} {A : Around} {E : Value → Shared → Prop} {s : Shared} {K : PySem.W.Frag} {x dx C f : Addr} {mA : Str → Option Value} {name : Str} {v : Value}
end
theorem RelO.some_of {v : V} {o : Option Value} (r : RelO (some v) o) : ∃ u, o = some u ∧ RelV v u := by
 cases o with
 | none => exact (show False from r).elim
 | some u => exact ⟨u, rfl, r⟩
section
variable {P : Program} {w : World} {H H' : Hp} {h h' : Heap} {a C dx : Addr} {fs fs' : List (Str × V)}
end
section
variable {X : Cx} {pins : List (Addr × Obj)} {σ : St} {H : Hp} {s : Shared} {a C dx : Addr} {fs : List (Str × V)} {f : Str} {v : V} {A : Around} {E : Value → Shared → Prop}
end
section
variable {X : Cx} {o e value : Expr} {f : Str} {pos pos' tpos : Pos} {ta tv : TE}
end
section
variable {X : Cx} {pins : List (Addr × Obj)} {σ : St} {H : Hp} {s : Shared} {A : Around} {E : Value → Shared → Prop} {Q : Value → Shared → Prop} {c : Value} {b : Bool}
end
end L2
namespace L2
open PySem PySem.Spec PyProof.Rows
structure Room (k : Nat) (A : Around) : Prop where
 hd : A.handled = none
 dp : A.depth + 3 * k + 5 < recursionLimit
 un : A.units + 16 * k + 200 < cLine
theorem Room.mono {j k : Nat} {A : Around} (r : Room k A) (h : j ≤ k) : Room j A := ⟨r.hd, by have := r.dp; lia, by have := r.un; lia⟩
theorem Room.deeper {k : Nat} {A : Around} (r : Room (k + 1) A) (env : Env) : Room k (A.deeper env) :=
 ⟨r.hd, by have := r.dp; show A.depth + 1 + 3 * k + 5 < _; lia, by have := r.un; show A.units + 3 + 16 * k + 200 < _; lia⟩
theorem Room.depth {k : Nat} {A : Around} (r : Room k A) : A.depth < recursionLimit := by have := r.dp; lia
theorem Room.units {k : Nat} {A : Around} (r : Room k A) : A.units + 64 < cLine := by have := r.un; lia
noncomputable def tNil : TA := fun _ H Q => Q [] H
noncomputable def tCons (ta : TE) (tr : TA) : TA := fun σ H Q => ta σ H fun x H1 => tr σ H1 fun xs H2 => Q (x :: xs) H2
section
variable {X : Cx} {e : Expr} {es : List Expr} {te : TE} {t : TA} {pos : Pos}
theorem pa_nil : PA X [] tNil := fun _ _ _ _ H Q I h => Calls.spliced_nil ⟨[], H, I, .nil, h⟩
theorem pa_cons (ha : PE X e te) (hr : PA X es t) (hs : starEach (e :: es) X.env = (false, eval e X.env) :: starEach es X.env := by rfl) : PA X (e :: es) (tCons te t) := by
 intro pos pins s σ H Q I h
 rw [hs]
 show wpAny _ _ (spliced ((false, eval e X.env) :: backTo pos (starEach es X.env))) _ _ s
 refine Calls.spliced_cons (thn (ha pins s σ H _ I h) fun u s1 ⟨x, H1, I1, r1, q1⟩ => ?_)
 exact thn (hr pos pins s1 σ H1 _ I1 q1) fun us s2 ⟨xs, H2, I2, r2, q2⟩ => ⟨x :: xs, H2, I2, .cons r1 r2, q2⟩
noncomputable def tTup (t : TA) : TE := fun σ H Q => t σ H fun xs H1 => xs.length ≤ sizeLine ∧ ∀ p, H1 p = none → Q (.ref p) (upd H1 p (.tup xs))
noncomputable def tLst (t : TA) : TE := fun σ H Q => t σ H fun xs H1 => xs.length ≤ sizeLine ∧ ∀ p, H1 p = none → Q (.ref p) (upd H1 p (.lst xs))
theorem pe_tup {x1} (h : PA X es t) : PE X (.Tuple es x1 pos) (tTup t) := by
 intro pins s σ H Q I hq
 refine wpAny_Tuple_spliced (thn (h pos pins s σ H _ I hq) fun us s1 ⟨xs, H1, I1, r, z, q⟩ => ⟨by rw [← r.length]; exact z, ?_⟩)
 have hf : H1 s1.heap.objs.size = none := I1.hok.fresh (Nat.le_refl _)
 refine ⟨.ref s1.heap.objs.size, upd H1 s1.heap.objs.size (.tup xs), I1.laid (t' := s1.toks) (fun b u e => Heap.get?_push_of_some _ e) (Nat.le_refl _) ?_, rfl, q _ hf⟩
 exact ⟨z, us, r, ⟨_, Heap.get?_push_size _ rfl, rfl, rfl, _, rfl⟩⟩
theorem pe_lst (h : PA X es t) : PE X (.List es pos) (tLst t) := by
 intro pins s σ H Q I hq
 refine wpAny_List_spliced (thn (h pos pins s σ H _ I hq) fun us s1 ⟨xs, H1, I1, r, z, q⟩ => ⟨by rw [← r.length]; exact z, ?_⟩)
 have hf : H1 s1.heap.objs.size = none := I1.hok.fresh (Nat.le_refl _)
 refine ⟨.ref s1.heap.objs.size, upd H1 s1.heap.objs.size (.lst xs), I1.laid (t' := s1.toks) (fun b u e => Heap.get?_push_of_some _ e) (Nat.le_refl _) ?_, rfl, q _ hf⟩
 exact ⟨z, us, 0, r, Heap.get?_push_size _ rfl⟩
end
noncomputable abbrev Sp := List V → Hp → VK → XK → Prop
noncomputable abbrev CXT := List Env → Hp → Shared → XK → Value → Shared → Prop
structure Env0 (P : Program) (w : World) (K : PySem.W.Frag) (mg : Str → Option Value) (base : Heap) (A : Around) (outer : List Env) (s : Shared) (H : Hp) : Prop where
 frames : A.frames = some outer
 mod : Mod K mg base
 bs : ∀ b o, base.get? b = some o → s.heap.get? b = some o ∧ H b = none
 bsz : base.objs.size ≤ s.heap.objs.size
 funs : s.heap.FunFrames base outer
 frf : ∀ b ∈ frs outer, H b = none
 hok : HOk P w H s.heap
 bare : AllBare s.gens
noncomputable def CE (outer : List Env) (P : Program) (w : World) (H : Hp) (s : Shared) (Q : VK) (u : Value) (s' : Shared) : Prop :=
 ∃ v H', s'.os = s.os ∧ AllBare s'.gens ∧ Un (frs outer) [] H H' s.heap s'.heap ∧ HOk P w H' s'.heap ∧ RelV v u ∧ Q v H'
noncomputable def CR (CX : CXT) (outer : List Env) (P : Program) (w : World) (H : Hp) (s : Shared) (Q : VK) (E : XK) (r : Result) (s' : Shared) : Prop :=
 match r with
 | .ok (.ret u) => CE outer P w H s Q u s'
 | .ok _ => False
 | .error e => CX outer H s E e s'
structure FnOk (P : Program) (w : World) (K : PySem.W.Frag) (mg : Str → Option Value) (base : Heap) (CX : CXT) (k : Nat) (f : Addr) (fd : FuncData) (ps : List Str) (sp : Sp) : Prop where
 len : ∀ vs H Q E, sp vs H Q E → vs.length = ps.length
 run : ∀ (A : Around) (outer : List Env) (s : Shared) (H : Hp) (args : Args) (us : List Value) (vs : List V) (Q : VK) (E : XK), Room k A → Env0 P w K mg base A outer s H → BindsTo s fd args (ps.zip us) → Vals vs us → sp vs H Q E →
   codeAny (model P w) A (.call (.ref f) args) (CR CX outer P w H s Q E) s
theorem FnOk.mono {P : Program} {w : World} {K : PySem.W.Frag} {mg : Str → Option Value} {base : Heap} {CX : CXT} {j k : Nat} {f : Addr} {fd : FuncData} {ps : List Str} {sp : Sp} (F : FnOk P w K mg base CX j f fd ps sp) (h : j ≤ k) :
   FnOk P w K mg base CX k f fd ps sp := ⟨F.len, fun A outer s H args us vs Q E hr => F.run A outer s H args us vs Q E (hr.mono h)⟩
section
variable {X : Cx} {pins : List (Addr × Obj)} {σ : St} {H : Hp} {s s' : Shared}
theorem Inv.env0 (I : Inv X pins σ H s) : Env0 X.prog X.w X.K X.mg X.base X.A X.stack s H :=
 ⟨I.ok.frames, I.ok.mod, I.bs, Nat.le_trans I.ok.bsz I.sz, I.stack, I.stkFree, I.hok, I.bare⟩
theorem Inv.after {Q : VK} {u : Value} (I : Inv X pins σ H s) (h : CE X.stack X.prog X.w H s Q u s') : EP X pins σ Q u s' := by
 obtain ⟨v, H', os, bare, un, hok, r, q⟩ := h
 obtain ⟨hh, g, d, t, os'⟩ := s'
 obtain rfl : os' = s.os := os
 exact ⟨v, H', I.call (h' := hh) (g' := g) (d' := d) (t' := t) (ch := []) un hok bare (fun b z => absurd z (by simp)), r, q⟩
end
noncomputable def tCall (sp : Sp) (dvs : List V) (E : XK) (t : TA) : TE := fun σ H Q => t σ H fun vs H1 => sp (vs ++ dvs) H1 Q E
noncomputable def Binds (K : PySem.W.Frag) (fd : FuncData) (ps : List Str) (ds : List Value) : Prop :=
 ∀ (s : Shared) (us : List Value), K.In s.heap → (us ++ ds).length = ps.length → BindsTo s fd ⟨us, []⟩ (ps.zip (us ++ ds))
theorem Binds.all {K : PySem.W.Frag} {fd : FuncData} {ps : List Str} (h : ∀ us : List Value, us.length = ps.length → bindArgs fd ⟨us, []⟩ = pure (ps.zip us)) : Binds K fd ps [] := fun s us _ hl => by
 rw [List.append_nil] at hl ⊢
 exact .of_eq (h us hl)
noncomputable def Passes (CX : CXT) (X : Cx) (E : XK) : Prop := ∀ (pins : List (Addr × Obj)) (σ : St) (H : Hp) (s : Shared) (e : Value) (s' : Shared), Inv X pins σ H s → CX X.stack H s E e s' → X.xe e s'
section
variable {X : Cx} {CX : CXT} {k : Nat} {f C : Addr} {fd : FuncData} {ps : List Str} {sp : Sp} {dvs : List V} {ds : List Value} {E : XK} {x m : Str} {p pos apos : Pos} {e o : Expr} {es : List Expr} {ta : TE} {t : TA}
theorem run_fn {pins : List (Addr × Obj)} {σ : St} {H : Hp} {s : Shared} {Q : VK} {us : List Value} {vs : List V} (F : FnOk X.prog X.w X.K X.mg X.base CX k f fd ps sp) (hr : Room k X.A) (hb : Binds X.K fd ps ds) (hd : Vals dvs ds) (hx : Passes CX X E)
   (I : Inv X pins σ H s) (r : Vals vs us) (h : sp (vs ++ dvs) H Q E) : wpAny (model X.prog X.w) X.A (call (.ref f) us) (EP X pins σ Q) X.xe s := by
 have r2 : Vals (vs ++ dvs) (us ++ ds) := r.append hd
 have hl : (us ++ ds).length = ps.length := by rw [← r2.length]; exact F.len _ _ _ _ h
 refine wpAny_call (codeAny_mono (F.run X.A X.stack s H ⟨us, []⟩ (us ++ ds) (vs ++ dvs) Q E hr I.env0 (hb s us I.kIn hl) r2 h) fun r s' hq => ?_)
 cases r with
 | error e => exact hx pins σ H s e s' I hq
 | ok fl =>
   cases fl with
   | ret u => exact I.after hq
   | next => exact False.elim hq
   | brk => exact False.elim hq
   | cont => exact False.elim hq
theorem pe_call (F : FnOk X.prog X.w X.K X.mg X.base CX k f fd ps sp) (hr : Room k X.A) (hg : Gl X x) (hm : X.mg x = some (.ref f)) (hk : PySem.W.keepIn X.K (.ref f) = true) (hb : Binds X.K fd ps ds) (hd : Vals dvs ds) (hx : Passes CX X E)
   (ha : PA X (e :: es) t) (hdb : (x == ("__debug__" : Str)) = false := by decide) (he : starEach (e :: es) X.env = (false, eval e X.env) :: starEach es X.env := by rfl) (hpl : (backTo pos (starEach es X.env)).any (·.1) = false := by rfl) :
   PE X (.Call (.Name x p) (e :: es) [] pos) (tCall sp dvs E t) := by
 intro pins s σ H Q I h
 refine wpAny_Call_Name_kw (ld_glob I hg hm ?_ hdb)
 refine PySem.W.callWith_K (h₀ := X.base) I.ok.mod.kin hk (thn (ha pos pins s σ H _ I h) fun us s1 ⟨vs, H1, I1, r, q⟩ => ⟨I1.kIn, ?_⟩) he hpl
 exact run_fn F hr hb hd hx I1 r q
end
section
variable {X : Cx} {CX : CXT} {k : Nat} {f C : Addr} {fd : FuncData} {ps ks : List Str} {sp : Sp} {E : XK} {x m : Str} {p pos apos kpos : Pos} {e o : Expr} {es : List Expr} {kws : List Keyword} {te ta : TE} {t tk : TA} {nm : Option Str}
variable {g : List Value → List Value → List Value} {gV : List V → List V → List V}
end
structure FnScope (N P : List Str) (sc : Scope) : Prop where
 kind : sc.kind = .function
 co : sc.isCoroutine = false
 gen : sc.isGenerator = false
 nd : N.Nodup
 pre : N.take P.length = P
 par : ∀ x ∈ P, sc.names.lookup x = some .local ∨ sc.names.lookup x = some .cell
 nofree : ∀ y ∈ sc.names, y.2 ≠ .free
theorem bindL_out {kindOf : Str → Option NameKind} {x : Str} : ∀ {binds : List (Str × Value)} {m : Str → Option Value}, (∀ v, (x, v) ∉ binds) → bindL kindOf binds m x = m x
 | [], _, _ => rfl
 | (n, v) :: r, m, h => by
   unfold bindL
   rw [bindL_out fun w hw => h w (List.mem_cons_of_mem _ hw)]
   split
   · have : x ≠ n := by rintro rfl; exact h v List.mem_cons_self
     simp [this]
   · rfl
theorem bindC_out {kindOf : Str → Option NameKind} {x : Str} : ∀ {binds : List (Str × Value)} {m : Str → Option Value}, (∀ v, (x, v) ∉ binds) → bindC kindOf binds m x = m x
 | [], _, _ => rfl
 | (n, v) :: r, m, h => by
   unfold bindC
   rw [bindC_out fun w hw => h w (List.mem_cons_of_mem _ hw)]
   split
   · rfl
   · have : x ≠ n := by rintro rfl; exact h v List.mem_cons_self
     simp [this]
theorem bindL_get {kindOf : Str → Option NameKind} {x : Str} {v : Value} : ∀ {P : List Str} {vs : List Value} {i : Nat} {m : Str → Option Value}, P.Nodup → P[i]? = some x → vs[i]? = some v → kindOf x = some .local →
   bindL kindOf (P.zip vs) m x = some v
 | [], _, _, _, _, h, _, _ => by simp at h
 | _ :: _, [], _, _, _, _, h, _ => by simp at h
 | p :: P, w :: vs, 0, m, nd, h1, h2, hk => by
   simp at h1 h2; subst h1; subst h2
   show bindL kindOf ((p, w) :: P.zip vs) m p = _
   unfold bindL
   rw [bindL_out fun v hv => (List.nodup_cons.mp nd).1 (List.of_mem_zip hv).1, if_pos hk]
   simp
 | p :: P, w :: vs, i + 1, m, nd, h1, h2, hk => by
   show bindL kindOf ((p, w) :: P.zip vs) m x = _
   unfold bindL
   exact bindL_get (i := i) (List.nodup_cons.mp nd).2 (by simpa using h1) (by simpa using h2) hk
theorem bindC_get {kindOf : Str → Option NameKind} {x : Str} {v : Value} : ∀ {P : List Str} {vs : List Value} {i : Nat} {m : Str → Option Value}, P.Nodup → P[i]? = some x → vs[i]? = some v → kindOf x ≠ some .local →
   bindC kindOf (P.zip vs) m x = some v
 | [], _, _, _, _, h, _, _ => by simp at h
 | _ :: _, [], _, _, _, _, h, _ => by simp at h
 | p :: P, w :: vs, 0, m, nd, h1, h2, hk => by
   simp at h1 h2; subst h1; subst h2
   show bindC kindOf ((p, w) :: P.zip vs) m p = _
   unfold bindC
   rw [bindC_out fun v hv => (List.nodup_cons.mp nd).1 (List.of_mem_zip hv).1, if_neg hk]
   simp
 | p :: P, w :: vs, i + 1, m, nd, h1, h2, hk => by
   show bindC kindOf ((p, w) :: P.zip vs) m x = _
   unfold bindC
   exact bindC_get (i := i) (List.nodup_cons.mp nd).2 (by simpa using h1) (by simpa using h2) hk
noncomputable def start (N : List Str) (vs : List V) : St := vs.map some ++ List.replicate (N.length - vs.length) none
noncomputable def cxOf (CX : CXT) (P : Program) (w : World) (K : PySem.W.Frag) (mg : Str → Option Value) (base : Heap) (N : List Str) (qual : Str) (scope : Scope) (f : Addr) (cd : Value) (A : Around) (outer : List Env) (s : Shared) (H : Hp) (E : XK) : Cx where
 prog := P
 w := w
 K := K
 mg := mg
 base := base
 A := A.deeper (envOfC qual scope s.heap.objs.size f cd)
 N := N
 s₀ := s
 H₀ := H
 env := envOfC qual scope s.heap.objs.size f cd
 outer := outer
 stack := envOfC qual scope s.heap.objs.size f cd :: outer
 ex := []
 calm := true
 fn := fun _ => true
 pn := []
 xe := fun e s' => wpAny (model P w) (A.deeper (envOfC qual scope s.heap.objs.size f cd)) (leaving (envOfC qual scope s.heap.objs.size f cd) e) (fun _ s'' => CX outer H s E e s'') (fun e' s'' => CX outer H s E e' s'') s'
theorem cell_has {sc : Scope} {n : Nat} {x : Str} (h : sc.names.lookup x = some .cell) : ∃ c, (cellsFrom n sc.names []).lookup x = some c := by
 have q := PySem.W.cellsFrom_some sc.names n [] (.inl h)
 exact Option.isSome_iff_exists.mp q
theorem inv_start {CX : CXT} {P : Program} {w : World} {K : PySem.W.Frag} {mg : Str → Option Value} {base : Heap} {N ps : List Str} {qual : Str} {scope : Scope} {f : Addr} {cd : Value} {A : Around} {outer : List Env} {s s1 : Shared} {H : Hp} {E : XK} {us : List Value} {vs : List V}
   (S : FnScope N ps scope) (hd : A.handled = none) (e0 : Env0 P w K mg base A outer s H) (hl : vs.length = ps.length) (r : Vals vs us)
   (x : InCallC s s.heap.objs.size (bindL (envOfC qual scope s.heap.objs.size f cd).kindOf (ps.zip us) fun _ => none) (cellsFrom (s.heap.objs.size + 1) scope.names []) (bindC (envOfC qual scope s.heap.objs.size f cd).kindOf (ps.zip us) fun _ => none) s1) :
   Inv (cxOf CX P w K mg base N qual scope f cd A outer s H E) [] (start N vs) H s1 := by
 have hpl : ps.length ≤ N.length := by have := congrArg List.length S.pre; rw [List.length_take] at this; lia
 obtain ⟨h1, tk, rfl, hk⟩ := x.done
 have noA : ∀ b : Addr, b ∉ (cxOf CX P w K mg base N qual scope f cd A outer s H E).ex := fun b z => absurd (show b ∈ ([] : List Addr) from z) (by simp)
 refine ⟨⟨e0.mod, S.kind, rfl, rfl, Nat.le_refl _, fun y z c h1 h2 => ?_, fun y hy => ?_, fun y c _ h => ?_, fun _ => hd, Around.frames_deeper e0.frames, .inr ⟨rfl, rfl⟩, fun b z => absurd z (noA b), e0.bs, e0.bsz, fun b _ _ => noA b, fun b z => absurd z (noA b), e0.funs, e0.frf⟩,
   rfl, e0.bare, Un.kept hk, ⟨_, x.toInCall.ns, fun i y v h1 h2 h3 => ?_⟩, fun y c h => ⟨_, x.cell y c h⟩, e0.hok.fresh (Nat.le_refl _), fun y c h => ?_, fun p hp => absurd (show p ∈ ([] : List (Addr × Obj)) from hp) (by simp), e0.hok.kept hk, ?_⟩
 · exact name_of_addr x.apart (PySem.mem_of_lookup h1) (PySem.mem_of_lookup h2)
 · have hy : scope.names.lookup y = some .cell ∨ scope.names.lookup y = some .free := hy
   rcases hy with hy | hy
   · exact cell_has hy
   · exact absurd rfl (S.nofree _ (PySem.mem_of_lookup hy))
 · exact Nat.le_of_lt (x.above y c (PySem.mem_of_lookup h))
 · have hi : i < vs.length := by
     unfold start at h2
     by_cases hi : i < vs.length
     · exact hi
     · rw [List.getElem?_append_right (by simpa using hi)] at h2
       rw [List.getElem?_replicate] at h2
       split at h2 <;> cases h2
   have ha : vs[i]? = some v := by
     unfold start at h2
     rw [List.getElem?_append_left (by simpa using hi), List.getElem?_map] at h2
     cases e : vs[i]? with
     | none => rw [e] at h2; cases h2
     | some a => rw [e] at h2; cases h2; rfl
   obtain ⟨u, hu, rv⟩ := r.get ha
   have hp : ps[i]? = some y := by
     rw [← S.pre, List.getElem?_take_of_lt (by lia)]; exact h1
   have ndP : ps.Nodup := by rw [← S.pre]; exact S.nd.sublist (List.take_sublist _ _)
   refine ⟨u, rv, ?_⟩
   rcases S.par y (List.mem_of_getElem? hp) with k | k
   · exact .inl ⟨k, bindL_get ndP hp hu k⟩
   · obtain ⟨c, e⟩ := cell_has (n := s.heap.objs.size + 1) k
     refine .inr ⟨.inl k, c, e, ?_⟩
     have q := x.cell y c e
     rw [bindC_get ndP hp hu (by show scope.names.lookup y ≠ _; rw [k]; decide)] at q
     exact q
 · exact e0.hok.fresh (Nat.le_of_lt (x.above y c (PySem.mem_of_lookup h)))
 · unfold start
   show _ = N.length
   rw [List.length_append, List.length_map, List.length_replicate]
   lia
theorem fn_of {CX : CXT} {P : Program} {w : World} {K : PySem.W.Frag} {mg : Str → Option Value} {base : Heap} {k : Nat} {f : Addr} {name qual : Str} {params : Arguments} {body : List Stmt} {scope : Scope} {dV kV doc pm cdv ct oc : Value} {an od : Option Addr}
   {osl : Array (Option Value)} {N ps : List Str} {sp : Sp} (lk : K.lookup f = some ⟨oc, od, .func (PySem.W.fnOf name qual params body scope dV kV doc pm an cdv ct), osl⟩) (hcd : PySem.W.codeIn K cdv qual = true) (S : FnScope N ps scope)
   (len : ∀ vs H Q E, sp vs H Q E → vs.length = ps.length)
   (hbody : ∀ (A : Around) (outer : List Env) (s : Shared) (H : Hp) (vs : List V) (Q : VK) (E : XK), Room k (A.deeper (envOfC qual scope s.heap.objs.size f cdv)) → sp vs H Q E →
     ∃ t, PSs (cxOf CX P w K mg base N qual scope f cdv A outer s H E) body t ∧ t { nx := fun _ H' => Q .non H', rt := Q } (start N vs) H) :
   FnOk P w K mg base CX (k + 1) f (PySem.W.fnOf name qual params body scope dV kV doc pm an cdv ct) ps sp := by
 refine ⟨len, fun A outer s H args us vs Q E hr e0 hb r hsp => ?_⟩
 have hl := len _ _ _ _ hsp
 have KX : K.In s.heap := e0.mod.kin.keeps fun b o e => (e0.bs b o e).1
 have lim : s.heap.NoLimit := e0.mod.nolimit.keeps fun b o e => (e0.bs b o e).1
 have hkind : ∀ y ∈ ps.zip us, scope.names.lookup y.1 = some .local ∨ (scope.names.lookup y.1 = some .cell ∧ ((cellsFrom (s.heap.objs.size + 1) scope.names []).lookup y.1).isSome = true) := fun ⟨n, v⟩ hy => by
   rcases S.par n (List.of_mem_zip hy).1 with q | q
   · exact .inl q
   · exact .inr ⟨q, PySem.W.cellsFrom_some _ _ _ (.inl q)⟩
 refine codeAny_call_function hr.depth (KX _ _ lk) rfl S.co S.gen rfl (PySem.W.codeRec_of KX hcd) (hb _ _ _ _ ?_)
 refine wpAny_newFunctionEnv_cells S.kind hkind fun env he s1 x => ?_
 subst he
 refine ⟨lim.keeps x.toInCall.keep, codeAny_func ?_⟩
 obtain ⟨t, ht, hq⟩ := hbody A outer s H vs Q E (hr.deeper _) hsp
 have I : Inv (cxOf CX P w K mg base N qual scope f cdv A outer s H E) [] (start N vs) H s1 := inv_start S hr.hd e0 hl r x
 refine wpAny_mono (ht [] s1 (start N vs) H _ I hq) (fun fl s' hs => ?_) fun e s' hs => hs
 have fin : ∀ {σ' : St} {H' : Hp} {v : V} {u : Value}, Inv (cxOf CX P w K mg base N qual scope f cdv A outer s H E) [] σ' H' s' → RelV v u → Q v H' → CE outer P w H s Q u s' :=
   fun {σ' H' v u} J rv q => ⟨v, H', J.os, J.bare, J.base, J.hok, rv, q⟩
 cases fl with
 | ret u =>
   obtain ⟨v, σ', H', J, rv, q⟩ := hs
   exact fin J rv q
 | next =>
   obtain ⟨σ', H', J, q⟩ := hs
   exact fin (v := V.non) (u := Value.none) J rfl q
 | brk =>
   obtain ⟨_, _, _, q⟩ := hs
   exact False.elim q
 | cont =>
   obtain ⟨_, _, _, q⟩ := hs
   exact False.elim q
end L2
namespace L2
open PySem PySem.Spec PyProof.Rows
section
variable {X : Cx} {x : Str} {p pos : Pos} {e : Expr} {es : List Expr} {t : TA} {id T : String} {r : List V → Hp → VK → Prop}
noncomputable def tCB (r : List V → Hp → VK → Prop) (t : TA) : TE := fun σ H Q => t σ H fun vs H1 => r vs H1 Q
theorem pe_callB (hc : CallR X (.builtin id) r) (hg : Gl X x) (hm : X.mg x = none) (hv : bootBuiltins x = some (.builtin id)) (ha : PA X (e :: es) t) (hn : x ≠ "__name__" := by decide) (hdb : (x == ("__debug__" : Str)) = false := by decide)
   (he : starEach (e :: es) X.env = (false, eval e X.env) :: starEach es X.env := by rfl) (hpl : (backTo pos (starEach es X.env)).any (·.1) = false := by rfl) : PE X (.Call (.Name x p) (e :: es) [] pos) (tCB r t) := by
 intro pins s σ H Q I h
 refine wpAny_Call_Name_kw (ld_blt I hg hm hv ?_ hn hdb)
 exact PyProof.Rows.callWith_builtin1 (thn (ha pos pins s σ H _ I h) fun us s1 ⟨vs, H1, I1, r1, q1⟩ => hc pins s1 σ H1 vs us Q I1 r1 q1) he hpl
theorem pe_callTy (hc : CallR X (.type T) r) (hg : Gl X x) (hm : X.mg x = none) (hv : bootBuiltins x = some (.type T)) (ha : PA X (e :: es) t) (hn : x ≠ "__name__" := by decide) (hdb : (x == ("__debug__" : Str)) = false := by decide)
   (he : starEach (e :: es) X.env = (false, eval e X.env) :: starEach es X.env := by rfl) (hpl : (backTo pos (starEach es X.env)).any (·.1) = false := by rfl) : PE X (.Call (.Name x p) (e :: es) [] pos) (tCB r t) := by
 intro pins s σ H Q I h
 refine wpAny_Call_Name_kw (ld_blt I hg hm hv ?_ hn hdb)
 exact PyProof.Rows.callWith_type1 (thn (ha pos pins s σ H _ I h) fun us s1 ⟨vs, H1, I1, r1, q1⟩ => hc pins s1 σ H1 vs us Q I1 r1 q1) he hpl
end
end L2
namespace HT
open PySem PyProof.Rows
section
open PySem.SeqAt
open PySem.AutoSeq1 (wpAny_loadPart')
open PySem.MeetsSeq PySem.MeetsSeq2 PySem.MeetsSeq3
end
section
variable {prog : Program} {w : World} {A : Around} {E : Value → Shared → Prop} {s : Shared}
theorem cat_tup {t b : Addr} {vs ws : List Value} {Q : Value → Shared → Prop} (ht : IsTup s.heap t vs.toArray) (hb : IsTup s.heap b ws.toArray) (hv : vs ≠ [])
   (h1 : ws = [] → Q (.ref t) s) (h2 : ws ≠ [] → Q (.ref s.heap.objs.size) { s with heap := s.heap.push { cls := .type "tuple", data := .seq (vs ++ ws).toArray } })
   (hsz : vs.length + ws.length ≤ sizeLine) : wpAny (model prog w) A (binaryOp .Add (.ref t) (.ref b)) Q E s := by
 obtain ⟨⟨cls, dd, data, sl⟩, ho, hc, n, hd⟩ := id ht
 obtain ⟨⟨cls2, dd2, data2, sl2⟩, ho2, hc2, n2, hd2⟩ := id hb
 simp only at hc hd hc2 hd2
 subst hc hd hc2 hd2
 have e : vs.toArray ++ ws.toArray = (vs ++ ws).toArray := by simp
 by_cases hw : ws = []
 · exact concat_meets ⟨_, ho, rfl⟩ ⟨_, ho2, rfl⟩ noFill_tuple_add seq_tuple_add PySem.F.slot_tuple_add PySem.F.entry_tuple_add (PySem.F.args_tuple_add_2 _ _)
     (tuple_addW1 t b vs.toArray ws.toArray n n2 dd dd2 sl sl2 (by simpa using hv) (by simp [hw])) ⟨ho, ho2, h1 hw⟩
 · refine concat_meets ⟨_, ho, rfl⟩ ⟨_, ho2, rfl⟩ noFill_tuple_add seq_tuple_add PySem.F.slot_tuple_add PySem.F.entry_tuple_add (PySem.F.args_tuple_add_2 _ _)
     (tuple_addW2 t b vs.toArray ws.toArray n n2 dd dd2 sl sl2 (by simpa using hv) (by simpa using hw) (by rw [List.size_toArray, List.size_toArray]; exact hsz)) ⟨ho, ho2, ?_⟩
   rw [e]
   exact h2 hw
noncomputable def sIx (n d : Nat) : Option Int → Nat
 | none => d
 | some v => if v < 0 then (v + (n : Int)).toNat else min v.toNat n
theorem sIx_none (n d : Nat) : sIx n d none = d := rfl
theorem sIx_nat (n d k : Nat) : sIx n d (some (k : Int)) = min k n := by
 show (if (k : Int) < 0 then ((k : Int) + (n : Int)).toNat else min (k : Int).toNat n) = min k n
 rw [if_neg (by lia), Int.toNat_natCast]
theorem sIx_le (n d : Nat) (hd : d ≤ n) (o : Option Int) : sIx n d o ≤ n := by
 cases o with
 | none => exact hd
 | some v =>
   show (if v < 0 then (v + (n : Int)).toNat else min v.toNat n) ≤ n
   by_cases hv : v < 0
   · rw [if_pos hv]; lia
   · rw [if_neg hv]; exact Nat.min_le_right _ _
theorem clip_eq (v : Int) (n d : Nat) : (if v < 0 then max (v + (n : Int)) 0 else min v (n : Int)) = ((sIx n d (some v) : Nat) : Int) := by
 show (if v < 0 then max (v + (n : Int)) 0 else min v (n : Int)) = (((if v < 0 then (v + (n : Int)).toNat else min v.toNat n) : Nat) : Int)
 by_cases hv : v < 0
 · simp only [if_pos hv]; lia
 · simp only [if_neg hv]; lia
theorem adjust_gen (lo hi : Option Int) (n : Nat) : Builtin.Slice.sliceAdjust lo hi 1 (n : Int) = (((sIx n 0 lo : Nat) : Int), ((sIx n n hi : Nat) : Int)) := by
 have h1 : ¬ ((1 : Int) < 0) := by lia
 unfold Builtin.Slice.sliceAdjust
 simp only [h1, if_false]
 refine Prod.ext ?_ ?_
 · cases lo with
   | none => rfl
   | some v => exact clip_eq v n 0
 · cases hi with
   | none => rfl
   | some v => exact clip_eq v n n
theorem places_gen (i j : Nat) : Builtin.Slice.slicePlaces (i : Int) (j : Int) 1 = j - i := by
 unfold Builtin.Slice.slicePlaces
 have h1 : (1 : Int) > 0 := by lia
 simp only [h1, if_true, Int.ediv_one]
 split <;> lia
theorem slicePart_ {v : Value} {o : Option Int} {Q : Option Int → Shared → Prop} (p : IsPart v o) (h : Q o s) : wpAny (model prog w) A (Builtin.Slice.slicePartIndex v) Q E s := by
 cases p with
 | none => exact slicePart_none h
 | int i t => exact slicePart_int h
theorem sliceApplied_gen {sl : Addr} {vl vu : Value} {lo hi : Option Int} {n : Nat} {Q : Int × Int × Nat → Shared → Prop} (hs : s.heap.IsSliceOf sl vl vu .none) (pl : IsPart vl lo) (pu : IsPart vu hi)
   (h : Q (((sIx n 0 lo : Nat) : Int), 1, sIx n n hi - sIx n 0 lo) s) : wpAny (model prog w) A (Builtin.Slice.sliceApplied (.ref sl) (pure (n : Int))) Q E s := by
 obtain ⟨os, hos, hcs, hds⟩ := id hs
 unfold Builtin.Slice.sliceApplied Builtin.Slice.sliceFields
 refine wpAny_bind (wpAny_bind (wpAny_field hos hds (x := vl) rfl (wpAny_bind (wpAny_field hos hds (x := vu) rfl (wpAny_bind (wpAny_field hos hds (x := .none) rfl (wpAny_pure ?_)))))))
 refine wpAny_bind (slicePart_none ?_)
 show wpAny _ _ (if ((1 : Int) == 0) = true then _ else _) _ _ s
 rw [if_neg (by decide)]
 refine wpAny_bind (slicePart_ pl (wpAny_bind (slicePart_ pu (wpAny_bind (wpAny_pure ?_)))))
 show wpAny _ _ (match Builtin.Slice.sliceAdjust lo hi 1 (n : Int) with | (lo, hi) => pure (lo, (1 : Int), Builtin.Slice.slicePlaces lo hi 1)) _ _ s
 rw [adjust_gen lo hi n]
 show wpAny _ _ (pure (((sIx n 0 lo : Nat) : Int), (1 : Int), Builtin.Slice.slicePlaces ((sIx n 0 lo : Nat) : Int) ((sIx n n hi : Nat) : Int) 1)) _ _ s
 rw [places_gen]
 exact wpAny_pure h
theorem pick_gen (xs : Array Value) (i k : Nat) : ((List.range k).filterMap fun (m : Nat) => xs[((i : Int) + (m : Int) * 1).toNat]?).toArray = ((xs.toList.drop i).take k).toArray := by
 have e : (fun (m : Nat) => xs[((i : Int) + (m : Int) * 1).toNat]?) = fun m => xs[i + m]? := by
   funext m
   have : ((i : Int) + (m : Int) * 1).toNat = i + m := by lia
   rw [this]
 rw [e]
 have := pick_run xs i k
 rw [List.filterMap_map] at this
 have e2 : ((fun x => xs[x]?) ∘ fun x => i + x) = fun m => xs[i + m]? := rfl
 rw [e2] at this
 rw [this]
theorem getItem_tuple_cut {t sl : Addr} {items : Array Value} {vl vu : Value} {lo hi : Option Int} {Q : Value → Shared → Prop} (ht : IsTup s.heap t items) (hs : s.heap.IsSliceOf sl vl vu .none) (pl : IsPart vl lo) (pu : IsPart vu hi)
   (hw : ¬ (sIx items.size 0 lo = 0 ∧ sIx items.size items.size hi = items.size))
   (h : Q (.ref s.heap.objs.size) { s with heap := s.heap.push { cls := .type "tuple", data := .seq ((items.toList.drop (sIx items.size 0 lo)).take (sIx items.size items.size hi - sIx items.size 0 lo)).toArray } })
   (hsz : items.size ≤ sizeLine) : wpAny (model prog w) A (getItem (.ref t) (.ref sl)) Q E s := by
 have htake : sizeOk (.seq ((items.toList.drop (sIx items.size 0 lo)).take (sIx items.size items.size hi - sIx items.size 0 lo)).toArray) := by
   show ((items.toList.drop (sIx items.size 0 lo)).take (sIx items.size items.size hi - sIx items.size 0 lo)).toArray.size ≤ sizeLine
   rw [List.size_toArray, List.length_take, List.length_drop, Array.length_toList]
   lia
 have hj : sIx items.size items.size hi ≤ items.size := sIx_le _ _ (Nat.le_refl _) hi
 obtain ⟨os, hos, hcs, hds⟩ := id hs
 have hTs : s.TypeIs (.ref sl) "slice" := ⟨os, hos, hcs⟩
 unfold getItem
 try with_reducible refine wpAny_holding ?_
 first | refine wpAny_bind (wpAny_pure ?_) | skip
 refine wpAny_bind (wpAny_sequenceKey ht.typeIs (by decide) ?_)
 refine wpAny_bind (wpAny_callSpecial?_slot (name := Str.ofString "__getitem__") ht.typeIs PyProof.Rows.slot_tuple_getitem
   (wpAny_call_entry PyProof.Rows.slot_tuple_getitem ht.typeIs entry_tuple_getitem ?_ (args_tuple_getitem _ _)))
 show wpAny _ _ (Builtin.Tuple.tupleItemsOf (.ref t) >>= _) _ _ s
 refine wpAny_bind (tupleItemsOf_ ht ?_)
 refine wpAny_bind (wpAny_typeOf hTs ?_)
 rw [if_pos (by decide)]
 refine wpAny_bind (sliceApplied_gen hs pl pu ?_)
 have hno : ¬ ((((sIx items.size 0 lo : Nat) : Int) == 0 && (1 : Int) == 1 && (sIx items.size items.size hi - sIx items.size 0 lo) == items.size) = true) := by
   intro q
   rw [Bool.and_eq_true, Bool.and_eq_true] at q
   have q1 : ((sIx items.size 0 lo : Nat) : Int) = 0 := eq_of_beq q.1.1
   have q2 : sIx items.size items.size hi - sIx items.size 0 lo = items.size := eq_of_beq q.2
   exact hw ⟨by lia, by lia⟩
 show wpAny _ _ (if (((sIx items.size 0 lo : Nat) : Int) == 0 && (1 : Int) == 1 && (sIx items.size items.size hi - sIx items.size 0 lo) == items.size) = true then _ else _) _ _ s
 rw [if_neg hno, pick_gen]
 first
   | exact wpAny_bind (m := Builtin.Tuple.tupleExact _) (wpAny_newObj_type (wpAny_pure ⟨_, rfl, wpAny_pure h⟩) htake)
   | exact wpAny_bind (m := Builtin.Tuple.tupleExact _) (wpAny_newObj_type (wpAny_bind (wpAny_pure (wpAny_pure ⟨_, rfl, wpAny_pure h⟩))) htake)
   | exact wpAny_bind (wpAny_bind (m := Builtin.Tuple.tupleExact _) (wpAny_newObj_type (wpAny_pure (wpAny_pure ⟨_, rfl, wpAny_pure h⟩)) htake))
   | exact wpAny_bind (wpAny_bind (m := Builtin.Tuple.tupleExact _) (wpAny_newObj_type (wpAny_pure ⟨_, rfl, wpAny_pure h⟩) htake))
end
end HT
namespace L2
open PySem PySem.Spec PyProof.Rows
noncomputable abbrev TO := St → Hp → (Option Int → Hp → Prop) → Prop
noncomputable def PO (X : Cx) (e : Option Expr) (t : TO) : Prop :=
 ∀ (pins : List (Addr × Obj)) (s : Shared) (σ : St) (H : Hp) (Q : Option Int → Hp → Prop), Inv X pins σ H s → t σ H Q →
   wpAny (model X.prog X.w) X.A (evalPart e X.env) (fun u s' => ∃ o H', Inv X pins σ H' s' ∧ IsPart u o ∧ Q o H') X.xe s
noncomputable def tNoPart : TO := fun _ H Q => Q none H
noncomputable def tPart (t : TE) : TO := fun σ H Q => t σ H fun x H1 => ∃ i, x = .int i ∧ Q (some i) H1
theorem intsAre_of {ns : List Int} : ∀ {us : List Value}, Vals (ns.map V.int) us → IntsAre us ns := by
 induction ns with
 | nil => intro us r; rw [List.map_nil] at r; cases r; exact .nil
 | cons n ns ih =>
   intro us r
   rw [List.map_cons] at r
   cases r with
   | cons r1 r2 =>
     obtain ⟨t, e⟩ := r1
     subst e
     exact .cons n t (ih r2)
section
variable {X : Cx} {e : Expr} {te : TE} {lo hi : Option Expr} {tl th : TO} {pos p2 : Pos}
theorem po_none : PO X none tNoPart := by
 intro pins s σ H Q I h
 rw [evalPart_none]
 exact wpAny_pure ⟨none, H, I, .none, h⟩
theorem po_some (h : PE X e te) : PO X (some e) (tPart te) := by
 intro pins s σ H Q I hw
 rw [evalPart_some]
 refine thn (h pins s σ H _ I hw) fun u s1 ⟨x, H1, I1, r1, q1⟩ => ?_
 obtain ⟨i, rfl, q⟩ := q1
 obtain ⟨t, rfl⟩ := r1
 exact ⟨some i, H1, I1, .int i t, q⟩
noncomputable def SlR (X : Cx) (r : V → Option Int → Option Int → Hp → VK → Prop) : Prop :=
 ∀ (pins : List (Addr × Obj)) (s : Shared) (σ : St) (H : Hp) (x : V) (v vl vu : Value) (lo hi : Option Int) (sl : Addr) (Q : VK), Inv X pins σ H s → RelV x v → s.heap.IsSliceOf sl vl vu .none → IsPart vl lo → IsPart vu hi → r x lo hi H Q →
   ∃ T id, typeLookup (.type T) "__getitem__" = pure (some (.builtin id)) ∧ s.TypeIs v T ∧ wpAny (model X.prog X.w) X.A (getItem v (.ref sl)) (EP X pins σ Q) X.xe s
theorem SlR.or {r r' : V → Option Int → Option Int → Hp → VK → Prop} (h : SlR X r) (h' : SlR X r') : SlR X (fun x lo hi H Q => r x lo hi H Q ∨ r' x lo hi H Q) := by
 intro pins s σ H x v vl vu lo hi sl Q I rx hs pl pu q
 rcases q with q | q
 · exact h pins s σ H x v vl vu lo hi sl Q I rx hs pl pu q
 · exact h' pins s σ H x v vl vu lo hi sl Q I rx hs pl pu q
noncomputable def tSl (r : V → Option Int → Option Int → Hp → VK → Prop) (te : TE) (tl th : TO) : TE := fun σ H Q => te σ H fun x H1 => tl σ H1 fun l H2 => th σ H2 fun u H3 => r x l u H3 Q
theorem pe_slice {r : V → Option Int → Option Int → Hp → VK → Prop} (hr : SlR X r) (he : PE X e te) (hl : PO X lo tl) (hu : PO X hi th) : PE X (.Subscript e (.Slice lo hi none p2) pos) (tSl r te tl th) := by
 intro pins s σ H Q I h
 refine Subscript_ (thn (he pins s σ H _ I h) fun v s1 ⟨x, H1, I1, r1, q1⟩ => ?_)
 refine wpAny_Slice (thn (hl pins s1 σ H1 _ I1 q1) fun vl s2 ⟨l, H2, I2, pl, q2⟩ => thn (hu pins s2 σ H2 _ I2 q2) fun vu s3 ⟨u, H3, I3, pu, q3⟩ => ?_)
 rw [evalPart_none]
 refine wpAny_pure ?_
 have I4 : Inv X pins σ H3 { s3 with heap := s3.heap.push { cls := .type "slice", data := .fields #[vl, vu, .none] } } := I3.kept (t' := s3.toks) fun b ob q => Heap.get?_push_of_some _ q
 obtain ⟨T, id, hT, ht, hg⟩ := hr pins { s3 with heap := s3.heap.push { cls := .type "slice", data := .fields #[vl, vu, .none] } } σ H3 x v vl vu l u s3.heap.objs.size Q I4 r1 (Heap.IsSliceOf.new ..) pl pu q3
 show wpAny (model X.prog X.w) X.A (subscriptTail e (.Slice lo hi none p2) v (.ref s3.heap.objs.size)) (EP X pins σ Q) X.xe { s3 with heap := s3.heap.push { cls := .type "slice", data := .fields #[vl, vu, .none] } }
 exact tail_any (ops := [.ref s3.heap.objs.size, v]) ht hT hg (by with_unfolding_all rfl)
noncomputable def cutV (xs : List V) (lo hi : Option Int) : List V := (xs.drop (HT.sIx xs.length 0 lo)).take (HT.sIx xs.length xs.length hi - HT.sIx xs.length 0 lo)
theorem cutV_length (xs : List V) (lo hi : Option Int) : (cutV xs lo hi).length ≤ xs.length := by
 unfold cutV
 rw [List.length_take, List.length_drop]
 lia
noncomputable def rSlT (K : PySem.W.Frag) : V → Option Int → Option Int → Hp → VK → Prop := fun x lo hi H Q => ∃ a xs, x = .ref a ∧ SqT K H a xs ∧
 ¬ (HT.sIx xs.length 0 lo = 0 ∧ HT.sIx xs.length xs.length hi = xs.length) ∧ ∀ p, H p = none → Q (.ref p) (upd H p (.tup (cutV xs lo hi)))
theorem sl_tup : SlR X (rSlT X.K) := by
 intro pins s σ H x v vl vu lo hi sl Q I rx hs pl pu h
 obtain ⟨a, xs, rfl, hx, hw, q⟩ := h
 cases rx
 obtain ⟨its, r, ht, hz⟩ := I.tuple hx
 have hlen : its.toArray.size = xs.length := by rw [List.size_toArray]; exact r.length.symm
 refine ⟨"tuple", _, PyProof.Rows.slot_tuple_getitem.lookup, ht.typeIs, ?_⟩
 refine HT.getItem_tuple_cut ht hs pl pu (by rw [hlen]; exact hw) ?_ (by rw [hlen]; exact hz)
 rw [hlen]
 refine ⟨.ref s.heap.objs.size, _, I.laid (t' := s.toks) (o := .tup (cutV xs lo hi)) (fun b ob q => Heap.get?_push_of_some _ q) (Nat.le_refl _) ?_, rfl, q _ (I.hok.fresh (Nat.le_refl _))⟩
 exact ⟨Nat.le_trans (cutV_length xs lo hi) hz, _, (r.drop (HT.sIx xs.length 0 lo)).take (HT.sIx xs.length xs.length hi - HT.sIx xs.length 0 lo), IsTup0.new _ _⟩
noncomputable def rCatT (K : PySem.W.Frag) : R2 := fun x y H Q => ∃ a b xs ys, x = .ref a ∧ y = .ref b ∧ SqT K H a xs ∧ SqT K H b ys ∧ xs ≠ [] ∧ xs.length + ys.length ≤ sizeLine ∧
 (ys = [] → Q (.ref a) H) ∧ (ys ≠ [] → ∀ p, H p = none → Q (.ref p) (upd H p (.tup (xs ++ ys))))
theorem Vals.nil_iff {xs : List V} {us : List Value} (r : Vals xs us) : us = [] ↔ xs = [] := by
 cases r with
 | nil => simp
 | cons _ _ => simp
theorem op_catT : OpR X (binaryOp .Add) (rCatT X.K) := by
 intro pins s σ H x y v u Q I rx ry h
 obtain ⟨a, b, xs, ys, rfl, rfl, ha, hb, hx, hz, q1, q2⟩ := h
 cases rx
 cases ry
 obtain ⟨its, r1, p1, _⟩ := I.tuple ha
 obtain ⟨its2, r2, p2, _⟩ := I.tuple hb
 refine HT.cat_tup p1 p2 (fun z => hx (r1.nil_iff.mp z)) (fun z => ⟨.ref a, H, I, rfl, q1 (r2.nil_iff.mp z)⟩) (fun z => ?_) (by rw [← r1.length, ← r2.length]; exact hz)
 refine ⟨.ref s.heap.objs.size, _, I.laid (t' := s.toks) (o := .tup (xs ++ ys)) (fun b ob q => Heap.get?_push_of_some _ q) (Nat.le_refl _) ?_, rfl, q2 (fun w => z (r2.nil_iff.mpr w)) _ (I.hok.fresh (Nat.le_refl _))⟩
 exact ⟨by rw [List.length_append]; exact hz, _, r1.append r2, IsTup0.new _ _⟩
end
end L2
namespace L2
open PySem PySem.Spec PyProof.Rows
noncomputable def ixN (n : Nat) (i : Int) : Option Nat := if 0 ≤ i then (if i < n then some i.toNat else none) else if -(n : Int) ≤ i then some (i + n).toNat else none
noncomputable def atI {α : Type} (xs : List α) (i : Int) : Option α := (ixN xs.length i).bind fun j => xs[j]?
theorem ixN_seq {n : Nat} {i : Int} {j : Nat} (h : ixN n i = some j) : seqIndex? i n = some j ∧ j < n ∧ -(n : Int) ≤ i ∧ i < n := by
 unfold ixN at h
 by_cases h0 : 0 ≤ i
 · rw [if_pos h0] at h
   by_cases h1 : i < n
   · rw [if_pos h1] at h
     have e : i.toNat = j := Option.some.inj h
     exact ⟨by rw [seqIndex_of h0 h1, e], by lia, by lia, h1⟩
   · rw [if_neg h1] at h; cases h
 · rw [if_neg h0] at h
   by_cases h1 : -(n : Int) ≤ i
   · rw [if_pos h1] at h
     have e : (i + n).toNat = j := Option.some.inj h
     exact ⟨by rw [seqIndex_neg (by lia) h1, e], by lia, h1, by lia⟩
   · rw [if_neg h1] at h; cases h
theorem atI_get {α : Type} {xs : List α} {i : Int} {v : α} (h : atI xs i = some v) : ∃ j, seqIndex? i xs.length = some j ∧ xs[j]? = some v ∧ j < xs.length ∧ -(xs.length : Int) ≤ i ∧ i < xs.length := by
 unfold atI at h
 cases e : ixN xs.length i with
 | none => rw [e] at h; cases h
 | some j =>
   rw [e] at h
   obtain ⟨h1, h2, h3, h4⟩ := ixN_seq e
   exact ⟨j, h1, h, h2, h3, h4⟩
theorem atI_nat {α : Type} {xs : List α} {j : Nat} {v : α} (h : xs[j]? = some v) : atI xs (j : Int) = some v := by
 have hj : j < xs.length := (List.getElem?_eq_some_iff.mp h).1
 have e : ixN xs.length (j : Int) = some j := by
   unfold ixN
   rw [if_pos (by lia), if_pos (by lia)]; simp
 unfold atI; rw [e]; exact h
noncomputable def PlainIx (b : Expr) : Prop := ∀ o i, subscripted b false o i = operate [o, i] (getItem o i)
noncomputable def IxR (X : Cx) (r : R2) : Prop :=
 ∀ (value slice : Expr) (pins : List (Addr × Obj)) (s : Shared) (σ : St) (H : Hp) (x y : V) (v u : Value) (Q : VK), Inv X pins σ H s → RelV x v → RelV y u → r x y H Q →
   subscripted slice false v u = operate [v, u] (getItem v u) → wpAny (model X.prog X.w) X.A (subscriptTail value slice v u) (EP X pins σ Q) X.xe s
noncomputable def MtR (X : Cx) (id : String) (r : V → List V → Hp → VK → Prop) : Prop :=
 ∀ (pins : List (Addr × Obj)) (s : Shared) (σ : St) (H : Hp) (x : V) (xs : List V) (v : Value) (us : List Value) (Q : VK), Inv X pins σ H s → RelV x v → Vals xs us → r x xs H Q →
   wpAny (model X.prog X.w) X.A (call (.builtin id) (v :: us)) (EP X pins σ Q) X.xe s
section
variable {X : Cx} {a b : Expr} {ta tb : TE} {pos : Pos}
theorem pe_ix {r : R2} (hr : IxR X r) (ha : PE X a ta) (hb : PE X b tb) (hs : PlainIx b) : PE X (.Subscript a b pos) (tOp r ta tb) := by
 intro pins s σ H Q I h
 exact Subscript_ (binT ha hb I h fun v u s2 x y H2 I2 rx ry q => hr a b pins s2 σ H2 x y v u Q I2 rx ry q (hs _ _))
noncomputable def rIxL (K : PySem.W.Frag) : R2 := fun x y H Q => ∃ p xs i v, x = .ref p ∧ y = .int i ∧ SqL K H p xs ∧ atI xs i = some v ∧ Q v H
noncomputable def rIxT (K : PySem.W.Frag) : R2 := fun x y H Q => ∃ p xs i v, x = .ref p ∧ y = .int i ∧ SqT K H p xs ∧ atI xs i = some v ∧ Q v H
noncomputable def rIxS : R2 := fun x y H Q => ∃ z i c, x = .str z ∧ y = .int i ∧ z.length ≤ sizeLine ∧ atI z.cps.toList i = some c ∧ Q (.str ⟨#[c]⟩) H
theorem ix_list : IxR X (rIxL X.K) := by
 intro value slice pins s σ H x y v u Q I rx ry h hs
 obtain ⟨p, xs, i, z, rfl, rfl, hq, he, q⟩ := h
 cases rx
 obtain ⟨t, rfl⟩ := ry
 obtain ⟨its, r, pl, hz⟩ := I.list hq
 obtain ⟨j, h1, h2, h3, h4, h5⟩ := atI_get he
 obtain ⟨w, ew, rw'⟩ := r.get h2
 have hl := r.length
 have hn := line63
 have fin : EP X pins σ Q w s := ⟨z, H, I, rw', q⟩
 by_cases h0 : 0 ≤ i
 · have hj : i.toNat = j := by
     rw [seqIndex_of h0 h5] at h1
     exact Option.some.inj h1
   exact item_listR pl.isList h0 (by lia) (by rw [hj]; simpa using ew) fin hs
 · have hj : (i + (its.toArray.size : Int)).toNat = j := by
     rw [seqIndex_neg (by lia) h4] at h1
     rw [List.size_toArray, ← hl]
     exact Option.some.inj h1
   exact subscriptTail_builtinR (x := w) pl.isList.typeIs slot_list_getitem.lookup
     (wpAny_getItem_list_neg (Q := fun r s' => r = w ∧ EP X pins σ Q r s') pl.isList (by lia) (by rw [List.size_toArray] <;> lia) (by lia) (by rw [hj]; simpa using ew) ⟨rfl, fin⟩) hs
theorem ix_tup : IxR X (rIxT X.K) := by
 intro value slice pins s σ H x y v u Q I rx ry h hs
 obtain ⟨p, xs, i, z, rfl, rfl, hq, he, q⟩ := h
 cases rx
 obtain ⟨t, rfl⟩ := ry
 obtain ⟨its, r, pl, hz⟩ := I.tuple hq
 obtain ⟨j, h1, h2, h3, h4, h5⟩ := atI_get he
 obtain ⟨w, ew, rw'⟩ := r.get h2
 have hl := r.length
 have hn := line63
 have fin : EP X pins σ Q w s := ⟨z, H, I, rw', q⟩
 exact subscriptTail_builtinR (x := w) pl.typeIs slot_tuple_getitem.lookup
   (getItem_tuple (j := j) (Q := fun r s' => r = w ∧ EP X pins σ Q r s') pl (by lia) (by lia) (by rw [List.size_toArray, ← hl]; exact h1) (by simpa using ew) ⟨rfl, fin⟩) hs
theorem ix_str : IxR X rIxS := by
 intro value slice pins s σ H x y v u Q I rx ry h hs
 obtain ⟨z, i, c, rfl, rfl, hz, he, q⟩ := h
 obtain ⟨t, rfl⟩ := rx
 obtain ⟨t', rfl⟩ := ry
 obtain ⟨j, h1, h2, h3, h4, h5⟩ := atI_get he
 have hl : z.cps.toList.length = z.length := by simp [Str.length]
 rw [hl] at h1 h4 h5
 have hn := line63
 exact tail_any (typeIs_str s z t) slot_str_getitem.lookup (getItem_str (c := c) (by
   have e1 : decide (i < -(2 ^ 63 : Int)) = false := decide_eq_false (by lia)
   have e2 : decide (i ≥ 2 ^ 63) = false := decide_eq_false (by lia)
   rw [e1, e2, Bool.or_false]) (by rw [h1]; simpa using h2) ⟨.str ⟨#[c]⟩, H, I.tok _, ⟨_, rfl⟩, q⟩) hs
theorem mapSeq_set (its : List Value) (n j : Nat) (u : Value) : Obj.mapSeq (·.setIfInBounds j u) { cls := .type "list", data := .seq its.toArray n } = { cls := .type "list", data := .seq (its.set j u).toArray n } := by
 simp [Obj.mapSeq]
theorem Inv.lst {pins : List (Addr × Obj)} {σ : St} {H : Hp} {s : Shared} {p : Addr} {xs : List V} (I : Inv X pins σ H s) (h : H p = some (.lst xs)) :
   ∃ (its : List Value) (n : Nat), Vals xs its ∧ s.heap.get? p = some { cls := .type "list", data := .seq its.toArray n } ∧ xs.length ≤ sizeLine := by
 obtain ⟨z, its, n, r, e⟩ := I.hok p _ h
 exact ⟨its, n, r, e, z⟩
theorem Inv.lstUpd {pins : List (Addr × Obj)} {σ : St} {H : Hp} {s : Shared} {p : Addr} {xs ys : List V} {its its' : List Value} {n n' : Nat} {f : Obj → Obj} (I : Inv X pins σ H s) (h : H p = some (.lst xs))
   (ho : s.heap.get? p = some { cls := .type "list", data := .seq its.toArray n }) (hf : f { cls := .type "list", data := .seq its.toArray n } = { cls := .type "list", data := .seq its'.toArray n' }) (r : Vals ys its') (hz : ys.length ≤ sizeLine) (t : Nat) :
   Inv X pins σ (upd H p (.lst ys)) { s with heap := s.heap.update p f, toks := t } := by
 have e : (s.heap.update p f).get? p = some { cls := .type "list", data := .seq its'.toArray n' } := by
   rw [Heap.get?_update_self f ho (by rw [hf] <;> rfl), hf]
 refine I.write (x := p) (e := p) (by rw [h]; trivial) (.inl rfl) (fun b u hb q => (Heap.get?_update_other _ _ (Ne.symm hb)).trans q) ⟨_, e⟩ ?_
 exact ⟨hz, its', n', r, e⟩
noncomputable def rSetL : V → V → V → Hp → (Hp → Prop) → Prop := fun o i v H Q => ∃ p xs k j, o = .ref p ∧ i = .int k ∧ H p = some (.lst xs) ∧ ixN xs.length k = some j ∧ Q (upd H p (.lst (xs.set j v)))
theorem set_list : PSet X rSetL := by
 intro pins s σ H o i v ov iv u Q I ro ri rv h
 obtain ⟨p, xs, k, j, rfl, rfl, hp, hj, q⟩ := h
 cases ro
 obtain ⟨t, rfl⟩ := ri
 obtain ⟨its, n, r, ho, hz⟩ := I.lst hp
 obtain ⟨h1, h2, h3, h4⟩ := ixN_seq hj
 have hl := r.length
 have hn := line63
 have I' : Inv X pins σ (upd H p (.lst (xs.set j v))) { s with heap := s.heap.update p (Obj.mapSeq (·.setIfInBounds j u)) } :=
   I.lstUpd hp ho (mapSeq_set its n j u) (r.set rv j) (by rw [List.length_set]; exact hz) s.toks
 by_cases h0 : 0 ≤ k
 · have hk : k.toNat = j := by
     rw [seqIndex_of h0 h4] at h1
     exact Option.some.inj h1
   exact PySem.W.ki_setAt ho h0 (by lia) (by rw [List.size_toArray, ← hl]; exact h4) (by rw [hk]; exact ⟨_, I', q⟩)
 · have hk : (k + (its.toArray.size : Int)).toNat = j := by
     rw [seqIndex_neg (by lia) h3] at h1
     rw [List.size_toArray, ← hl]
     exact Option.some.inj h1
   exact PySem.W.ki_setBack ho (by lia) (by rw [List.size_toArray, ← hl]; exact h3) (by lia) (by rw [hk]; exact ⟨_, I', q⟩)
theorem slice_bounds (lo hi : Option Int) (n : Nat) : (sliceBounds lo hi none n).1 = ((HT.sIx n 0 lo : Nat) : Int) ∧ (sliceBounds lo hi none n).2.1 = ((HT.sIx n n hi : Nat) : Int) ∧ (sliceBounds lo hi none n).2.2 = 1 := by
 refine ⟨?_, ?_, rfl⟩
 · cases lo with
   | none => simp [sliceBounds, HT.sIx]
   | some i =>
     simp only [sliceBounds, HT.sIx, Option.getD_none, show (1 : Int) > 0 by decide, if_true]
     by_cases h : i < 0
     · simp only [h, if_true] <;> lia
     · simp only [h, if_false] <;> lia
 · cases hi with
   | none => simp [sliceBounds, HT.sIx]
   | some i =>
     simp only [sliceBounds, HT.sIx, Option.getD_none, show (1 : Int) > 0 by decide, if_true]
     by_cases h : i < 0
     · simp only [h, if_true] <;> lia
     · simp only [h, if_false] <;> lia
theorem slicePick_cut (its : List Value) (lo hi : Option Int) : slicePick its.toArray lo hi none = ((its.drop (HT.sIx its.length 0 lo)).take (HT.sIx its.length its.length hi - HT.sIx its.length 0 lo)).toArray := by
 obtain ⟨h1, h2, h3⟩ := slice_bounds lo hi its.toArray.size
 unfold slicePick
 rw [h1, h2, h3]
 simp only [sliceRange_one, pick_run, List.size_toArray] <;> rfl
noncomputable def rSlL (K : PySem.W.Frag) : V → Option Int → Option Int → Hp → VK → Prop := fun x lo hi H Q => ∃ a xs, x = .ref a ∧ SqL K H a xs ∧ ∀ p, H p = none → Q (.ref p) (upd H p (.lst (cutV xs lo hi)))
theorem sl_list : SlR X (rSlL X.K) := by
 intro pins s σ H x v vl vu lo hi sl Q I rx hs pl pu h
 obtain ⟨a, xs, rfl, hx, q⟩ := h
 cases rx
 obtain ⟨its, r, ht, hz⟩ := I.list hx
 have hlen := r.length
 refine ⟨"list", _, slot_list_getitem.lookup, ht.isList.typeIs, ?_⟩
 refine wpAny_getItem_list_slice ht.isList hs pl pu .none (by simp) ?_ (by rw [List.size_toArray] <;> lia)
 rw [slicePick_cut, ← hlen]
 refine ⟨.ref s.heap.objs.size, _, I.laid (t' := s.toks) (o := .lst (cutV xs lo hi)) (fun b ob q => Heap.get?_push_of_some _ q) (Nat.le_refl _) ?_, rfl, q _ (I.hok.fresh (Nat.le_refl _))⟩
 exact ⟨Nat.le_trans (cutV_length xs lo hi) hz, _, 0, (r.drop (HT.sIx xs.length 0 lo)).take (HT.sIx xs.length xs.length hi - HT.sIx xs.length 0 lo), Heap.get?_push_size _ rfl⟩
theorem call_len_seq : CallR X (.builtin "len") (fun xs H Q => ∃ p ys, xs = [.ref p] ∧ (SqL X.K H p ys ∨ SqT X.K H p ys) ∧ Q (.int ys.length) H) := by
 intro pins s σ H xs us Q I r h
 obtain ⟨p, ys, rfl, hq, q⟩ := h
 obtain ⟨u, rfl, rx⟩ := vals1 r
 cases rx
 have hn := line63
 rcases hq with hq | hq
 · obtain ⟨its, r', pl, hz⟩ := I.list hq
   have hlen := r'.length
   exact Calls.call_len_list pl.isList (by simp only [List.size_toArray] <;> lia) ⟨.int ys.length, H, I.tok _, ⟨s.toks + 1, by rw [List.size_toArray, hlen]⟩, q⟩
 · obtain ⟨its, r', pl, hz⟩ := I.tuple hq
   have hlen := r'.length
   exact len_tuple pl (by simp only [List.size_toArray] <;> lia) ⟨.int ys.length, H, I.tok _, ⟨s.toks + 1, by rw [List.size_toArray, hlen]⟩, q⟩
theorem call_len_str : CallR X (.builtin "len") (fun xs H Q => ∃ z, xs = [.str z] ∧ z.length ≤ sizeLine ∧ Q (.int z.length) H) := by
 intro pins s σ H xs us Q I r h
 obtain ⟨z, rfl, hz, q⟩ := h
 obtain ⟨u, rfl, t, rfl⟩ := vals1 r
 have hn := line63
 exact len_str (by lia) ⟨.int z.length, H, I.tok _, ⟨_, rfl⟩, q⟩
theorem call_list_of : CallR X (.type "list") (fun xs H Q => ∃ p ys, xs = [.ref p] ∧ (SqL X.K H p ys ∨ SqT X.K H p ys) ∧ ∀ l, H l = none → Q (.ref l) (upd H l (.lst ys))) := by
 intro pins s σ H xs us Q I r h
 obtain ⟨p, ys, rfl, hq, q⟩ := h
 obtain ⟨u, rfl, rx⟩ := vals1 r
 cases rx
 have fin : ∀ (its : List Value), Vals ys its → ys.length ≤ sizeLine → ∀ (h' : Heap) (c' : Nat), (∀ b o', s.heap.get? b = some o' → h'.get? b = some o') →
     h'.get? s.heap.objs.size = some { cls := .type "list", dict := none, data := .seq its.toArray c', slots := #[] } → EP X pins σ Q (.ref s.heap.objs.size) { s with heap := h' } := fun its r' hz h' c' kp e =>
   ⟨.ref s.heap.objs.size, _, I.laid (t' := s.toks) kp (Nat.le_refl _) (show ObjOk X.prog X.w _ h' _ (.lst ys) from ⟨hz, its, c', r', e⟩), rfl, q _ (I.hok.fresh (Nat.le_refl _))⟩
 rcases hq with hq | hq
 · obtain ⟨its, r', pl, hz⟩ := I.list hq
   have hlen := r'.length
   obtain ⟨o, ho, hc, n, hd⟩ := pl.isList
   exact call_list_seq p (.inl rfl) ho hc hd (fun h' c' kp e => fin its r' hz h' c' kp e) (by simp only [List.size_toArray] <;> lia)
 · obtain ⟨its, r', pl, hz⟩ := I.tuple hq
   have hlen := r'.length
   obtain ⟨o, ho, hc, n, hd⟩ := pl
   exact call_list_seq p (.inr rfl) ho hc hd (fun h' c' kp e => fin its r' hz h' c' kp e) (by simp only [List.size_toArray] <;> lia)
theorem call_tuple_of : CallR X (.type "tuple") (fun xs H Q => ∃ p ys, xs = [.ref p] ∧ ((SqL X.K H p ys ∧ ∀ l, H l = none → Q (.ref l) (upd H l (.tup ys))) ∨ (SqT X.K H p ys ∧ Q (.ref p) H))) := by
 intro pins s σ H xs us Q I r h
 obtain ⟨p, ys, rfl, h⟩ := h
 obtain ⟨u, rfl, rx⟩ := vals1 r
 cases rx
 rcases h with ⟨hq, q⟩ | ⟨hq, q⟩
 · obtain ⟨its, r', pl, hz⟩ := I.list hq
   have hlen := r'.length
   refine call_tuple_list pl.isList (fun h' kp => ?_) (by simp only [List.size_toArray] <;> lia)
   have I1 : Inv X pins σ H { s with heap := h' } := I.kept (t' := s.toks) kp
   have I2 : Inv X pins σ (upd H h'.objs.size (.tup ys)) { s with heap := h'.push { cls := .type "tuple", data := .seq its.toArray } } :=
     I1.laid (t' := s.toks) (fun b o e => Heap.get?_push_of_some _ e) (Nat.le_refl _) (show ObjOk X.prog X.w _ _ _ (.tup ys) from ⟨hz, its, r', IsTup0.new _ _⟩)
   exact ⟨.ref h'.objs.size, _, I2, rfl, q _ (I1.hok.fresh (Nat.le_refl _))⟩
 · obtain ⟨its, r', pl, hz⟩ := I.tuple hq
   exact call_tuple_same pl ⟨.ref p, H, I, rfl, q⟩
noncomputable def tyV (K : PySem.W.Frag) (T : String) (x : V) (H : Hp) : Prop := match x with
 | .str _ => T = "str"
 | .int _ => T = "int"
 | .ref p => (T = "list" ∧ ∃ xs, SqL K H p xs) ∨ (T = "tuple" ∧ ∃ o, K.lookup p = some o ∧ o.cls = .type "tuple" ∧ o.dict = none) ∨
     (T = "dict" ∧ ((∃ kvs, H p = some (.dK kvs)) ∨ ∃ kvs, H p = some (.dT kvs))) ∨ (T = "set" ∧ ∃ S n, H p = some (.set S n))
 | _ => False
theorem tyV_is {pins : List (Addr × Obj)} {σ : St} {H : Hp} {s : Shared} {T : String} {x : V} {v : Value} (I : Inv X pins σ H s) (r : RelV x v) (ty : tyV X.K T x H) :
   s.TypeIs v T ∧ ∀ a, v = .ref a → ∃ ob, s.heap.get? a = some ob ∧ ob.dict = none := by
 cases x with
 | str z =>
   obtain ⟨t, rfl⟩ := r
   cases (show T = "str" from ty)
   exact ⟨typeIs_str s z t, fun _ e => nomatch e⟩
 | int i =>
   obtain ⟨t, rfl⟩ := r
   cases (show T = "int" from ty)
   exact ⟨typeIs_int s i t, fun _ e => nomatch e⟩
 | ref p =>
   cases r
   rcases ty with ⟨rfl, xs, hq⟩ | ⟨rfl, o, hk, hc, hd⟩ | ⟨rfl, hk⟩ | ⟨rfl, S, n, hk⟩
   · obtain ⟨its, _, pl, _⟩ := I.list hq
     refine ⟨pl.isList.typeIs, fun a e => ?_⟩
     cases e
     obtain ⟨o, n, e, c, hd, _⟩ := pl
     exact ⟨o, e, hd⟩
   · refine ⟨⟨o, I.kIn p o hk, hc⟩, fun a e => ?_⟩
     cases e
     exact ⟨o, I.kIn _ o hk, hd⟩
   · have z : ∃ o, s.heap.get? p = some o ∧ o.ExactDict := by
       rcases hk with ⟨kvs, hk⟩ | ⟨kvs, hk⟩
       · obtain ⟨_, _, _, _, o, _, _, e, ex, _⟩ := I.hok p _ hk
         exact ⟨o, e, ex⟩
       · obtain ⟨_, _, _, _, o, _, _, e, ex, _⟩ := I.hok p _ hk
         exact ⟨o, e, ex⟩
     obtain ⟨o, e, ex⟩ := z
     refine ⟨⟨o, e, ex.1⟩, fun a e2 => ?_⟩
     cases e2
     exact ⟨o, e, ex.2.1⟩
   · obtain ⟨o, _, _, _, e, ex, _⟩ := I.hok p _ hk
     refine ⟨⟨o, e, ex.1⟩, fun a e2 => ?_⟩
     cases e2
     exact ⟨o, e, ex.2.1⟩
 | _ => exact False.elim ty
noncomputable def tBM (K : PySem.W.Frag) (T : String) (r : V → List V → Hp → VK → Prop) (to : TE) (t : TA) : TE := fun σ H Q => to σ H fun x H1 => tyV K T x H1 ∧ t σ H1 fun xs H2 => r x xs H2 Q
variable {o e : Expr} {es : List Expr} {to : TE} {t : TA} {name : Str} {apos cpos : Pos} {T id : String} {r : V → List V → Hp → VK → Prop}
theorem pe_bm (pa : PlainAttrs T) (slot : Slot T name id) (hty : typeOf (.builtin id) = pure (.type "method_descriptor")) (hm : MtR X id r) (ho : PE X o to) (ha : PA X (e :: es) t)
   (hbase : attributeBase o name X.env (eval o X.env) = eval o X.env := by rfl)
   (hfew : ((backTo cpos (starEach (e :: es) X.env)).all (fun x => !x.1) && (backToKw cpos (keywordEach [] X.env)).all (fun x => x.1.isSome)
     && decide ((e :: es).length + ([] : List Keyword).length + (if ([] : List Keyword).isEmpty then 0 else 1) < 30)) = true := by rfl)
   (hline : (apos.endLine == cpos.line) = true := by rfl) (hs : starEach (e :: es) X.env = (false, eval e X.env) :: starEach es X.env := by rfl) (hplain : (backTo cpos (starEach es X.env)).any (·.1) = false := by rfl) :
   PE X (.Call (.Attribute o name apos) (e :: es) [] cpos) (tBM X.K T r to t) := by
 intro pins s σ H Q I h
 refine wpAny_Call_method_late hbase hfew hline rfl (thn (ho pins s σ H _ I h) fun v s1 ⟨x, H1, I1, r1, ty, q1⟩ => ?_)
 obtain ⟨h1, h2⟩ := tyV_is I1 r1 ty
 refine ⟨T, id, pa, slot, hty, h1, h2, ?_⟩
 have hA := ha cpos pins s1 σ H1 _ I1 q1
 rw [hs] at hA ⊢
 refine Calls.callWith_builtin (by show (false || (backTo cpos (starEach es X.env)).any (·.1)) = false; rw [hplain] <;> rfl) (Calls.evalArgs_plain ?_)
 exact thn hA fun us s2 ⟨vs, H2, I2, r2, q2⟩ => hm pins s2 σ H2 x vs v us Q I2 r1 r2 q2
end
end L2
namespace L2
open PySem PySem.Spec PyProof.Rows
noncomputable def MtM (X : Cx) (id : String) (r : V → List V → Hp → VK → Prop) : Prop :=
 ∀ (pins : List (Addr × Obj)) (s : Shared) (σ : St) (H : Hp) (x : V) (xs : List V) (v : Value) (us : List Value) (Q : VK), Inv X pins σ H s → RelV x v → Vals xs us → r x xs H Q →
   wpAny (model X.prog X.w) X.A (call (.builtin id) (v :: us)) (EP X pins σ Q) X.xe s
theorem Vals.one : ∀ {x : V} {us : List Value}, Vals [x] us → ∃ u, us = [u] ∧ RelV x u
 | _, _, .cons r .nil => ⟨_, rfl, r⟩
theorem Vals.eraseIdx : ∀ {xs : List V} {us : List Value} (i : Nat), Vals xs us → Vals (xs.eraseIdx i) (us.eraseIdx i)
 | _, _, _, .nil => .nil
 | _, _, 0, .cons _ t => t
 | _, _, i + 1, .cons r t => .cons r (Vals.eraseIdx i t)
theorem Vals.rep {xs : List V} {us : List Value} (h : Vals xs us) : ∀ k : Nat, Vals (List.replicate k xs).flatten (List.replicate k us).flatten
 | 0 => .nil
 | k + 1 => by
   rw [List.replicate_succ, List.replicate_succ, List.flatten_cons, List.flatten_cons]
   exact Vals.append h (Vals.rep h k)
theorem len_erase {α : Type} : ∀ (l : List α) (i : Nat), (l.eraseIdx i).length ≤ l.length
 | [], _ => Nat.le_refl _
 | _ :: _, 0 => Nat.le_succ _
 | _ :: r, i + 1 => Nat.succ_le_succ (len_erase r i)
theorem foldl_rep (its : List Value) : ∀ (k : Nat) (acc : List Value),
   List.foldl (fun x1 x2 => x1 ++ x2) acc.toArray (List.replicate k its.toArray) = (acc ++ (List.replicate k its).flatten).toArray
 | 0, acc => by simp
 | k + 1, acc => by
   have e : acc.toArray ++ its.toArray = (acc ++ its).toArray := by simp
   have e2 : (acc ++ its) ++ (List.replicate k its).flatten = acc ++ (List.replicate (k + 1) its).flatten := by
     rw [List.replicate_succ, List.flatten_cons, List.append_assoc]
   rw [← e2, ← foldl_rep its k (acc ++ its), ← e, List.replicate_succ, List.foldl_cons]
section
variable {X : Cx} {pins : List (Addr × Obj)} {σ : St} {H : Hp} {s : Shared} {l b : Addr} {xs ys zs : List V}
theorem Inv.lset {its its' : List Value} {n : Nat} {f : Array Value → Array Value} {t' : Nat} (I : Inv X pins σ H s) (hH : H l = some (.lst xs))
   (e : s.heap.get? l = some { cls := .type "list", data := .seq its.toArray n }) (hf : f its.toArray = its'.toArray) (hv : Vals ys its') (hz : ys.length ≤ sizeLine) :
   Inv X pins σ (upd H l (.lst ys)) { s with heap := s.heap.update l (Obj.mapSeq f), toks := t' } := by
 have q := PySem.IsL.update e f
 rw [hf] at q
 refine I.write (x := l) (e := l) (by rw [hH]; exact trivial) (.inl rfl) (fun b' u hb hu => (Heap.get?_update_other s.heap (Obj.mapSeq f) (Ne.symm hb)).trans hu) ⟨_, q⟩ ?_
 exact ⟨hz, its', _, hv, q⟩
theorem Inv.lnew {its : List Value} {t' : Nat} (I : Inv X pins σ H s) (hv : Vals ys its) (hz : ys.length ≤ sizeLine) :
   Inv X pins σ (upd H s.heap.objs.size (.lst ys)) { s with heap := s.heap.push { cls := .type "list", data := .seq its.toArray }, toks := t' } :=
 I.laid (fun _ _ q => Heap.get?_push_of_some _ q) (Nat.le_refl _) ⟨hz, its, 0, hv, Heap.get?_push_size _ rfl⟩
theorem Inv.fresh (I : Inv X pins σ H s) : H s.heap.objs.size = none := I.hok.fresh (Nat.le_refl _)
theorem Inv.lstM (I : Inv X pins σ H s) (hH : H l = some (.lst xs)) : xs.length ≤ sizeLine ∧ ∃ (its : List Value) (n : Nat), Vals xs its ∧ xs.length = its.length ∧ s.heap.get? l = some { cls := .type "list", data := .seq its.toArray n } := by
 obtain ⟨z, its, n, r, e⟩ := I.hok l _ hH
 exact ⟨z, its, n, r, r.length, e⟩
theorem notLongL {n : Nat} (h : n ≤ sizeLine) : Builtin.List.listTooLong n = false := by
 unfold Builtin.List.listTooLong
 exact decide_eq_false (by lia)
end
section
variable {X : Cx}
noncomputable def rAppend : V → List V → Hp → VK → Prop := fun x vs H Q => ∃ l xs y, x = .ref l ∧ vs = [y] ∧ H l = some (.lst xs) ∧ xs.length < sizeLine ∧ Q .non (upd H l (.lst (xs ++ [y])))
theorem mt_append : MtM X "list.append" rAppend := by
 intro pins s σ H x vs v us Q I rx rv h
 obtain ⟨l, xs, y, rfl, rfl, hH, hz, q⟩ := h
 cases rx
 obtain ⟨u, rfl, ru⟩ := rv.one
 obtain ⟨z, its, n, r, hl, e⟩ := I.lstM hH
 refine call_meets F.slot_list_append ⟨_, e, rfl⟩ F.entry_list_append (F.args_list_append_2 _ _) (PySem.list_append l its.toArray n u (by rw [List.size_toArray]; lia)) ⟨e, ?_⟩
 refine ⟨.non, _, I.lset (its' := its ++ [u]) hH e (by simp) (r.append (.cons ru .nil)) ?_, rfl, q⟩
 rw [List.length_append, List.length_singleton]
 lia
noncomputable def rExtend : V → List V → Hp → VK → Prop := fun x vs H Q => ∃ l b xs zs, x = .ref l ∧ vs = [.ref b] ∧ H l = some (.lst xs) ∧ H b = some (.lst zs) ∧ xs.length + zs.length ≤ sizeLine ∧ Q .non (upd H l (.lst (xs ++ zs)))
theorem mt_extend : MtM X "list.extend" rExtend := by
 intro pins s σ H x vs v us Q I rx rv h
 obtain ⟨l, b, xs, zs, rfl, rfl, hH, hB, hz, q⟩ := h
 cases rx
 obtain ⟨u, rfl, ru⟩ := rv.one
 cases ru
 obtain ⟨z, its, n, r, hl, e⟩ := I.lstM hH
 obtain ⟨z2, its2, n2, r2, hl2, e2⟩ := I.lstM hB
 have hsz : its.toArray.size + its2.toArray.size ≤ sizeLine := by rw [List.size_toArray, List.size_toArray]; lia
 have hlong : ¬ (!its.toArray.isEmpty && Builtin.List.listTooLong (its.toArray.size + its2.toArray.size)) = true := by
   rw [notLongL hsz, Bool.and_false]
   exact Bool.false_ne_true
 refine call_meets F.slot_list_extend ⟨_, e, rfl⟩ F.entry_list_extend (F.args_list_extend_2 _ _)
   (AutoSeq1.list_extend_list_list_0 l its.toArray n b its2.toArray n2 hlong (by rw [List.size_toArray]; lia) (by lia)) ⟨e, e2, ?_⟩
 refine ⟨.non, _, I.lset (its' := its ++ its2) hH e (by simp) (r.append r2) ?_, rfl, q⟩
 rw [List.length_append]
 lia
noncomputable def rPopAt : V → List V → Hp → VK → Prop := fun x vs H Q => ∃ l xs i k y, x = .ref l ∧ vs = [.int i] ∧ H l = some (.lst xs) ∧ -(2 ^ 63) ≤ i ∧ i < 2 ^ 63 ∧ seqIndex? i xs.length = some k ∧ xs[k]? = some y ∧ Q y (upd H l (.lst (xs.eraseIdx k)))
theorem mt_popAt : MtM X "list.pop" rPopAt := by
 intro pins s σ H x vs v us Q I rx rv h
 obtain ⟨l, xs, i, k, y, rfl, rfl, hH, h1, h2, hk, hy, q⟩ := h
 cases rx
 obtain ⟨u, rfl, ru⟩ := rv.one
 obtain ⟨t, rfl⟩ := ru
 obtain ⟨z, its, n, r, hl, e⟩ := I.lstM hH
 obtain ⟨w, hw, rw'⟩ := r.get hy
 refine call_meets F.slot_list_pop ⟨_, e, rfl⟩ F.entry_list_pop (F.args_list_pop_2 _ _)
   (MeetsSeq.list_pop_at l its.toArray n i t k w (fitsIndex_both h1 h2) (by rw [List.size_toArray, ← hl]; exact hk) (by rw [← Array.getElem?_toList]; exact hw) (by rw [List.size_toArray]; lia)) ⟨e, ?_⟩
 refine ⟨y, _, I.lset (its' := its.eraseIdx k) hH e ?_ (r.eraseIdx k) ?_, rw', q⟩
 · show its.toArray.eraseIdxIfInBounds k = (its.eraseIdx k).toArray
   rw [List.eraseIdxIfInBounds_toArray]
 · have := len_erase xs k
   lia
noncomputable def rCat : R2 := fun x y H Q => ∃ l b xs zs, x = .ref l ∧ y = .ref b ∧ H l = some (.lst xs) ∧ H b = some (.lst zs) ∧ xs.length + zs.length ≤ sizeLine ∧ ∀ p, H p = none → Q (.ref p) (upd H p (.lst (xs ++ zs)))
theorem op_cat : OpR X (binaryOp .Add) rCat := by
 intro pins s σ H x y v u Q I rx ry h
 obtain ⟨l, b, xs, zs, rfl, rfl, hH, hB, hz, q⟩ := h
 cases rx
 cases ry
 obtain ⟨z, its, n, r, hl, e⟩ := I.lstM hH
 obtain ⟨z2, its2, n2, r2, hl2, e2⟩ := I.lstM hB
 refine PySem.P.add_list e e2 ?_ (by rw [List.size_toArray, List.size_toArray]; lia)
 have ea : its.toArray ++ its2.toArray = (its ++ its2).toArray := by simp
 rw [ea]
 exact ⟨.ref _, _, I.lnew (t' := s.toks) (r.append r2) (by rw [List.length_append]; lia), rfl, q _ I.fresh⟩
noncomputable def rRep : R2 := fun x y H Q => ∃ l k xs, x = .ref l ∧ y = .int k ∧ H l = some (.lst xs) ∧ -(2 ^ 63) ≤ k ∧ k < 2 ^ 63 ∧ xs.length * k.toNat ≤ sizeLine ∧
 ∀ p, H p = none → Q (.ref p) (upd H p (.lst (List.replicate k.toNat xs).flatten))
theorem len_rep {α : Type} (xs : List α) (k : Nat) : (List.replicate k xs).flatten.length = k * xs.length := by
 induction k with
 | zero => simp
 | succ k ih => rw [List.replicate_succ, List.flatten_cons, List.length_append, ih, Nat.succ_mul, Nat.add_comm]
theorem op_rep : OpR X (binaryOp .Mult) rRep := by
 intro pins s σ H x y v u Q I rx ry h
 obtain ⟨l, k, xs, rfl, rfl, hH, h1, h2, hz, q⟩ := h
 cases rx
 obtain ⟨t, rfl⟩ := ry
 obtain ⟨z, its, n, r, hl, e⟩ := I.lstM hH
 have hlen : its.toArray.size * k.toNat ≤ sizeLine := by rw [List.size_toArray, ← hl]; exact hz
 have hcap : ¬ its.toArray.size * k.toNat > (2 ^ 63 - 1) / 8 := by
   have : (sizeLine : Nat) ≤ (2 ^ 63 - 1) / 8 := by decide
   lia
 have hfit : ¬ (!Builtin.List.listFitsIndex k) = true := by
   rw [fitsIndex_both h1 h2]
   exact Bool.false_ne_true
 have hlong : ¬ Builtin.List.listTooLong (its.toArray.size * k.toNat) = true := by
   rw [notLongL hlen]
   exact Bool.false_ne_true
 have hnew : List.foldl (fun x1 x2 => x1 ++ x2) #[] (List.replicate (if its.toArray.isEmpty = true then 0 else k.toNat) its.toArray) = (List.replicate k.toNat its).flatten.toArray := by
   have f0 : ∀ m : Nat, List.foldl (fun x1 x2 => x1 ++ x2) #[] (List.replicate m its.toArray) = (List.replicate m its).flatten.toArray := fun m => by
     have := foldl_rep its m []
     rw [List.nil_append] at this
     exact this
   rw [f0]
   cases its with
   | nil => simp
   | cons a r' => rw [if_neg (by simp)]
 refine wpAny_binaryOp_repeat_ref (T := "list") (U := "int") (by decide) ⟨_, e, rfl⟩ (fun s' => typeIs_int s' k t) noFill_list_mul F.fills_int_mul F.slot_int_rmul repeat_list F.slot_int_index.lookup
   (call_meets F.slot_int_rmul (typeIs_int s k t) F.entry_int_rmul (F.args_int_rmul_2 _ _) (int___rmul___int_list k t l its.toArray n)
     ⟨e, rfl, ⟨_, e, rfl⟩, call_meets F.slot_list_mul ⟨_, e, rfl⟩ F.entry_list_mul (F.args_list_mul_2 _ _) (AutoListH.list___mul___list_int_3 l its.toArray n k t hfit hcap hlong) ⟨e, ?_⟩⟩)
 rw [hnew]
 exact ⟨.ref _, _, I.lnew (t' := s.toks) (r.rep k.toNat) (by rw [len_rep, Nat.mul_comm]; exact hz), rfl, q _ I.fresh⟩
end
section
variable {prog : Program} {w : World} {A : Around} {E : Value → Shared → Prop} {s : Shared}
end
section
variable {X : Cx}
end
end L2
namespace Att
open PySem PySem.W PySem.Calls PyProof.Rows
theorem ints_of_wellAll {P : Params} {h : Heap} : ∀ (ns : List Int) (vs : List Value), WellAll P h vs (ns.map WData.int) → IntsAre vs ns := by
 intro ns
 induction ns with
 | nil =>
   intro vs w
   rw [List.map_nil] at w
   cases w
   exact .nil
 | cons n ns ih =>
   intro vs w
   rw [List.map_cons] at w
   cases w with
   | cons a b =>
     cases a
     exact .cons _ _ (ih _ b)
theorem script_of {l : OpenLaw} {n : Nat} (hn : l.most = some n) {P : Params} {h : Heap} {args : List WData} {vals : List Value}
   (hpre : l.row.toRowW.claim.pre args = true) (hwl : WellAll P h vals args) :
   ∃ a vs ns, vals = [Value.ref a] ∧ args = [WData.list (ns.map WData.int)] ∧ h.get? a = some { cls := .type "list", data := .seq vs.toArray } ∧ IntsAre vs ns ∧ ns.length ≤ n := by
 have hsh : WShape.hasAll [] args [.list .int] = true := (pre_splitW hpre).1
 have hc : l.pre.holds [] { args := args } = true := (pre_splitW hpre).2
 obtain ⟨d, r, rfl, h1, h2⟩ := hasAllW_cons hsh
 obtain rfl := hasAllW_nil h2
 obtain ⟨xs, rfl, h3⟩ := hasW_list h1
 obtain ⟨ns, rfl⟩ := items_int h3
 have hlen : ns.length ≤ n := by
   unfold OpenLaw.pre at hc
   have h4 : (WTm.not (.lt (.lit (.int (n : Int))) (.len (.arg 0)))).holds [] { args := [.list (ns.map .int)] } = true := by
     have h4 := (holds_andW hc).1
     rw [hn] at h4
     exact h4
   have h5 := condW_of h4 (w_not (w_lt w_lit (w_len_list (w_arg rfl))))
   rw [List.length_map] at h5
   refine Nat.le_of_not_lt fun q => ?_
   have q' : (n : Int) < ((ns.length : Nat) : Int) := by lia
   first
     | (rw [decide_eq_true q'] at h5; exact absurd h5 (by decide))
     | (simp at h5; lia)
 cases hwl with
 | cons w1 w2 =>
   cases w2
   cases w1 with
   | list ho hall => exact ⟨_, _, ns, rfl, rfl, ho, ints_of_wellAll ns _ hall, hlen⟩
theorem post_true (l : OpenLaw) (args : List WData) : l.row.toRowW.claim.post args (.bool true) args = true :=
 postW_of (r := l.row.toRowW) (X := (true == true))
   (show WShape.has [] (.bool true) .bool = true by first | rfl | decide | simp [WShape.has, WShape.arms, WShape.armsAll])
   (show (WTm.eq .res (.lit (.bool true))).value [] { args := args, res := some (.bool true), after := args } = some (.bool (true == true)) from w_eq_bool (w_res rfl) w_lit) rfl
theorem attach_call {l : OpenLaw} {n : Nat} {q : Program} {loose : List Str} {XP : (Str → Option Value) → Heap → Prop} {YP : World → Heap → Prop} {d : DefRec}
   (hn : l.most = some n) (hdf : d.params.defaults = [])
   (call : ∀ (w : World) (s₀ s₁ : Shared) (mg mb : Str → Option Value) (fa : Addr) (o : Obj) (pm cd doc : Value) (a : Addr) (vs : List Value) (ns : List Int),
     Ground q loose [] XP w s₀ mg mb s₁.heap → YP w s₁.heap →
     s₁.heap.get? fa = some o → o.data = .func (docDef d.name d.params d.body d.scope pm cd doc) → s₁.heap.CodeRec cd d.name → mg d.name = some (.ref fa) →
     s₁.heap.get? a = some { cls := .type "list", data := .seq vs.toArray } → IntsAre vs ns → ns.length ≤ n → s₁.gens = #[] →
     codeAny (model l.prog w) callerA (.call (.ref fa) ⟨[.ref a], []⟩) (fun r s' => r = .ok (.ret (.bool true)) ∧ OldK s₁.heap s'.heap ∧ s'.os = s₁.os ∧ AllBare s'.gens) s₁) :
   WalkO q loose XP YP l.row.toRowW d [] (fun f vs => PySem.call f vs) := by
 intro w s₀ s₁ mg mb G Y fa o pm cd doc dV kV ho hd hcd hD hmg hg args vals as hpre hlay hrd hwl hlo
 obtain rfl : dV = .none := Dflts.none hD hdf
 obtain rfl : kV = .none := Dflts.noKw hD
 obtain ⟨a, vs, ns, rfl, rfl, hobj, hints, hlen⟩ := script_of hn hpre hwl
 refine enter_call (codeAny_mono (call w s₀ s₁ mg mb fa o pm cd doc a vs ns G Y ho (fd_plain hd) hcd hmg hobj hints hlen hg) fun r s' hq => ?_)
 obtain ⟨rfl, h2, h3, h4⟩ := hq
 exact ⟨.inl ⟨.bool true, .bool true, [], rfl, fun _ => rfl, .bool true, post_true l _, fun _ => ⟨List.Pairwise.nil, fun _ hm => (nomatch hm)⟩⟩, h2, h3, h4⟩
section
variable {prog : Program} {w : World} {A : Around} {E : Value → Shared → Prop} {s : Shared} {K : Frag}
end
end Att
namespace L2
open PySem PySem.Spec PyProof.Rows
theorem vals_ints : ∀ {vs : List Value} {ns : List Int}, IntsAre vs ns → Vals (ns.map V.int) vs
 | _, _, .nil => .nil
 | _, _, .cons n t h => .cons ⟨t, rfl⟩ (vals_ints h)
noncomputable def Only (H : Hp) : Prop := ∀ b, H b = none ∨ ∃ o xs, H b = some (.frz o (.lst xs))
theorem law_call {P : Program} {w : World} {K : PySem.W.Frag} {mg mb : Str → Option Value} {CX : CXT} {k : Nat} {fa a : Addr} {fd : FuncData} {x : Str} {sp : Sp} {s₁ : Shared} {vs : List Value} {ns : List Int}
   (KX : K.In s₁.heap) (hns : s₁.heap.Ns mainGlobals mg) (hb : s₁.heap.Ns builtinsNs mb) (hbb : ∀ x : Str, x ≠ "__name__" → mb x = bootBuiltins x) (hlim : s₁.heap.NoLimit) (hg : s₁.gens = #[])
   (ha : s₁.heap.get? a = some { cls := .type "list", data := .seq vs.toArray }) (hi : IntsAre vs ns) (hl : ns.length ≤ sizeLine) (hr : Room k callerA)
   (F : ∀ base : Heap, K.In base → base.Ns mainGlobals mg → FnOk P w K mg base CX k fa fd [x] sp) (hbind : ∀ (s : Shared) (u : Value), BindsTo s fd ⟨[u], []⟩ [(x, u)])
   (hsp : ∀ H : Hp, Only H → SqL K H a (ns.map V.int) → sp [.ref a] H (fun v _ => v = .bl true) fun _ _ _ => False)
   (hCX : ∀ H e s', CX [] H s₁ (fun _ _ _ => False) e s' → False) :
   codeAny (model P w) callerA (.call (.ref fa) ⟨[.ref a], []⟩) (fun r s' => r = .ok (.ret (.bool true)) ∧ OldK s₁.heap s'.heap ∧ s'.os = s₁.os ∧ AllBare s'.gens) s₁ := by
 have rv := vals_ints hi
 have lenV := hi.length
 -- from an abstract heap in which nothing but the script may be tracked
 have core : ∀ H : Hp, Only H → SqL K H a (ns.map V.int) → HOk P w H s₁.heap → (∀ b, H b ≠ none → b = a) → (H a ≠ none → K.lookup a = none) →
     codeAny (model P w) callerA (.call (.ref fa) ⟨[.ref a], []⟩) (fun r s' => r = .ok (.ret (.bool true)) ∧ OldK s₁.heap s'.heap ∧ s'.os = s₁.os ∧ AllBare s'.gens) s₁ := by
   intro H hO hS hok hA hK
   have base_of : ∀ {b : Addr} {o : Obj}, s₁.heap.get? b = some o → H b = none → (hidT s₁.heap H).get? b = some o := fun e n => hidT_get e n
   have noA : ∀ {b : Addr} {o : Obj} {es : Array DictEntry} {ep : Nat}, s₁.heap.get? b = some o → o.data = .dict es ep → H b = none := fun {b o es ep} e d => by
     cases q : H b with
     | none => rfl
     | some u =>
       have e' : b = a := hA b (by rw [q]; simp)
       subst e'
       rw [ha] at e; cases e
       have d' : Data.seq vs.toArray _ = Data.dict es ep := d
       cases d'
   have nsK : ∀ {b : Addr} {m : Str → Option Value}, s₁.heap.Ns b m → (hidT s₁.heap H).Ns b m := fun {b m} ⟨o, es, ep, e, d, r⟩ => ⟨o, es, ep, base_of e (noA e d), d, r⟩
   have hKb : K.In (hidT s₁.heap H) := fun b o e => base_of (KX b o e) (by
     cases q : H b with
     | none => rfl
     | some u =>
       have e' : b = a := hA b (by rw [q]; simp)
       subst e'
       rw [hK (by rw [q]; simp)] at e; cases e)
   have hM : Mod K mg (hidT s₁.heap H) := ⟨hKb, nsK hns, ⟨mb, nsK hb, hbb⟩, let ⟨mc, h1, h2⟩ := hlim; ⟨mc, nsK h1, h2⟩⟩
   have e0 : Env0 P w K mg (hidT s₁.heap H) callerA [] s₁ H := ⟨rfl, hM, fun b o e => of_hidT e, Nat.le_of_eq (hidT_size _ _), trivial, fun b hb => absurd (show b ∈ ([] : List Addr) from hb) (by simp), hok, .of_eq hg⟩
   refine codeAny_mono ((F _ hKb (nsK hns)).run callerA [] s₁ H ⟨[.ref a], []⟩ [.ref a] [.ref a] _ _ hr e0 (hbind s₁ (.ref a)) (.cons rfl .nil) (hsp H hO hS)) fun r s' h => ?_
   cases r with
   | error e => exact (hCX H e s' h).elim
   | ok fl =>
     cases fl with
     | next => exact False.elim h
     | brk => exact False.elim h
     | cont => exact False.elim h
     | ret u =>
       obtain ⟨v, H', os, bare, un, hok', r', q⟩ := h
       have q' : v = .bl true := q
       subst q'
       obtain rfl : u = Value.bool true := r'
       refine ⟨rfl, OldK.of_keep fun b o e => ?_, os, bare⟩
       cases q : H b with
       | none => exact un.keep b o e q (by intro z; exact absurd (show b ∈ ([] : List Addr) from z) (by simp)) (by simp)
       | some u =>
         rcases hO b with z | ⟨ob, xs, z⟩
         · rw [q] at z; cases z
         · have z2 := un.frzs b ob _ z
           obtain ⟨e1, _⟩ := hok b _ z
           obtain ⟨e2, _⟩ := hok' b _ z2
           rw [e] at e1; cases e1
           exact e2
 cases hk : K.lookup a with
 | some o =>
   -- the script is one of the module's own objects
   have e := KX a o hk
   rw [ha] at e
   cases e
   refine core (fun _ => none) (fun _ => .inl rfl) (.inr ⟨_, vs.toArray, _, hk, rfl, rfl, rfl, by rw [List.size_toArray, lenV]; exact hl, by simpa using rv⟩) (fun b u z => by have z' : (none : Option HO) = some u := z; cases z') (fun b z => absurd rfl z) fun z => absurd rfl z
 | none =>
   refine core (fun b => if b = a then some (.frz { cls := .type "list", data := .seq vs.toArray } (.lst (ns.map V.int))) else none) (fun b => ?_) (.inl (.inr ⟨{ cls := .type "list", data := .seq vs.toArray }, if_pos rfl⟩)) (fun b u z => ?_) (fun b z => ?_) fun _ => hk
   · by_cases hb : b = a
     · exact .inr ⟨_, _, if_pos hb⟩
     · exact .inl (if_neg hb)
   · by_cases hb : b = a
     · have z' := (if_pos hb).symm.trans z
       cases z'
       subst hb
       exact ⟨ha, by rw [List.length_map]; exact hl, vs, _, rv, ha⟩
     · have z' := (if_neg hb).symm.trans z
       cases z'
   · by_cases hb : b = a
     · exact hb
     · exact absurd (if_neg hb) z
end L2
namespace L2
open PySem PySem.Spec PyProof.Rows
theorem walk_of {l : PySem.W.OpenLaw} {n k : Nat} {q : Program} {loose : List Str} {XP : (Str → Option Value) → Heap → Prop} {YP : World → Heap → Prop} {d : DefRec} {K : Params → PySem.W.Frag} {CX : World → CXT} {sp : World → Sp} {x : Str}
   (hn : l.most = some n) (hn2 : n ≤ sizeLine) (hdf : d.params.defaults = []) (hr : Room k callerA)
   (hY : ∀ (w : World) (h : Heap), YP w h → (K w.params).In h)
   (F : ∀ (w : World) (mg : Str → Option Value) (fa : Addr) (h : Heap), (K w.params).In h → h.Ns mainGlobals mg → mg d.name = some (.ref fa) →
     ∃ fd : FuncData, (∀ (s : Shared) (u : Value), BindsTo s fd ⟨[u], []⟩ [(x, u)]) ∧
       ∀ base : Heap, (K w.params).In base → base.Ns mainGlobals mg → FnOk l.prog w (K w.params) mg base (CX w) k fa fd [x] (sp w))
   (hsp : ∀ (w : World) (H : Hp) (a : Addr) (ns : List Int), ns.length ≤ n → Only H → SqL (K w.params) H a (ns.map V.int) → sp w [.ref a] H (fun v _ => v = .bl true) fun _ _ _ => False)
   (hCX : ∀ (w : World) (H : Hp) (s : Shared) (e : Value) (s' : Shared), CX w [] H s (fun _ _ _ => False) e s' → False) :
   PySem.W.WalkO q loose XP YP l.row.toRowW d [] (fun f vs => PySem.call f vs) := by
 refine Att.attach_call hn hdf fun w s₀ s₁ mg mb fa o pm cd doc a vs ns G Y ho hd hcd hmg hobj hints hlen hg => ?_
 have KX := hY w _ Y
 obtain ⟨fd, hb, hF⟩ := F w mg fa _ KX G.T.g hmg
 exact law_call KX G.T.g G.T.b G.T.builtins G.T.nolimit hg hobj hints (Nat.le_trans hlen hn2) hr hF hb (fun H hO hS => hsp w H a ns hlen hO hS) fun H e s' => hCX w H s₁ e s'
end L2
namespace L2
open PySem PySem.Spec PyProof.Rows
noncomputable def defArgs (s : Stmt) : Arguments := match s with
 | .FunctionDef _ a _ _ _ _ _ _ _ _ => a
 | _ => { posonlyargs := [], args := [], vararg := none, kwonlyargs := [], kw_defaults := [], kwarg := none, defaults := [] }
noncomputable def defBody (s : Stmt) : List Stmt := match s with
 | .FunctionDef _ _ b _ _ _ _ _ _ _ => b
 | _ => []
noncomputable def defScope (s : Stmt) : Scope := match s with
 | .FunctionDef _ _ _ _ _ _ sc _ _ _ => sc
 | _ => { kind := .function, names := [], isGenerator := false, isCoroutine := false }
noncomputable abbrev CX0 : CXT := fun _ _ _ _ _ _ => False
noncomputable abbrev E0 : XK := fun _ _ _ => False
theorem pass0 {X : Cx} : Passes CX0 X E0 := fun _ _ _ _ _ _ _ h => h.elim
structure Fun (K : PySem.W.Frag) (x qual : Str) (st : Stmt) (f : Addr) (fd : FuncData) : Prop where
 ex : ∃ (oc : Value) (od : Option Addr) (kV doc pm : Value) (an : Option Addr) (cdv ct : Value) (osl : Array (Option Value)),
   fd = PySem.W.fnOf x qual (defArgs st) (defBody st) (defScope st) .none kV doc pm an cdv ct ∧ K.lookup f = some ⟨oc, od, .func fd, osl⟩ ∧ PySem.W.codeIn K cdv qual = true
 kp : PySem.W.keepIn K (.ref f) = true
section
variable {P : Program} {w : World} {K : PySem.W.Frag} {mg : Str → Option Value} {base : Heap}
theorem Fun.ok {x qual : Str} {st : Stmt} {f : Addr} {fd : FuncData} {N ps : List Str} {k : Nat} {sp : Sp} (F : Fun K x qual st f fd) (S : FnScope N ps (defScope st)) (len : ∀ vs H Q E, sp vs H Q E → vs.length = ps.length)
   (hbody : ∀ (cdv : Value) (A : Around) (outer : List Env) (s : Shared) (H : Hp) (vs : List V) (Q : VK) (E : XK), Room k (A.deeper (envOfC qual (defScope st) s.heap.objs.size f cdv)) → sp vs H Q E →
     ∃ t, PSs (cxOf CX0 P w K mg base N qual (defScope st) f cdv A outer s H E).nox (defBody st) t ∧ t { nx := fun _ H' => Q .non H', rt := Q } (start N vs) H) : FnOk P w K mg base CX0 (k + 1) f fd ps sp := by
 obtain ⟨oc, od, kV, doc, pm, an, cdv, ct, osl, rfl, lk, hcd⟩ := F.ex
 refine fn_of lk hcd S len fun A outer s H vs Q E hr hsp => ?_
 obtain ⟨t, h, q⟩ := hbody cdv A outer s H vs Q E hr hsp
 exact ⟨t, h.nox, q⟩
theorem Fun.binds {x qual : Str} {st : Stmt} {f : Addr} {fd : FuncData} {ps : List Str} (F : Fun K x qual st f fd)
   (h : ∀ (kV doc pm : Value) (an : Option Addr) (cdv ct : Value) (us : List Value), us.length = ps.length → bindArgs (PySem.W.fnOf x qual (defArgs st) (defBody st) (defScope st) .none kV doc pm an cdv ct) ⟨us, []⟩ = pure (ps.zip us)) : Binds K fd ps [] := by
 obtain ⟨oc, od, kV, doc, pm, an, cdv, ct, osl, rfl, lk, hcd⟩ := F.ex
 exact .all (h kV doc pm an cdv ct)
theorem fun_mk {x qual : Str} {st : Stmt} {f : Addr} {oc : Value} {od an : Option Addr} {osl : Array (Option Value)} {kV doc pm cdv ct : Value} (l : K.lookup f = some ⟨oc, od, .func (PySem.W.fnOf x qual (defArgs st) (defBody st) (defScope st) .none kV doc pm an cdv ct), osl⟩)
   (c : PySem.W.codeIn K cdv qual = true) (k : PySem.W.keepIn K (.ref f) = true) : Fun K x qual st f (PySem.W.fnOf x qual (defArgs st) (defBody st) (defScope st) .none kV doc pm an cdv ct) := ⟨⟨oc, od, kV, doc, pm, an, cdv, ct, osl, rfl, l, c⟩, k⟩
end
section
variable {X : Cx}
end
theorem ite2 {c A B : Prop} [Decidable c] (h1 : c → A) (h2 : ¬ c → B) : if c then A else B := by
 by_cases h : c
 · rw [if_pos h]
   exact h1 h
 · rw [if_neg h]
   exact h2 h
end L2
set_option maxHeartbeats 4000000
namespace L2
open PySem PySem.Spec PyProof.Rows
section
variable {κ : Type} [DecidableEq κ]
noncomputable def valV (kvs : List (κ × V)) (k : κ) : Option V := (kvs.find? fun kv => decide (kv.1 = k)).map (·.2)
noncomputable def putK (kvs : List (κ × V)) (k : κ) (v : V) : List (κ × V) :=
 if (kvs.any fun kv => decide (kv.1 = k)) = true then kvs.map (fun kv => if kv.1 = k then (kv.1, v) else kv) else kvs ++ [(k, v)]
theorem valV_pos {p : κ × V} {r : List (κ × V)} {k : κ} (e : p.1 = k) : valV (p :: r) k = some p.2 := by simp [valV, List.find?_cons, e]
theorem valV_neg {p : κ × V} {r : List (κ × V)} {k : κ} (e : ¬ p.1 = k) : valV (p :: r) k = valV r k := by simp [valV, List.find?_cons, e]
theorem valV_any (k : κ) : ∀ kvs : List (κ × V), (kvs.any fun kv => decide (kv.1 = k)) = (valV kvs k).isSome
 | [] => rfl
 | p :: r => by
   rw [List.any_cons]
   by_cases e : p.1 = k
   · simp only [valV_pos e, decide_eq_true e, Bool.true_or, Option.isSome_some]
   · rw [valV_neg e, decide_eq_false e, Bool.false_or]; exact valV_any k r
theorem length_putK (kvs : List (κ × V)) (k : κ) (v : V) : (putK kvs k v).length ≤ kvs.length + 1 := by
 unfold putK
 split
 · rw [List.length_map]; lia
 · rw [List.length_append, List.length_cons, List.length_nil]; lia
theorem RelO.isSome_eq {o : Option V} {u : Option Value} (r : RelO o u) : o.isSome = u.isSome := by
 cases o with
 | none => cases u with
   | none => rfl
   | some _ => exact (show False from r).elim
 | some _ => cases u with
   | none => exact (show False from r).elim
   | some _ => rfl
theorem KV.val {kvs : List (κ × V)} {vs : List (κ × Value)} (r : KV kvs vs) (k : κ) : RelO (valV kvs k) (valueAt vs k) := by
 unfold KV at r
 induction r with
 | nil => exact True.intro
 | @cons p q ps qs h t ih =>
   obtain ⟨h1, h2⟩ := h
   by_cases e : p.1 = k
   · have e' : q.1 = k := h1.symm.trans e
     have b : valueAt (q :: qs) k = some q.2 := by simp [valueAt, List.find?_cons, e']
     rw [valV_pos e, b]; exact h2
   · have e' : ¬ q.1 = k := fun z => e (h1.trans z)
     have b : valueAt (q :: qs) k = valueAt qs k := by simp [valueAt, List.find?_cons, e']
     rw [valV_neg e, b]; exact ih
theorem KV.any {kvs : List (κ × V)} {vs : List (κ × Value)} (r : KV kvs vs) (k : κ) : (kvs.any fun kv => decide (kv.1 = k)) = vs.any fun kv => decide (kv.1 = k) := by
 unfold KV at r
 induction r with
 | nil => rfl
 | cons h t ih => rw [List.any_cons, List.any_cons, ih, h.1]
theorem KV.repl {kvs : List (κ × V)} {vs : List (κ × Value)} (r : KV kvs vs) (k : κ) {y : V} {u : Value} (ry : RelV y u) :
   KV (kvs.map fun kv => if kv.1 = k then (kv.1, y) else kv) (vs.map fun kv => if kv.1 = k then (kv.1, u) else kv) := by
 unfold KV at r ⊢
 induction r with
 | nil => exact .nil
 | @cons p q ps qs h t ih =>
   rw [List.map_cons, List.map_cons]
   refine .cons ?_ ih
   obtain ⟨h1, h2⟩ := h
   by_cases e : p.1 = k
   · rw [if_pos e, if_pos (h1.symm.trans e)]; exact ⟨h1, ry⟩
   · rw [if_neg e, if_neg (fun z => e (h1.trans z))]; exact ⟨h1, h2⟩
theorem KV.put {kvs : List (κ × V)} {vs : List (κ × Value)} (r : KV kvs vs) (k : κ) {y : V} {u : Value} (ry : RelV y u) : KV (putK kvs k y) (stored vs k u) := by
 unfold putK stored
 rw [r.any k]
 by_cases e : (vs.any fun kv => decide (kv.1 = k)) = true
 · rw [if_pos e, if_pos e]; exact r.repl k ry
 · rw [if_neg e, if_neg e]; exact Paired.snoc r ⟨rfl, ry⟩
theorem KV.length {kvs : List (κ × V)} {vs : List (κ × Value)} (r : KV kvs vs) : kvs.length = vs.length := Paired.length r
end
theorem kV_is {P : Program} {w : World} {k : Key} {u : Value} (r : RelV (kV k) u) : (mixKind P w).is k u = true := by
 cases k with
 | inl i => obtain ⟨t, e⟩ := (show ∃ t, u = Value.int i t from r); subst e; exact mixKind_int P w i t
 | inr x => obtain ⟨t, e⟩ := (show ∃ t, u = Value.str x t from r); subst e; exact mixKind_str P w x t
theorem items_are {P : Program} {w : World} : ∀ {ks : List Key} {us : List Value}, Vals (ks.map kV) us → ItemsAre (mixKind P w) ks us
 | [], _, r => by rw [List.map_nil] at r; cases r; exact .nil
 | k :: ks, _, r => by
   rw [List.map_cons] at r
   cases r with
   | cons h t => exact .cons (kV_is h) (items_are t)
noncomputable abbrev KT (H : Hp) : List (List Key × V) → List (List Key × Addr × Value) → Prop := Paired fun p q => p.1 = q.1 ∧ H q.2.1 = some (.tup (p.1.map kV)) ∧ RelV p.2 q.2.2
theorem KT.val {H : Hp} {kvs : List (List Key × V)} {xs : List (List Key × Addr × Value)} (r : KT H kvs xs) (k : List Key) : RelO (valV kvs k) ((atKey xs k).map (·.2)) := by
 induction r with
 | nil => exact True.intro
 | @cons p q ps qs h t ih =>
   obtain ⟨h1, _, h2⟩ := h
   by_cases e : p.1 = k
   · have e' : q.1 = k := h1.symm.trans e
     have b : atKey (q :: qs) k = some q.2 := by simp [atKey, List.find?_cons, e']
     rw [valV_pos e, b]; exact h2
   · have e' : ¬ q.1 = k := fun z => e (h1.trans z)
     have b : atKey (q :: qs) k = atKey qs k := by simp [atKey, List.find?_cons, e']
     rw [valV_neg e, b]; exact ih
theorem KT.repl {H : Hp} {kvs : List (List Key × V)} {xs : List (List Key × Addr × Value)} (r : KT H kvs xs) (k : List Key) {y : V} {u : Value} (ry : RelV y u) :
   KT H (kvs.map fun kv => if kv.1 = k then (kv.1, y) else kv) (xs.map (putAt k u)) := by
 induction r with
 | nil => exact .nil
 | @cons p q ps qs h t ih =>
   rw [List.map_cons, List.map_cons]
   refine .cons ?_ ih
   obtain ⟨h1, h2, h3⟩ := h
   unfold putAt
   by_cases e : p.1 = k
   · rw [if_pos e, if_pos (h1.symm.trans e)]; exact ⟨h1, h2, ry⟩
   · rw [if_neg e, if_neg (fun z => e (h1.trans z))]; exact ⟨h1, h2, h3⟩
theorem KT.put {H : Hp} {kvs : List (List Key × V)} {xs : List (List Key × Addr × Value)} (r : KT H kvs xs) (k : List Key) {b : Addr} {y : V} {u : Value} (hb : H b = some (.tup (k.map kV))) (ry : RelV y u) :
   KT H (putK kvs k y) (storedH xs k b u) := by
 have e : (kvs.any fun kv => decide (kv.1 = k)) = (atKey xs k).isSome := by
   rw [valV_any, (r.val k).isSome_eq, Option.isSome_map]
 unfold putK storedH
 rw [e]
 by_cases q : (atKey xs k).isSome = true
 · rw [if_pos q, if_pos q]; exact r.repl k ry
 · rw [if_neg q, if_neg q]; exact Paired.snoc r ⟨rfl, hb, ry⟩
theorem KT.keeps {H H' : Hp} {kvs : List (List Key × V)} {xs : List (List Key × Addr × Value)} (r : KT H kvs xs) (ht : ∀ b ys, H b = some (.tup ys) → H' b = some (.tup ys)) : KT H' kvs xs :=
 Paired.mapP r fun _ _ z => ⟨z.1, ht _ _ z.2.1, z.2.2⟩
section
variable {P : Program} {w : World} {H : Hp} {h : Heap} {a : Addr}
theorem rd_of {u : HO} (ok : HOk P w H h) (e : Rd H a u) : ObjOk P w H h a u := e.ok ok
theorem dk_rd {kvs : List (Key × V)} (ok : HOk P w H h) (e : Rd H a (.dK kvs)) : kvs.length ≤ sizeLine ∧ (a == sysModules) = false ∧ ∃ vs, KV kvs vs ∧ h.DictOf (mixKind P w) a vs :=
 show ObjOk P w H h a (.dK kvs) from rd_of ok e
theorem dk_of {kvs : List (Key × V)} (ok : HOk P w H h) (e : H a = some (.dK kvs)) : kvs.length ≤ sizeLine ∧ (a == sysModules) = false ∧ ∃ vs, KV kvs vs ∧ h.DictOf (mixKind P w) a vs := dk_rd ok (.inl e)
theorem key_of {ks : List Key} (ok : HOk P w H h) (e : H a = some (.tup (ks.map kV))) : (tupleKind (mixKind P w)).is h ks a := by
 obtain ⟨_, its, r, o, h1, h2, _, n, h3⟩ := (show ObjOk P w H h a (.tup (ks.map kV)) from ok a _ e)
 exact ⟨o, its.toArray, n, h1, h2, h3, by simpa using items_are r⟩
theorem dt_rd {kvs : List (List Key × V)} (ok : HOk P w H h) (e : Rd H a (.dT kvs)) : kvs.length ≤ sizeLine ∧ (a == sysModules) = false ∧
   ∃ xs, KT H kvs xs ∧ h.DictOfH (tupleKind (mixKind P w)) a xs := by
 obtain ⟨z, y, xs, r, o, es, ep, h1, h2, h3, h4, h5⟩ := (show ObjOk P w H h a (.dT kvs) from rd_of ok e)
 refine ⟨z, y, xs, r, o, es, ep, h1, h2, h3, h4, fun x hx => ?_, h5⟩
 have all : ∀ {l : List (List Key × V)} {m : List (List Key × Addr × Value)}, KT H l m → ∀ x ∈ m, (tupleKind (mixKind P w)).is h x.1 x.2.1 := by
   intro l m q
   induction q with
   | nil => intro x hx; exact nomatch hx
   | @cons p q ps qs hq t ih =>
     intro x hx
     rcases List.mem_cons.mp hx with e | hx
     · subst e
       exact key_of ok (by rw [← hq.1]; exact hq.2.1)
     · exact ih x hx
 exact all r x hx
theorem dt_of {kvs : List (List Key × V)} (ok : HOk P w H h) (e : H a = some (.dT kvs)) : kvs.length ≤ sizeLine ∧ (a == sysModules) = false ∧
   ∃ xs, KT H kvs xs ∧ h.DictOfH (tupleKind (mixKind P w)) a xs := dt_rd ok (.inl e)
end
noncomputable def DGet (H : Hp) (a : Addr) (y : V) (r : Option V) : Prop :=
 (∃ kvs k, Rd H a (.dK kvs) ∧ y = kV k ∧ r = valV kvs k) ∨ ∃ kvs k b, Rd H a (.dT kvs) ∧ y = .ref b ∧ H b = some (.tup (k.map kV)) ∧ r = valV kvs k
noncomputable def DPut (H : Hp) (a : Addr) (y v : V) (H' : Hp) : Prop :=
 (∃ kvs k, H a = some (.dK kvs) ∧ y = kV k ∧ kvs.length < sizeLine ∧ H' = upd H a (.dK (putK kvs k v))) ∨
 ∃ kvs k b, H a = some (.dT kvs) ∧ y = .ref b ∧ H b = some (.tup (k.map kV)) ∧ kvs.length < sizeLine ∧ H' = upd H a (.dT (putK kvs k v))
theorem DGet.t {H : Hp} {a b : Addr} {kvs : List (List Key × V)} {k : List Key} (e : H a = some (.dT kvs)) (eb : H b = some (.tup (k.map kV))) : DGet H a (.ref b) (valV kvs k) := .inr ⟨kvs, k, b, .inl e, rfl, eb, rfl⟩
theorem DPut.t {H : Hp} {a b : Addr} {kvs : List (List Key × V)} {k : List Key} {v : V} (e : H a = some (.dT kvs)) (eb : H b = some (.tup (k.map kV))) (hl : kvs.length < sizeLine) :
   DPut H a (.ref b) v (upd H a (.dT (putK kvs k v))) := .inr ⟨kvs, k, b, e, rfl, eb, hl, rfl⟩
section
variable {X : Cx} {pins : List (Addr × Obj)} {σ : St} {H : Hp} {s : Shared} {a : Addr} {y v : V} {u r : Value} {o : Option V} {A : Around} {E : Value → Shared → Prop}
theorem Inv.big (I : Inv X pins σ H s) : sysModules < s.heap.objs.size := by
 have h : mainGlobals < s.heap.objs.size := (I.mod.glob.keeps I.bk).lt
 exact Nat.lt_trans (by decide) h
theorem d_getItem {Q : Value → Shared → Prop} (hu : A.units + 1 < cLine) (I : Inv X pins σ H s) (g : DGet H a y (some v)) (ry : RelV y u) (h : ∀ w' s', Inv X pins σ H s' → RelV v w' → Q w' s') :
   wpAny (model X.prog X.w) A (getItem (.ref a) u) Q E s := by
 rcases g with ⟨kvs, k, e, ey, l⟩ | ⟨kvs, k, b, e, ey, eb, l⟩
 · subst ey
   obtain ⟨z, hd, vs, rel, dd⟩ := dk_rd I.hok e
   obtain ⟨w', hw, rw'⟩ := RelO.some_of (v := v) (o := valueAt vs k) (by rw [l]; exact rel.val k)
   exact wpAny_getItem_of (kV_is ry) dd.mapOf hw (h w' _ (I.tok _) rw')
 · subst ey
   cases (show u = Value.ref b from ry)
   obtain ⟨z, hd, xs, rel, dd⟩ := dt_rd I.hok e
   obtain ⟨w', hw, rw'⟩ := RelO.some_of (v := v) (o := (atKey xs k).map (·.2)) (by rw [l]; exact rel.val k)
   obtain ⟨p, hp, hp2⟩ := Option.map_eq_some_iff.mp hw
   refine wpAny_getItem_heap (tupleKind_room_in1 hu) (key_of I.hok eb) dd hp ?_
   rw [hp2]
   exact h w' _ (I.tok _) rw'
theorem d_write {h' : Heap} {t' : Nat} {ob : HO} (I : Inv X pins σ H s) (mu : Mut (H a)) (hs : Heap.SameBut a s.heap h') (he : ∃ q, h'.get? a = some q) (new : ObjOk X.prog X.w (upd H a ob) h' a ob) :
   Inv X pins σ (upd H a ob) { s with heap := h', toks := t' } :=
 I.write (x := a) (e := a) mu (.inl rfl) (fun b q hb z => (hs.2 b hb).trans z) he new
theorem dk_new {P : Program} {w : World} {H' : Hp} {h' : Heap} {kvs : List (Key × V)} {vs : List (Key × Value)} (z : kvs.length ≤ sizeLine) (hd : (a == sysModules) = false) (rel : KV kvs vs) (dd : h'.DictOf (mixKind P w) a vs) :
   ObjOk P w H' h' a (.dK kvs) := ⟨z, hd, vs, rel, dd⟩
theorem d_setItem {H' : Hp} {Q : Unit → Shared → Prop} (hu : A.units + 1 < cLine) (I : Inv X pins σ H s) (g : DPut H a y v H') (ry : RelV y u) (rv : RelV v r) (h : ∀ s', Inv X pins σ H' s' → Q () s') :
   wpAny (model X.prog X.w) A (setItem (.ref a) u r) Q E s := by
 rcases g with ⟨kvs, k, e, ey, l, eH⟩ | ⟨kvs, k, b, e, ey, eb, l, eH⟩
 · subst ey eH
   obtain ⟨z, hd, vs, rel, dd⟩ := dk_of I.hok e
   have hz : vs.length ≤ sizeLine := by rw [← rel.length]; exact z
   have hl : (putK kvs k v).length ≤ sizeLine := by have := length_putK kvs k v; lia
   refine wpAny_setItem_pairs (hsz := hz) (kV_is ry) dd fun h' dd' hs => h _ ?_
   have he : ∃ q, h'.get? a = some q := let ⟨q, _, _, hq, _⟩ := dd'; ⟨q, hq⟩
   exact d_write I (by rw [e]; exact True.intro) hs he (dk_new hl hd (rel.put k rv) dd')
 · subst ey eH
   cases (show u = Value.ref b from ry)
   obtain ⟨z, hd, xs, rel, dd⟩ := dt_of I.hok e
   have hz : xs.length ≤ sizeLine := by rw [← Paired.length rel]; exact z
   have hl : (putK kvs k v).length ≤ sizeLine := by have := length_putK kvs k v; lia
   refine wpAny_setItem_heap (hsz := hz) (tupleKind_room_in1 hu) (key_of I.hok eb) dd fun h' dd' hs => h _ ?_
   obtain ⟨q, es, ep, hq, h2, h3, h4, _, h5⟩ := dd'
   refine d_write I (by rw [e]; exact True.intro) hs ⟨q, hq⟩ ⟨hl, hd, _, (rel.put k eb rv).keeps fun c ys ec => ?_, q, es, ep, hq, h2, h3, h4, h5⟩
   rw [upd_ne (ne_of ec e (fun z => nomatch z))]
   exact ec
end
section
variable {X : Cx} {pins : List (Addr × Obj)} {σ : St} {H : Hp} {s : Shared} {a : Addr} {kvs : List (Key × V)} {k : Key} {u : Value} {A : Around} {E : Value → Shared → Prop}
end
noncomputable def NoSl (i : Expr) : Prop := ∀ ov iv, subscripted i false ov iv = operate [ov, iv] (getItem ov iv)
theorem subD_of {prog : Program} {w : World} {A : Around} {E : Value → Shared → Prop} {s : Shared} {env : Env} {value slice : Expr} {pos : Pos} {T id : String} {Q : Value → Shared → Prop}
   (hl : typeLookup (.type T) "__getitem__" = pure (some (.builtin id))) (hs : NoSl slice)
   (h : wpAny (model prog w) A (eval value env) (fun o s₁ => wpAny (model prog w) A (eval slice env) (fun i s₂ => s₂.TypeIs o T ∧ wpAny (model prog w) A (getItem o i) Q E s₂) E s₁) E s) :
   wpAny (model prog w) A (eval (.Subscript value slice pos) env) Q E s := by
 refine Subscript_ (wpAny_mono h (fun o s₁ h₁ => wpAny_mono h₁ (fun i s₂ h₂ => ?_) fun _ _ x => x) fun _ _ x => x)
 obtain ⟨hT, h₂⟩ := h₂
 unfold subscriptTail
 refine wpAny_bind ?_
 rw [getitemInPython_of_ne hT.not_modules]
 refine wpAny_bind (wpAny_specialOf hT hl ?_)
 have fin : wpAny (model prog w) A (subscripted slice false o i) (fun r s₃ => wpAny (model prog w) A (letTemporaryGo value o r >>= fun _ => pure r) Q E s₃) E s₂ := by
   rw [hs o i]
   exact wpAny_operating (wpAny_mono h₂ (fun r s₃ h₃ => wpAny_bind (wpAny_letTemporaryGo (wpAny_pure h₃))) fun _ _ x => x)
 first
   | exact wpAny_pure (wpAny_bind fin)
   | exact wpAny_bind (wpAny_pure (wpAny_bind fin))
   | exact wpAny_bind fin
theorem dict_typeIs {X : Cx} {pins : List (Addr × Obj)} {σ : St} {H : Hp} {s : Shared} {a : Addr} {y : V} {o : Option V} (I : Inv X pins σ H s) (g : DGet H a y o) : s.TypeIs (.ref a) "dict" := by
 rcases g with ⟨kvs, k, e, _, _⟩ | ⟨kvs, k, b, e, _, _, _⟩
 · obtain ⟨_, _, vs, _, dd⟩ := dk_rd I.hok e
   exact dd.typeIs
 · obtain ⟨_, _, xs, _, dd⟩ := dt_rd I.hok e
   exact dd.typeIs
noncomputable def tDGet (td ty : TE) : TE := fun σ H Q => td σ H fun x H1 => ty σ H1 fun y H2 => ∃ a v, x = .ref a ∧ DGet H2 a y (some v) ∧ Q v H2
noncomputable def sDPut (td ty tv : TE) : TS := fun D σ H => tv σ H fun v H1 => td σ H1 fun x H2 => ty σ H2 fun y H3 => ∃ a H4, x = .ref a ∧ DPut H3 a y v H4 ∧ D.nx σ H4
section
variable {X : Cx} {o i e value : Expr} {pos pos' tpos : Pos} {td ty tv : TE}
theorem pe_dget (hu : X.A.units + 1 < cLine) (ho : PE X o td) (hi : PE X i ty) (hs : NoSl i) : PE X (.Subscript o i pos) (tDGet td ty) := by
 intro pins s σ H Q I h
 refine subD_of PySem.F.slot_dict_getitem.lookup hs (thn (ho pins s σ H _ I h) fun u s1 ⟨x, H1, I1, rx, q1⟩ => thn (hi pins s1 σ H1 _ I1 q1) fun iv s2 ⟨y, H2, I2, ry, a, v, ex, g, q2⟩ => ?_)
 subst ex
 obtain rfl : u = Value.ref a := rx
 exact ⟨dict_typeIs I2 g, d_getItem hu I2 g ry fun w' s3 I3 rw' => ⟨v, H2, I3, rw', q2⟩⟩
theorem ps_dput (hu : X.A.units + 1 < cLine) (ho : PE X o td) (hi : PE X i ty) (hv : PE X value tv) (hs : swapsWith value (some (.Subscript o i pos')) pos.line X.env = pure false) :
   PS X (.Assign [.Subscript o i pos'] value pos) (sDPut td ty tv) := by
 intro pins s σ H D I h
 refine wpAny_Assign_Subscript (thn (hv pins s σ H _ I h) fun r s1 ⟨v, H1, I1, rv, q1⟩ => thn (ho pins s1 σ H1 _ I1 q1) fun u s2 ⟨x, H2, I2, rx, q2⟩ => thn (hi pins s2 σ H2 _ I2 q2) fun iv s3 ⟨y, H3, I3, ry, a, H4, ex, g, q3⟩ => ?_) hs
 subst ex
 obtain rfl : u = Value.ref a := rx
 exact d_setItem hu I3 g ry rv fun s4 I4 => ⟨σ, H4, I4, q3⟩
end
theorem dt_empty {P : Program} {w : World} {H : Hp} (h : Heap) (hb : sysModules < h.objs.size) : ObjOk P w H (h.push { cls := .type "dict", data := .dict #[] }) h.objs.size (.dT []) :=
 ⟨Nat.zero_le _, beq_eq_false_iff_ne.mpr (Ne.symm (Nat.ne_of_lt hb)), [], .nil, _, #[], 0, Heap.get?_push_size _ rfl, ⟨rfl, rfl, rfl⟩, rfl, rfl, List.nodup_nil⟩
noncomputable def tDNewT : TE := fun _ H Q => ∀ p, H p = none → Q (.ref p) (upd H p (.dT []))
section
variable {X : Cx} {pos : Pos}
theorem pe_dnewT : PE X (.Dict [] [] pos) tDNewT := fun pins s σ H Q I h =>
 wpAny_Dict_empty ⟨.ref s.heap.objs.size, _, I.laid (a := s.heap.objs.size) (o := .dT []) (t' := s.toks) (fun _ _ q => Heap.get?_push_of_some _ q) (Nat.le_refl _) (dt_empty s.heap I.big), rfl, h _ (I.hok.fresh (Nat.le_refl _))⟩
end
structure M1 (X : Cx) (o : Expr) (m : Str) (apos : Pos) (e : Expr) (cpos : Pos) : Prop where
 base : attributeBase o m X.env (eval o X.env) = eval o X.env
 few : ((backTo cpos (starEach [e] X.env)).all (fun x => !x.1) && (backToKw cpos (keywordEach [] X.env)).all (fun x => x.1.isSome)
   && decide (([e] : List Expr).length + ([] : List Keyword).length + (if ([] : List Keyword).isEmpty then 0 else 1) < 30)) = true
 line : (apos.endLine == cpos.line) = true
 trees : backTo cpos (starEach [e] X.env) = [(false, eval e X.env)]
section
variable {X : Cx} {pins : List (Addr × Obj)} {σ : St} {H : Hp} {s : Shared} {a : Addr} {y d : V} {u r : Value} {o : Option V} {A : Around} {E : Value → Shared → Prop}
end
section
variable {X : Cx} {o e f : Expr} {apos cpos : Pos} {td ty tx : TE}
end
end L2
namespace L2
open PySem PySem.Spec PyProof.Rows
noncomputable def cloOf (env : Env) : List (Str × NameKind) → List (Str × Addr) → List (Str × Addr)
 | [], acc => acc
 | (n, k) :: r, acc => cloOf env r (if k == .free then (n, (env.cells.lookup n).getD 0) :: acc else acc)
theorem cloOf_cons (env : Env) (n : Str) (k : NameKind) (r : List (Str × NameKind)) (acc : List (Str × Addr)) : cloOf env ((n, k) :: r) acc = cloOf env r (if k == .free then (n, (env.cells.lookup n).getD 0) :: acc else acc) := rfl
theorem closure_forIn (env : Env) (f : Str × NameKind → List (Str × Addr) → Sem (ForInStep (List (Str × Addr))))
   (hf : ∀ n k cs, f (n, k) cs = if (k == .free) = true then (do let a ← cellOf env n; pure (.yield ((n, a) :: cs))) else pure (.yield cs)) :
   ∀ (names : List (Str × NameKind)) (acc : List (Str × Addr)), (∀ y ∈ names, y.2 = .free → ∃ c, env.cells.lookup y.1 = some c) → forIn names acc f = (pure (cloOf env names acc) : Sem _)
 | [], acc, _ => by rw [List.forIn_nil]; rfl
 | (n, k) :: r, acc, h => by
   rw [List.forIn_cons, hf]
   have hr : ∀ y ∈ r, y.2 = .free → ∃ c, env.cells.lookup y.1 = some c := fun y hy => h y (List.mem_cons_of_mem _ hy)
   by_cases hk : (k == NameKind.free) = true
   · rw [if_pos hk]
     obtain ⟨c, hc⟩ := h (n, k) List.mem_cons_self (by simpa using hk)
     have hc' : env.cells.lookup n = some c := hc
     have e : cellOf env n = pure c := by unfold cellOf; rw [hc']
     rw [e]
     simp only [pure_bind]
     rw [closure_forIn env f hf r _ hr]
     rw [cloOf_cons, if_pos hk, hc']
     rfl
   · rw [if_neg hk]
     simp only [pure_bind]
     rw [closure_forIn env f hf r _ hr]
     rw [cloOf_cons, if_neg hk]
theorem closureFor_eq (scope : Scope) (env : Env) (h : ∀ y ∈ scope.names, y.2 = .free → ∃ c, env.cells.lookup y.1 = some c) : closureFor scope env = pure (cloOf env scope.names []) := by
 unfold closureFor
 dsimp only
 rw [closure_forIn env _ (fun n k cs => by cases hk : (k == NameKind.free) <;> simp [hk] <;> rfl) scope.names [] h]
 rfl
theorem cloOf_lookup (env : Env) : ∀ (names : List (Str × NameKind)) (acc : List (Str × Addr)) (x : Str) (c : Addr), (cloOf env names acc).lookup x = some c →
   (acc.lookup x = some c ∨ ((x, .free) ∈ names ∧ c = (env.cells.lookup x).getD 0))
 | [], acc, x, c, h => .inl h
 | (n, k) :: r, acc, x, c, h => by
   rw [cloOf_cons] at h
   rcases cloOf_lookup env r _ x c h with q | ⟨q1, q2⟩
   · split at q
     · rename_i hk
       have hk' : k = .free := by simpa using hk
       subst hk'
       rw [List.lookup_cons] at q
       split at q
       · rename_i hx
         have : x = n := by simpa using hx
         subst this
         cases q
         exact .inr ⟨List.mem_cons_self, rfl⟩
       · exact .inl q
     · exact .inl q
   · exact .inr ⟨List.mem_cons_of_mem _ q1, q2⟩
theorem cloOf_acc (env : Env) : ∀ (names : List (Str × NameKind)) (acc : List (Str × Addr)) (x : Str), (∃ c, acc.lookup x = some c) → ∃ c, (cloOf env names acc).lookup x = some c
 | [], acc, x, h => h
 | (n, k) :: r, acc, x, h => by
   rw [cloOf_cons]
   refine cloOf_acc env r _ x ?_
   split
   · rw [List.lookup_cons]
     split
     · exact ⟨_, rfl⟩
     · exact h
   · exact h
theorem cloOf_has (env : Env) : ∀ (names : List (Str × NameKind)) (acc : List (Str × Addr)) (x : Str), (x, NameKind.free) ∈ names → ∃ c, (cloOf env names acc).lookup x = some c
 | [], acc, x, h => by simp at h
 | (n, k) :: r, acc, x, h => by
   rw [cloOf_cons]
   rcases List.mem_cons.mp h with e | h
   · cases e
     refine cloOf_acc env r _ _ ?_
     rw [if_pos (by decide), List.lookup_cons]
     simp
   · exact cloOf_has env r _ x h
noncomputable def ownB (names : List (Str × NameKind)) (x : Str) : Bool := names.any fun y => y.1 == x && y.2 == .cell
theorem ownB_mem {names : List (Str × NameKind)} {x : Str} : ownB names x = true ↔ (x, NameKind.cell) ∈ names := by
 unfold ownB
 rw [List.any_eq_true]
 constructor
 · rintro ⟨⟨n, k⟩, h, e⟩
   simp only [Bool.and_eq_true, beq_iff_eq] at e
   obtain ⟨rfl, rfl⟩ := e
   exact h
 · intro h
   exact ⟨_, h, by simp⟩
theorem cellsFrom_app : ∀ (names : List (Str × NameKind)) (n : Nat) (acc : List (Str × Addr)), cellsFrom n names acc = cellsFrom n names [] ++ acc
 | [], _, _ => rfl
 | (x, k) :: r, n, acc => by
   unfold cellsFrom
   split
   · rw [cellsFrom_app r (n + 1) ((x, n) :: acc), cellsFrom_app r (n + 1) [(x, n)], List.append_assoc]; rfl
   · exact cellsFrom_app r n acc
theorem cellsFrom_in : ∀ (names : List (Str × NameKind)) (n : Nat) {x : Str} {c : Addr}, (x, c) ∈ cellsFrom n names [] → n ≤ c ∧ (x, NameKind.cell) ∈ names
 | [], _, _, _, h => nomatch h
 | (y, k) :: r, n, x, c, h => by
   unfold cellsFrom at h
   split at h
   · rename_i hk
     have hk' : k = .cell := by simpa using hk
     subst hk'
     rw [cellsFrom_app] at h
     rcases List.mem_append.mp h with h | h
     · have := cellsFrom_in r (n + 1) h
       exact ⟨by lia, List.mem_cons_of_mem _ this.2⟩
     · cases List.mem_singleton.mp h
       exact ⟨Nat.le_refl _, List.mem_cons_self⟩
   · have := cellsFrom_in r n h
     exact ⟨this.1, List.mem_cons_of_mem _ this.2⟩
theorem cellsFrom_has : ∀ (names : List (Str × NameKind)) (n : Nat) {x : Str}, (x, NameKind.cell) ∈ names → ((cellsFrom n names []).lookup x).isSome = true
 | [], _, _, h => nomatch h
 | (y, k) :: r, n, x, h => by
   unfold cellsFrom
   rcases List.mem_cons.mp h with e | h
   · cases e
     rw [if_pos (by decide), cellsFrom_app, List.lookup_append]
     cases hh : (cellsFrom (n + 1) r []).lookup y with
     | some c => rfl
     | none => simp
   · have i0 := cellsFrom_has r n h
     have i1 := cellsFrom_has r (n + 1) h
     split
     · rw [cellsFrom_app, List.lookup_append]
       cases hh : (cellsFrom (n + 1) r []).lookup x with
       | some c => rfl
       | none => rw [hh] at i1; cases i1
     · exact i0
theorem cellsFrom_apart : ∀ (names : List (Str × NameKind)) (n : Nat), (cellsFrom n names []).Pairwise fun x y => x.2 ≠ y.2
 | [], _ => List.Pairwise.nil
 | (y, k) :: r, n => by
   unfold cellsFrom
   split
   · rw [cellsFrom_app]
     refine List.pairwise_append.mpr ⟨cellsFrom_apart r (n + 1), List.pairwise_singleton _ _, fun a ha b hb => ?_⟩
     rw [List.mem_singleton.mp hb]
     have := (cellsFrom_in r (n + 1) (x := a.1) (c := a.2) ha).1
     show a.2 ≠ n
     exact Nat.ne_of_gt (Nat.lt_of_succ_le this)
   · exact cellsFrom_apart r n
theorem wpAny_newBlockEnv {M : Model} {A : Around} {E : Value → Shared → Prop} {s : Shared} {scope : Scope} {globals : Addr} {closure : List (Str × Addr)} {qual : Str} {func : Option Addr} {code : Value} {around : Env} {builtins : Addr} {Q : Env → Shared → Prop}
   (hQ : ∀ h', h' = pushCells (s.heap.push { cls := .type "dict", data := .dict #[] }) scope.names → Q (newEnv scope s.heap.objs.size globals (cellsFrom (s.heap.objs.size + 1) scope.names [] ++ closure) qual func code (some around) builtins) { s with heap := h' }) :
   wpAny M A (newFunctionEnv scope globals closure [] qual func code (some around) builtins) Q E s := by
 simp only [newFunctionEnv, Option.isSome_some, if_true]
 refine wpAny_bind (wpAny_alloc ?_)
 refine wpAny_bind (wpAny_layCells _ (fun name kind cells => by cases hkc : kind == NameKind.cell <;> simp [hkc]) _ _ _ _ ?_)
 rw [cellsFrom_app, show ({ s with heap := s.heap.push { cls := .type "dict", data := .dict #[] } } : Shared).heap.objs.size = s.heap.objs.size + 1 from Heap.size_push ..]
 refine wpAny_bind ?_
 rw [List.forIn_nil]
 exact wpAny_pure (wpAny_pure (hQ _ rfl))
section
variable {prog : Program} {w : World} {A : Around} {R : Result → Shared → Prop} {s : Shared}
theorem codeAny_compLoop_gen {elt target iter : Expr} {ifs : List Expr} {scope : Scope} {pos : Pos} {it acc : Value} {env : Env} (I : Nat → Shared → Prop)
   (turn : ∀ n s, I n s → wpAny (model prog w) A (pyNext it) (fun r s₁ => match r with
     | none => R (.ok .next) s₁
     | some v => wpAny (model prog w) A (letOwnedTupleGo target it v) (fun _ s₁' => wpAny (model prog w) A (assign target env v) (fun _ s₂ =>
         wpAny (model prog w) A (forIn ifs true fun c r => if r = true then do let ok ← isTrue c env (eval c env); pure (ForInStep.yield ok) else pure (ForInStep.yield r)) (fun ok s₃ =>
           if ok = true then wpAny (model prog w) A (eval elt env) (fun x s₄ =>
             wpAny (model prog w) A (call (.builtin "list.append") [acc, x]) (fun _ s₅ => ∃ m, m < n ∧ I m s₅) (notedBy (model prog w) A env fun e s' => R (.error e) s') s₄) (notedBy (model prog w) A env fun e s' => R (.error e) s') s₃
           else ∃ m, m < n ∧ I m s₃) (notedBy (model prog w) A env fun e s' => R (.error e) s') s₂) (notedBy (model prog w) A env fun e s' => R (.error e) s') s₁') (notedBy (model prog w) A env fun e s' => R (.error e) s') s₁) (notedBy (model prog w) A env fun e s' => R (.error e) s') s)
   (n : Nat) (h : I n s) :
   codeAny (model prog w) A (.compLoop (.ListComp elt [⟨target, iter, ifs, 0⟩] scope pos) 0 it acc env) R s := by
 refine codeAny_loop rfl I (fun n s hI => ?_) n h
 show wpAny _ A ((compTurn (.ListComp elt [⟨target, iter, ifs, 0⟩] scope pos) 0 it acc env).onRaise (fun x => do noteFrame x env; theTreesLotGoes x)) _ _ s
 refine wpAny_noted ?_
 rw [compTurn_list]
 refine wpAny_bind (wpAny_standAt (wpAny_bind (wpAny_mono (turn n s hI) (fun r s₁ h₁ => ?_) fun _ _ h' => h')))
 cases r with
 | none => exact wpAny_pure h₁
 | some v =>
   refine wpAny_bind (wpAny_mono h₁ (fun _ s₁' h₁' => wpAny_bind (wpAny_mono h₁' (fun _ s₂ h₂ => wpAny_bind (wpAny_mono h₂ (fun ok s₃ h₃ => ?_) fun _ _ h' => h')) fun _ _ h' => h')) fun _ _ h' => h')
   cases ok with
   | false => exact wpAny_pure ⟨rfl, h₃⟩
   | true =>
     exact wpAny_bind (wpAny_bind (wpAny_mono h₃ (fun x s₄ h₄ => wpAny_bind (wpAny_mono h₄ (fun _ s₅ h₅ => wpAny_pure (wpAny_pure ⟨rfl, h₅⟩)) fun _ _ h' => h')) fun _ _ h' => h'))
end
noncomputable def blk (X : Cx) (N' : List Str) (scope : Scope) (C : Addr) (s : Shared) (H : Hp) (fp : List Addr) (pins : List (Addr × Obj)) : Cx where
 prog := X.prog
 w := X.w
 K := X.K
 mg := X.mg
 base := X.base
 A := X.A
 N := N'
 s₀ := s
 H₀ := H
 env := compEnvC scope (cellsFrom (C + 1) scope.names [] ++ cloOf X.env scope.names []) C X.env
 outer := X.stack
 stack := X.stack
 ex := fp
 fn := ownB scope.names
 calm := X.calm
 pn := X.pn ++ pins
 xe := fun _ _ => False
structure BlkScope (X : Cx) (N' : List Str) (ix : List (Option Nat)) (scope : Scope) : Prop where
 kind : scope.kind = .function
 locs : ∀ y ∈ scope.names, y.2 = .local → scope.names.lookup y.1 = some .local
 frees : ∀ y ∈ scope.names, y.2 = .free → (X.env.kindOf y.1 = some .cell ∨ X.env.kindOf y.1 = some .free)
 look : ∀ x k, (relabel scope X.env).names.lookup x = some k → (k = .cell ∨ k = .free) → (x, NameKind.free) ∈ scope.names ∨ (x, NameKind.cell) ∈ scope.names
 lenI : ix.length = N'.length
 at_ : ∀ (i j : Nat) (x : Str), ix[i]? = some (some j) → N'[i]? = some x → X.N[j]? = some x ∧ (x, NameKind.free) ∈ scope.names ∧ ownB scope.names x = false ∧ (relabel scope X.env).names.lookup x = X.env.kindOf x
variable {X : Cx} {pins : List (Addr × Obj)} {σ : St} {H : Hp} {s : Shared} {N' : List Str} {ix : List (Option Nat)} {scope : Scope}
noncomputable def pick (ix : List (Option Nat)) (σ : St) : St := ix.map fun o => match o with | some j => (σ[j]?).join | none => none
theorem pick_get {i : Nat} {v : V} (e : (pick ix σ)[i]? = some (some v)) : ∃ j, ix[i]? = some (some j) ∧ σ[j]? = some (some v) := by
 unfold pick at e
 rw [List.getElem?_map] at e
 cases h : ix[i]? with
 | none => rw [h] at e; cases e
 | some o =>
   rw [h] at e
   cases o with
   | none =>
     have e' : (none : Option V) = some v := Option.some.inj e
     cases e'
   | some j =>
     have e' : (σ[j]?).join = some v := Option.some.inj e
     refine ⟨j, rfl, ?_⟩
     cases hj : σ[j]? with
     | none => rw [hj] at e'; cases e'
     | some u => rw [hj] at e'; exact congrArg some e'
theorem blk_cells (I : Inv X pins σ H s) (S : BlkScope X N' ix scope) (C : Addr) {x : Str} {c : Addr} (e : (cellsFrom (C + 1) scope.names [] ++ cloOf X.env scope.names []).lookup x = some c) :
   (C < c ∧ (cellsFrom (C + 1) scope.names []).lookup x = some c) ∨ (ownB scope.names x = false ∧ X.env.cells.lookup x = some c) := by
 rw [List.lookup_append] at e
 cases h : (cellsFrom (C + 1) scope.names []).lookup x with
 | some c' =>
   rw [h] at e
   cases e
   exact .inl ⟨(cellsFrom_in _ _ (mem_of_lookup h)).1, rfl⟩
 | none =>
   rw [h] at e
   refine .inr ⟨Bool.eq_false_iff.mpr fun z => ?_, ?_⟩
   · have := cellsFrom_has scope.names (C + 1) (ownB_mem.mp z)
     rw [h] at this; cases this
   · have e' : (cloOf X.env scope.names []).lookup x = some c := e
     rcases cloOf_lookup X.env scope.names [] x c e' with q | ⟨q, rfl⟩
     · cases q
     · obtain ⟨c, hc⟩ := I.ok.has x (S.frees _ q rfl)
       rw [hc] <;> rfl
theorem blk_ok {fp : List Addr} {C : Addr} (I : Inv X pins σ H s) (hf : ∀ b ∈ fp, FpOk X pins H b) (S : BlkScope X N' ix scope) (hC : s.heap.objs.size ≤ C) (hfo : ∀ b ∈ fp, ∃ o, s.heap.get? b = some o) :
   (blk X N' scope C s H fp pins).Ok := by
 have lt : ∀ x c, X.env.cells.lookup x = some c → c < C := fun x c e => by
   obtain ⟨v, z⟩ := I.cell x c e
   exact Nat.lt_of_lt_of_le z.lt hC
 refine ⟨I.ok.mod, ?_, I.ok.glob, I.ok.blt, hC, fun x y c h1 h2 => ?_, fun x hx => ?_, fun x c hf' e => ?_, I.ok.hd, I.ok.frames, .inl rfl, fun b hb => ?_, I.bs, Nat.le_trans I.ok.bsz I.sz, fun b o e hb => ?_, fun b hb hs => ?_, I.stack, I.stkFree⟩
 · exact S.kind
 · rcases blk_cells I S C h1 with ⟨a1, a2⟩ | ⟨a1, a2⟩ <;> rcases blk_cells I S C h2 with ⟨b1, b2⟩ | ⟨b1, b2⟩
   · exact name_of_addr (cellsFrom_apart _ _) (mem_of_lookup a2) (mem_of_lookup b2)
   · exact absurd (Nat.lt_trans (lt _ _ b2) a1) (Nat.lt_irrefl _)
   · exact absurd (Nat.lt_trans (lt _ _ a2) b1) (Nat.lt_irrefl _)
   · exact I.ok.inj x y c a2 b2
 · have hx' : (relabel scope X.env).names.lookup x = some .cell ∨ (relabel scope X.env).names.lookup x = some .free := hx
   have key : (x, NameKind.free) ∈ scope.names ∨ (x, NameKind.cell) ∈ scope.names := by
     rcases hx' with hx' | hx'
     · exact S.look x _ hx' (.inl rfl)
     · exact S.look x _ hx' (.inr rfl)
   show ∃ c, (cellsFrom (C + 1) scope.names [] ++ cloOf X.env scope.names []).lookup x = some c
   rw [List.lookup_append]
   cases h : (cellsFrom (C + 1) scope.names []).lookup x with
   | some c => exact ⟨c, rfl⟩
   | none =>
     rcases key with k | k
     · obtain ⟨c, hc⟩ := cloOf_has X.env scope.names [] x k
       exact ⟨c, by rw [hc]; rfl⟩
     · have := cellsFrom_has scope.names (C + 1) k
       rw [h] at this; cases this
 · rcases blk_cells I S C e with ⟨a1, a2⟩ | ⟨a1, a2⟩
   · exact Nat.le_of_lt (Nat.lt_of_le_of_lt hC a1)
   · have hf2 : ownB scope.names x = true := hf'
     rw [a1] at hf2; cases hf2
 · obtain ⟨f0, f1, f2, f3, f4, f5⟩ := hf b hb
   obtain ⟨o, ho⟩ := hfo b hb
   refine ⟨Nat.ne_of_lt (Nat.lt_of_lt_of_le (Heap.lt_size ho) hC), fun x c e => ?_⟩
   rcases blk_cells I S C e with ⟨a1, a2⟩ | ⟨a1, a2⟩
   · exact Nat.ne_of_gt (Nat.lt_trans (Nat.lt_of_lt_of_le (Heap.lt_size ho) hC) a1)
   · exact f4 x c a2
 · obtain ⟨f0, f1, f2, f3, f4, f5⟩ := hf b hb
   have := (I.ok.bs b o e).1
   rcases f3 with z | z
   · exact I.ok.noex b o e z
   · exact absurd (Nat.lt_of_lt_of_le (Heap.lt_size this) z) (Nat.lt_irrefl _)
 · obtain ⟨f0, f1, f2, f3, f4, f5⟩ := hf b hb
   rcases List.mem_cons.mp (I.stkSub b hs) with e | e
   · exact f1 e
   · exact f2 e
theorem blk_start {fp : List Addr} {C : Addr} {h₁ : Heap} {tk : Nat} (I : Inv X pins σ H s) (hf : ∀ b ∈ fp, FpOk X pins H b) (S : BlkScope X N' ix scope) (hC : s.heap.objs.size ≤ C) (hfo : ∀ b ∈ fp, ∃ o, s.heap.get? b = some o)
   (hns : h₁.Ns C (fun _ => none)) (hk : ∀ b o, s.heap.get? b = some o → h₁.get? b = some o) (hown : ∀ x c, (x, c) ∈ cellsFrom (C + 1) scope.names [] → h₁.IsCell c none) :
   Inv (blk X N' scope C s H fp pins) [] (pick ix σ) H { s with heap := h₁, toks := tk } := by
 have nC : ∀ b o, s.heap.get? b = some o → b ≠ C := fun b o e => Nat.ne_of_lt (Nat.lt_of_lt_of_le (Heap.lt_size e) hC)
 refine ⟨blk_ok I hf S hC hfo, rfl, I.bare, Un.kept hk, ⟨_, hns, fun i x v h1 h2 h3 => ?_⟩, fun x c e => ?_, I.hok.fresh hC, fun x c e => ?_, fun p hp => ?_, I.hok.kept hk, ?_⟩
 · obtain ⟨j, e1, e2⟩ := pick_get h2
   obtain ⟨a1, a2, a4, a3⟩ := S.at_ i j x e1 h1
   have kd := S.frees _ a2 rfl
   have vis : Vis X.env.scope x := by
     rcases kd with k | k
     · exact .inr (.inl k)
     · exact .inr (.inr k)
   obtain ⟨m, hn, hl⟩ := I.loc
   obtain ⟨u, r, l⟩ := hl j x v a1 e2 vis
   refine ⟨u, r, .inr ?_⟩
   have kd' : X.env.kindOf x = some .cell ∨ X.env.kindOf x = some .free := kd
   rcases l with ⟨k, _⟩ | ⟨k, c, ec, z⟩
   · rcases kd' with q | q <;> (rw [q] at k; cases k)
   · refine ⟨?_, c, ?_, z.keeps hk⟩
     · show (relabel scope X.env).names.lookup x = some .cell ∨ (relabel scope X.env).names.lookup x = some .free
       rw [a3]; exact kd'
     · obtain ⟨c', hc'⟩ := cloOf_has X.env scope.names [] x a2
       show (cellsFrom (C + 1) scope.names [] ++ cloOf X.env scope.names []).lookup x = some c
       have hn : (cellsFrom (C + 1) scope.names []).lookup x = none := by
         cases h : (cellsFrom (C + 1) scope.names []).lookup x with
         | none => rfl
         | some c2 =>
           have := ownB_mem.mpr (cellsFrom_in _ _ (mem_of_lookup h)).2
           rw [a4] at this; cases this
       rw [List.lookup_append, hn]
       show (cloOf X.env scope.names []).lookup x = some c
       rcases cloOf_lookup X.env scope.names [] x c' hc' with q | ⟨q, q2⟩
       · cases q
       · rw [hc', q2, ec]; rfl
 · rcases blk_cells I S C e with ⟨a1, a2⟩ | ⟨a1, a2⟩
   · exact ⟨none, hown x c (mem_of_lookup a2)⟩
   · obtain ⟨v, z⟩ := I.cell x c a2
     exact ⟨v, z.keeps hk⟩
 · rcases blk_cells I S C e with ⟨a1, a2⟩ | ⟨a1, a2⟩
   · exact I.hok.fresh (Nat.le_of_lt (Nat.lt_of_le_of_lt hC a1))
   · exact I.freeC x c a2
 · have hp' : p ∈ X.pn ++ pins := by
     have : p ∈ (X.pn ++ pins) ++ [] := hp
     simpa using this
   obtain ⟨e, n, ne, nf, d⟩ := I.pin p hp'
   refine ⟨hk _ _ e, n, nC _ _ e, fun hb => ?_, d⟩
   rcases List.mem_cons.mp (I.stkSub _ hb) with z | z
   · exact ne z
   · exact nf z
 · show (pick ix σ).length = N'.length
   unfold pick
   rw [List.length_map, S.lenI]
theorem blk_end {fp : List Addr} {C D : Addr} {h' : Heap} {H' : Hp} {σ' : St} {s' : Shared} {ys : List V} {its : List Value} {cap : Nat} (I : Inv X pins σ H s) (hf : ∀ b ∈ fp, FpOk X pins H b) (hC : s.heap.objs.size ≤ C) (hD : s.heap.objs.size ≤ D) (hDC : D ≠ C)
   (J : Inv (blk X N' scope C s H fp pins) [] σ' H' s') (hDn : H' D = none) (ho : s'.heap.get? D = some { cls := .type "list", data := .seq its.toArray cap }) (r : Vals ys its) (hz : ys.length ≤ sizeLine) (sb : Heap.SameBut C s'.heap h') :
   Inv X pins σ (upd H' D (.lst ys)) { s' with heap := h' } := by
 have sb' : ∀ b o, b ≠ C → s'.heap.get? b = some o → h'.get? b = some o := sb.extBut
 have nC : ∀ b o, s.heap.get? b = some o → b ≠ C := fun b o e => Nat.ne_of_lt (Nat.lt_of_lt_of_le (Heap.lt_size e) hC)
 have nD : ∀ b o, s.heap.get? b = some o → b ≠ D := fun b o e => Nat.ne_of_lt (Nat.lt_of_lt_of_le (Heap.lt_size e) hD)
 have hCn : H' C = none := J.free
 have u := J.base
 refine I.call' (ch := fp) (s' := { s' with heap := h' }) J.os ⟨fun b o e n hb hx => ?_, fun b o e n hb hx => ?_, fun b o e n hx => ?_, fun b o e hx => ?_, fun b xs e => ?_, fun b o v e => ?_, fun b ps e => ?_⟩ (fun b o e => ?_) J.bare (fun b hb => ?_)
 · exact sb' _ _ (nC b o e) (u.keep b o e n hb hx)
 · obtain ⟨sl, q⟩ := u.slot b o e n hb hx
   exact ⟨sl, sb' _ _ (nC b o e) q⟩
 · rw [upd_ne (nD b o e)]; exact u.free b o e n hx
 · obtain ⟨o', q⟩ := u.there b o e hx
   exact ⟨o', sb' _ _ (nC b o e) q⟩
 · have q := u.tups b xs e
   rw [upd_ne (ne_of_none q hDn)]; exact q
 · have q := u.frzs b o v e
   rw [upd_ne (ne_of_none q hDn)]; exact q
 · obtain ⟨m, q⟩ := u.tbls b ps e
   exact ⟨m, by rw [upd_ne (ne_of_none q hDn)]; exact q⟩
 · by_cases hb : b = D
   · subst hb
     rw [upd_same] at e; cases e
     exact ⟨hz, its, cap, r, sb' _ _ hDC ho⟩
   · rw [upd_ne hb] at e
     refine (J.hok b o e).stay (fun c v hc q => sb' c v ?_ q) (fun c q => by rw [upd_ne (ne_of_none q hDn)]; exact q) fun c xs q => by rw [upd_ne (ne_of_none q hDn)]; exact q
     rcases hc with rfl | hc
     · exact ne_of_none e hCn
     · exact ne_of_none hc hCn
 · obtain ⟨f0, f1, f2, f3, f4, f5⟩ := hf b hb
   exact ⟨f3, f1, f4, f5⟩
noncomputable def tComp (wi : TI) (ix : List (Option Nat)) (g : TG) (tt : TT) (te : TE) : TE := fun σ H Q => wi σ H fun J H1 => ∃ W : Nat → Nat → List V → Hp → Prop, (∃ m, W 0 m [] H1) ∧ ∀ i m ys H, W i m ys H →
 (J.stop i H ∧ ys.length ≤ sizeLine ∧ ∀ p, H p = none → Q (.ref p) (upd H p (.lst ys))) ∨
 (J.go i H ∧ ys.length < sizeLine ∧ ∀ x H', J.yld i H x H' → g x (pick ix σ) H' fun σ2 H2 => tt σ2 H2 fun ok H3 =>
   if ok = true then te σ2 H3 fun y H4 => ∃ m', m' < m ∧ W (i + 1) m' (ys ++ [y]) H4 else ∃ m', m' < m ∧ W (i + 1) m' ys H3)
noncomputable def PTs (X : Cx) (ifs : List Expr) (t : TT) : Prop :=
 ∀ (pins : List (Addr × Obj)) (s : Shared) (σ : St) (H : Hp) (Q : Bool → Hp → Prop), Inv X pins σ H s → t σ H Q →
   wpAny (model X.prog X.w) X.A (forIn ifs true fun c r => if r = true then do let ok ← isTrue c X.env (eval c X.env); pure (ForInStep.yield ok) else pure (ForInStep.yield r)) (TP X pins σ Q) X.xe s
noncomputable def tYes : TT := fun _ H Q => Q true H
theorem pts_nil : PTs X [] tYes := fun _ _ _ H _ I h => wpAny_tests_nil ⟨H, I, h⟩
theorem pts_one {c : Expr} {t : TT} (h : PT X c t) : PTs X [c] t := fun pins s σ H Q I hw => wpAny_tests_one (h pins s σ H Q I hw)
noncomputable def Agr (ix : List (Option Nat)) (σ σ2 : St) : Prop := σ2.length = σ.length ∧ ∀ (k j : Nat), ix[k]? = some (some j) → σ2[k]? = σ[k]?
noncomputable def Own (ix : List (Option Nat)) (g : TG) : Prop := ∀ (x : V) (σ0 σ : St) (H : Hp) (Q : St → Hp → Prop), Agr ix σ0 σ → g x σ H Q → g x σ H fun σ2 H2 => Q σ2 H2 ∧ Agr ix σ0 σ2
theorem own_name {ix : List (Option Nat)} {i : Nat} (h : ix[i]? = some none) : Own ix (gName i) := by
 intro x σ0 σ H Q a q
 refine ⟨q, by rw [List.length_set]; exact a.1, fun k j hk => ?_⟩
 rw [List.getElem?_set_ne]
 · exact a.2 k j hk
 · rintro rfl
   rw [h] at hk; cases hk
theorem comp_core {elt iter tg : Expr} {ifs : List Expr} {pos posc : Pos} {wi : TI} {g : TG} {tt : TT} {te : TE} (use : Option (Value → Sem Unit)) (QQ : Value → Shared → Prop) (hc : X.calm = true) (hi : PI X tg iter wi) (S : BlkScope X N' ix scope) (ow : Own ix g)
   (hg : ∀ C s H fp pins, PG (blk X N' scope C s H fp pins) tg g) (ht : ∀ C s H fp pins, PTs (blk X N' scope C s H fp pins) ifs tt) (he : ∀ C s H fp pins, PE (blk X N' scope C s H fp pins) elt te)
   (hs : ∀ x, foldedSetIterable iter X.env x = pure x) (pins : List (Addr × Obj)) (s : Shared) (σ : St) (H : Hp) (Q : VK) (I : Inv X pins σ H s) (h : tComp wi ix g tt te σ H Q)
   (hpost : ∀ (C D : Addr) (H5 : Hp) (s4 : Shared) (m : Str → Option Value), s4.heap.Ns C m → FpOk X pins H5 C → (∀ h', Heap.SameBut C s4.heap h' → Inv X pins σ H5 { s4 with heap := h' }) → Q (.ref D) H5 →
     compPost (model X.prog X.w) X.A X.xe use QQ (.ref D) C (.ok .next) s4) :
   wpAny (model X.prog X.w) X.A (comprehension (.ListComp elt [⟨tg, iter, ifs, 0⟩] scope pos) scope X.env posc (newList []) false (eval iter X.env) use) QQ X.xe s := by
 refine wpAny_comprehension_free (use := use) rfl hs (closureFor_eq scope X.env fun y hy hk => I.ok.has y.1 (S.frees y hy hk)) S.kind S.locs (thn (hi pins s σ H _ I h) fun v s1 h1 => thn h1 fun itv s2 h2 => ?_)
 obtain ⟨it, fp, tn, J, H2, e, I2, T, st2, f2, W, ⟨m0, w0⟩, turn⟩ := h2
 subst e
 have hfo : ∀ b ∈ fp, ∃ o, s2.heap.get? b = some o := fun b hb => let ⟨o, e, _⟩ := T.obj _ _ st2 b hb; ⟨o, e⟩
 refine wpAny_newObj_type (wpAny_newBlockEnv (fun h₁ eh₁ => ?_))
 dsimp only at eh₁ ⊢
 generalize hH2 : s2.heap.push { cls := .type "list", dict := none, data := .seq ([] : List Value).toArray } = Hp2 at eh₁ ⊢
 have hC : Hp2.objs.size = s2.heap.objs.size + 1 := by rw [← hH2, Heap.size_push]
 have old1 : ∀ b o, Hp2.get? b = some o → h₁.get? b = some o := fun b o e => by rw [eh₁]; exact pushCells_keeps _ _ _ _ (Heap.get?_push_of_some _ e)
 have hns : h₁.Ns Hp2.objs.size (fun _ => none) := by rw [eh₁]; exact (Heap.Ns.new Hp2 (.type "dict")).keeps (pushCells_keeps _ _)
 have hown : ∀ x c, (x, c) ∈ cellsFrom (Hp2.objs.size + 1) scope.names [] → h₁.IsCell c none := fun x c hm => by
   have ok := cellsFrom_ok scope.names (Hp2.push { cls := .type "dict", data := .dict #[] }) (Hp2.objs.size + 1) [] ⟨fun _ _ hm => (nomatch hm), List.Pairwise.nil⟩ (by rw [Heap.size_push]; exact Nat.le_refl _)
   rw [Heap.size_push] at ok
   rw [eh₁]
   exact (ok.empty x c hm).1
 generalize hCC : Hp2.objs.size = C at hns hown hC ⊢
 generalize hDD : s2.heap.objs.size = D at hC
 have hCge : s2.heap.objs.size ≤ C := by rw [hDD, hC]; exact Nat.le_succ _
 have hDge : s2.heap.objs.size ≤ D := Nat.le_of_eq hDD
 have hDC : D ≠ C := by rw [hC]; exact Nat.ne_of_lt (Nat.lt_succ_self _)
 have hDlt : D < C := by rw [hC]; exact Nat.lt_succ_self _
 have old : ∀ b o, s2.heap.get? b = some o → h₁.get? b = some o := fun b o e => old1 b o (hH2 ▸ Heap.get?_push_of_some _ e)
 have hacc : h₁.get? D = some { cls := .type "list", data := .seq ([] : List Value).toArray 0 } := old1 _ _ (hH2 ▸ hDD ▸ Heap.get?_push_size _ rfl)
 have stat : ∀ {H' : Hp}, (∀ b ∈ fp, H' b = none) → ∀ b ∈ fp, FpOk (blk X N' scope C s2 H2 fp pins) [] H' b := fun hn b hb => by
   obtain ⟨f0, f1, f2, f3, f4, f5⟩ := f2 b hb
   obtain ⟨o, ho⟩ := hfo b hb
   refine ⟨hn b hb, Nat.ne_of_lt (Nat.lt_of_lt_of_le (Heap.lt_size ho) hCge), fun z => ?_, .inl hb, fun x c e => ?_, fun p hp => ?_⟩
   · rcases List.mem_cons.mp (I2.stkSub _ z) with e | e
     · exact f1 e
     · exact f2 e
   · rcases blk_cells I2 S C e with ⟨a1, a2⟩ | ⟨a1, a2⟩
     · exact Nat.ne_of_gt (Nat.lt_trans (Nat.lt_of_lt_of_le (Heap.lt_size ho) hCge) a1)
     · exact f4 x c a2
   · have : p ∈ (X.pn ++ pins) ++ [] := hp
     exact f5 p (by simpa using this)
 have hDs : D ∉ (blk X N' scope C s2 H2 fp pins).fs := fun hb => by
   rcases List.mem_cons.mp (I2.stkSub _ hb) with e | e
   · rw [e] at hDge
     exact absurd (Nat.lt_of_lt_of_le I2.lt hDge) (Nat.lt_irrefl _)
   · exact I2.nofs hDge e
 have loop : ∀ s₃ : Shared, s₃ = { s2 with heap := h₁ } →
     codeAny (model X.prog X.w) X.A (.compLoop (.ListComp elt [⟨tg, iter, ifs, 0⟩] scope pos) 0 (.ref it) (.ref D) (compEnvC scope (cellsFrom (C + 1) scope.names [] ++ cloOf X.env scope.names []) C X.env))
       (compPost (model X.prog X.w) X.A X.xe use QQ (.ref D) C) s₃ := by
   rintro s₃ rfl
   refine codeAny_compLoop_gen (fun n s' => ∃ i ys its cap H', Inv (blk X N' scope C s2 H2 fp pins) [] (pick ix σ) H' s' ∧ tn i s'.heap ∧ (∀ b ∈ fp, H' b = none) ∧ H' D = none ∧
       s'.heap.get? D = some { cls := .type "list", data := .seq (its : List Value).toArray cap } ∧ Vals ys its ∧ W i n ys H') ?_ m0
     ⟨0, [], [], 0, H2, blk_start I2 f2 S hCge hfo hns old hown, T.keep _ _ _ st2 fun b _ o e => old b o e, fun b hb => (f2 b hb).1, I2.hok.fresh hDge, hacc, .nil, w0⟩
   rintro n s3 ⟨i, ys, its, cap, H3, I3, st3, fr3, hD3, ho3, r3, w3⟩
   have I3d : Inv (blk X N' scope C s2 H2 fp pins) [(D, { cls := .type "list", data := .seq its.toArray cap })] (pick ix σ) H3 s3 := I3.pins_of fun p hp => by
     have e : p = (D, { cls := .type "list", data := .seq its.toArray cap }) := by simpa using hp
     subst e
     exact ⟨ho3, hD3, hDC, hDs, fun v z => nomatch z⟩
   have statD : ∀ {H' : Hp}, (∀ b ∈ fp, H' b = none) → ∀ b ∈ fp, FpOk (blk X N' scope C s2 H2 fp pins) [(D, ({ cls := .type "list", data := .seq its.toArray cap } : Obj))] H' b := fun hn b hb => by
     obtain ⟨f0, f1, f2, f3, f4, f5⟩ := stat hn b hb
     obtain ⟨o, ho⟩ := hfo b hb
     refine ⟨f0, f1, f2, f3, f4, fun p hp => ?_⟩
     rcases List.mem_append.mp hp with z | z
     · exact f5 p (List.mem_append_left _ z)
     · have e : p = (D, ({ cls := .type "list", data := .seq its.toArray cap } : Obj)) := by simpa using z
       subst e
       exact Nat.ne_of_gt (Nat.lt_of_lt_of_le (Heap.lt_size ho) hDge)
   rcases turn i n ys H3 w3 with ⟨stop, hz, qn⟩ | ⟨go, hz, step⟩
   · refine wpAny_noRaise (thn (T.done (blk X N' scope C s2 H2 fp pins) rfl rfl rfl hc i _ s3 (pick ix σ) H3 (fun _ _ => False) I3d (statD fr3) st3 stop) fun r s4 ⟨hr, I4⟩ => ?_)
     subst hr
     obtain ⟨e4, n4, _⟩ := I4.pin (D, _) (List.mem_append_right _ (List.mem_singleton.mpr rfl))
     obtain ⟨m, hn, _⟩ := id I4.loc
     have hC4 : H3 C = none := I4.free
     exact hpost C D _ _ m hn (I2.fpOk hCge (by rw [upd_ne (Ne.symm hDC)]; exact hC4)) (fun h' sb => blk_end I2 f2 hCge hDge hDC (Inv.unpinned (pl := [(D, _)]) (pins := []) I4) n4 e4 r3 hz sb) (qn D n4)
   · refine wpAny_noRaise (thn (T.item (blk X N' scope C s2 H2 fp pins) rfl rfl rfl hc i _ s3 (pick ix σ) H3 (fun _ _ => False) I3d (statD fr3) st3 go) fun r s4 ⟨u, hr, h4⟩ => ?_)
     subst hr
     refine wpAny_noRaise (thn h4 fun _ s5 ⟨x, H5, I5, r5, y5, st5, fr5⟩ => ?_)
     have I5' := I5.pinned (statD fr5) (T.obj _ _ st5)
     have again : ∀ {σ7 : St} {H7 : Hp} {s7 : Shared}, Inv (blk X N' scope C s2 H2 fp pins) ([(D, ({ cls := .type "list", data := .seq its.toArray cap } : Obj))] ++ pinsAt fp s5.heap) σ7 H7 s7 →
         H7 D = none ∧ s7.heap.get? D = some { cls := .type "list", data := .seq its.toArray cap } ∧ tn (i + 1) s7.heap ∧ ∀ b ∈ fp, H7 b = none := fun {σ7 H7 s7} I7 => by
       obtain ⟨e7, n7, _⟩ := I7.pin (D, _) (List.mem_append_right _ (List.mem_append_left _ (List.mem_singleton.mpr rfl)))
       refine ⟨n7, e7, T.keep _ _ _ st5 fun b hb o e => (I7.pin (b, o) (List.mem_append_right _ (List.mem_append_right _ (mem_pinsAt hb e)))).1, fun b hb => ?_⟩
       obtain ⟨o, e, d⟩ := T.obj _ _ st5 b hb
       exact (I7.pin (b, o) (List.mem_append_right _ (List.mem_append_right _ (mem_pinsAt hb e)))).2.1
     have forget : ∀ {σ7 : St} {H7 : Hp} {s7 : Shared}, Inv (blk X N' scope C s2 H2 fp pins) ([(D, ({ cls := .type "list", data := .seq its.toArray cap } : Obj))] ++ pinsAt fp s5.heap) σ7 H7 s7 →
         (∀ (k : Nat) v, (pick ix σ)[k]? = some (some v) → σ7[k]? = some (some v)) → σ7.length = (pick ix σ).length → Inv (blk X N' scope C s2 H2 fp pins) [] (pick ix σ) H7 s7 := fun {σ7 H7 s7} I7 hk hl =>
       (I7.pins_of (pins' := []) fun _ z => nomatch z).weak hl.symm hk
     refine wpAny_noRaise (thn (hg C s2 H2 fp pins _ s5 (pick ix σ) H5 x u _ I5' r5 (ow _ _ _ _ _ ⟨rfl, fun _ _ _ => rfl⟩ (step x H5 y5))) fun _ s6 ⟨σ6, H6, I6, q6, l6, k6⟩ => ?_)
     have back : ∀ (k : Nat) v, (pick ix σ)[k]? = some (some v) → σ6[k]? = some (some v) := fun k v e => by
       obtain ⟨j, e1, _⟩ := pick_get e
       rw [k6 k j e1]; exact e
     refine wpAny_noRaise (thn (ht C s2 H2 fp pins _ s6 σ6 H6 _ I6 q6) fun ok s7 ⟨H7, I7, q7⟩ => ?_)
     cases ok with
     | false =>
       rw [if_neg Bool.false_ne_true]
       rw [if_neg Bool.false_ne_true] at q7
       obtain ⟨m', hm, w7⟩ := q7
       obtain ⟨a1, a2, a3, a4⟩ := again I7
       exact ⟨m', hm, i + 1, ys, its, cap, H7, forget I7 back l6, a3, a4, a1, a2, r3, w7⟩
     | true =>
       rw [if_pos rfl]
       rw [if_pos rfl] at q7
       refine wpAny_noRaise (thn (he C s2 H2 fp pins _ s7 σ6 H7 _ I7 q7) fun z s8 ⟨y, H8, I8, r8, m', hm, w8⟩ => ?_)
       obtain ⟨a1, a2, a3, a4⟩ := again I8
       have hl := r3.length
       refine wpAny_noRaise (wpAny_list_append_plain ⟨_, a2⟩ (fun h9 ⟨cap9, p9⟩ sb9 => ?_) (by rw [List.size_toArray, ← hl]; exact Nat.le_of_lt hz))
       have I9 : Inv (blk X N' scope C s2 H2 fp pins) [] (pick ix σ) H8 { s8 with heap := h9 } :=
         (forget I8 back l6).turned (t' := s8.toks) (it := D) (fun b o hb e => sb9.extBut b o hb e) a1 hDC (.inr hDge) (fun x c e => by
           rcases blk_cells I2 S C e with ⟨a1, a2⟩ | ⟨a1, a2⟩
           · exact Nat.ne_of_gt (Nat.lt_trans hDlt a1)
           · obtain ⟨v, z⟩ := I2.cell x c a2
             exact Nat.ne_of_lt (Nat.lt_of_lt_of_le z.lt hDge)) (fun p hp => by
           have hp' : p ∈ (X.pn ++ pins) ++ [] := hp
           exact Nat.ne_of_lt (Nat.lt_of_lt_of_le (Heap.lt_size (I2.pin p (by simpa using hp')).1) hDge))
       refine ⟨m', hm, i + 1, ys ++ [y], its ++ [z], cap9, H8, I9, ?_, a4, a1, ?_, r3.append (.cons r8 .nil), w8⟩
       · refine T.keep _ _ _ a3 fun b hb o e => sb9.extBut b o ?_ e
         obtain ⟨o', ho'⟩ := hfo b hb
         exact Nat.ne_of_lt (Nat.lt_of_lt_of_le (Heap.lt_size ho') hDge)
       · rw [p9]; simp
 exact codeAny_compStart_list (loop _ rfl) (T.self _ _ _ _ _ (T.keep _ _ _ st2 fun b _ o e => old b o e) (loop _ rfl))
theorem pe_comp {elt iter tg : Expr} {ifs : List Expr} {pos : Pos} {wi : TI} {g : TG} {tt : TT} {te : TE} (hc : X.calm = true) (hi : PI X tg iter wi) (S : BlkScope X N' ix scope) (ow : Own ix g)
   (hg : ∀ C s H fp pins, PG (blk X N' scope C s H fp pins) tg g) (ht : ∀ C s H fp pins, PTs (blk X N' scope C s H fp pins) ifs tt) (he : ∀ C s H fp pins, PE (blk X N' scope C s H fp pins) elt te)
   (hs : ∀ x, foldedSetIterable iter X.env x = pure x := by intro _; rfl) :
   PE X (.ListComp elt [⟨tg, iter, ifs, 0⟩] scope pos) (tComp wi ix g tt te) := by
 intro pins s σ H Q I h
 rw [eval_ListComp]
 exact comp_core none (EP X pins σ Q) hc hi S ow hg ht he hs pins s σ H Q I h fun C D H5 s4 m hn _ inv q => ⟨m, hn, fun h' sb => ⟨.ref D, H5, inv h' sb, rfl, q⟩⟩
theorem ps_setC {i : Nat} {x : Str} {elt iter tg : Expr} {ifs : List Expr} {pos pos' spos : Pos} {wi : TI} {g : TG} {tt : TT} {te : TE} (hN : X.N.Nodup) (hi' : X.N[i]? = some x) (hx : Loc X.env.scope x) (hc : X.calm = true) (hi : PI X tg iter wi) (S : BlkScope X N' ix scope) (ow : Own ix g)
   (hg : ∀ C s H fp pins, PG (blk X N' scope C s H fp pins) tg g) (ht : ∀ C s H fp pins, PTs (blk X N' scope C s H fp pins) ifs tt) (he : ∀ C s H fp pins, PE (blk X N' scope C s H fp pins) elt te)
   (hsw : swapsWith (.ListComp elt [⟨tg, iter, ifs, 0⟩] scope pos) (some (.Name x pos')) spos.line X.env = pure true)
   (hs : ∀ x, foldedSetIterable iter X.env x = pure x := by intro _; rfl) (hf : X.fn x = true ∨ X.env.scope.names.lookup x = some .local := by first | exact .inl rfl | exact .inr rfl | assumption) :
   PS X (.Assign [.Name x pos'] (.ListComp elt [⟨tg, iter, ifs, 0⟩] scope pos) spos) (tAsg (tComp wi ix g tt te) (gName i)) := by
 intro pins s σ H D I h
 rw [exec_Assign_Name_used _ _ _ _ hsw]
 refine wpAny_bind (wpAny_standAt (wpAny_bind ?_))
 show wpAny _ X.A (do let _ ← comprehension (.ListComp elt [⟨tg, iter, ifs, 0⟩] scope pos) scope X.env _ (newList []) false (eval iter X.env) (some (assign (.Name x pos') X.env))) _ _ s
 refine wpAny_bind (thn (comp_core (some (assign (.Name x pos') X.env)) (fun _ s' => SP X pins D .next s') hc hi S ow hg ht he hs pins s σ H _ I h ?_) fun _ s' hq => wpAny_pure (wpAny_pure hq))
 intro C D2 H5 s4 m hn fp inv q
 have I5 : Inv X pins σ H5 s4 := inv s4.heap (Heap.SameBut.refl _ _)
 refine wpAny_assign_Name (store_ok2 I5 hN hi' hx (v := .ref D2) rfl (fun s5 I6 ⟨a, sb, ha⟩ => ?_) hf)
 obtain ⟨f0, f1, f2, f3, f4, f5⟩ := fp
 have hac : a ≠ C := by
   rcases ha with rfl | ha
   · exact Ne.symm f1
   · exact f4 x a ha
 refine ⟨m, hn.sameBut sb (Ne.symm hac), fun h' sb' => ⟨_, H5, I6.turned (t' := s5.toks) (it := C) (fun b o hb e => sb'.extBut b o hb e) f0 f1 f3 f4 f5, q⟩⟩
end L2
namespace L2
open PySem PySem.Spec PyProof.Rows
noncomputable def relabelS (scope outer : Scope) : Scope :=
 { scope with names := scope.names.map fun (n, k) => if (k == .free && outer.kind == .function && outer.names.lookup n == some .cell) then (n, .cell) else (n, k) }
theorem relabel_look {scope : Scope} {env : Env} {x : Str} {k : NameKind} (h : (relabel scope env).names.lookup x = some k) (hk : k = .cell ∨ k = .free) : (x, NameKind.free) ∈ scope.names ∨ (x, NameKind.cell) ∈ scope.names := by
 have hm : (x, k) ∈ (relabel scope env).names := PySem.mem_of_lookup h
 unfold relabel at hm
 obtain ⟨⟨n, k0⟩, h1, h2⟩ := List.mem_map.mp hm
 dsimp only at h2
 split at h2
 · rename_i hc
   have e1 : n = x := (Prod.mk.inj h2).1
   subst e1
   have : k0 = NameKind.free := by
     simp only [Bool.and_eq_true, beq_iff_eq] at hc
     exact hc.1.1
   rw [this] at h1; exact .inl h1
 · have e1 := Prod.mk.inj h2
   obtain ⟨rfl, rfl⟩ := e1
   rcases hk with rfl | rfl
   · exact .inr h1
   · exact .inl h1
noncomputable def blkB (outer : Scope) (N N' : List Str) (ix : List (Option Nat)) (scope : Scope) : Bool :=
 decide (scope.kind = .function) && decide (outer.kind = .function) && scope.names.all (fun y => decide (y.2 = .local → scope.names.lookup y.1 = some .local)) &&
 scope.names.all (fun y => decide (y.2 = .free → (outer.names.lookup y.1 = some .cell ∨ outer.names.lookup y.1 = some .free))) && decide (ix.length = N'.length) &&
 (List.range ix.length).all fun i => match ix[i]?, N'[i]? with
   | some (some j), some x => decide (N[j]? = some x) && decide ((x, NameKind.free) ∈ scope.names) && !ownB scope.names x &&
     decide ((relabelS scope outer).names.lookup x = outer.names.lookup x)
   | _, _ => true
theorem blk_scope {X : Cx} {outer scope : Scope} {N N' : List Str} {ix : List (Option Nat)} (h : blkB outer N N' ix scope = true) (ho : X.env.scope = outer) (hN : X.N = N) : BlkScope X N' ix scope := by
 unfold blkB at h
 simp only [Bool.and_eq_true, decide_eq_true_eq, List.all_eq_true] at h
 obtain ⟨⟨⟨⟨⟨h1, h2⟩, h4⟩, h5⟩, h6⟩, h7⟩ := h
 subst ho hN
 refine ⟨h1, h4, h5, fun x k hl hk => relabel_look hl hk, h6, fun i j x e1 e2 => ?_⟩
 have hi : i < ix.length := (List.getElem?_eq_some_iff.mp e1).1
 have q := h7 i (List.mem_range.mpr hi)
 rw [e1, e2] at q
 simp only [Bool.and_eq_true, decide_eq_true_eq, Bool.not_eq_true'] at q
 exact ⟨q.1.1.1, q.1.1.2, q.1.2, q.2⟩
theorem blk_scope2 {X : Cx} {outer scope0 scope : Scope} {N N' N0 : List Str} {ix : List (Option Nat)} {C : Addr} {s : Shared} {H : Hp} {fp : List Addr} {pins : List (Addr × Obj)} (h : blkB (relabelS scope0 outer) N N' ix scope = true) (ho : X.env.scope = outer) (hN : N0 = N) : BlkScope (blk X N0 scope0 C s H fp pins) N' ix scope :=
 blk_scope (outer := relabelS scope0 outer) h (by rw [← ho]; rfl) hN
theorem PE.imp {X : Cx} {e : Expr} {t t' : TE} (h : PE X e t) (f : ∀ σ H Q, t' σ H Q → t σ H Q) : PE X e t' := fun pins s σ H Q I q => h pins s σ H Q I (f σ H Q q)
theorem PT.imp {X : Cx} {e : Expr} {t t' : TT} (h : PT X e t) (f : ∀ σ H Q, t' σ H Q → t σ H Q) : PT X e t' := fun pins s σ H Q I q => h pins s σ H Q I (f σ H Q q)
theorem PA.imp {X : Cx} {e : List Expr} {t t' : TA} (h : PA X e t) (f : ∀ σ H Q, t' σ H Q → t σ H Q) : PA X e t' := fun pos pins s σ H Q I q => h pos pins s σ H Q I (f σ H Q q)
theorem PS.imp {X : Cx} {e : Stmt} {t t' : TS} (h : PS X e t) (f : ∀ D σ H, t' D σ H → t D σ H) : PS X e t' := fun pins s σ H D I q => h pins s σ H D I (f D σ H q)
theorem PSs.imp {X : Cx} {e : List Stmt} {t t' : TS} (h : PSs X e t) (f : ∀ D σ H, t' D σ H → t D σ H) : PSs X e t' := fun pins s σ H D I q => h pins s σ H D I (f D σ H q)
end L2
namespace L2
open PySem PySem.Spec PyProof.Rows
inductive T where
 | non | bl (b : Bool) | int (i : Int) | str (x : Str) | tup (ts : List T) | adr (a : Addr)
 /-- a list that never changes (the script; a module's own) -/
 | rd (ts : List T)
 /-- a dict with int keys that never changes behind its display -/
 | dic (ks : List Int) (ts : List T)
noncomputable def FzL (K : PySem.W.Frag) (H : Hp) (a : Addr) (xs : List V) : Prop :=
 (∃ o, H a = some (.frz o (.lst xs))) ∨
   ∃ (o : Obj) (its : Array Value) (n : Nat), K.lookup a = some o ∧ o.cls = .type "list" ∧ o.dict = none ∧ o.data = .seq its n ∧ its.size ≤ sizeLine ∧ Vals xs its.toList
theorem FzL.sq {K : PySem.W.Frag} {H : Hp} {a : Addr} {xs : List V} (h : FzL K H a xs) : SqL K H a xs := by
 rcases h with ⟨o, h⟩ | h
 · exact .inl (.inr ⟨o, h⟩)
 · exact .inr h
mutual
noncomputable def Rep (K : PySem.W.Frag) (H : Hp) : V → T → Prop
 | v, .non => v = .non
 | v, .bl b => v = .bl b
 | v, .int i => v = .int i
 | v, .str x => v = .str x
 | v, .adr a => v = .ref a
 | v, .tup ts => ∃ a xs, v = .ref a ∧ SqT K H a xs ∧ Reps K H xs ts
 | v, .rd ts => ∃ a xs, v = .ref a ∧ FzL K H a xs ∧ Reps K H xs ts
 | v, .dic _ _ => False
noncomputable def Reps (K : PySem.W.Frag) (H : Hp) : List V → List T → Prop
 | vs, [] => vs = []
 | vs, t :: ts => ∃ v r, vs = v :: r ∧ Rep K H v t ∧ Reps K H r ts
end
structure Kp (K : PySem.W.Frag) (H H' : Hp) : Prop where
 tup : ∀ a xs, SqT K H a xs → SqT K H' a xs
 frz : ∀ a o u, H a = some (.frz o u) → H' a = some (.frz o u)
theorem Kp.refl {K : PySem.W.Frag} {H : Hp} : Kp K H H := ⟨fun _ _ h => h, fun _ _ _ h => h⟩
theorem Kp.trans {K : PySem.W.Frag} {H H1 H2 : Hp} (a : Kp K H H1) (b : Kp K H1 H2) : Kp K H H2 := ⟨fun _ _ h => b.tup _ _ (a.tup _ _ h), fun _ _ _ h => b.frz _ _ _ (a.frz _ _ _ h)⟩
structure KpW (K : PySem.W.Frag) (H H' : Hp) : Prop where
 tup : ∀ a xs, SqT K H a xs → SqT K H' a xs
 frz : ∀ a o u, H a = some (.frz o u) → H' a = some (.frz o u)
theorem Kp.w {K : PySem.W.Frag} {H H' : Hp} (k : Kp K H H') : KpW K H H' := ⟨k.tup, k.frz⟩
theorem KpW.fz {K : PySem.W.Frag} {H H' : Hp} {a : Addr} {xs : List V} (k : KpW K H H') (h : FzL K H a xs) : FzL K H' a xs := by
 rcases h with ⟨o, h⟩ | h
 · exact .inl ⟨o, k.frz _ _ _ h⟩
 · exact .inr h
mutual
theorem Rep.kw {K : PySem.W.Frag} {H H' : Hp} (k : KpW K H H') : ∀ (v : V) (t : T), Rep K H v t → Rep K H' v t
 | v, .non, h => h
 | v, .bl b, h => h
 | v, .int i, h => h
 | v, .str x, h => h
 | v, .adr a, h => h
 | v, .tup ts, h => by
   unfold Rep at h ⊢
   obtain ⟨a, xs, e, h1, h2⟩ := h
   exact ⟨a, xs, e, k.tup _ _ h1, Reps.kw k xs ts h2⟩
 | v, .rd ts, h => by
   unfold Rep at h ⊢
   obtain ⟨a, xs, e, h1, h2⟩ := h
   exact ⟨a, xs, e, k.fz h1, Reps.kw k xs ts h2⟩
 | v, .dic ks ts, h => by
   unfold Rep at h; exact h.elim
theorem Reps.kw {K : PySem.W.Frag} {H H' : Hp} (k : KpW K H H') : ∀ (vs : List V) (ts : List T), Reps K H vs ts → Reps K H' vs ts
 | vs, [], h => h
 | vs, t :: ts, h => by
   unfold Reps at h ⊢
   obtain ⟨v, r, e, h1, h2⟩ := h
   exact ⟨v, r, e, Rep.kw k v t h1, Reps.kw k r ts h2⟩
end
theorem Rep.kp {K : PySem.W.Frag} {H H' : Hp} (k : Kp K H H') (v : V) (t : T) (h : Rep K H v t) : Rep K H' v t := Rep.kw k.w v t h
theorem Reps.kp {K : PySem.W.Frag} {H H' : Hp} (k : Kp K H H') (vs : List V) (ts : List T) (h : Reps K H vs ts) : Reps K H' vs ts := Reps.kw k.w vs ts h
section
variable {K : PySem.W.Frag} {H : Hp}
theorem Reps.cons {v : V} {t : T} {vs : List V} {ts : List T} (h : Rep K H v t) (r : Reps K H vs ts) : Reps K H (v :: vs) (t :: ts) := by
 unfold Reps; exact ⟨v, vs, rfl, h, r⟩
theorem Reps.nil : Reps K H [] [] := by unfold Reps; rfl
theorem Reps.length : ∀ {vs : List V} {ts : List T}, Reps K H vs ts → vs.length = ts.length
 | vs, [], h => by unfold Reps at h; subst h; rfl
 | vs, t :: ts, h => by
   unfold Reps at h
   obtain ⟨v, r, rfl, _, h2⟩ := h
   rw [List.length_cons, List.length_cons, Reps.length h2]
theorem Reps.get : ∀ {vs : List V} {ts : List T} {i : Nat} {t : T}, Reps K H vs ts → ts[i]? = some t → ∃ v, vs[i]? = some v ∧ Rep K H v t
 | _, [], _, _, _, e => by simp at e
 | vs, t :: ts, 0, u, h, e => by
   unfold Reps at h
   obtain ⟨v, r, rfl, h1, _⟩ := h
   simp at e; subst e
   exact ⟨v, rfl, h1⟩
 | vs, t :: ts, i + 1, u, h, e => by
   unfold Reps at h
   obtain ⟨v, r, rfl, _, h2⟩ := h
   obtain ⟨w, q1, q2⟩ := Reps.get (i := i) h2 (by simpa using e)
   exact ⟨w, by simpa using q1, q2⟩
theorem Reps.append : ∀ {vs : List V} {ts : List T} {ws : List V} {us : List T}, Reps K H vs ts → Reps K H ws us → Reps K H (vs ++ ws) (ts ++ us)
 | vs, [], _, _, h, g => by unfold Reps at h; subst h; exact g
 | vs, t :: ts, _, _, h, g => by
   unfold Reps at h
   obtain ⟨v, r, rfl, h1, h2⟩ := h
   exact .cons h1 (Reps.append h2 g)
theorem Reps.take : ∀ {vs : List V} {ts : List T} (n : Nat), Reps K H vs ts → Reps K H (vs.take n) (ts.take n)
 | _, _, 0, _ => .nil
 | vs, [], n + 1, h => by unfold Reps at h; subst h; exact .nil
 | vs, t :: ts, n + 1, h => by
   unfold Reps at h
   obtain ⟨v, r, rfl, h1, h2⟩ := h
   exact .cons h1 (Reps.take n h2)
theorem Reps.drop : ∀ {vs : List V} {ts : List T} (n : Nat), Reps K H vs ts → Reps K H (vs.drop n) (ts.drop n)
 | _, _, 0, h => h
 | vs, [], n + 1, h => by unfold Reps at h; subst h; exact .nil
 | vs, t :: ts, n + 1, h => by
   unfold Reps at h
   obtain ⟨v, r, rfl, h1, h2⟩ := h
   exact Reps.drop n h2
theorem Reps.set {v : V} {t : T} (g : Rep K H v t) : ∀ {vs : List V} {ts : List T} (n : Nat), Reps K H vs ts → Reps K H (vs.set n v) (ts.set n t)
 | vs, [], n, h => by unfold Reps at h; subst h; exact .nil
 | vs, u :: ts, 0, h => by
   unfold Reps at h
   obtain ⟨v, r, rfl, h1, h2⟩ := h
   exact .cons g h2
 | vs, u :: ts, n + 1, h => by
   unfold Reps at h
   obtain ⟨v, r, rfl, h1, h2⟩ := h
   exact .cons h1 (Reps.set g n h2)
theorem Reps.ints : ∀ {vs : List V} {ns : List Int}, Reps K H vs (ns.map T.int) → vs = ns.map V.int
 | vs, [], h => by unfold Reps at h; exact h
 | vs, n :: ns, h => by
   have h' : Reps K H vs (T.int n :: ns.map T.int) := h
   unfold Reps at h'
   obtain ⟨v, r, rfl, h1, h2⟩ := h'
   unfold Rep at h1
   subst h1
   rw [List.map_cons, Reps.ints h2]
theorem Reps.of_ints : ∀ (ns : List Int), Reps K H (ns.map V.int) (ns.map T.int)
 | [] => .nil
 | n :: ns => .cons (by unfold Rep; rfl) (Reps.of_ints ns)
end
inductive MO where
 /-- a list that may be written -/
 | lst (ts : List T)
 /-- a dict that may be written: keys whole numbers or texts -/
 | dk (kvs : List (Key × T))
 /-- the same, keys tuples of such -/
 | dt (kvs : List (List Key × T))
noncomputable abbrev MH := Addr → Option MO
noncomputable def updM (M : MH) (a : Addr) (o : MO) : MH := fun b => if b = a then some o else M b
theorem updM_same {M : MH} {a : Addr} {o : MO} : updM M a o a = some o := if_pos rfl
theorem updM_ne {M : MH} {a b : Addr} {o : MO} (h : b ≠ a) : updM M a o b = M b := if_neg h
noncomputable def Sub (M M' : MH) : Prop := ∀ a o, M a = some o → M' a = some o
theorem Sub.refl {M : MH} : Sub M M := fun _ _ h => h
theorem Sub.trans {M M1 M2 : MH} (a : Sub M M1) (b : Sub M1 M2) : Sub M M2 := fun _ _ h => b _ _ (a _ _ h)
theorem Sub.new {M : MH} {p : Addr} {o : MO} (h : M p = none) : Sub M (updM M p o) := fun b u q => by
 rw [updM_ne]
 · exact q
 · rintro rfl
   rw [h] at q; cases q
noncomputable def KRep {κ : Type} (K : PySem.W.Frag) (H : Hp) : List (κ × V) → List (κ × T) → Prop
 | [], [] => True
 | p :: r, q :: u => p.1 = q.1 ∧ Rep K H p.2 q.2 ∧ KRep K H r u
 | _, _ => False
theorem KRep.kp {κ : Type} {K : PySem.W.Frag} {H H' : Hp} (k : Kp K H H') : ∀ {xs : List (κ × V)} {kvs : List (κ × T)}, KRep K H xs kvs → KRep K H' xs kvs
 | [], [], _ => trivial
 | p :: r, q :: u, h => ⟨h.1, Rep.kp k _ _ h.2.1, KRep.kp k h.2.2⟩
 | [], q :: u, h => h.elim
 | p :: r, [], h => h.elim
theorem KRep.length {κ : Type} {K : PySem.W.Frag} {H : Hp} : ∀ {xs : List (κ × V)} {kvs : List (κ × T)}, KRep K H xs kvs → xs.length = kvs.length
 | [], [], _ => rfl
 | p :: r, q :: u, h => by rw [List.length_cons, List.length_cons, KRep.length h.2.2]
 | [], q :: u, h => h.elim
 | p :: r, [], h => h.elim
noncomputable def MOk (K : PySem.W.Frag) (H : Hp) (a : Addr) : MO → Prop
 | .lst ts => ∃ xs, H a = some (.lst xs) ∧ Reps K H xs ts
 | .dk kvs => ∃ xs, H a = some (.dK xs) ∧ KRep K H xs kvs
 | .dt kvs => ∃ xs, H a = some (.dT xs) ∧ KRep K H xs kvs
noncomputable def HR (K : PySem.W.Frag) (H : Hp) (M : MH) : Prop := ∀ a o, M a = some o → MOk K H a o
theorem HR.sub {K : PySem.W.Frag} {H : Hp} {M M' : MH} (h : HR K H M') (s : Sub M M') : HR K H M := fun a o e => h a o (s a o e)
noncomputable abbrev En := List (Option T)
noncomputable def RhoR (K : PySem.W.Frag) (σ : St) (H : Hp) (ρ : En) : Prop := σ.length = ρ.length ∧ ∀ (i : Nat) (t : T), ρ[i]? = some (some t) → ∃ v, σ[i]? = some (some v) ∧ Rep K H v t
theorem RhoR.kp {K : PySem.W.Frag} {σ : St} {H H' : Hp} {ρ : En} (h : RhoR K σ H ρ) (k : Kp K H H') : RhoR K σ H' ρ := ⟨h.1, fun i t e => let ⟨v, a, b⟩ := h.2 i t e; ⟨v, a, Rep.kp k _ _ b⟩⟩
theorem RhoR.set {K : PySem.W.Frag} {σ : St} {H : Hp} {ρ : En} {v : V} {t : T} (h : RhoR K σ H ρ) (i : Nat) (r : Rep K H v t) : RhoR K (σ.set i (some v)) H (ρ.set i (some t)) := by
 refine ⟨by rw [List.length_set, List.length_set, h.1], fun j u e => ?_⟩
 by_cases hj : i = j
 · subst hj
   have hi : i < ρ.length := by
     have := (List.getElem?_eq_some_iff.mp e).1
     rwa [List.length_set] at this
   rw [List.getElem?_set_self hi] at e
   cases e
   exact ⟨v, List.getElem?_set_self (show i < List.length σ by rw [h.1]; exact hi), r⟩
 · rw [List.getElem?_set_ne hj] at e
   rw [List.getElem?_set_ne hj]
   exact h.2 j u e
noncomputable abbrev VK3 := T → MH → Prop
noncomputable abbrev TE3 := En → MH → VK3 → Prop
noncomputable abbrev TT3 := En → MH → (Bool → MH → Prop) → Prop
noncomputable abbrev TA3 := En → MH → (List T → MH → Prop) → Prop
structure Ends3 where
 nx : En → MH → Prop
 rt : VK3
 bk : En → MH → Prop := fun _ _ => False
 ct : En → MH → Prop := fun _ _ => False
noncomputable abbrev TS3 := Ends3 → En → MH → Prop
noncomputable def EndE (K : PySem.W.Frag) (H : Hp) (Q : VK3) (Q2 : VK) : Prop := ∀ t v M' H', Kp K H H' → HR K H' M' → Rep K H' v t → Q t M' → Q2 v H'
theorem EndE.kp {K : PySem.W.Frag} {H H' : Hp} {Q : VK3} {Q2 : VK} (h : EndE K H Q Q2) (k : Kp K H H') : EndE K H' Q Q2 := fun t v M' H1 k1 => h t v M' H1 (k.trans k1)
noncomputable def bE (K : PySem.W.Frag) (ρ : En) (M : MH) (Q : VK3) : TE := fun σ H Q2 => RhoR K σ H ρ ∧ HR K H M ∧ EndE K H Q Q2
noncomputable def HE (X : Cx) (e : Expr) (t : TE3) : Prop := ∀ ρ M Q, t ρ M Q → PE X e (bE X.K ρ M Q)
noncomputable def EndT (K : PySem.W.Frag) (H : Hp) (Q : Bool → MH → Prop) (Q2 : Bool → Hp → Prop) : Prop := ∀ b M' H', Kp K H H' → HR K H' M' → Q b M' → Q2 b H'
noncomputable def bT (K : PySem.W.Frag) (ρ : En) (M : MH) (Q : Bool → MH → Prop) : TT := fun σ H Q2 => RhoR K σ H ρ ∧ HR K H M ∧ EndT K H Q Q2
noncomputable def HT (X : Cx) (e : Expr) (t : TT3) : Prop := ∀ ρ M Q, t ρ M Q → PT X e (bT X.K ρ M Q)
noncomputable def EndA (K : PySem.W.Frag) (H : Hp) (Q : List T → MH → Prop) (Q2 : List V → Hp → Prop) : Prop := ∀ ts vs M' H', Kp K H H' → HR K H' M' → Reps K H' vs ts → Q ts M' → Q2 vs H'
noncomputable def bA (K : PySem.W.Frag) (ρ : En) (M : MH) (Q : List T → MH → Prop) : TA := fun σ H Q2 => RhoR K σ H ρ ∧ HR K H M ∧ EndA K H Q Q2
noncomputable def HA (X : Cx) (es : List Expr) (t : TA3) : Prop := ∀ ρ M Q, t ρ M Q → PA X es (bA X.K ρ M Q)
structure EndS (K : PySem.W.Frag) (H : Hp) (D : Ends3) (D2 : Ends) : Prop where
 nx : ∀ ρ' M' σ' H', Kp K H H' → RhoR K σ' H' ρ' → HR K H' M' → D.nx ρ' M' → D2.nx σ' H'
 rt : EndE K H D.rt D2.rt
 bk : ∀ ρ' M' σ' H', Kp K H H' → RhoR K σ' H' ρ' → HR K H' M' → D.bk ρ' M' → D2.bk σ' H'
 ct : ∀ ρ' M' σ' H', Kp K H H' → RhoR K σ' H' ρ' → HR K H' M' → D.ct ρ' M' → D2.ct σ' H'
theorem EndS.kp {K : PySem.W.Frag} {H H' : Hp} {D : Ends3} {D2 : Ends} (h : EndS K H D D2) (k : Kp K H H') : EndS K H' D D2 :=
 ⟨fun a b c d k1 => h.nx a b c d (k.trans k1), h.rt.kp k, fun a b c d k1 => h.bk a b c d (k.trans k1), fun a b c d k1 => h.ct a b c d (k.trans k1)⟩
noncomputable def bS (K : PySem.W.Frag) (D : Ends3) (ρ : En) (M : MH) : TS := fun D2 σ H => RhoR K σ H ρ ∧ HR K H M ∧ EndS K H D D2
noncomputable def HS (X : Cx) (st : Stmt) (t : TS3) : Prop := ∀ D ρ M, t D ρ M → PS X st (bS X.K D ρ M)
noncomputable def HSs (X : Cx) (st : List Stmt) (t : TS3) : Prop := ∀ D ρ M, t D ρ M → PSs X st (bS X.K D ρ M)
noncomputable def dE (K : PySem.W.Frag) (ρ : En) (t : TE3) : TE := fun σ H Q2 => ∃ M Q, t ρ M Q ∧ bE K ρ M Q σ H Q2
noncomputable def dT (K : PySem.W.Frag) (ρ : En) (t : TT3) : TT := fun σ H Q2 => ∃ M Q, t ρ M Q ∧ bT K ρ M Q σ H Q2
noncomputable def dA (K : PySem.W.Frag) (ρ : En) (t : TA3) : TA := fun σ H Q2 => ∃ M Q, t ρ M Q ∧ bA K ρ M Q σ H Q2
noncomputable def dS (K : PySem.W.Frag) (t : TS3) : TS := fun D2 σ H => ∃ D ρ M, t D ρ M ∧ bS K D ρ M D2 σ H
section
variable {X : Cx} {e : Expr} {es : List Expr} {st : Stmt} {sts : List Stmt} {ρ : En}
theorem HE.d {t : TE3} (h : HE X e t) : PE X e (dE X.K ρ t) := fun pins s σ H Q I ⟨M, Q3, q, b⟩ => h ρ M Q3 q pins s σ H Q I b
theorem HT.d {t : TT3} (h : HT X e t) : PT X e (dT X.K ρ t) := fun pins s σ H Q I ⟨M, Q3, q, b⟩ => h ρ M Q3 q pins s σ H Q I b
theorem HA.d {t : TA3} (h : HA X es t) : PA X es (dA X.K ρ t) := fun pos pins s σ H Q I ⟨M, Q3, q, b⟩ => h ρ M Q3 q pos pins s σ H Q I b
theorem HS.d {t : TS3} (h : HS X st t) : PS X st (dS X.K t) := fun pins s σ H D I ⟨D3, ρ, M, q, b⟩ => h D3 ρ M q pins s σ H D I b
theorem HSs.d {t : TS3} (h : HSs X sts t) : PSs X sts (dS X.K t) := fun pins s σ H D I ⟨D3, ρ, M, q, b⟩ => h D3 ρ M q pins s σ H D I b
end
end L2
namespace L2
open PySem PySem.Spec PyProof.Rows
mutual
noncomputable def eqT : T → T → Bool
 | .non, .non => true
 | .bl a, .bl b => a == b
 | .bl a, .int b => (if a then 1 else 0) == b
 | .int a, .bl b => a == (if b then 1 else 0)
 | .int a, .int b => a == b
 | .str a, .str b => a == b
 | .tup a, .tup b => eqTs a b
 | _, _ => false
noncomputable def eqTs : List T → List T → Bool
 | [], [] => true
 | x :: xs, y :: ys => eqT x y && eqTs xs ys
 | _, _ => false
end
mutual
noncomputable def pureT : T → Bool
 | .adr _ => false
 | .rd _ => false
 | .dic _ _ => false
 | .tup ts => pureTs ts
 | _ => true
noncomputable def pureTs : List T → Bool
 | [] => true
 | t :: ts => pureT t && pureTs ts
end
mutual
noncomputable def depT : T → Nat
 | .tup ts => depTs ts + 1
 | _ => 0
noncomputable def depTs : List T → Nat
 | [] => 0
 | t :: ts => max (depT t) (depTs ts)
end
theorem pureTs_get : ∀ {ts : List T} {j : Nat} {t : T}, pureTs ts = true → ts[j]? = some t → pureT t = true
 | [], _, _, _, e => by simp at e
 | x :: ts, 0, t, h, e => by simp at e; subst e; unfold pureTs at h; exact (Bool.and_eq_true _ _ ▸ h).1
 | x :: ts, j + 1, t, h, e => by
   unfold pureTs at h
   exact pureTs_get (j := j) (Bool.and_eq_true _ _ ▸ h).2 (by simpa using e)
theorem depTs_get : ∀ {ts : List T} {j : Nat} {t : T}, ts[j]? = some t → depT t ≤ depTs ts
 | [], _, _, e => by simp at e
 | x :: ts, 0, t, e => by simp at e; subst e; unfold depTs; exact Nat.le_max_left _ _
 | x :: ts, j + 1, t, e => by
   have := depTs_get (ts := ts) (j := j) (t := t) (by simpa using e)
   unfold depTs; exact Nat.le_trans this (Nat.le_max_right _ _)
noncomputable def eqJ (xs ys : List T) (j : Nat) : Bool := match xs[j]?, ys[j]? with
 | some x, some y => eqT x y
 | _, _ => true
theorem eqTs_range : ∀ (xs ys : List T), (((List.range (min xs.length ys.length)).all (eqJ xs ys)) && (xs.length == ys.length)) = eqTs xs ys
 | [], [] => by unfold eqTs; rfl
 | [], y :: ys => by unfold eqTs; simp
 | x :: xs, [] => by unfold eqTs; simp
 | x :: xs, y :: ys => by
   unfold eqTs
   rw [← eqTs_range xs ys]
   rw [List.length_cons, List.length_cons, Nat.succ_min_succ, List.range_succ_eq_map, List.all_cons, List.all_map]
   have e1 : eqJ (x :: xs) (y :: ys) 0 = eqT x y := rfl
   have e2 : (eqJ (x :: xs) (y :: ys)) ∘ Nat.succ = eqJ xs ys := by
     funext j; simp [eqJ]
   rw [e1, e2, Bool.and_assoc]
   congr 2
   simp
theorem eqTs_len : ∀ {xs ys : List T}, eqTs xs ys = true → xs.length = ys.length
 | [], [], _ => rfl
 | [], y :: ys, h => by unfold eqTs at h; cases h
 | x :: xs, [], h => by unfold eqTs at h; cases h
 | x :: xs, y :: ys, h => by
   unfold eqTs at h
   rw [Bool.and_eq_true] at h
   rw [List.length_cons, List.length_cons, eqTs_len h.2]
mutual
theorem eqT_refl : ∀ (x : T), pureT x = true → eqT x x = true
 | .non, _ => rfl
 | .bl b, _ => by simp [eqT]
 | .int i, _ => by simp [eqT]
 | .str x, _ => by simp [eqT]
 | .adr a, h => by unfold pureT at h; cases h
 | .rd a, h => by unfold pureT at h; cases h
 | .dic ks a, h => by unfold pureT at h; cases h
 | .tup ts, h => by unfold pureT at h; unfold eqT; exact eqTs_refl ts h
theorem eqTs_refl : ∀ (xs : List T), pureTs xs = true → eqTs xs xs = true
 | [], _ => by unfold eqTs; rfl
 | x :: xs, h => by
   unfold pureTs at h
   rw [Bool.and_eq_true] at h
   unfold eqTs
   rw [eqT_refl x h.1, eqTs_refl xs h.2]
   rfl
end
section
variable {X : Cx} {pins : List (Addr × Obj)} {σ : St} {H : Hp} {s : Shared}
theorem rep_det (I : Inv X pins σ H s) : ∀ (x y : T) (v : V), pureT x = true → pureT y = true → Rep X.K H v x → Rep X.K H v y → eqT x y = true := by
 have key : ∀ n (x y : T) (v : V), depT x ≤ n → pureT x = true → pureT y = true → Rep X.K H v x → Rep X.K H v y → eqT x y = true := by
   intro n
   induction n with
   | zero =>
     intro x y v hd px py rx ry
     cases x with
     | tup ts => unfold depT at hd; lia
     | adr a => unfold pureT at px; cases px
     | rd a => unfold pureT at px; cases px
     | dic ks a => unfold pureT at px; cases px
     | _ => unfold Rep at rx; subst rx; cases y <;> unfold Rep at ry <;> first | (obtain ⟨_, _, e, _⟩ := ry; cases e; done) | (unfold pureT at py; cases py; done) | (cases ry <;> simp [eqT])
   | succ n ih =>
     intro x y v hd px py rx ry
     cases x with
     | adr a => unfold pureT at px; cases px
     | rd a => unfold pureT at px; cases px
     | dic ks a => unfold pureT at px; cases px
     | tup ts =>
       unfold Rep at rx
       obtain ⟨a, xs, rfl, h1, h2⟩ := rx
       cases y with
       | adr a => unfold pureT at py; cases py
       | rd a => unfold pureT at py; cases py
       | dic ks a => unfold pureT at py; cases py
       | tup us =>
         unfold Rep at ry
         obtain ⟨a', ys, e, g1, g2⟩ := ry
         cases e
         obtain rfl := I.tuple_inj h1 g1
         unfold pureT at px py
         unfold depT at hd
         unfold eqT
         have hl := h2.length
         have hl2 := g2.length
         rw [← eqTs_range]
         rw [← hl, ← hl2]
         simp only [Nat.min_self, beq_self_eq_true, Bool.and_true, List.all_eq_true, List.mem_range]
         intro j hj
         have e1 : ts[j]? = some ts[j] := List.getElem?_eq_getElem (by lia)
         have e2 : us[j]? = some us[j] := List.getElem?_eq_getElem (by lia)
         obtain ⟨v1, q1, r1⟩ := h2.get e1
         obtain ⟨v2, q2, r2⟩ := g2.get e2
         rw [q1] at q2; cases q2
         unfold eqJ
         rw [e1, e2]
         have := depTs_get e1
         exact ih _ _ _ (by lia) (pureTs_get px e1) (pureTs_get py e2) r1 r2
       | _ => unfold Rep at ry; cases ry
     | _ => unfold Rep at rx; subst rx; cases y <;> unfold Rep at ry <;> first | (obtain ⟨_, _, e, _⟩ := ry; cases e; done) | (unfold pureT at py; cases py; done) | (cases ry <;> simp [eqT])
 exact fun x y v => key (depT x) x y v (Nat.le_refl _)
open SeqAt in
theorem eqAt_scal {A : Around} (x y : T) (v u : V) (a b : Value) (px : pureT x = true) (py : pureT y = true) (rx : Rep X.K H v x) (ry : Rep X.K H u y) (ra : RelV v a) (rb : RelV u b) (nx : ∀ ts, x ≠ .tup ts) (ny : ∀ ts, y ≠ .tup ts) :
   SeqAt.EqAt A s a b (eqT x y) ∧ SeqAt.RcAt A s a b (eqT x y) ∧ SeqAt.RcNeAt A s a b (!(eqT x y)) := by
 cases x with
 | tup ts => exact absurd rfl (nx ts)
 | adr p => unfold pureT at px; cases px
 | rd p => unfold pureT at px; cases px
 | dic ks p => unfold pureT at px; cases px
 | non =>
   unfold Rep at rx; subst rx
   cases ra
   cases y with
   | tup ts => exact absurd rfl (ny ts)
   | adr p => unfold pureT at py; cases py
   | rd p => unfold pureT at py; cases py
   | dic ks p => unfold pureT at py; cases py
   | non =>
     unfold Rep at ry; subst ry
     cases rb
     have e : eqT .non .non = true := rfl
     rw [e]
     exact ⟨EqAt.same _, RcAt.none_none, RcNeAt.none_none⟩
   | bl c0 =>
     unfold Rep at ry; subst ry
     cases rb
     have e : eqT .non (.bl c0) = false := rfl
     rw [e]
     exact ⟨EqAt.none_bool _, RcAt.none_bool _, RcNeAt.none_bool _⟩
   | int c0 =>
     unfold Rep at ry; subst ry
     obtain ⟨t_rb, rfl⟩ := rb
     have e : eqT .non (.int c0) = false := rfl
     rw [e]
     exact ⟨EqAt.none_int _ _, RcAt.none_int _ _, RcNeAt.none_int _ _⟩
   | str c0 =>
     unfold Rep at ry; subst ry
     obtain ⟨t_rb, rfl⟩ := rb
     have e : eqT .non (.str c0) = false := rfl
     rw [e]
     exact ⟨EqAt.none_str _ _, RcAt.none_str _ _, RcNeAt.none_str _ _⟩
 | bl b0 =>
   unfold Rep at rx; subst rx
   cases ra
   cases y with
   | tup ts => exact absurd rfl (ny ts)
   | adr p => unfold pureT at py; cases py
   | rd p => unfold pureT at py; cases py
   | dic ks p => unfold pureT at py; cases py
   | non =>
     unfold Rep at ry; subst ry
     cases rb
     have e : eqT (.bl b0) .non = false := rfl
     rw [e]
     exact ⟨EqAt.bool_none _, RcAt.bool_none _, RcNeAt.bool_none _⟩
   | bl c0 =>
     unfold Rep at ry; subst ry
     cases rb
     have e : eqT (.bl b0) (.bl c0) = (b0 == c0) := rfl
     rw [e]
     exact ⟨EqAt.bool_bool _ _, RcAt.bool_bool _ _, RcNeAt.bool_bool _ _⟩
   | int c0 =>
     unfold Rep at ry; subst ry
     obtain ⟨t_rb, rfl⟩ := rb
     have e : eqT (.bl b0) (.int c0) = ((if b0 then 1 else 0) == c0) := rfl
     rw [e]
     exact ⟨EqAt.bool_int _ _ _, RcAt.bool_int _ _ _, RcNeAt.bool_int _ _ _⟩
   | str c0 =>
     unfold Rep at ry; subst ry
     obtain ⟨t_rb, rfl⟩ := rb
     have e : eqT (.bl b0) (.str c0) = false := rfl
     rw [e]
     exact ⟨EqAt.bool_str _ _ _, RcAt.bool_str _ _ _, RcNeAt.bool_str _ _ _⟩
 | int b0 =>
   unfold Rep at rx; subst rx
   obtain ⟨t_ra, rfl⟩ := ra
   cases y with
   | tup ts => exact absurd rfl (ny ts)
   | adr p => unfold pureT at py; cases py
   | rd p => unfold pureT at py; cases py
   | dic ks p => unfold pureT at py; cases py
   | non =>
     unfold Rep at ry; subst ry
     cases rb
     have e : eqT (.int b0) .non = false := rfl
     rw [e]
     exact ⟨EqAt.int_none _ _, RcAt.int_none _ _, RcNeAt.int_none _ _⟩
   | bl c0 =>
     unfold Rep at ry; subst ry
     cases rb
     have e : eqT (.int b0) (.bl c0) = (b0 == (if c0 then 1 else 0)) := rfl
     rw [e]
     exact ⟨EqAt.int_bool _ _ _, RcAt.int_bool _ _ _, RcNeAt.int_bool _ _ _⟩
   | int c0 =>
     unfold Rep at ry; subst ry
     obtain ⟨t_rb, rfl⟩ := rb
     have e : eqT (.int b0) (.int c0) = (b0 == c0) := rfl
     rw [e]
     exact ⟨EqAt.int_int _ _ _ _, RcAt.int_int _ _ _ _, RcNeAt.int_int _ _ _ _⟩
   | str c0 =>
     unfold Rep at ry; subst ry
     obtain ⟨t_rb, rfl⟩ := rb
     have e : eqT (.int b0) (.str c0) = false := rfl
     rw [e]
     exact ⟨EqAt.int_str _ _ _ _, RcAt.int_str _ _ _ _, RcNeAt.int_str _ _ _ _⟩
 | str b0 =>
   unfold Rep at rx; subst rx
   obtain ⟨t_ra, rfl⟩ := ra
   cases y with
   | tup ts => exact absurd rfl (ny ts)
   | adr p => unfold pureT at py; cases py
   | rd p => unfold pureT at py; cases py
   | dic ks p => unfold pureT at py; cases py
   | non =>
     unfold Rep at ry; subst ry
     cases rb
     have e : eqT (.str b0) .non = false := rfl
     rw [e]
     exact ⟨EqAt.str_none _ _, RcAt.str_none _ _, RcNeAt.str_none _ _⟩
   | bl c0 =>
     unfold Rep at ry; subst ry
     cases rb
     have e : eqT (.str b0) (.bl c0) = false := rfl
     rw [e]
     exact ⟨EqAt.str_bool _ _ _, RcAt.str_bool _ _ _, RcNeAt.str_bool _ _ _⟩
   | int c0 =>
     unfold Rep at ry; subst ry
     obtain ⟨t_rb, rfl⟩ := rb
     have e : eqT (.str b0) (.int c0) = false := rfl
     rw [e]
     exact ⟨EqAt.str_int _ _ _ _, RcAt.str_int _ _ _ _, RcNeAt.str_int _ _ _ _⟩
   | str c0 =>
     unfold Rep at ry; subst ry
     obtain ⟨t_rb, rfl⟩ := rb
     have e : eqT (.str b0) (.str c0) = (b0 == c0) := rfl
     rw [e]
     exact ⟨EqAt.str_str _ _ _ _, RcAt.str_str _ _ _ _, RcNeAt.str_str _ _ _ _⟩
theorem depT0 {x : T} (h : ∀ ts, x ≠ .tup ts) : depT x = 0 := by
 cases x with
 | tup ts => exact absurd rfl (h ts)
 | _ => rfl
open SeqAt in
/-- a tuple against what is none -/
theorem eqAt_tup_r {A : Around} {p : Addr} {its : Array Value} (ht : s.heap.IsTuple p its) (hu : A.units < cLine) (x : T) (us : List T) (v : V) (a : Value) (px : pureT x = true) (rx : Rep X.K H v x) (ra : RelV v a) (nx : ∀ ts, x ≠ .tup ts) :
   SeqAt.EqAt A s a (.ref p) (eqT x (.tup us)) ∧ SeqAt.RcAt A s a (.ref p) (eqT x (.tup us)) ∧ SeqAt.RcNeAt A s a (.ref p) (!(eqT x (.tup us))) := by
 cases x with
 | tup ts => exact absurd rfl (nx ts)
 | adr q => unfold pureT at px; cases px
 | rd q => unfold pureT at px; cases px
 | dic ks q => unfold pureT at px; cases px
 | non =>
   unfold Rep at rx; subst rx; cases ra
   have e : eqT .non (.tup us) = false := rfl
   rw [e]; exact ⟨.none_tuple ht hu, .none_tuple ht hu, .none_tuple ht hu⟩
 | bl b0 =>
   unfold Rep at rx; subst rx; cases ra
   have e : eqT (.bl b0) (.tup us) = false := rfl
   rw [e]; exact ⟨.bool_tuple _ ht hu, .bool_tuple _ ht hu, .bool_tuple _ ht hu⟩
 | int b0 =>
   unfold Rep at rx; subst rx; obtain ⟨t, rfl⟩ := ra
   have e : eqT (.int b0) (.tup us) = false := rfl
   rw [e]; exact ⟨.int_tuple _ _ ht hu, .int_tuple _ _ ht hu, .int_tuple _ _ ht hu⟩
 | str b0 =>
   unfold Rep at rx; subst rx; obtain ⟨t, rfl⟩ := ra
   have e : eqT (.str b0) (.tup us) = false := rfl
   rw [e]; exact ⟨.str_tuple _ _ ht hu, .str_tuple _ _ ht hu, .str_tuple _ _ ht hu⟩
open SeqAt in
theorem eqAt_tup_l {A : Around} {p : Addr} {its : Array Value} (ht : s.heap.IsTuple p its) (hu : A.units < cLine) (x : T) (us : List T) (v : V) (a : Value) (px : pureT x = true) (rx : Rep X.K H v x) (ra : RelV v a) (nx : ∀ ts, x ≠ .tup ts) :
   SeqAt.EqAt A s (.ref p) a (eqT (.tup us) x) ∧ SeqAt.RcAt A s (.ref p) a (eqT (.tup us) x) ∧ SeqAt.RcNeAt A s (.ref p) a (!(eqT (.tup us) x)) := by
 cases x with
 | tup ts => exact absurd rfl (nx ts)
 | adr q => unfold pureT at px; cases px
 | rd q => unfold pureT at px; cases px
 | dic ks q => unfold pureT at px; cases px
 | non =>
   unfold Rep at rx; subst rx; cases ra
   have e : eqT (.tup us) .non = false := rfl
   rw [e]; exact ⟨.tuple_none ht hu, .tuple_none ht hu, .tuple_none ht hu⟩
 | bl b0 =>
   unfold Rep at rx; subst rx; cases ra
   have e : eqT (.tup us) (.bl b0) = false := rfl
   rw [e]; exact ⟨.tuple_bool _ ht hu, .tuple_bool _ ht hu, .tuple_bool _ ht hu⟩
 | int b0 =>
   unfold Rep at rx; subst rx; obtain ⟨t, rfl⟩ := ra
   have e : eqT (.tup us) (.int b0) = false := rfl
   rw [e]; exact ⟨.tuple_int _ _ ht hu, .tuple_int _ _ ht hu, .tuple_int _ _ ht hu⟩
 | str b0 =>
   unfold Rep at rx; subst rx; obtain ⟨t, rfl⟩ := ra
   have e : eqT (.tup us) (.str b0) = false := rfl
   rw [e]; exact ⟨.tuple_str _ _ ht hu, .tuple_str _ _ ht hu, .tuple_str _ _ ht hu⟩
theorem tup_or (x : T) : (∃ ts, x = .tup ts) ∨ ∀ ts, x ≠ .tup ts := by
 cases x with
 | tup ts => exact .inl ⟨ts, rfl⟩
 | _ => exact .inr fun ts e => by cases e
theorem items_eq {A : Around} {n : Nat} {ts us : List T} {xs ys : List V} {its its2 : List Value} (px : pureTs ts = true) (py : pureTs us = true) (hd : depTs ts ≤ n) (h2 : Reps X.K H xs ts) (g2 : Reps X.K H ys us) (r1 : Vals xs its) (r2 : Vals ys its2)
   (ih : ∀ (x y : T) (v u : V) (a b : Value), depT x ≤ n → pureT x = true → pureT y = true → Rep X.K H v x → Rep X.K H u y → RelV v a → RelV u b → SeqAt.EqAt A s a b (eqT x y)) (j : Nat) (hj1 : j < its.toArray.size) (hj2 : j < its2.toArray.size) :
   SeqAt.EqAt A s its.toArray[j] its2.toArray[j] (eqJ ts us j) := by
 have l1 := h2.length
 have l2 := g2.length
 have m1 := r1.length
 have m2 := r2.length
 have hj1' : j < its.length := by simpa using hj1
 have hj2' : j < its2.length := by simpa using hj2
 have e1 : ts[j]? = some (ts[j]'(by lia)) := List.getElem?_eq_getElem (by lia)
 have e2 : us[j]? = some (us[j]'(by lia)) := List.getElem?_eq_getElem (by lia)
 obtain ⟨v1, a1, b1⟩ := h2.get e1
 obtain ⟨v2, a2, b2⟩ := g2.get e2
 obtain ⟨w1, c1, d1⟩ := r1.get a1
 obtain ⟨w2, c2, d2⟩ := r2.get a2
 have f1 : its.toArray[j] = w1 := by
   have : its[j]? = some (its[j]'hj1') := List.getElem?_eq_getElem hj1'
   rw [c1] at this
   simpa using (Option.some.inj this).symm
 have f2 : its2.toArray[j] = w2 := by
   have : its2[j]? = some (its2[j]'hj2') := List.getElem?_eq_getElem hj2'
   rw [c2] at this
   simpa using (Option.some.inj this).symm
 have e3 : eqJ ts us j = eqT (ts[j]'(by lia)) (us[j]'(by lia)) := by unfold eqJ; rw [e1, e2]
 rw [f1, f2, e3]
 have := depTs_get e1
 exact ih _ _ v1 v2 w1 w2 (by lia) (pureTs_get px e1) (pureTs_get py e2) b1 b2 d1 d2
open SeqAt in
/-- == (by identity first), ==, != of two values, by their trees -/
theorem eqAt_T (I : Inv X pins σ H s) : ∀ n (A : Around) (x y : T) (v u : V) (a b : Value), depT x ≤ n → A.units + n + 1 < cLine → pureT x = true → pureT y = true → Rep X.K H v x → Rep X.K H u y → RelV v a → RelV u b →
   SeqAt.EqAt A s a b (eqT x y) ∧ SeqAt.RcAt A s a b (eqT x y) ∧ SeqAt.RcNeAt A s a b (!(eqT x y)) := by
 intro n
 induction n with
 | zero =>
   intro A x y v u a b hd hu px py rx ry ra rb
   rcases tup_or x with ⟨ts, rfl⟩ | nx
   · unfold depT at hd; lia
   · rcases tup_or y with ⟨us, rfl⟩ | ny
     · unfold Rep at ry
       obtain ⟨p, ys, rfl, g1, g2⟩ := ry
       obtain ⟨its, r', ht, _⟩ := I.tuple g1
       have ht' : s.heap.IsTuple p its.toArray := ht
       cases rb
       exact eqAt_tup_r ht' (by lia) x us v a px rx ra nx
     · exact eqAt_scal x y v u a b px py rx ry ra rb nx ny
 | succ n ih =>
   intro A x y v u a b hd hu px py rx ry ra rb
   have hu' : A.units < cLine := by lia
   rcases tup_or x with ⟨ts, rfl⟩ | nx
   · have rx' := rx
     unfold Rep at rx
     obtain ⟨p, xs, rfl, h1, h2⟩ := rx
     cases ra
     obtain ⟨its, r1, ht, _⟩ := I.tuple h1
     have ht' : s.heap.IsTuple p its.toArray := ht
     rcases tup_or y with ⟨us, rfl⟩ | ny
     · have ry' := ry
       unfold Rep at ry
       obtain ⟨q, ys, rfl, g1, g2⟩ := ry
       cases rb
       obtain ⟨its2, r2, ht2, _⟩ := I.tuple g1
       have ht2' : s.heap.IsTuple q its2.toArray := ht2
       have px' := px
       have py' := py
       unfold pureT at px py
       unfold depT at hd
       have he := items_eq (A := A.in1) (s := s) (n := n) px py (by lia) h2 g2 r1 r2 fun x y v u a b hx px py rx ry ra rb => (ih A.in1 x y v u a b hx (by show A.units + 1 + n + 1 < cLine; lia) px py rx ry ra rb).1
       have ee : ((List.range (min its.toArray.size its2.toArray.size)).all (eqJ ts us) && its.toArray.size == its2.toArray.size) = eqT (.tup ts) (.tup us) := by
         have l1 := h2.length
         have l2 := g2.length
         have m1 := r1.length
         have m2 := r2.length
         unfold eqT
         rw [← eqTs_range, List.size_toArray, List.size_toArray, ← m1, ← m2, l1, l2]
       have rc := RcAt.tuples (A := A) (e := eqJ ts us) ht' ht2' hu' he
       have rn := RcNeAt.tuples (A := A) (e := eqJ ts us) ht' ht2' hu' he
       rw [ee] at rc rn
       refine ⟨?_, rc, rn⟩
       by_cases hpq : p = q
       · subst hpq
         have e : eqT (.tup ts) (.tup us) = true := rep_det I (.tup ts) (.tup us) (.ref p) px' py' rx' ry'
         rw [e]; exact .same _
       · exact .of_refs hpq rc
     · exact eqAt_tup_l ht' hu' y ts u b py ry rb ny
   · exact ih A x y v u a b (by rw [depT0 nx]; exact Nat.zero_le _) (by lia) px py rx ry ra rb
end
end L2
namespace L2
open PySem PySem.Spec PyProof.Rows
noncomputable abbrev R3 := T → T → MH → VK3 → Prop
noncomputable def dR (K : PySem.W.Frag) (r : R3) : R2 := fun v u H Q2 => ∃ x y M Q, Rep K H v x ∧ Rep K H u y ∧ HR K H M ∧ r x y M Q ∧ EndE K H Q Q2
noncomputable def dU (K : PySem.W.Frag) (r : T → MH → VK3 → Prop) : V → Hp → VK → Prop := fun v H Q2 => ∃ x M Q, Rep K H v x ∧ HR K H M ∧ r x M Q ∧ EndE K H Q Q2
noncomputable def dL (K : PySem.W.Frag) (r : List T → MH → VK3 → Prop) : List V → Hp → VK → Prop := fun vs H Q2 => ∃ xs M Q, Reps K H vs xs ∧ HR K H M ∧ r xs M Q ∧ EndE K H Q Q2
theorem Kp.new {K : PySem.W.Frag} {H : Hp} {p : Addr} {o : HO} (h : H p = none) : Kp K H (upd H p o) := by
 refine ⟨fun a xs q => ?_, fun a ob u q => by rw [upd_ne (ne_of_none q h)]; exact q⟩
 rcases q with (q | ⟨ob, q⟩) | q
 · exact .inl (.inl (by rw [upd_ne (ne_of_none q h)]; exact q))
 · exact .inl (.inr ⟨ob, by rw [upd_ne (ne_of_none q h)]; exact q⟩)
 · exact .inr q
theorem Kp.lst {K : PySem.W.Frag} {H : Hp} {p : Addr} {xs ys : List V} (h : H p = some (.lst xs)) : Kp K H (upd H p (.lst ys)) := by
 have ne : ∀ {a : Addr} {o : HO}, H a = some o → o ≠ .lst xs → a ≠ p := fun {a o} q hn e => by
   subst e
   rw [h] at q; cases q; exact hn rfl
 refine ⟨fun a zs q => ?_, fun a ob u q => by rw [upd_ne (ne q (by intro z; cases z))]; exact q⟩
 rcases q with (q | ⟨ob, q⟩) | q
 · exact .inl (.inl (by rw [upd_ne (ne q (by intro z; cases z))]; exact q))
 · exact .inl (.inr ⟨ob, by rw [upd_ne (ne q (by intro z; cases z))]; exact q⟩)
 · exact .inr q
theorem Kp.dict {K : PySem.W.Frag} {H : Hp} {p : Addr} {o u : HO} (h : H p = some o) (ho : (∃ kvs, o = .dK kvs) ∨ ∃ kvs, o = .dT kvs) : Kp K H (upd H p u) := by
 have ne : ∀ {a : Addr} {u : HO}, H a = some u → ((∃ xs, u = .tup xs) ∨ ∃ b x, u = .frz b x) → a ≠ p := fun {a u} q hn e => by
   subst e
   rw [h] at q; cases q
   rcases ho with ⟨_, rfl⟩ | ⟨_, rfl⟩ <;> rcases hn with ⟨_, z⟩ | ⟨_, _, z⟩ <;> cases z
 refine ⟨fun a zs q => ?_, fun a ob u q => by rw [upd_ne (ne q (.inr ⟨_, _, rfl⟩))]; exact q⟩
 rcases q with (q | ⟨ob, q⟩) | q
 · exact .inl (.inl (by rw [upd_ne (ne q (.inl ⟨_, rfl⟩))]; exact q))
 · exact .inl (.inr ⟨ob, by rw [upd_ne (ne q (.inr ⟨_, _, rfl⟩))]; exact q⟩)
 · exact .inr q
section
variable {K : PySem.W.Frag} {H : Hp} {M : MH}
noncomputable def Wr : HO → Prop
 | .lst _ => True
 | .dK _ => True
 | .dT _ => True
 | _ => False
theorem MOk.kp {H' : Hp} {a : Addr} {o : MO} (h : MOk K H a o) (k : Kp K H H') (ha : ∀ u, Wr u → H a = some u → H' a = some u) : MOk K H' a o := by
 cases o with
 | lst ts => obtain ⟨xs, e, r⟩ := h; exact ⟨xs, ha _ trivial e, Reps.kp k _ _ r⟩
 | dk kvs => obtain ⟨xs, e, r⟩ := h; exact ⟨xs, ha _ trivial e, r.kp k⟩
 | dt kvs => obtain ⟨xs, e, r⟩ := h; exact ⟨xs, ha _ trivial e, r.kp k⟩
theorem MOk.some {a : Addr} {o : MO} (h : MOk K H a o) : ∃ u, H a = Option.some u ∧ Wr u := by
 cases o with
 | lst ts => obtain ⟨xs, e, r⟩ := h; exact ⟨_, e, trivial⟩
 | dk kvs => obtain ⟨xs, e, r⟩ := h; exact ⟨_, e, trivial⟩
 | dt kvs => obtain ⟨xs, e, r⟩ := h; exact ⟨_, e, trivial⟩
theorem HR.free {p : Addr} (h : HR K H M) (hp : H p = none) : M p = none := by
 cases q : M p with
 | none => rfl
 | some o =>
   obtain ⟨u, e, _⟩ := (h p o q).some
   rw [hp] at e; cases e
theorem HR.keep {p : Addr} {o : HO} (h : HR K H M) (hp : H p = none) : HR K (upd H p o) M := fun a u e =>
 (h a u e).kp (Kp.new hp) fun u _ q => by rw [upd_ne (ne_of_none q hp)]; exact q
theorem HR.newL {p : Addr} {xs : List V} {ts : List T} (h : HR K H M) (hp : H p = none) (r : Reps K H xs ts) : HR K (upd H p (.lst xs)) (updM M p (.lst ts)) := fun a u e => by
 by_cases ha : a = p
 · subst ha
   rw [updM_same] at e; cases e
   exact ⟨xs, upd_same, Reps.kp (Kp.new hp) _ _ r⟩
 · rw [updM_ne ha] at e
   exact (h.keep hp) a u e
theorem HR.setL {p : Addr} {xs ys : List V} {us : List T} (h : HR K H M) (hp : H p = some (.lst xs)) (r : Reps K H ys us) : HR K (upd H p (.lst ys)) (updM M p (.lst us)) := fun a u e => by
 by_cases ha : a = p
 · subst ha
   rw [updM_same] at e; cases e
   exact ⟨ys, upd_same, Reps.kp (Kp.lst hp) _ _ r⟩
 · rw [updM_ne ha] at e
   exact (h a u e).kp (Kp.lst hp) fun u _ q => by rw [upd_ne ha]; exact q
theorem HR.newT {p : Addr} {xs : List (List Key × V)} {kvs : List (List Key × T)} (h : HR K H M) (hp : H p = none) (r : KRep K H xs kvs) : HR K (upd H p (.dT xs)) (updM M p (.dt kvs)) := fun a u e => by
 by_cases ha : a = p
 · subst ha
   rw [updM_same] at e; cases e
   exact ⟨xs, upd_same, r.kp (Kp.new hp)⟩
 · rw [updM_ne ha] at e
   exact (h.keep hp) a u e
theorem HR.setT {p : Addr} {o : HO} {xs : List (List Key × V)} {kvs : List (List Key × T)} (h : HR K H M) (hp : H p = some o) (ho : (∃ kvs, o = .dK kvs) ∨ ∃ kvs, o = .dT kvs) (r : KRep K H xs kvs) : HR K (upd H p (.dT xs)) (updM M p (.dt kvs)) := fun a u e => by
 by_cases ha : a = p
 · subst ha
   rw [updM_same] at e; cases e
   exact ⟨xs, upd_same, r.kp (Kp.dict hp ho)⟩
 · rw [updM_ne ha] at e
   exact (h a u e).kp (Kp.dict hp ho) fun u _ q => by rw [upd_ne ha]; exact q
end
noncomputable def OpR3 (X : Cx) (f : Value → Value → Sem Value) (r : R3) : Prop := OpR X f (dR X.K r)
noncomputable def UnR3 (X : Cx) (f : Value → Sem Value) (r : T → MH → VK3 → Prop) : Prop := UnR X f (dU X.K r)
noncomputable def CallR3 (X : Cx) (f : Value) (r : List T → MH → VK3 → Prop) : Prop := CallR X f (dL X.K r)
noncomputable def IxR3 (X : Cx) (r : R3) : Prop := IxR X (dR X.K r)
noncomputable def tOp3 (r : R3) (ta tb : TE3) : TE3 := fun ρ M Q => ta ρ M fun x M1 => tb ρ M1 fun y M2 => r x y M2 Q
noncomputable def tUn3 (r : T → MH → VK3 → Prop) (ta : TE3) : TE3 := fun ρ M Q => ta ρ M fun x M1 => r x M1 Q
noncomputable def tVar3 (i : Nat) : TE3 := fun ρ M Q => match ρ[i]? with
 | some (some t) => Q t M
 | _ => False
noncomputable def tK (t : T) : TE3 := fun _ M Q => Q t M
section
variable {X : Cx} {a b c e : Expr} {es : List Expr} {ta tb tc te : TE3} {pos : Pos}
theorem dOp {ρ : En} {M : MH} {Q : VK3} {r : R3} (h : tOp3 r ta tb ρ M Q) {σ : St} {H : Hp} {Q2 : VK} (b : bE X.K ρ M Q σ H Q2) : tOp (dR X.K r) (dE X.K ρ ta) (dE X.K ρ tb) σ H Q2 := by
 obtain ⟨hr, hh, en⟩ := b
 refine ⟨M, _, h, hr, hh, fun t v M1 H1 k1 h1 r1 q1 => ⟨M1, _, q1, hr.kp k1, h1, fun t2 v2 M2 H2 k2 h2 r2 q2 => ⟨t, t2, M2, Q, Rep.kp k2 _ _ r1, r2, h2, q2, en.kp (k1.trans k2)⟩⟩⟩
theorem h_bin {op : Operator} {r : R3} (ho : OpR3 X (binaryOp op) r) (ha : HE X a ta) (hb : HE X b tb) : HE X (.BinOp a op b pos) (tOp3 r ta tb) := fun ρ M Q h =>
 (pe_op ho (ha.d (ρ := ρ)) (hb.d (ρ := ρ))).imp fun σ H Q2 b => dOp h b
theorem h_un {op : UnaryOp} {r : T → MH → VK3 → Prop} (ho : UnR3 X (unaryOp op) r) (ha : HE X a ta) : HE X (.UnaryOp op a pos) (tUn3 r ta) := fun ρ M Q h =>
 (pe_un ho (ha.d (ρ := ρ))).imp fun σ H Q2 ⟨hr, hh, en⟩ => ⟨M, _, h, hr, hh, fun t v M1 H1 k1 h1 r1 q1 => ⟨t, M1, Q, r1, h1, q1, en.kp k1⟩⟩
theorem h_var {i : Nat} {x : Str} (hN : X.N[i]? = some x) (hv : Vis X.env.scope x) (hd : (x == ("__debug__" : Str)) = false := by decide) (hcd : (x == ("__classdict__" : Str)) = false := by decide) : HE X (.Name x pos) (tVar3 i) := fun ρ M Q h =>
 (pe_var hN hv hd hcd).imp fun σ H Q2 ⟨hr, hh, en⟩ => by
   unfold tVar3 at h
   split at h
   · rename_i t e
     obtain ⟨v, e1, r⟩ := hr.2 i t e
     exact ⟨v, e1, en t v M H Kp.refl hh r h⟩
   · exact h.elim
theorem hv (i : Nat) {x : Str} {pos : Pos} (hN : X.N[i]? = some x := by rfl) (hv : Vis X.env.scope x := by first | exact Or.inl rfl | exact Or.inr (Or.inl rfl) | exact Or.inr (Or.inr rfl)) (hd : (x == ("__debug__" : Str)) = false := by decide)
   (hcd : (x == ("__classdict__" : Str)) = false := by decide) : HE X (.Name x pos) (tVar3 i) := h_var hN hv hd hcd
theorem rep_int {K : PySem.W.Frag} {H : Hp} {i : Int} : Rep K H (.int i) (.int i) := by unfold Rep; rfl
theorem rep_bl {K : PySem.W.Frag} {H : Hp} {i : Bool} : Rep K H (.bl i) (.bl i) := by unfold Rep; rfl
theorem rep_str {K : PySem.W.Frag} {H : Hp} {i : Str} : Rep K H (.str i) (.str i) := by unfold Rep; rfl
theorem rep_non {K : PySem.W.Frag} {H : Hp} : Rep K H .non .non := by unfold Rep; rfl
theorem rep_adr {K : PySem.W.Frag} {H : Hp} {a : Addr} : Rep K H (.ref a) (.adr a) := by unfold Rep; rfl
theorem rep_tup {K : PySem.W.Frag} {H : Hp} {a : Addr} {xs : List V} {ts : List T} (h : SqT K H a xs) (r : Reps K H xs ts) : Rep K H (.ref a) (.tup ts) := by unfold Rep; exact ⟨a, xs, rfl, h, r⟩
theorem h_const {v : V} {t : T} (h : PE X e (tC v)) (r : ∀ K H, Rep K H v t) : HE X e (tK t) := fun ρ M Q q => h.imp fun σ H Q2 ⟨hr, hh, en⟩ => en t v M H Kp.refl hh (r _ _) q
theorem h_int {i j pos} : HE X (.Constant (.int i) j pos) (tK (.int i)) := h_const pe_int fun _ _ => rep_int
theorem h_bl {b j pos} : HE X (.Constant (.bool b) j pos) (tK (.bl b)) := h_const pe_bl fun _ _ => rep_bl
theorem h_str {x j pos} : HE X (.Constant (.str x) j pos) (tK (.str x)) := h_const pe_str fun _ _ => rep_str
theorem h_globI {x : Str} {i : Int} {tk : Tok} {pos : Pos} (hm : X.mg x = some (.int i tk)) (hg : Gl X x := by rfl) (hd : (x == ("__debug__" : Str)) = false := by decide) : HE X (.Name x pos) (tK (.int i)) := h_const (v := .int i) (pe_glob hg hm ⟨tk, rfl⟩ hd) fun _ _ => rep_int
theorem inv_int {K : PySem.W.Frag} {H : Hp} {v : V} {i : Int} (r : Rep K H v (.int i)) : v = .int i := by unfold Rep at r; exact r
theorem inv_str {K : PySem.W.Frag} {H : Hp} {v : V} {i : Str} (r : Rep K H v (.str i)) : v = .str i := by unfold Rep at r; exact r
theorem inv_bl {K : PySem.W.Frag} {H : Hp} {v : V} {i : Bool} (r : Rep K H v (.bl i)) : v = .bl i := by unfold Rep at r; exact r
theorem inv_non {K : PySem.W.Frag} {H : Hp} {v : V} (r : Rep K H v .non) : v = .non := by unfold Rep at r; exact r
theorem inv_adr {K : PySem.W.Frag} {H : Hp} {v : V} {a : Addr} (r : Rep K H v (.adr a)) : v = .ref a := by unfold Rep at r; exact r
theorem inv_tup {K : PySem.W.Frag} {H : Hp} {v : V} {ts : List T} (r : Rep K H v (.tup ts)) : ∃ a xs, v = .ref a ∧ SqT K H a xs ∧ Reps K H xs ts := by unfold Rep at r; exact r
noncomputable def rInt (C : Int → Int → Prop) (g : Int → Int → Int) : R3 := fun x y M Q => match x, y with
 | .int i, .int j => C i j ∧ Q (.int (g i j)) M
 | _, _ => False
theorem op3_int {f : Value → Value → Sem Value} {C : Int → Int → Prop} {g : Int → Int → Int} (h : OpR X f (rI C fun i j => .int (g i j))) : OpR3 X f (rInt C g) := by
 intro pins s σ H x y v u Q2 I rx ry q
 obtain ⟨a, b, M, Q, r1, r2, hh, q, en⟩ := q
 unfold rInt at q
 split at q
 · obtain rfl := inv_int r1
   obtain rfl := inv_int r2
   exact h pins s σ H _ _ v u Q2 I rx ry ⟨_, _, rfl, rfl, q.1, en _ _ M H Kp.refl hh rep_int q.2⟩
 · exact q.elim
noncomputable def rSub3 : R3 := fun x y M Q => match x, y with
 | .int i, .int j => Q (.int (i - j)) M
 | _, _ => False
theorem op3_sub : OpR3 X (binaryOp .Sub) rSub3 := by
 intro pins s σ H x y v u Q2 I rx ry q
 obtain ⟨a, b, M, Q, r1, r2, hh, q, en⟩ := q
 unfold rSub3 at q
 split at q
 · obtain rfl := inv_int r1
   obtain rfl := inv_int r2
   exact op_sub pins s σ H _ _ v u Q2 I rx ry ⟨_, _, rfl, rfl, en _ _ M H Kp.refl hh rep_int q⟩
 · exact q.elim
noncomputable def CDivB (i j : Int) : Prop := 0 < j ∧ j.natAbs.log2 < 9000
theorem op_fdivB : OpR X (binaryOp .FloorDiv) (rI CDivB fun i j => .int (i / j)) := opI fun i j _ _ _ _ _ hc q => by
 have e : i.fdiv j = i / j := Int.fdiv_eq_ediv_of_nonneg i (Int.le_of_lt hc.1)
 exact floordiv_int (Int.ne_of_gt hc.1) (by rw [e]; exact q) (.inl (PyProof.noPylong_of_log2 hc.2))
noncomputable def rDiv3 : R3 := rInt CDivB fun i j => i / j
noncomputable def rMod3 : R3 := rInt (fun _ j => 0 < j) fun i j => i % j
noncomputable def rPow3 : R3 := rInt CPow fun i j => i ^ j.toNat
theorem op3_div : OpR3 X (binaryOp .FloorDiv) rDiv3 := op3_int op_fdivB
theorem op3_mod : OpR3 X (binaryOp .Mod) rMod3 := op3_int op_mod
theorem op3_pow : OpR3 X (binaryOp .Pow) rPow3 := op3_int op_pow
noncomputable def rNeg3 : T → MH → VK3 → Prop := fun x M Q => match x with
 | .int i => Q (.int (-i)) M
 | _ => False
theorem un3_neg : UnR3 X (unaryOp .USub) rNeg3 := by
 intro pins s σ H x v Q2 I rx q
 obtain ⟨a, M, Q, r1, hh, q, en⟩ := q
 unfold rNeg3 at q
 split at q
 · obtain rfl := inv_int r1
   exact un_neg pins s σ H _ v Q2 I rx ⟨_, rfl, en _ _ M H Kp.refl hh rep_int q⟩
 · exact q.elim
theorem op_catT0 : OpR X (binaryOp .Add) (fun x y H Q => ∃ a b ys, x = .ref a ∧ y = .ref b ∧ SqT X.K H a [] ∧ SqT X.K H b ys ∧ Q (.ref b) H) := by
 intro pins s σ H x y v u Q I rx ry h
 obtain ⟨a, b, ys, rfl, rfl, hx, hy, q⟩ := h
 cases rx
 cases ry
 obtain ⟨its, r, ht, hz⟩ := I.tuple hx
 obtain ⟨its2, r2, ht2, hz2⟩ := I.tuple hy
 have e : its = [] := r.nil_iff.mpr rfl
 subst e
 obtain ⟨⟨cls, dd, data, sl⟩, ho, hc, n, hd⟩ := id ht
 obtain ⟨⟨cls2, dd2, data2, sl2⟩, ho2, hc2, n2, hd2⟩ := id ht2
 simp only at hc hd hc2 hd2
 subst hc hd hc2 hd2
 exact concat_meets ⟨_, ho, rfl⟩ ⟨_, ho2, rfl⟩ noFill_tuple_add seq_tuple_add PySem.F.slot_tuple_add PySem.F.entry_tuple_add (PySem.F.args_tuple_add_2 _ _)
     (tuple_addW0 a b _ its2.toArray n n2 dd dd2 sl sl2 (by simp)) ⟨ho, ho2, ⟨.ref b, H, I, rfl, q⟩⟩
noncomputable def rAdd3 : R3 := fun x y M Q => match x, y with
 | .int i, .int j => Q (.int (i + j)) M
 | .str a, .str b => a.length + b.length ≤ sizeLine ∧ Q (.str (a ++ b)) M
 | .tup a, .tup b => a.length + b.length ≤ sizeLine ∧ Q (.tup (a ++ b)) M
 | .adr p, .adr q => match M p, M q with
   | some (.lst a), some (.lst b) => a.length + b.length ≤ sizeLine ∧ ∀ r, M r = none → Q (.adr r) (updM M r (.lst (a ++ b)))
   | _, _ => False
 | _, _ => False
theorem op3_add : OpR3 X (binaryOp .Add) rAdd3 := by
 intro pins s σ H x y v u Q2 I rx ry q
 obtain ⟨a, b, M, Q, r1, r2, hh, q, en⟩ := q
 unfold rAdd3 at q
 split at q
 · obtain rfl := inv_int r1
   obtain rfl := inv_int r2
   exact op_add pins s σ H _ _ v u Q2 I rx ry ⟨_, _, rfl, rfl, en _ _ M H Kp.refl hh rep_int q⟩
 · obtain rfl := inv_str r1
   obtain rfl := inv_str r2
   exact op_add_str pins s σ H _ _ v u Q2 I rx ry ⟨_, _, rfl, rfl, q.1, en _ _ M H Kp.refl hh rep_str q.2⟩
 · rename_i ts us
   obtain ⟨p, xs, rfl, h1, h2⟩ := inv_tup r1
   obtain ⟨p', ys, rfl, g1, g2⟩ := inv_tup r2
   have l1 := h2.length
   have l2 := g2.length
   by_cases hx : xs = []
   · subst hx
     have ht : ts = [] := List.eq_nil_of_length_eq_zero (by rw [← l1]; rfl)
     subst ht
     exact op_catT0 pins s σ H _ _ v u Q2 I rx ry ⟨_, _, ys, rfl, rfl, h1, g1, en _ _ M H Kp.refl hh (rep_tup g1 g2) q.2⟩
   · refine op_catT pins s σ H _ _ v u Q2 I rx ry ⟨_, _, xs, ys, rfl, rfl, h1, g1, hx, by rw [l1, l2]; exact q.1, fun hy => ?_, fun hy r hr => ?_⟩
     · subst hy
       have ht : us = [] := List.eq_nil_of_length_eq_zero (by rw [← l2]; rfl)
       subst ht
       have q2 := q.2
       rw [List.append_nil] at q2
       exact en _ _ M H Kp.refl hh (rep_tup h1 h2) q2
     · refine en _ _ M _ (Kp.new hr) (hh.keep hr) (rep_tup (SqT.of upd_same) ?_) q.2
       exact Reps.kp (Kp.new hr) _ _ (h2.append g2)
 · rename_i p p'
   obtain rfl := inv_adr r1
   obtain rfl := inv_adr r2
   split at q
   · rename_i ts us e1 e2
     obtain ⟨xs, h1, h2⟩ := hh _ _ e1
     obtain ⟨ys, g1, g2⟩ := hh _ _ e2
     refine op_cat pins s σ H _ _ v u Q2 I rx ry ⟨_, _, xs, ys, rfl, rfl, h1, g1, by rw [h2.length, g2.length]; exact q.1, fun r hr => ?_⟩
     exact en _ _ _ _ (Kp.new hr) (hh.newL hr (h2.append g2)) rep_adr (q.2 r (hh.free hr))
   · exact q.elim
 · exact q.elim
end
end L2
namespace L2
open PySem PySem.Spec PyProof.Rows
theorem noFill_tuple_mul : fillsNumberSlot (.type "tuple") "mul" = pure false :=
 PySem.fillsNumberSlot_seq (id := "tuple.__mul__") (r := some (.builtin "tuple.__rmul__")) F.slot_tuple_mul.lookup (by decide +kernel) F.slot_tuple_rmul.lookup (by decide +kernel)
theorem repeat_tuple : seqRepeat? (.type "tuple") = pure (some (.builtin "tuple.__mul__")) := by
 unfold seqRepeat?
 rw [PySem.seqSlot_of (T := "tuple") (name := "__mul__") (id := "tuple.__mul__") F.slot_tuple_mul.lookup (by decide +kernel), PySem.seqSlot_of (T := "tuple") (name := "__rmul__") (id := "tuple.__rmul__") F.slot_tuple_rmul.lookup (by decide +kernel)]
 rfl
section
variable (l : Addr) (items : Array Value) (n : Nat) (x : Int) (u : Tok) (dd : Option Addr) (sl : Array (Option Value))
theorem int_rmul_tuple : Meets (Builtin.«int.__rmul__» ⟨[.int x u, .ref l], []⟩) (fun _ R s => s.heap.get? l = some { cls := .type "tuple", dict := dd, data := .seq items n, slots := sl } ∧ R (.ok (.ret Value.notImplemented)) s) :=
 .of_wp fun prog w A R s h => by obtain ⟨hp, g, d, tk, os⟩ := s; obtain ⟨hl, h⟩ := h; wp_walk; exact ⟨_, rfl, h⟩
theorem tuple_mul_0 (h0 : -(2 ^ 63) ≤ x) (h1 : x < 2 ^ 63) (hc : (items.isEmpty || x == 1) = true) :
   Meets (Builtin.«tuple.__mul__» ⟨[.ref l, .int x u], []⟩) (fun _ R s => s.heap.get? l = some { cls := .type "tuple", dict := dd, data := .seq items n, slots := sl } ∧ R (.ok (.ret (Value.ref l))) s) :=
 .of_wp fun prog w A R s h => by
   obtain ⟨hp, g, d, tk, os⟩ := s; obtain ⟨hl, h⟩ := h
   have hb : ¬ (decide (x < -2 ^ 63) || decide (x ≥ 2 ^ 63)) = true := by simp; lia
   wp_walk
   rw [if_neg hb]
   wp_walk
   first | exact ⟨_, rfl, h⟩ | (rw [if_pos hc]; wp_walk; exact ⟨_, rfl, h⟩)
theorem tuple_mul_1 (h0 : -(2 ^ 63) ≤ x) (h1 : x < 2 ^ 63) (hc : ¬ (items.isEmpty || x == 1) = true) (hn : (decide (x ≤ 0) || items.isEmpty) = true) :
   Meets (Builtin.«tuple.__mul__» ⟨[.ref l, .int x u], []⟩) (fun _ R s => s.heap.get? l = some { cls := .type "tuple", dict := dd, data := .seq items n, slots := sl } ∧ R (.ok (.ret (Value.ref s.heap.objs.size))) { s with heap := s.heap.push { cls := .type "tuple", data := .seq #[] }, toks := s.toks }) :=
 .of_wp fun prog w A R s h => by
   obtain ⟨hp, g, d, tk, os⟩ := s; obtain ⟨hl, h⟩ := h
   have hb : ¬ (decide (x < -2 ^ 63) || decide (x ≥ 2 ^ 63)) = true := by simp; lia
   wp_walk
   rw [if_neg hb]
   wp_walk
   first | exact ⟨_, rfl, h⟩ | (rw [if_neg hc, if_pos hn]; wp_walk; exact ⟨_, rfl, h⟩)
theorem tuple_mul_2 (h0 : -(2 ^ 63) ≤ x) (h1 : x < 2 ^ 63) (hc : ¬ (items.isEmpty || x == 1) = true) (hn : ¬ (decide (x ≤ 0) || items.isEmpty) = true) (hm : ¬ items.size * x > (2 ^ 63 - 1) / 8) (hz : ¬ Builtin.Tuple.tupleTooMany (items.size * x) = true) (hf : sizeOk (.seq (List.foldl (fun x1 x2 => x1 ++ x2) #[] (List.replicate x.toNat items)))) :
   Meets (Builtin.«tuple.__mul__» ⟨[.ref l, .int x u], []⟩) (fun _ R s => s.heap.get? l = some { cls := .type "tuple", dict := dd, data := .seq items n, slots := sl } ∧ R (.ok (.ret (Value.ref s.heap.objs.size))) { s with heap := s.heap.push { cls := .type "tuple", data := .seq (List.foldl (fun x1 x2 => x1 ++ x2) #[] (List.replicate x.toNat items)) }, toks := s.toks }) :=
 .of_wp fun prog w A R s h => by
   obtain ⟨hp, g, d, tk, os⟩ := s; obtain ⟨hl, h⟩ := h
   have hb : ¬ (decide (x < -2 ^ 63) || decide (x ≥ 2 ^ 63)) = true := by simp; lia
   wp_walk
   rw [if_neg hb]
   wp_walk
   rw [if_neg hm]
   wp_walk
   first | exact ⟨_, rfl, h⟩ | (rw [if_neg (Nat.not_lt.mpr hf)]; wp_walk; exact ⟨_, rfl, h⟩)
end
section
variable {X : Cx}
noncomputable def rRepT (K : PySem.W.Frag) : R2 := fun x y H Q => ∃ a k xs, x = .ref a ∧ y = .int k ∧ SqT K H a xs ∧ -(2 ^ 63) ≤ k ∧ k < 2 ^ 63 ∧ xs.length * k.toNat ≤ sizeLine ∧
 ∀ p H', SqT K H' p (List.replicate k.toNat xs).flatten → (H' = H ∨ H p = none ∧ H' = upd H p (.tup (List.replicate k.toNat xs).flatten)) → Q (.ref p) H'
theorem foldl_repA (its : List Value) (m : Nat) : List.foldl (fun x1 x2 => x1 ++ x2) #[] (List.replicate m its.toArray) = (List.replicate m its).flatten.toArray := by
 have := foldl_rep its m []
 rw [List.nil_append] at this
 exact this
theorem op_repT : OpR X (binaryOp .Mult) (rRepT X.K) := by
 intro pins s σ H x y v u Q I rx ry h
 obtain ⟨a, k, xs, rfl, rfl, hx, h1, h2, hz, q⟩ := h
 cases rx
 obtain ⟨t, rfl⟩ := ry
 obtain ⟨its, r, p, hl⟩ := I.tuple hx
 have hlen := r.length
 obtain ⟨⟨cls, dd, data, sl⟩, ho, hc, n, hd⟩ := id p
 simp only at hc hd
 subst hc hd
 refine wpAny_binaryOp_repeat_ref (T := "tuple") (U := "int") (by decide) ⟨_, ho, rfl⟩ (fun s' => typeIs_int s' k t) noFill_tuple_mul F.fills_int_mul F.slot_int_rmul repeat_tuple F.slot_int_index.lookup
   (call_meets F.slot_int_rmul (typeIs_int s k t) F.entry_int_rmul (F.args_int_rmul_2 _ _) (int_rmul_tuple a its.toArray n k t dd sl) ⟨ho, rfl, ⟨_, ho, rfl⟩, ?_⟩)
 by_cases hc : (its.toArray.isEmpty || k == 1) = true
 · refine call_meets F.slot_tuple_mul ⟨_, ho, rfl⟩ F.entry_tuple_mul (F.args_tuple_mul_2 _ _) (tuple_mul_0 a its.toArray n k t dd sl h1 h2 hc) ⟨ho, ?_⟩
   have e : (List.replicate k.toNat xs).flatten = xs := by
     simp only [Bool.or_eq_true, beq_iff_eq] at hc
     rcases hc with hc | hc
     · have : its = [] := by simpa using hc
       subst this
       cases r
       simp
     · subst hc
       simp
   exact ⟨.ref a, H, I, rfl, q a H (by rw [e]; exact hx) (.inl rfl)⟩
 · by_cases hn : (decide (k ≤ 0) || its.toArray.isEmpty) = true
   · refine call_meets F.slot_tuple_mul ⟨_, ho, rfl⟩ F.entry_tuple_mul (F.args_tuple_mul_2 _ _) (tuple_mul_1 a its.toArray n k t dd sl h1 h2 hc hn) ⟨ho, ?_⟩
     have hk : k.toNat = 0 := by
       simp only [Bool.or_eq_true, decide_eq_true_eq] at hn hc
       rcases hn with hn | hn
       · lia
       · exact absurd (.inl hn) hc
     have e : (List.replicate k.toNat xs).flatten = [] := by rw [hk]; rfl
     refine ⟨.ref s.heap.objs.size, _, I.laid (t' := s.toks) (o := .tup []) (fun b ob q => Heap.get?_push_of_some _ q) (Nat.le_refl _) ?_, rfl, q _ _ ?_ (.inr ⟨I.hok.fresh (Nat.le_refl _), by rw [e]⟩)⟩
     · exact ⟨Nat.zero_le _, [], .nil, IsTup0.new _ _⟩
     · rw [e]; exact SqT.of upd_same
   · have hm : (its.toArray.size : Int) * k ≤ sizeLine := by
       have : its.toArray.size = xs.length := by rw [hlen]; simp
       rw [this]
       have hk : (0 : Int) ≤ k := by
         simp only [Bool.or_eq_true, decide_eq_true_eq] at hn
         lia
       have e2 : k = ((k.toNat : Nat) : Int) := by lia
       rw [e2, ← Int.natCast_mul]
       exact_mod_cast hz
     have hz2 : ((List.replicate k.toNat its).flatten).length ≤ sizeLine := by rw [len_rep, Nat.mul_comm, ← hlen]; exact hz
     refine call_meets F.slot_tuple_mul ⟨_, ho, rfl⟩ F.entry_tuple_mul (F.args_tuple_mul_2 _ _) (tuple_mul_2 a its.toArray n k t dd sl h1 h2 hc hn ?_ ?_ ?_) ⟨ho, ?_⟩
     · have : (sizeLine : Int) ≤ (2 ^ 63 - 1) / 8 := by decide
       lia
     · unfold Builtin.Tuple.tupleTooMany
       simp only [decide_eq_true_eq]
       lia
     · rw [foldl_repA]
       show (List.replicate k.toNat its).flatten.toArray.size ≤ sizeLine
       rw [List.size_toArray]
       exact hz2
     · rw [foldl_repA]
       refine ⟨.ref s.heap.objs.size, _, I.laid (t' := s.toks) (o := .tup (List.replicate k.toNat xs).flatten) (fun b ob q => Heap.get?_push_of_some _ q) (Nat.le_refl _) ?_, rfl, q _ _ (SqT.of upd_same) (.inr ⟨I.hok.fresh (Nat.le_refl _), rfl⟩)⟩
       exact ⟨by rw [len_rep, Nat.mul_comm]; exact hz, _, r.rep k.toNat, IsTup0.new _ _⟩
end
end L2
namespace L2
open PySem PySem.Spec PyProof.Rows
theorem Reps.atI {K : PySem.W.Frag} {H : Hp} {vs : List V} {ts : List T} {i : Int} {t : T} (h : Reps K H vs ts) (e : atI ts i = some t) : ∃ v, L2.atI vs i = some v ∧ Rep K H v t := by
 unfold L2.atI at e ⊢
 rw [h.length]
 cases q : ixN ts.length i with
 | none => rw [q] at e; cases e
 | some j => rw [q] at e; exact h.get e
section
variable {X : Cx} {a b c e : Expr} {es : List Expr} {ta tb tc te : TE3} {pos : Pos}
noncomputable def rIx3 : R3 := fun x y M Q => match x, y with
 | .tup ts, .int i => (match atI ts i with | some t => Q t M | none => False)
 | .rd ts, .int i => (match atI ts i with | some t => Q t M | none => False)
 | .adr p, .int i => (match M p with | some (.lst ts) => (match atI ts i with | some t => Q t M | none => False) | _ => False)
 | .str z, .int i => z.length ≤ sizeLine ∧ (match atI z.cps.toList i with | some c => Q (.str ⟨#[c]⟩) M | none => False)
 | _, _ => False
theorem inv_rd {K : PySem.W.Frag} {H : Hp} {v : V} {ts : List T} (r : Rep K H v (.rd ts)) : ∃ a xs, v = .ref a ∧ FzL K H a xs ∧ Reps K H xs ts := by unfold Rep at r; exact r
theorem ix3 : IxR3 X rIx3 := by
 intro value slice pins s σ H x y v u Q2 I rx ry q hs
 obtain ⟨a, b, M, Q, r1, r2, hh, q, en⟩ := q
 unfold rIx3 at q
 split at q
 · obtain rfl := inv_int r2
   obtain ⟨p, xs, rfl, h1, h2⟩ := inv_tup r1
   split at q
   · rename_i t e
     obtain ⟨w, ew, rw'⟩ := h2.atI e
     exact ix_tup value slice pins s σ H _ _ v u Q2 I rx ry ⟨_, _, _, w, rfl, rfl, h1, ew, en _ _ M H Kp.refl hh rw' q⟩ hs
   · exact q.elim
 · obtain rfl := inv_int r2
   obtain ⟨p, xs, rfl, h1, h2⟩ := inv_rd r1
   split at q
   · rename_i t e
     obtain ⟨w, ew, rw'⟩ := h2.atI e
     exact ix_list value slice pins s σ H _ _ v u Q2 I rx ry ⟨_, _, _, w, rfl, rfl, h1.sq, ew, en _ _ M H Kp.refl hh rw' q⟩ hs
   · exact q.elim
 · obtain rfl := inv_int r2
   obtain rfl := inv_adr r1
   split at q
   · rename_i ts e0
     obtain ⟨xs, h1, h2⟩ := hh _ _ e0
     split at q
     · rename_i t e
       obtain ⟨w, ew, rw'⟩ := h2.atI e
       exact ix_list value slice pins s σ H _ _ v u Q2 I rx ry ⟨_, _, _, w, rfl, rfl, SqL.of h1, ew, en _ _ M H Kp.refl hh rw' q⟩ hs
     · exact q.elim
   · exact q.elim
 · obtain rfl := inv_int r2
   obtain rfl := inv_str r1
   obtain ⟨hz, q⟩ := q
   split at q
   · rename_i c e
     exact ix_str value slice pins s σ H _ _ v u Q2 I rx ry ⟨_, _, c, rfl, rfl, hz, e, en _ _ M H Kp.refl hh rep_str q⟩ hs
   · exact q.elim
 · exact q.elim
theorem h_ix (ha : HE X a ta) (hb : HE X b tb) (hs : PlainIx b := by intro _ _; rfl) : HE X (.Subscript a b pos) (tOp3 rIx3 ta tb) := fun ρ M Q h =>
 (pe_ix ix3 (ha.d (ρ := ρ)) (hb.d (ρ := ρ)) hs).imp fun σ H Q2 b => dOp h b
noncomputable def rMul3 : R3 := fun x y M Q => match x, y with
 | .int i, .int j => CMul i j ∧ Q (.int (i * j)) M
 | .adr p, .int k => (match M p with
   | some (.lst ts) => -(2 ^ 63) ≤ k ∧ k < 2 ^ 63 ∧ ts.length * k.toNat ≤ sizeLine ∧ ∀ r, M r = none → Q (.adr r) (updM M r (.lst (List.replicate k.toNat ts).flatten))
   | _ => False)
 | .tup ts, .int k => -(2 ^ 63) ≤ k ∧ k < 2 ^ 63 ∧ ts.length * k.toNat ≤ sizeLine ∧ Q (.tup (List.replicate k.toNat ts).flatten) M
 | _, _ => False
theorem Reps.rep {K : PySem.W.Frag} {H : Hp} {vs : List V} {ts : List T} (h : Reps K H vs ts) : ∀ k : Nat, Reps K H (List.replicate k vs).flatten (List.replicate k ts).flatten
 | 0 => .nil
 | k + 1 => by
   rw [List.replicate_succ, List.replicate_succ, List.flatten_cons, List.flatten_cons]
   exact Reps.append h (Reps.rep h k)
theorem op3_mul : OpR3 X (binaryOp .Mult) rMul3 := by
 intro pins s σ H x y v u Q2 I rx ry q
 obtain ⟨a, b, M, Q, r1, r2, hh, q, en⟩ := q
 unfold rMul3 at q
 split at q
 · obtain rfl := inv_int r1
   obtain rfl := inv_int r2
   exact op_mul pins s σ H _ _ v u Q2 I rx ry ⟨_, _, rfl, rfl, q.1, en _ _ M H Kp.refl hh rep_int q.2⟩
 · obtain rfl := inv_adr r1
   obtain rfl := inv_int r2
   split at q
   · rename_i ts e0
     obtain ⟨xs, h1, h2⟩ := hh _ _ e0
     obtain ⟨q1, q2, q3, q4⟩ := q
     refine op_rep pins s σ H _ _ v u Q2 I rx ry ⟨_, _, xs, rfl, rfl, h1, q1, q2, by rw [h2.length]; exact q3, fun r hr => ?_⟩
     exact en _ _ _ _ (Kp.new hr) (hh.newL hr (h2.rep _)) rep_adr (q4 r (hh.free hr))
   · exact q.elim
 · obtain ⟨l, xs, rfl, g1, g2⟩ := inv_tup r1
   obtain rfl := inv_int r2
   obtain ⟨q1, q2, q3, q4⟩ := q
   refine op_repT pins s σ H _ _ v u Q2 I rx ry ⟨_, _, xs, rfl, rfl, g1, q1, q2, by rw [g2.length]; exact q3, fun r H' h' c => ?_⟩
   rcases c with rfl | ⟨c1, rfl⟩
   · exact en _ _ _ _ Kp.refl hh (rep_tup h' (g2.rep _)) q4
   · exact en _ _ _ _ (Kp.new c1) (hh.keep c1) (rep_tup h' (Reps.kp (Kp.new c1) _ _ (g2.rep _))) q4
 · exact q.elim
noncomputable def rCmp3 (g : Int → Int → Bool) : R3 := fun x y M Q => match x, y with
 | .int i, .int j => Q (.bl (g i j)) M
 | _, _ => False
theorem op3_cmp {f : Value → Value → Sem Value} {g : Int → Int → Bool} (h : OpR X f (rI0 fun i j => .bl (g i j))) : OpR3 X f (rCmp3 g) := by
 intro pins s σ H x y v u Q2 I rx ry q
 obtain ⟨a, b, M, Q, r1, r2, hh, q, en⟩ := q
 unfold rCmp3 at q
 split at q
 · obtain rfl := inv_int r1
   obtain rfl := inv_int r2
   exact h pins s σ H _ _ v u Q2 I rx ry ⟨_, _, rfl, rfl, en _ _ M H Kp.refl hh rep_bl q⟩
 · exact q.elim
noncomputable def rLt3 : R3 := rCmp3 fun i j => decide (i < j)
noncomputable def rLe3 : R3 := rCmp3 fun i j => decide (i ≤ j)
noncomputable def rGt3 : R3 := rCmp3 fun i j => decide (j < i)
noncomputable def rGe3 : R3 := rCmp3 fun i j => decide (j ≤ i)
theorem op3_lt : OpR3 X (compareOp .Lt) rLt3 := op3_cmp op_lt
theorem op3_le : OpR3 X (compareOp .LtE) rLe3 := op3_cmp op_le
theorem op3_gt : OpR3 X (compareOp .Gt) rGt3 := op3_cmp op_gt
theorem op3_ge : OpR3 X (compareOp .GtE) rGe3 := op3_cmp op_ge
noncomputable def rEqv (g : Bool → Bool) : R3 := fun x y M Q => match x, y with
 | .adr p, .adr q => (match M p, M q with
   | some (.lst a), some (.lst b) => pureTs a = true ∧ pureTs b = true ∧ depTs a ≤ 30 ∧ Q (.bl (g (eqTs a b))) M
   | _, _ => False)
 | x, y => pureT x = true ∧ pureT y = true ∧ depT x ≤ 30 ∧ Q (.bl (g (eqT x y))) M
noncomputable def rEq3 : R3 := rEqv id
noncomputable def rNe3 : R3 := rEqv not
theorem lists_eqv {pins : List (Addr × Obj)} {σ : St} {H : Hp} {s : Shared} (I : Inv X pins σ H s) (hu : X.A.units + 64 < cLine) {p p' : Addr} {xs ys : List V} {ts us : List T} (h1 : H p = some (.lst xs)) (h2 : Reps X.K H xs ts) (g1 : H p' = some (.lst ys)) (g2 : Reps X.K H ys us)
   (px : pureTs ts = true) (py : pureTs us = true) (hd : depTs ts ≤ 30) :
   SeqAt.RcAt X.A s (.ref p) (.ref p') (eqTs ts us) ∧ SeqAt.RcNeAt X.A s (.ref p) (.ref p') (!(eqTs ts us)) := by
 obtain ⟨its, r1, pl, _⟩ := I.list (SqL.of h1)
 obtain ⟨its2, r2, pl2, _⟩ := I.list (SqL.of g1)
 have l1 := h2.length
 have l2 := g2.length
 have m1 := r1.length
 have m2 := r2.length
 have hu' : X.A.units < cLine := by lia
 by_cases hl : its.length = its2.length
 · have he := items_eq (X := X) (A := X.A.in1) (s := s) (n := 30) px py hd h2 g2 r1 r2 fun x y v u a b hx px py rx ry ra rb => (eqAt_T I 30 X.A.in1 x y v u a b hx (by show X.A.units + 1 + 30 + 1 < cLine; lia) px py rx ry ra rb).1
   have hsz : its.toArray.size = its2.toArray.size := by simpa using hl
   have rc := SeqAt.RcAt.lists (A := X.A) pl.isList pl2.isList hsz hu' he
   have rn := SeqAt.RcNeAt.lists (A := X.A) pl.isList pl2.isList hsz hu' he
   have ee : (List.range its.toArray.size).all (eqJ ts us) = eqTs ts us := by
     rw [← eqTs_range, List.size_toArray, ← l1, ← l2, m1, m2, ← hl]
     simp
   rw [ee] at rc rn
   exact ⟨rc, rn⟩
 · have hne : eqTs ts us = false := by
     cases q : eqTs ts us with
     | false => rfl
     | true => have := eqTs_len q; lia
   have hsz : (its.toArray.size != its2.toArray.size) = true := by simpa using hl
   rw [hne]
   exact ⟨SeqAt.RcAt.lists_lengths pl.isList pl2.isList hsz hu', SeqAt.RcNeAt.lists_lengths pl.isList pl2.isList hsz hu'⟩
theorem op3_eq (hu : X.A.units + 64 < cLine) : OpR3 X (compareOp .Eq) rEq3 := by
 intro pins s σ H x y v u Q2 I rx ry q
 obtain ⟨a, b, M, Q, r1, r2, hh, q, en⟩ := q
 unfold rEq3 rEqv at q
 split at q
 · rename_i p p'
   split at q
   · rename_i ts us e1 e2
     obtain ⟨xs, h1, h2⟩ := hh _ _ e1
     obtain ⟨ys, g1, g2⟩ := hh _ _ e2
     obtain rfl := inv_adr r1
     obtain rfl := inv_adr r2
     cases rx
     cases ry
     exact (lists_eqv I hu h1 h2 g1 g2 q.1 q.2.1 q.2.2.1).1 _ _ _ _ ⟨.bl _, H, I, rfl, en _ _ M H Kp.refl hh rep_bl q.2.2.2⟩
   · exact q.elim
 · obtain ⟨q1, q2, q3, q⟩ := q
   exact (eqAt_T I 30 X.A a b x y v u q3 (by lia) q1 q2 r1 r2 rx ry).2.1 _ _ _ _ ⟨.bl _, H, I, rfl, en _ _ M H Kp.refl hh rep_bl q⟩
theorem op3_ne (hu : X.A.units + 64 < cLine) : OpR3 X (compareOp .NotEq) rNe3 := by
 intro pins s σ H x y v u Q2 I rx ry q
 obtain ⟨a, b, M, Q, r1, r2, hh, q, en⟩ := q
 unfold rNe3 rEqv at q
 split at q
 · rename_i p p'
   split at q
   · rename_i ts us e1 e2
     obtain ⟨xs, h1, h2⟩ := hh _ _ e1
     obtain ⟨ys, g1, g2⟩ := hh _ _ e2
     obtain rfl := inv_adr r1
     obtain rfl := inv_adr r2
     cases rx
     cases ry
     exact (lists_eqv I hu h1 h2 g1 g2 q.1 q.2.1 q.2.2.1).2 _ _ _ _ ⟨.bl _, H, I, rfl, en _ _ M H Kp.refl hh rep_bl q.2.2.2⟩
   · exact q.elim
 · obtain ⟨q1, q2, q3, q⟩ := q
   exact (eqAt_T I 30 X.A a b x y v u q3 (by lia) q1 q2 r1 r2 rx ry).2.2 _ _ _ _ ⟨.bl _, H, I, rfl, en _ _ M H Kp.refl hh rep_bl q⟩
theorem h_cmp {op : CmpOp} {r : R3} (ho : OpR3 X (compareOp op) r) (ha : HE X a ta) (hb : HE X b tb) (hm : behindInMarks op b = false) : HE X (.Compare a [op] [b] pos) (tOp3 r ta tb) := fun ρ M Q h =>
 (pe_cmpR ho (ha.d (ρ := ρ)) (hb.d (ρ := ρ)) hm).imp fun σ H Q2 b => dOp h b
noncomputable def tTest3 (t : TE3) : TT3 := fun ρ M Q => t ρ M fun x M1 => match x with
 | .bl k => Q k M1
 | _ => False
theorem end_test {K : PySem.W.Frag} {H : Hp} {Q : Bool → MH → Prop} {Q2 : Bool → Hp → Prop} (en : EndT K H Q Q2) : EndE K H (fun x M1 => match x with | .bl k => Q k M1 | _ => False) (fun x H' => ∃ k, x = .bl k ∧ Q2 k H') := by
 intro t v M' H' k h r q
 split at q
 · obtain rfl := inv_bl r
   exact ⟨_, rfl, en _ M' H' k h q⟩
 · exact q.elim
theorem h_tcmp {op : CmpOp} {r : R3} (ho : OpR3 X (compareOp op) r) (ha : HE X a ta) (hb : HE X b tb) (hm : behindInMarks op b = false) : HT X (.Compare a [op] [b] pos) (tTest3 (tOp3 r ta tb)) := fun ρ M Q h =>
 (pt_cmpR ho (ha.d (ρ := ρ)) (hb.d (ρ := ρ)) hm).imp fun σ H Q2 ⟨hr, hh, en⟩ => dOp (ta := ta) (tb := tb) (r := r) h ⟨hr, hh, end_test en⟩
noncomputable def tChain3 (r r' : R3) (ta tb tc : TE3) : TE3 := fun ρ M Q => ta ρ M fun x M1 => tb ρ M1 fun y M2 => r x y M2 fun z M3 => match z with
 | .bl k => (if k = true then tc ρ M3 fun w M4 => r' y w M4 Q else Q (.bl false) M3)
 | _ => False
theorem dChain {ρ : En} {M : MH} {Q : VK3} {r r' : R3} (h : tChain3 r r' ta tb tc ρ M Q) {σ : St} {H : Hp} {Q2 : VK} (b : bE X.K ρ M Q σ H Q2) : tChain (dR X.K r) (dR X.K r') (dE X.K ρ ta) (dE X.K ρ tb) (dE X.K ρ tc) σ H Q2 := by
 obtain ⟨hr, hh, en⟩ := b
 refine ⟨M, _, h, hr, hh, fun t v M1 H1 k1 h1 r1 q1 => ⟨M1, _, q1, hr.kp k1, h1, fun t2 v2 M2 H2 k2 h2 r2 q2 => ⟨t, t2, M2, _, Rep.kp k2 _ _ r1, r2, h2, q2, fun z v3 M3 H3 k3 h3 r3 q3 => ?_⟩⟩⟩
 split at q3
 · rename_i k
   obtain rfl := inv_bl r3
   refine ⟨k, rfl, ?_⟩
   have kk := k1.trans (k2.trans k3)
   split
   · rename_i hk
     rw [if_pos hk] at q3
     exact ⟨M3, _, q3, hr.kp kk, h3, fun t4 v4 M4 H4 k4 h4 r4 q4 => ⟨t2, t4, M4, Q, Rep.kp (k3.trans k4) _ _ r2, r4, h4, q4, en.kp (kk.trans k4)⟩⟩
   · rename_i hk
     rw [if_neg hk] at q3
     exact en _ _ M3 H3 kk h3 rep_bl q3
 · exact q3.elim
theorem h_chain {op op' : CmpOp} {r r' : R3} (ho : OpR3 X (compareOp op) r) (ho' : OpR3 X (compareOp op') r') (ha : HE X a ta) (hb : HE X b tb) (hc : HE X c tc)
   (hm : lastMarks [op, op'] [b, c] = false := by with_unfolding_all rfl) : HE X (.Compare a [op, op'] [b, c] pos) (tChain3 r r' ta tb tc) := fun ρ M Q h =>
 (pe_chain ho ho' (ha.d (ρ := ρ)) (hb.d (ρ := ρ)) (hc.d (ρ := ρ)) hm).imp fun σ H Q2 b => dChain h b
theorem h_tchain {op op' : CmpOp} {r r' : R3} (ho : OpR3 X (compareOp op) r) (ho' : OpR3 X (compareOp op') r') (ha : HE X a ta) (hb : HE X b tb) (hc : HE X c tc)
   (hm : lastMarks [op, op'] [b, c] = false := by with_unfolding_all rfl) : HT X (.Compare a [op, op'] [b, c] pos) (tTest3 (tChain3 r r' ta tb tc)) := fun ρ M Q h =>
 (pt_chain ho ho' (ha.d (ρ := ρ)) (hb.d (ρ := ρ)) (hc.d (ρ := ρ)) hm).imp fun σ H Q2 ⟨hr, hh, en⟩ => dChain (ta := ta) (tb := tb) (tc := tc) (r := r) (r' := r') h ⟨hr, hh, end_test en⟩
noncomputable def truT (M : MH) : T → Option Bool
 | .non => some false
 | .bl b => some b
 | .int i => some (i != 0)
 | .str y => if y.length ≤ sizeLine then some (decide (y.length ≠ 0)) else none
 | .tup ts => some (!ts.isEmpty)
 | .rd ts => some (!ts.isEmpty)
 | .dic _ _ => none
 | .adr p => match M p with
   | some (.lst ts) => some (!ts.isEmpty)
   | _ => none
noncomputable def tTru3 (te : TE3) : TT3 := fun ρ M Q => te ρ M fun x M1 => match truT M1 x with
 | some k => Q k M1
 | none => False
theorem empty_of {K : PySem.W.Frag} {H : Hp} {xs : List V} {ts : List T} (h : Reps K H xs ts) : (!xs.isEmpty) = !ts.isEmpty := by
 have := h.length
 cases xs <;> cases ts <;> first | rfl | (simp at this)
theorem h_truth (ha : HE X a ta) (he : ∀ whole, isTrue a X.env whole = (do let v ← whole; standAt a.pos; holding [v] (truthy v)) := by intro _; rfl) : HT X a (tTru3 ta) := fun ρ M Q h =>
 (pt_truth (ha.d (ρ := ρ)) he).imp fun σ H Q2 ⟨hr, hh, en⟩ => ⟨M, _, h, hr, hh, fun t v M1 H1 k1 h1 r1 q1 => by
   have fin : ∀ k, truT M1 t = some k → Q2 k H1 := fun k e => by
     have q : (match truT M1 t with | some k => Q k M1 | none => False) := q1
     rw [e] at q
     exact en k M1 H1 k1 h1 q
   cases t with
   | non => obtain rfl := inv_non r1; exact ⟨false, rfl, fin _ rfl⟩
   | bl b => obtain rfl := inv_bl r1; exact ⟨b, rfl, fin _ rfl⟩
   | int i => obtain rfl := inv_int r1; exact ⟨_, rfl, fin _ rfl⟩
   | str y =>
     obtain rfl := inv_str r1
     by_cases hy : y.length ≤ sizeLine
     · refine ⟨_, ⟨hy, rfl⟩, fin _ ?_⟩
       show (if y.length ≤ sizeLine then some (decide (y.length ≠ 0)) else none) = _
       rw [if_pos hy]
       congr 1
       by_cases h0 : y.length = 0
       · rw [h0]; rfl
       · have : ((y.length : Int) != 0) = true := by simpa using h0
         rw [this]; simpa using h0
     · have q : (match truT M1 (.str y) with | some k => Q k M1 | none => False) := q1
       have e : truT M1 (.str y) = none := if_neg hy
       rw [e] at q
       exact q.elim
   | tup ts =>
     obtain ⟨p, xs, rfl, g1, g2⟩ := inv_tup r1
     exact ⟨!xs.isEmpty, .inr (.inl ⟨xs, g1, rfl⟩), fin _ (by rw [empty_of g2]; rfl)⟩
   | rd ts =>
     obtain ⟨p, xs, rfl, g1, g2⟩ := inv_rd r1
     exact ⟨!xs.isEmpty, .inl ⟨xs, g1.sq, rfl⟩, fin _ (by rw [empty_of g2]; rfl)⟩
   | dic ks ts =>
     have q : (match truT M1 (.dic ks ts) with | some k => Q k M1 | none => False) := q1
     exact q.elim
   | adr p =>
     obtain rfl := inv_adr r1
     cases e0 : M1 p with
     | none =>
       have q : (match truT M1 (.adr p) with | some k => Q k M1 | none => False) := q1
       have e : truT M1 (.adr p) = none := by show (match M1 p with | some (.lst ts) => some (!ts.isEmpty) | _ => none) = none; rw [e0]
       rw [e] at q
       exact q.elim
     | some o =>
       cases o with
       | lst ts =>
         obtain ⟨xs, g1, g2⟩ := h1 _ _ e0
         exact ⟨!xs.isEmpty, .inl ⟨xs, SqL.of g1, rfl⟩, fin _ (by show (match M1 p with | some (.lst ts) => some (!ts.isEmpty) | _ => none) = _; rw [e0, empty_of g2])⟩
       | dk kvs =>
         have q : (match truT M1 (.adr p) with | some k => Q k M1 | none => False) := q1
         have e : truT M1 (.adr p) = none := by show (match M1 p with | some (.lst ts) => some (!ts.isEmpty) | _ => none) = none; rw [e0]
         rw [e] at q
         exact q.elim
       | dt kvs =>
         have q : (match truT M1 (.adr p) with | some k => Q k M1 | none => False) := q1
         have e : truT M1 (.adr p) = none := by show (match M1 p with | some (.lst ts) => some (!ts.isEmpty) | _ => none) = none; rw [e0]
         rw [e] at q
         exact q.elim⟩
end
end L2
namespace L2
open PySem PySem.Spec PyProof.Rows
section
variable {X : Cx} {a b c e : Expr} {es rest : List Expr} {ta tb tc te : TE3} {tA tB : TT3} {t : TA3} {pos : Pos}
noncomputable def HW (X : Cx) (e : Expr) (t : TT3) : Prop := ∀ ρ M Q, t ρ M Q → PW X e (bT X.K ρ M Q)
theorem HW.d {t : TT3} {ρ : En} (h : HW X e t) : PW X e (dT X.K ρ t) := fun wh pins s σ H Q I ⟨M, Q3, q, b⟩ => h ρ M Q3 q wh pins s σ H Q I b
theorem PW.imp {t t' : TT} (h : PW X e t) (f : ∀ σ H Q, t' σ H Q → t σ H Q) : PW X e t' := fun wh pins s σ H Q I q => h wh pins s σ H Q I (f σ H Q q)
theorem HW.ht {t : TT3} (h : HW X e t) : HT X e t := fun ρ M Q q => (h ρ M Q q).pt
noncomputable def tAnd3 (t u : TT3) : TT3 := fun ρ M Q => t ρ M fun c M1 => if c = true then u ρ M1 Q else Q false M1
noncomputable def tOr3 (t u : TT3) : TT3 := fun ρ M Q => t ρ M fun c M1 => if c = true then Q true M1 else u ρ M1 Q
noncomputable def tNot3 (t : TT3) : TT3 := fun ρ M Q => t ρ M fun c M1 => Q (!c) M1
theorem h_not (ha : HT X a tA) : HT X (.UnaryOp .Not a pos) (tNot3 tA) := fun ρ M Q h =>
 (pt_not (ha.d (ρ := ρ))).imp fun σ H Q2 ⟨hr, hh, en⟩ => ⟨M, _, h, hr, hh, fun b M1 H1 k1 h1 q1 => en _ M1 H1 k1 h1 q1⟩
theorem w_and1 (ha : HT X a tA) : HW X (.BoolOp .And [a] pos) tA := fun ρ M Q h => (pw_and1 (ha.d (ρ := ρ))).imp fun σ H Q2 b => ⟨M, Q, h, b⟩
theorem w_or1 (ha : HT X a tA) : HW X (.BoolOp .Or [a] pos) tA := fun ρ M Q h => (pw_or1 (ha.d (ρ := ρ))).imp fun σ H Q2 b => ⟨M, Q, h, b⟩
theorem w_and (ha : HT X a tA) (hb : HW X (.BoolOp .And (b :: rest) pos) tB) : HW X (.BoolOp .And (a :: b :: rest) pos) (tAnd3 tA tB) := fun ρ M Q h =>
 (pw_and (ha.d (ρ := ρ)) (hb.d (ρ := ρ))).imp fun σ H Q2 ⟨hr, hh, en⟩ => ⟨M, _, h, hr, hh, fun b M1 H1 k1 h1 q1 => by
   dsimp only at q1 ⊢
   split
   · rename_i hb; rw [if_pos hb] at q1
     exact ⟨M1, Q, q1, hr.kp k1, h1, fun b' M2 H2 k2 => en b' M2 H2 (k1.trans k2)⟩
   · rename_i hb; rw [if_neg hb] at q1
     exact en _ M1 H1 k1 h1 q1⟩
theorem w_or (ha : HT X a tA) (hb : HW X (.BoolOp .Or (b :: rest) pos) tB) : HW X (.BoolOp .Or (a :: b :: rest) pos) (tOr3 tA tB) := fun ρ M Q h =>
 (pw_or (ha.d (ρ := ρ)) (hb.d (ρ := ρ))).imp fun σ H Q2 ⟨hr, hh, en⟩ => ⟨M, _, h, hr, hh, fun b M1 H1 k1 h1 q1 => by
   dsimp only at q1 ⊢
   split
   · rename_i hb; rw [if_pos hb] at q1
     exact en _ M1 H1 k1 h1 q1
   · rename_i hb; rw [if_neg hb] at q1
     exact ⟨M1, Q, q1, hr.kp k1, h1, fun b' M2 H2 k2 => en b' M2 H2 (k1.trans k2)⟩⟩
noncomputable def tAndV3 (ta tb : TE3) : TE3 := fun ρ M Q => ta ρ M fun x M1 => match x with
 | .bl c => (if c = true then tb ρ M1 Q else Q (.bl false) M1)
 | _ => False
theorem h_one {op} (ha : HE X a ta) : HE X (.BoolOp op [a] pos) ta := fun ρ M Q h => pe_one (ha ρ M Q h)
theorem h_and (ha : HE X a ta) (hb : HE X (.BoolOp .And (b :: rest) pos) tb) : HE X (.BoolOp .And (a :: b :: rest) pos) (tAndV3 ta tb) := fun ρ M Q h =>
 (pe_and (ha.d (ρ := ρ)) (hb.d (ρ := ρ))).imp fun σ H Q2 ⟨hr, hh, en⟩ => ⟨M, _, h, hr, hh, fun x v M1 H1 k1 h1 r1 q1 => by
   dsimp only at q1 ⊢
   split at q1
   · rename_i c
     obtain rfl := inv_bl r1
     refine ⟨c, rfl, ?_⟩
     split
     · rename_i hc; rw [if_pos hc] at q1
       exact ⟨M1, Q, q1, hr.kp k1, h1, en.kp k1⟩
     · rename_i hc; rw [if_neg hc] at q1
       exact en _ _ M1 H1 k1 h1 rep_bl q1
   · exact q1.elim⟩
noncomputable def tNil3 : TA3 := fun _ M Q => Q [] M
noncomputable def tCons3 (ta : TE3) (tr : TA3) : TA3 := fun ρ M Q => ta ρ M fun x M1 => tr ρ M1 fun xs M2 => Q (x :: xs) M2
theorem a_nil : HA X [] tNil3 := fun ρ M Q h => pa_nil.imp fun σ H Q2 ⟨hr, hh, en⟩ => en [] [] M H Kp.refl hh .nil h
theorem a_cons (ha : HE X a ta) (hr : HA X es t) (hs : starEach (a :: es) X.env = (false, eval a X.env) :: starEach es X.env := by rfl) : HA X (a :: es) (tCons3 ta t) := fun ρ M Q h =>
 (pa_cons (ha.d (ρ := ρ)) (hr.d (ρ := ρ)) hs).imp fun σ H Q2 ⟨hr, hh, en⟩ => ⟨M, _, h, hr, hh, fun x v M1 H1 k1 h1 r1 q1 => ⟨M1, _, q1, hr.kp k1, h1, fun ts vs M2 H2 k2 h2 r2 q2 =>
   en _ _ M2 H2 (k1.trans k2) h2 (.cons (Rep.kp k2 _ _ r1) r2) q2⟩⟩
noncomputable def tTup3 (t : TA3) : TE3 := fun ρ M Q => t ρ M fun xs M1 => xs.length ≤ sizeLine ∧ Q (.tup xs) M1
noncomputable def tLst3 (t : TA3) : TE3 := fun ρ M Q => t ρ M fun xs M1 => xs.length ≤ sizeLine ∧ ∀ p, M1 p = none → Q (.adr p) (updM M1 p (.lst xs))
theorem h_tup {x1} (h : HA X es t) : HE X (.Tuple es x1 pos) (tTup3 t) := fun ρ M Q q =>
 (pe_tup (h.d (ρ := ρ))).imp fun σ H Q2 ⟨hr, hh, en⟩ => ⟨M, _, q, hr, hh, fun ts vs M1 H1 k1 h1 r1 q1 =>
   ⟨by rw [r1.length]; exact q1.1, fun p hp => en _ _ M1 _ (k1.trans (Kp.new hp)) (h1.keep hp) (rep_tup (SqT.of upd_same) (Reps.kp (Kp.new hp) _ _ r1)) q1.2⟩⟩
theorem h_lst (h : HA X es t) : HE X (.List es pos) (tLst3 t) := fun ρ M Q q =>
 (pe_lst (h.d (ρ := ρ))).imp fun σ H Q2 ⟨hr, hh, en⟩ => ⟨M, _, q, hr, hh, fun ts vs M1 H1 k1 h1 r1 q1 =>
   ⟨by rw [r1.length]; exact q1.1, fun p hp => en _ _ _ _ (k1.trans (Kp.new hp)) (h1.newL hp r1) rep_adr (q1.2 p (h1.free hp))⟩⟩
noncomputable abbrev Sp3 := List T → MH → VK3 → Prop
noncomputable def dSp (K : PySem.W.Frag) (sp : Sp3) : Sp := fun vs H Q2 _ => ∃ ts M Q, Reps K H vs ts ∧ HR K H M ∧ sp ts M Q ∧ EndE K H Q Q2
structure Df (P : Program) (w : World) (K : PySem.W.Frag) (mg : Str → Option Value) (base : Heap) (n : Nat) (x : Str) (ps : List Str) (sp : Sp3) : Prop where
 out : ∃ f fd, FnOk P w K mg base CX0 n f fd ps (dSp K sp) ∧ mg x = some (.ref f) ∧ PySem.W.keepIn K (.ref f) = true ∧ Binds K fd ps []
theorem Df.mono {P : Program} {w : World} {K : PySem.W.Frag} {mg : Str → Option Value} {base : Heap} {n m : Nat} {x : Str} {ps : List Str} {sp : Sp3} (D : Df P w K mg base n x ps sp) (h : n ≤ m) : Df P w K mg base m x ps sp := by
 obtain ⟨f, fd, F, a, b, c⟩ := D.out
 exact ⟨f, fd, F.mono h, a, b, c⟩
noncomputable def tCall3 (sp : Sp3) (t : TA3) : TE3 := fun ρ M Q => t ρ M fun ts M1 => sp ts M1 Q
theorem h_call {n : Nat} {x : Str} {ps : List Str} {sp : Sp3} {p : Pos} (D : Df X.prog X.w X.K X.mg X.base n x ps sp) (hr : Room n X.A) (ha : HA X (e :: es) t) (hg : Gl X x := by rfl) (hdb : (x == ("__debug__" : Str)) = false := by decide)
   (he : starEach (e :: es) X.env = (false, eval e X.env) :: starEach es X.env := by rfl) (hpl : (backTo pos (starEach es X.env)).any (·.1) = false := by rfl) :
   HE X (.Call (.Name x p) (e :: es) [] pos) (tCall3 sp t) := fun ρ M Q h => by
 obtain ⟨f, fd, F, hm, hk, hb⟩ := D.out
 exact (pe_call F hr hg hm hk hb .nil pass0 (ha.d (ρ := ρ)) hdb he hpl).imp fun σ H Q2 ⟨hr, hh, en⟩ => ⟨M, _, h, hr, hh, fun ts vs M1 H1 k1 h1 r1 q1 =>
   ⟨ts, M1, Q, by rw [List.append_nil]; exact r1, h1, q1, en.kp k1⟩⟩
noncomputable def tCB3 (r : List T → MH → VK3 → Prop) (t : TA3) : TE3 := fun ρ M Q => t ρ M fun ts M1 => r ts M1 Q
theorem h_callB {x : Str} {id : String} {r : List T → MH → VK3 → Prop} {p : Pos} (hc : CallR3 X (.builtin id) r) (hm : X.mg x = none) (hv : bootBuiltins x = some (.builtin id)) (ha : HA X (e :: es) t) (hg : Gl X x := by rfl) (hn : x ≠ "__name__" := by decide) (hdb : (x == ("__debug__" : Str)) = false := by decide)
   (he : starEach (e :: es) X.env = (false, eval e X.env) :: starEach es X.env := by rfl) (hpl : (backTo pos (starEach es X.env)).any (·.1) = false := by rfl) : HE X (.Call (.Name x p) (e :: es) [] pos) (tCB3 r t) := fun ρ M Q h =>
 (pe_callB hc hg hm hv (ha.d (ρ := ρ)) hn hdb he hpl).imp fun σ H Q2 ⟨hr, hh, en⟩ => ⟨M, _, h, hr, hh, fun ts vs M1 H1 k1 h1 r1 q1 => ⟨ts, M1, Q, r1, h1, q1, en.kp k1⟩⟩
theorem h_callT {x : Str} {ty : String} {r : List T → MH → VK3 → Prop} {p : Pos} (hc : CallR3 X (.type ty) r) (hm : X.mg x = none) (hv : bootBuiltins x = some (.type ty)) (ha : HA X (e :: es) t) (hg : Gl X x := by rfl) (hn : x ≠ "__name__" := by decide) (hdb : (x == ("__debug__" : Str)) = false := by decide)
   (he : starEach (e :: es) X.env = (false, eval e X.env) :: starEach es X.env := by rfl) (hpl : (backTo pos (starEach es X.env)).any (·.1) = false := by rfl) : HE X (.Call (.Name x p) (e :: es) [] pos) (tCB3 r t) := fun ρ M Q h =>
 (pe_callTy hc hg hm hv (ha.d (ρ := ρ)) hn hdb he hpl).imp fun σ H Q2 ⟨hr, hh, en⟩ => ⟨M, _, h, hr, hh, fun ts vs M1 H1 k1 h1 r1 q1 => ⟨ts, M1, Q, r1, h1, q1, en.kp k1⟩⟩
end
section
variable {X : Cx}
theorem reps1 {K : PySem.W.Frag} {H : Hp} {vs : List V} {x : T} (r : Reps K H vs [x]) : ∃ v, vs = [v] ∧ Rep K H v x := by
 unfold Reps at r
 obtain ⟨v, w, rfl, h, r⟩ := r
 unfold Reps at r
 subst r
 exact ⟨v, rfl, h⟩
theorem reps2 {K : PySem.W.Frag} {H : Hp} {vs : List V} {x y : T} (r : Reps K H vs [x, y]) : ∃ v w, vs = [v, w] ∧ Rep K H v x ∧ Rep K H w y := by
 unfold Reps at r
 obtain ⟨v, r', rfl, h, r⟩ := r
 obtain ⟨w, rfl, h'⟩ := reps1 r
 exact ⟨v, w, rfl, h, h'⟩
noncomputable def rLen3 : List T → MH → VK3 → Prop := fun xs M Q => match xs with
 | [.tup ts] => Q (.int ts.length) M
 | [.rd ts] => Q (.int ts.length) M
 | [.adr p] => (match M p with | some (.lst ts) => Q (.int ts.length) M | _ => False)
 | [.str z] => z.length ≤ sizeLine ∧ Q (.int z.length) M
 | _ => False
theorem call3_len : CallR3 X (.builtin "len") rLen3 := by
 intro pins s σ H vs us Q2 I r h
 obtain ⟨xs, M, Q, rr, hh, q, en⟩ := h
 unfold rLen3 at q
 split at q
 · obtain ⟨v, rfl, r1⟩ := reps1 rr
   obtain ⟨p, ys, rfl, g1, g2⟩ := inv_tup r1
   exact call_len_seq pins s σ H _ us Q2 I r ⟨p, ys, rfl, .inr g1, by rw [g2.length]; exact en _ _ M H Kp.refl hh rep_int q⟩
 · obtain ⟨v, rfl, r1⟩ := reps1 rr
   obtain ⟨p, ys, rfl, g1, g2⟩ := inv_rd r1
   exact call_len_seq pins s σ H _ us Q2 I r ⟨p, ys, rfl, .inl g1.sq, by rw [g2.length]; exact en _ _ M H Kp.refl hh rep_int q⟩
 · obtain ⟨v, rfl, r1⟩ := reps1 rr
   obtain rfl := inv_adr r1
   split at q
   · rename_i ts e0
     obtain ⟨ys, g1, g2⟩ := hh _ _ e0
     exact call_len_seq pins s σ H _ us Q2 I r ⟨_, ys, rfl, .inl (SqL.of g1), by rw [g2.length]; exact en _ _ M H Kp.refl hh rep_int q⟩
   · exact q.elim
 · obtain ⟨v, rfl, r1⟩ := reps1 rr
   obtain rfl := inv_str r1
   exact call_len_str pins s σ H _ us Q2 I r ⟨_, rfl, q.1, en _ _ M H Kp.refl hh rep_int q.2⟩
 · exact q.elim
noncomputable def rAbs3 : List T → MH → VK3 → Prop := fun xs M Q => match xs with
 | [.int i] => Q (.int i.natAbs) M
 | _ => False
theorem call3_abs : CallR3 X (.builtin "abs") rAbs3 := by
 intro pins s σ H vs us Q2 I r h
 obtain ⟨xs, M, Q, rr, hh, q, en⟩ := h
 unfold rAbs3 at q
 split at q
 · rename_i i
   obtain ⟨v, rfl, r1⟩ := reps1 rr
   obtain rfl := inv_int r1
   refine call_abs pins s σ H _ us Q2 I r ⟨_, rfl, en _ _ M H Kp.refl hh ?_ q⟩
   have e : (if i < 0 then -i else i) = (i.natAbs : Int) := by split <;> lia
   rw [e]; exact rep_int
 · exact q.elim
noncomputable def rTuple3 : List T → MH → VK3 → Prop := fun xs M Q => match xs with
 | [.tup ts] => Q (.tup ts) M
 | [.rd ts] => Q (.tup ts) M
 | [.adr p] => (match M p with | some (.lst ts) => Q (.tup ts) M | _ => False)
 | _ => False
theorem call3_tuple : CallR3 X (.type "tuple") rTuple3 := by
 intro pins s σ H vs us Q2 I r h
 obtain ⟨xs, M, Q, rr, hh, q, en⟩ := h
 unfold rTuple3 at q
 split at q
 · obtain ⟨v, rfl, r1⟩ := reps1 rr
   obtain ⟨p, ys, rfl, g1, g2⟩ := inv_tup r1
   exact call_tuple_of pins s σ H _ us Q2 I r ⟨p, ys, rfl, .inr ⟨g1, en _ _ M H Kp.refl hh r1 q⟩⟩
 · obtain ⟨v, rfl, r1⟩ := reps1 rr
   obtain ⟨p, ys, rfl, g1, g2⟩ := inv_rd r1
   exact call_tuple_of pins s σ H _ us Q2 I r ⟨p, ys, rfl, .inl ⟨g1.sq, fun l hl => en _ _ M _ (Kp.new hl) (hh.keep hl) (rep_tup (SqT.of upd_same) (Reps.kp (Kp.new hl) _ _ g2)) q⟩⟩
 · obtain ⟨v, rfl, r1⟩ := reps1 rr
   obtain rfl := inv_adr r1
   split at q
   · rename_i ts e0
     obtain ⟨ys, g1, g2⟩ := hh _ _ e0
     exact call_tuple_of pins s σ H _ us Q2 I r ⟨_, ys, rfl, .inl ⟨SqL.of g1, fun l hl => en _ _ M _ (Kp.new hl) (hh.keep hl) (rep_tup (SqT.of upd_same) (Reps.kp (Kp.new hl) _ _ g2)) q⟩⟩
   · exact q.elim
 · exact q.elim
noncomputable def rList3 : List T → MH → VK3 → Prop := fun xs M Q => match xs with
 | [.tup ts] => ∀ r, M r = none → Q (.adr r) (updM M r (.lst ts))
 | [.rd ts] => ∀ r, M r = none → Q (.adr r) (updM M r (.lst ts))
 | [.adr p] => (match M p with | some (.lst ts) => ∀ r, M r = none → Q (.adr r) (updM M r (.lst ts)) | _ => False)
 | _ => False
theorem call3_list : CallR3 X (.type "list") rList3 := by
 intro pins s σ H vs us Q2 I r h
 obtain ⟨xs, M, Q, rr, hh, q, en⟩ := h
 unfold rList3 at q
 split at q
 · obtain ⟨v, rfl, r1⟩ := reps1 rr
   obtain ⟨p, ys, rfl, g1, g2⟩ := inv_tup r1
   exact call_list_of pins s σ H _ us Q2 I r ⟨p, ys, rfl, .inr g1, fun l hl => en _ _ _ _ (Kp.new hl) (hh.newL hl g2) rep_adr (q l (hh.free hl))⟩
 · obtain ⟨v, rfl, r1⟩ := reps1 rr
   obtain ⟨p, ys, rfl, g1, g2⟩ := inv_rd r1
   exact call_list_of pins s σ H _ us Q2 I r ⟨p, ys, rfl, .inl g1.sq, fun l hl => en _ _ _ _ (Kp.new hl) (hh.newL hl g2) rep_adr (q l (hh.free hl))⟩
 · obtain ⟨v, rfl, r1⟩ := reps1 rr
   obtain rfl := inv_adr r1
   split at q
   · rename_i ts e0
     obtain ⟨ys, g1, g2⟩ := hh _ _ e0
     exact call_list_of pins s σ H _ us Q2 I r ⟨_, ys, rfl, .inl (SqL.of g1), fun l hl => en _ _ _ _ (Kp.new hl) (hh.newL hl g2) rep_adr (q l (hh.free hl))⟩
   · exact q.elim
 · exact q.elim
theorem call_all_bools (hc : X.calm = true) : CallR X (.builtin "all") (fun xs H Q => ∃ (p : Addr) (bs : List Bool), xs = [.ref p] ∧ SqL X.K H p (bs.map V.bl) ∧ Q (.bl (bs.all id)) H) := by
 intro pins s σ H xs us Q I r h
 obtain ⟨p, bs, rfl, hq, q⟩ := h
 obtain ⟨u, rfl, rx⟩ := vals1 r
 cases rx
 obtain ⟨its, r', pl, hz⟩ := I.list hq
 have hlen := r'.length
 refine call_all_walk (wpAny_pyIter_list pl.isList ?_)
 have hp : p < s.heap.objs.size := by obtain ⟨o, n, e, _⟩ := pl; exact Heap.lt_size e
 refine ⟨s.heap.objs.size, _, _, _, _, _, fun i => (bs[i]?).getD true, rfl, Walks.list (A := X.A.in1) (I.ok.hd hc) s.heap.objs.size p (Nat.ne_of_lt hp) its.toArray, ⟨⟨_, Heap.get?_push_size _ rfl, rfl, rfl⟩, pl.isList.push _⟩, ?_, fun h' tk hk => ?_⟩
 · intro i v s' Q' E' hP hQ
   have hP' : its[i]? = some v := by simpa using hP
   have hi : i < bs.length := by
     have := (List.getElem?_eq_some_iff.mp hP').1
     rw [List.length_map] at hlen; lia
   obtain ⟨w, hw, rw'⟩ := r'.get (i := i) (x := .bl bs[i]) (by rw [List.getElem?_map, List.getElem?_eq_getElem hi] <;> rfl)
   rw [hP'] at hw; cases hw
   obtain rfl : v = Value.bool bs[i] := rw'
   refine wpAny_truthy_bool ?_
   have e : (bs[i]?).getD true = bs[i] := by rw [List.getElem?_eq_getElem hi] <;> rfl
   dsimp only at hQ; rw [e] at hQ; exact hQ
 · have e : (List.range its.toArray.size).all (fun i => (bs[i]?).getD true) = bs.all id := by
     rw [List.length_map] at hlen
     rw [List.size_toArray, ← hlen]
     rw [Bool.eq_iff_iff]
     simp only [List.all_eq_true, List.mem_range, id]
     constructor
     · intro h b hb
       obtain ⟨i, hi, rfl⟩ := List.getElem_of_mem hb
       have := h i hi
       rw [List.getElem?_eq_getElem hi] at this; exact this
     · intro h i hi
       rw [List.getElem?_eq_getElem hi]; exact h _ (List.getElem_mem hi)
   rw [e]
   have I1 : Inv X pins σ H { s with heap := h', toks := tk } := I.kept fun b o eb => hk b o (by
     intro hm
     have : b = s.heap.objs.size := by simpa using hm
     rw [this] at eb
     exact absurd (Heap.lt_size eb) (Nat.lt_irrefl _)) (Heap.get?_push_of_some _ eb)
   exact ⟨.bl _, H, I1, rfl, q⟩
noncomputable def bools : List T → Option (List Bool)
 | [] => some []
 | .bl b :: ts => (bools ts).map (b :: ·)
 | _ :: _ => none
theorem bools_reps {K : PySem.W.Frag} {H : Hp} : ∀ {vs : List V} {ts : List T} {bs : List Bool}, Reps K H vs ts → bools ts = some bs → vs = bs.map V.bl
 | vs, [], bs, h, e => by unfold bools at e; cases e; unfold Reps at h; exact h
 | vs, t :: ts, bs, h, e => by
   unfold Reps at h
   obtain ⟨v, r, rfl, h1, h2⟩ := h
   cases t with
   | bl b =>
     unfold bools at e
     cases q : bools ts with
     | none => rw [q] at e; cases e
     | some cs =>
       rw [q] at e; cases e
       obtain rfl := inv_bl h1
       rw [bools_reps h2 q]; rfl
   | _ => unfold bools at e; cases e
noncomputable def rAll3 : List T → MH → VK3 → Prop := fun xs M Q => match xs with
 | [.adr p] => (match M p with | some (.lst ts) => (match bools ts with | some bs => Q (.bl (bs.all id)) M | none => False) | _ => False)
 | _ => False
theorem call3_all (hc : X.calm = true) : CallR3 X (.builtin "all") rAll3 := by
 intro pins s σ H vs us Q2 I r h
 obtain ⟨xs, M, Q, rr, hh, q, en⟩ := h
 unfold rAll3 at q
 split at q
 · obtain ⟨v, rfl, r1⟩ := reps1 rr
   obtain rfl := inv_adr r1
   split at q
   · rename_i ts e0
     obtain ⟨ys, g1, g2⟩ := hh _ _ e0
     split at q
     · rename_i bs eb
       obtain rfl := bools_reps g2 eb
       exact call_all_bools hc pins s σ H _ us Q2 I r ⟨_, bs, rfl, SqL.of g1, en _ _ M H Kp.refl hh rep_bl q⟩
     · exact q.elim
   · exact q.elim
 · exact q.elim
end
end L2
namespace L2
open PySem PySem.Spec PyProof.Rows
section
variable {X : Cx} {a b c e : Expr} {st : Stmt} {rest ba bb body : List Stmt} {ta tb te : TE3} {tA : TT3} {t u : TS3} {pos : Pos}
noncomputable def tNext3 : TS3 := fun D ρ M => D.nx ρ M
noncomputable def tSeq3 (t u : TS3) : TS3 := fun D ρ M => t { D with nx := u D } ρ M
theorem EndS.nx' {K : PySem.W.Frag} {H : Hp} {D : Ends3} {D2 : Ends} {t : TS3} (h : EndS K H D D2) : EndS K H { D with nx := t D } { D2 with nx := dS K t D2 } :=
 ⟨fun ρ' M' σ' H' k r hh q => ⟨D, ρ', M', q, r, hh, h.kp k⟩, h.rt, h.bk, h.ct⟩
theorem ss_nil : HSs X [] tNext3 := fun D ρ M h => pss_nil.imp fun D2 σ H ⟨hr, hh, en⟩ => en.nx ρ M σ H Kp.refl hr hh h
theorem ss_cons (h1 : HS X st t) (h2 : HSs X rest u) : HSs X (st :: rest) (tSeq3 t u) := fun D ρ M h =>
 (pss_cons h1.d h2.d).imp fun D2 σ H ⟨hr, hh, en⟩ => ⟨{ D with nx := u D }, ρ, M, h, hr, hh, en.nx'⟩
theorem ss_one (h1 : HS X st t) : HSs X [st] t := fun D ρ M h => pss_one (h1 D ρ M h)
noncomputable def tRet3 (te : TE3) : TS3 := fun D ρ M => te ρ M D.rt
theorem s_ret (he : HE X e te) : HS X (.Return (some e) pos) (tRet3 te) := fun D ρ M h =>
 (ps_ret (he.d (ρ := ρ))).imp fun D2 σ H ⟨hr, hh, en⟩ => ⟨M, _, h, hr, hh, en.rt⟩
noncomputable def tIfS3 (c : TT3) (t u : TS3) : TS3 := fun D ρ M => c ρ M fun b M1 => if b = true then t D ρ M1 else u D ρ M1
theorem s_if (hc : HT X c tA) (ha : HSs X ba t) (hb : HSs X bb u) : HS X (.If c ba bb pos) (tIfS3 tA t u) := fun D ρ M h =>
 (ps_if (hc.d (ρ := ρ)) ha.d hb.d).imp fun D2 σ H ⟨hr, hh, en⟩ => ⟨M, _, h, hr, hh, fun b M1 H1 k1 h1 q1 => by
   dsimp only at q1 ⊢
   split
   · rename_i hb; rw [if_pos hb] at q1
     exact ⟨D, ρ, M1, q1, hr.kp k1, h1, en.kp k1⟩
   · rename_i hb; rw [if_neg hb] at q1
     exact ⟨D, ρ, M1, q1, hr.kp k1, h1, en.kp k1⟩⟩
noncomputable def tDrop3 (te : TE3) : TS3 := fun D ρ M => te ρ M fun _ M1 => D.nx ρ M1
theorem s_expr (he : HE X e te) (hs : swapsWith e none pos.line X.env = pure false := by rfl) : HS X (.Expr e pos) (tDrop3 te) := fun D ρ M h =>
 (ps_expr (he.d (ρ := ρ)) hs).imp fun D2 σ H ⟨hr, hh, en⟩ => ⟨M, _, h, hr, hh, fun x v M1 H1 k1 h1 r1 q1 => en.nx ρ M1 σ H1 k1 (hr.kp k1) h1 q1⟩
noncomputable def tSet3 (i : Nat) (te : TE3) : TS3 := fun D ρ M => te ρ M fun x M1 => D.nx (ρ.set i (some x)) M1
theorem s_set {i : Nat} {x : Str} {pos' : Pos} (he : HE X e te) (hN : X.N.Nodup) (hi : X.N[i]? = some x := by rfl) (hx : Loc X.env.scope x := by first | exact Or.inl rfl | exact Or.inr rfl) (hs : swapsWith e (some (.Name x pos')) pos.line X.env = pure false := by rfl)
   (hf : X.fn x = true ∨ X.env.scope.names.lookup x = some .local := by first | exact .inl rfl | exact .inr rfl | assumption) : HS X (.Assign [.Name x pos'] e pos) (tSet3 i te) := fun D ρ M h =>
 (ps_set hN hi hx (he.d (ρ := ρ)) hs hf).imp fun D2 σ H ⟨hr, hh, en⟩ => ⟨M, _, h, hr, hh, fun t v M1 H1 k1 h1 r1 q1 => en.nx _ M1 _ H1 k1 ((hr.kp k1).set i r1) h1 q1⟩
noncomputable abbrev TG3 := T → En → MH → (En → MH → Prop) → Prop
noncomputable abbrev TGs3 := List T → En → MH → (En → MH → Prop) → Prop
noncomputable def EndG (K : PySem.W.Frag) (H : Hp) (Q : En → MH → Prop) (Q2 : St → Hp → Prop) : Prop := ∀ ρ' M' σ' H', Kp K H H' → RhoR K σ' H' ρ' → HR K H' M' → Q ρ' M' → Q2 σ' H'
noncomputable def dG (K : PySem.W.Frag) (g : TG3) : TG := fun v σ H Q2 => ∃ t ρ M Q, g t ρ M Q ∧ Rep K H v t ∧ RhoR K σ H ρ ∧ HR K H M ∧ EndG K H Q Q2
noncomputable def dGs (K : PySem.W.Frag) (g : TGs3) : TGs := fun vs σ H Q2 => ∃ ts ρ M Q, g ts ρ M Q ∧ Reps K H vs ts ∧ RhoR K σ H ρ ∧ HR K H M ∧ EndG K H Q Q2
noncomputable def HG (X : Cx) (tg : Expr) (g : TG3) : Prop := PG X tg (dG X.K g)
noncomputable def HGs (X : Cx) (tgs : List Expr) (g : TGs3) : Prop := PGs X tgs (dGs X.K g)
noncomputable def gName3 (i : Nat) : TG3 := fun t ρ M Q => Q (ρ.set i (some t)) M
theorem PG.imp {tg : Expr} {g g' : TG} (h : PG X tg g) (f : ∀ v σ H Q, g' v σ H Q → g v σ H Q) : PG X tg g' := fun pins s σ H v u Q I r q => h pins s σ H v u Q I r (f v σ H Q q)
theorem PGs.imp {tg : List Expr} {g g' : TGs} (h : PGs X tg g) (f : ∀ v σ H Q, g' v σ H Q → g v σ H Q) : PGs X tg g' := fun pins s σ H v u Q I r q => h pins s σ H v u Q I r (f v σ H Q q)
theorem g_name {i : Nat} {x : Str} (hN : X.N.Nodup) (hi : X.N[i]? = some x := by rfl) (hx : Loc X.env.scope x := by first | exact Or.inl rfl | exact Or.inr rfl) (hf : X.fn x = true ∨ X.env.scope.names.lookup x = some .local := by first | exact .inl rfl | exact .inr rfl | assumption) : HG X (.Name x pos) (gName3 i) :=
 (pg_name hN hi hx hf).imp fun v σ H Q2 ⟨t, ρ, M, Q, q, r, hr, hh, en⟩ => en _ M _ H Kp.refl (hr.set i r) hh q
noncomputable def gNil3 : TGs3 := fun ts ρ M Q => ts = [] ∧ Q ρ M
noncomputable def gCons3 (g : TG3) (gs : TGs3) : TGs3 := fun ts ρ M Q => match ts with
 | t :: r => g t ρ M fun ρ1 M1 => gs r ρ1 M1 Q
 | [] => False
theorem gs_nil : HGs X [] gNil3 := pgs_nil.imp fun v σ H Q2 ⟨ts, ρ, M, Q, ⟨e, q⟩, r, hr, hh, en⟩ => by
 subst e
 unfold Reps at r
 exact ⟨r, en ρ M σ H Kp.refl hr hh q⟩
theorem gs_cons {es : List Expr} {g : TG3} {gs : TGs3} (h1 : HG X e g) (h2 : HGs X es gs) (hs : (assignEach (e :: es) X.env).map (·.2) = assign e X.env :: (assignEach es X.env).map (·.2) := by rfl) : HGs X (e :: es) (gCons3 g gs) :=
 (pgs_cons h1 h2 hs).imp fun vs σ H Q2 ⟨ts, ρ, M, Q, q, r, hr, hh, en⟩ => by
   unfold gCons3 at q
   split at q
   · rename_i t r'
     unfold Reps at r
     obtain ⟨v, vr, rfl, r1, r2⟩ := r
     exact ⟨v, vr, rfl, t, ρ, M, _, q, r1, hr, hh, fun ρ' M' σ' H' k hr' hh' q' => ⟨r', ρ', M', Q, q', Reps.kp k _ _ r2, hr', hh', fun ρ2 M2 σ2 H2 k2 => en ρ2 M2 σ2 H2 (k.trans k2)⟩⟩
   · exact q.elim
noncomputable def gTup3 (n : Nat) (gs : TGs3) : TG3 := fun t ρ M Q => match t with
 | .tup ts => ts.length = n ∧ gs ts ρ M Q
 | _ => False
theorem g_tup {es : List Expr} {k : Nat} {gs : TGs3} {n : Nat} (hc : X.calm = true) (h : HGs X es gs) (hn : (assignEach es X.env).length = n := by rfl) (hst : (assignEach es X.env).findIdx? (·.1) = none := by rfl) : HG X (.Tuple es k pos) (gTup3 n gs) :=
 (pg_tup hc h hn hst).imp fun v σ H Q2 ⟨t, ρ, M, Q, q, r, hr, hh, en⟩ => by
   unfold gTup3 at q
   split at q
   · rename_i ts
     obtain ⟨a, xs, rfl, g1, g2⟩ := inv_tup r
     exact ⟨a, xs, rfl, g1, by rw [g2.length]; exact q.1, ts, ρ, M, Q, q.2, g2, hr, hh, en⟩
   · exact q.elim
noncomputable def gSub3 (to ti : TE3) : TG3 := fun v ρ M Q => to ρ M fun o M1 => ti ρ M1 fun i M2 => match o, i with
 | .adr p, .int k => (match M2 p with
   | some (.lst ts) => (match ixN ts.length k with | some j => Q ρ (updM M2 p (.lst (ts.set j v))) | none => False)
   | _ => False)
 | _, _ => False
theorem g_sub {o i : Expr} {to ti : TE3} (ho : HE X o to) (hi : HE X i ti)
   (ha : ∀ v, assign (.Subscript o i pos) X.env v = (do
     let ov ← holding [v] (eval o X.env)
     let iv ← holding [v, ov] (eval i X.env)
     standAt pos
     holding [v, ov, iv] (setItem ov iv v)
     release [v, ov, iv] []) := by intro _; rfl) : HG X (.Subscript o i pos) (gSub3 to ti) := by
 intro pins s σ H v u Q2 I r h
 obtain ⟨t, ρ, M, Q, q, rt, hr, hh, en⟩ := h
 refine pg_sub (ho.d (ρ := ρ)) (hi.d (ρ := ρ)) set_list ha pins s σ H v u Q2 I r ?_
 refine ⟨M, _, q, hr, hh, fun ot ov M1 H1 k1 h1 r1 q1 => ⟨M1, _, q1, hr.kp k1, h1, fun it iv M2 H2 k2 h2 r2 q2 => ?_⟩⟩
 dsimp only at q2
 split at q2
 · obtain rfl := inv_adr r1
   obtain rfl := inv_int r2
   split at q2
   · rename_i ts e0
     obtain ⟨xs, g1, g2⟩ := h2 _ _ e0
     split at q2
     · rename_i j ej
       have kk := k1.trans k2
       refine ⟨_, xs, _, j, rfl, rfl, g1, by rw [g2.length]; exact ej, en _ _ σ _ (kk.trans (Kp.lst g1)) (hr.kp (kk.trans (Kp.lst g1))) (h2.setL g1 (g2.set (Rep.kp kk _ _ rt) j)) q2⟩
     · exact q2.elim
   · exact q2.elim
 · exact q2.elim
noncomputable def tAsg3 (te : TE3) (g : TG3) : TS3 := fun D ρ M => te ρ M fun x M1 => g x ρ M1 D.nx
theorem s_asg {tg : Expr} {g : TG3} (he : HE X e te) (hg : HG X tg g) (hs : swapsWithSole [tg] e pos.line X.env = pure false := by rfl) (hw : swappedStores [tg] e X.env = pure none := by rfl)
   (h1 : (assignEach [tg] X.env).map (·.2) = [assign tg X.env] := by rfl) : HS X (.Assign [tg] e pos) (tAsg3 te g) := fun D ρ M h =>
 (ps_asg (he.d (ρ := ρ)) hg hs hw h1).imp fun D2 σ H ⟨hr, hh, en⟩ => ⟨M, _, h, hr, hh, fun t v M1 H1 k1 h1 r1 q1 => ⟨t, ρ, M1, D.nx, q1, r1, hr.kp k1, h1, fun ρ' M' σ' H' k r hh' q => en.nx ρ' M' σ' H' (k1.trans k) r hh' q⟩⟩
structure It3 where
 items : List T
 stay : MH → Prop := fun _ => True
noncomputable abbrev TI3 := En → MH → (It3 → MH → Prop) → Prop
structure ItOk (K : PySem.W.Frag) (H : Hp) (J2 : It) (J : It3) : Prop where
 stop : ∀ H' M', Kp K H H' → HR K H' M' → J.stay M' → J2.stop J.items.length H'
 go : ∀ (i : Nat) (x : T) H' M', J.items[i]? = some x → Kp K H H' → HR K H' M' → J.stay M' → J2.go i H' ∧ ∀ v H'', J2.yld i H' v H'' → Kp K H' H'' ∧ HR K H'' M' ∧ Rep K H'' v x
noncomputable def HI (X : Cx) (tg iter : Expr) (wi : TI3) : Prop := ∀ ρ M R, wi ρ M R → PI X tg iter (fun σ H R2 => RhoR X.K σ H ρ ∧ HR X.K H M ∧ ∀ J J2 M' H', Kp X.K H H' → HR X.K H' M' → ItOk X.K H' J2 J → R J M' → R2 J2 H')
noncomputable def dI (K : PySem.W.Frag) (ρ : En) (wi : TI3) : TI := fun σ H R2 => ∃ M R, wi ρ M R ∧ RhoR K σ H ρ ∧ HR K H M ∧ ∀ J J2 M' H', Kp K H H' → HR K H' M' → ItOk K H' J2 J → R J M' → R2 J2 H'
theorem HI.d {tg iter : Expr} {wi : TI3} {ρ : En} (h : HI X tg iter wi) : PI X tg iter (dI X.K ρ wi) := fun pins s σ H R I ⟨M, R3, q, b⟩ => h ρ M R3 q pins s σ H R I b
theorem PI.imp {tg iter : Expr} {w w' : TI} (h : PI X tg iter w) (f : ∀ σ H R, w' σ H R → w σ H R) : PI X tg iter w' := fun pins s σ H R I q => h pins s σ H R I (f σ H R q)
noncomputable def iSeq3 (tl : TE3) : TI3 := fun ρ M R => tl ρ M fun x M1 => match x with
 | .tup ts => R ⟨ts, fun _ => True⟩ M1
 | .adr p => (match M1 p with | some (.lst ts) => R ⟨ts, fun M' => M' p = some (.lst ts)⟩ M1 | _ => False)
 | _ => False
theorem itok_tup {K : PySem.W.Frag} {H : Hp} {a : Addr} {xs : List V} {ts : List T} (h : SqT K H a xs) (r : Reps K H xs ts) : ItOk K H (Itt K a) ⟨ts, fun _ => True⟩ := by
 refine ⟨fun H' M' k hh _ => ⟨xs, k.tup _ _ h, by rw [r.length]; exact Nat.le_refl _⟩, fun i x H' M' e k hh _ => ?_⟩
 obtain ⟨v, e1, r1⟩ := r.get e
 refine ⟨⟨xs, v, k.tup _ _ h, e1⟩, fun v' H'' y => ?_⟩
 obtain ⟨rfl, y⟩ := y
 have := y xs (k.tup _ _ h)
 rw [e1] at this; cases this
 exact ⟨Kp.refl, hh, Rep.kp k _ _ r1⟩
theorem itok_lst {K : PySem.W.Frag} {H : Hp} {a : Addr} {ts : List T} : ItOk K H (Itl K a) ⟨ts, fun M' => M' a = some (.lst ts)⟩ := by
 refine ⟨fun H' M' k hh st => ?_, fun i x H' M' e k hh st => ?_⟩
 · obtain ⟨xs, g1, g2⟩ := hh _ _ st
   exact ⟨xs, SqL.of g1, by rw [g2.length]; exact Nat.le_refl _⟩
 · obtain ⟨xs, g1, g2⟩ := hh _ _ st
   obtain ⟨v, e1, r1⟩ := g2.get e
   refine ⟨⟨xs, v, SqL.of g1, e1⟩, fun v' H'' y => ?_⟩
   obtain ⟨rfl, y⟩ := y
   have := y xs (SqL.of g1)
   rw [e1] at this; cases this
   exact ⟨Kp.refl, hh, r1⟩
noncomputable def rangeT (lo : Int) (n : Nat) : List T := (List.range n).map fun i => T.int (lo + (i : Nat))
theorem itok_range {K : PySem.W.Frag} {H : Hp} {lo : Int} {n : Nat} : ItOk K H (Itr lo n) ⟨rangeT lo n, fun _ => True⟩ := by
 have hl : (rangeT lo n).length = n := by unfold rangeT; simp
 refine ⟨fun H' M' k hh _ => by show n ≤ (rangeT lo n).length; rw [hl]; exact Nat.le_refl _, fun i x H' M' e k hh _ => ?_⟩
 have hi : i < n := by have := (List.getElem?_eq_some_iff.mp e).1; rwa [hl] at this
 have ex : x = .int (lo + (i : Nat)) := by
   unfold rangeT at e
   rw [List.getElem?_map, List.getElem?_range hi] at e
   exact (Option.some.inj e).symm
 subst ex
 refine ⟨hi, fun v H'' y => ?_⟩
 obtain ⟨rfl, rfl⟩ := y
 exact ⟨Kp.refl, hh, rep_int⟩
theorem i_seq {tg l : Expr} {tl : TE3} (hl : HE X l tl) : HI X tg l (iSeq3 tl) := by
 intro ρ M R h pins s σ H R2 I b
 obtain ⟨hr, hh, en⟩ := b
 refine thn (hl ρ M _ h pins s σ H (fun v H1 => ∃ t M1, Kp X.K H H1 ∧ HR X.K H1 M1 ∧ Rep X.K H1 v t ∧ (match t with
   | .tup ts => R ⟨ts, fun _ => True⟩ M1
   | .adr p => (match M1 p with | some (.lst ts) => R ⟨ts, fun M' => M' p = some (.lst ts)⟩ M1 | _ => False)
   | _ => False)) I ⟨hr, hh, fun t v M1 H1 k1 h1 r1 q1 => ⟨t, M1, k1, h1, r1, q1⟩⟩) fun v s1 ⟨x, H1, I1, rv, t, M1, k1, h1, r1, q1⟩ => ?_
 split at q1
 · rename_i ts
   obtain ⟨a, xs, rfl, g1, g2⟩ := inv_tup r1
   cases rv
   obtain ⟨its, rv, p, hz⟩ := I1.tuple g1
   refine wpAny_pyIter_tuple (show s1.heap.IsTuple a its.toArray from p) ?_
   refine ⟨s1.heap.objs.size, [s1.heap.objs.size], _, _, H1, rfl, I1.kept (t' := s1.toks) fun b o e => Heap.get?_push_of_some _ e, turn_tuple a _, ⟨_, Heap.get?_push_size _ rfl, rfl, rfl⟩, fun b hb => ?_, en _ _ M1 H1 k1 h1 (itok_tup g1 g2) q1⟩
   have e : b = s1.heap.objs.size := by simpa using hb
   subst e
   exact I1.fpOk (Nat.le_refl _) (I1.hok.fresh (Nat.le_refl _))
 · rename_i a
   obtain rfl := inv_adr r1
   cases rv
   split at q1
   · rename_i ts e0
     obtain ⟨xs, g1, g2⟩ := h1 _ _ e0
     obtain ⟨its, rv, p, hz⟩ := I1.list (SqL.of g1)
     refine wpAny_pyIter_list p.isList ?_
     refine ⟨s1.heap.objs.size, [s1.heap.objs.size], _, _, H1, rfl, I1.kept (t' := s1.toks) fun b o e => Heap.get?_push_of_some _ e, turn_list a _, ⟨_, Heap.get?_push_size _ rfl, rfl, rfl⟩, fun b hb => ?_, en _ _ M1 H1 k1 h1 itok_lst q1⟩
     have e : b = s1.heap.objs.size := by simpa using hb
     subst e
     exact I1.fpOk (Nat.le_refl _) (I1.hok.fresh (Nat.le_refl _))
   · exact q1.elim
 · exact q1.elim
noncomputable def iRng1_3 (t : TA3) : TI3 := fun ρ M R => t ρ M fun xs M1 => match xs with
 | [.int j] => -(2 ^ 62) ≤ j ∧ j < 2 ^ 62 ∧ R ⟨rangeT 0 j.toNat, fun _ => True⟩ M1
 | _ => False
noncomputable def iRng2_3 (t : TA3) : TI3 := fun ρ M R => t ρ M fun xs M1 => match xs with
 | [.int i, .int j] => (-(2 ^ 62) ≤ i ∧ i < 2 ^ 62 ∧ -(2 ^ 62) ≤ j ∧ j < 2 ^ 62) ∧ R ⟨rangeT i (j - i).toNat, fun _ => True⟩ M1
 | _ => False
theorem i_range1 {tg : Expr} {t : TA3} {p : Pos} (hm : X.mg "range" = none) (ha : HA X [a] t) (hg : Gl X "range" := by rfl) (hs : starEach [a] X.env = [(false, eval a X.env)] := by rfl) : HI X tg (.Call (.Name "range" p) [a] [] pos) (iRng1_3 t) := fun ρ M R h =>
 (pi_range1 hg hm (ha.d (ρ := ρ)) hs).imp fun σ H R2 ⟨hr, hh, en⟩ => ⟨M, _, h, hr, hh, fun ts vs M1 H1 k1 h1 r1 q1 => by
   dsimp only at q1
   split at q1
   · rename_i j
     obtain ⟨v, rfl, rv⟩ := reps1 r1
     obtain rfl := inv_int rv
     exact ⟨j, rfl, q1.1, q1.2.1, en _ _ M1 H1 k1 h1 itok_range q1.2.2⟩
   · exact q1.elim⟩
theorem i_range2 {tg : Expr} {t : TA3} {p : Pos} (hm : X.mg "range" = none) (ha : HA X [a, b] t) (hg : Gl X "range" := by rfl) (hs : starEach [a, b] X.env = [(false, eval a X.env), (false, eval b X.env)] := by rfl) (hs2 : starEach [b] X.env = [(false, eval b X.env)] := by rfl) : HI X tg (.Call (.Name "range" p) [a, b] [] pos) (iRng2_3 t) := fun ρ M R h =>
 (pi_range2 hg hm (ha.d (ρ := ρ)) hs hs2).imp fun σ H R2 ⟨hr, hh, en⟩ => ⟨M, _, h, hr, hh, fun ts vs M1 H1 k1 h1 r1 q1 => by
   dsimp only at q1
   split at q1
   · rename_i i j
     obtain ⟨v, w', rfl, rv, rw'⟩ := reps2 r1
     obtain rfl := inv_int rv
     obtain rfl := inv_int rw'
     exact ⟨i, j, rfl, q1.1, en _ _ M1 H1 k1 h1 itok_range q1.2⟩
   · exact q1.elim⟩
noncomputable def tFor3 (wi : TI3) (g : TG3) (tb : TS3) : TS3 := fun D ρ M => wi ρ M fun J M1 => ∃ W : Nat → En → MH → Prop, W 0 ρ M1 ∧ (∀ i ρ M, W i ρ M → J.stay M) ∧
 (∀ i x ρ M, J.items[i]? = some x → W i ρ M → g x ρ M fun ρ2 M2 => tb { D with nx := W (i + 1), ct := W (i + 1), bk := D.nx } ρ2 M2) ∧ ∀ ρ M, W J.items.length ρ M → D.nx ρ M
theorem s_for {tg iter : Expr} {wi : TI3} {g : TG3} {tb : TS3} (hp : PassesOwn (model X.prog X.w) X.A X.env X.xe) (hc : X.calm = true) (hi : HI X tg iter wi) (hg : HG X tg g) (hb : HSs X body tb)
   (hs : ∀ x, foldedSetIterable iter X.env x = pure x := by intro _; rfl) : HS X (.For tg iter body [] pos) (tFor3 wi g tb) := fun D ρ0 M0 h =>
 (ps_for hp hc (hi.d (ρ := ρ0)) hg hb.d hs).imp fun D2 σ0 H0 ⟨hr0, hh0, en⟩ => ⟨M0, _, h, hr0, hh0, fun J J2 M1 H1 k1 h1 ok q1 => by
   obtain ⟨W, w0, wst, turn, fin⟩ := q1
   refine ⟨fun i m σ H => m = J.items.length - i ∧ i ≤ J.items.length ∧ Kp X.K H1 H ∧ ∃ ρ M, RhoR X.K σ H ρ ∧ HR X.K H M ∧ W i ρ M, ⟨_, rfl, Nat.zero_le _, Kp.refl, ρ0, M1, hr0.kp k1, h1, w0⟩, ?_⟩
   rintro i m σ H ⟨rfl, hi, kk, ρ, M, hr, hh, w⟩
   have st := wst i ρ M w
   by_cases hlt : i < J.items.length
   · have e : J.items[i]? = some J.items[i] := List.getElem?_eq_getElem hlt
     obtain ⟨go, yl⟩ := ok.go i _ H M e kk hh st
     refine .inr ⟨go, fun σ' H' => i + 1 ≤ J.items.length ∧ Kp X.K H1 H' ∧ ∃ ρ M, RhoR X.K σ' H' ρ ∧ HR X.K H' M ∧ W (i + 1) ρ M, fun σ' H' ⟨a, b, c⟩ => ⟨_, by lia, rfl, a, b, c⟩, fun v H' y => ?_⟩
     obtain ⟨k2, h2, r2⟩ := yl v H' y
     refine ⟨J.items[i], ρ, M, _, turn i _ ρ M e w, r2, hr.kp k2, h2, fun ρ3 M3 σ3 H3 k3 hr3 hh3 q3 => ⟨_, ρ3, M3, q3, hr3, hh3, ?_⟩⟩
     have kall := kk.trans (k2.trans k3)
     refine ⟨fun ρ4 M4 σ4 H4 k4 hr4 hh4 q4 => ⟨hlt, kall.trans k4, ρ4, M4, hr4, hh4, q4⟩, fun t v M4 H4 k4 h4 r4 q4 => en.rt t v M4 H4 (k1.trans (kall.trans k4)) h4 r4 q4, fun ρ4 M4 σ4 H4 k4 hr4 hh4 q4 => en.nx ρ4 M4 σ4 H4 (k1.trans (kall.trans k4)) hr4 hh4 q4, fun ρ4 M4 σ4 H4 k4 hr4 hh4 q4 => ⟨hlt, kall.trans k4, ρ4, M4, hr4, hh4, q4⟩⟩
   · have e : i = J.items.length := by lia
     subst e
     exact .inl ⟨ok.stop H M kk hh st, en.nx ρ M σ H (k1.trans kk) hr hh (fin ρ M w)⟩⟩
noncomputable def tWhile3 (c : TT3) (tb : TS3) : TS3 := fun D ρ M => ∃ W : Nat → En → MH → Prop, (∃ m, W m ρ M) ∧ ∀ m ρ M, W m ρ M →
 c ρ M fun b M1 => if b = true then tb { D with nx := fun ρ' M' => ∃ m', m' < m ∧ W m' ρ' M', ct := fun ρ' M' => ∃ m', m' < m ∧ W m' ρ' M', bk := D.nx } ρ M1 else D.nx ρ M1
theorem s_while {c : Expr} {tc : TT3} {tb : TS3} (hp : PassesOwn (model X.prog X.w) X.A X.env X.xe) (hc : HT X c tc) (hb : HSs X body tb) : HS X (.While c body [] pos) (tWhile3 tc tb) := by
 intro D ρ0 M0 h pins s σ H D2 I b
 obtain ⟨hr0, hh0, en⟩ := b
 obtain ⟨W, ⟨m0, w0⟩, turn⟩ := h
 refine wpAny_While (codeAny_whileLoop (fun n s' => ∃ σ' H' ρ M, Inv X pins σ' H' s' ∧ Kp X.K H H' ∧ RhoR X.K σ' H' ρ ∧ HR X.K H' M ∧ W n ρ M) ?_ m0 ⟨σ, H, ρ0, M0, I, Kp.refl, hr0, hh0, w0⟩)
 rintro n s1 ⟨σ1, H1, ρ, M, I1, k1, hr, hh, w1⟩
 refine wpAny_passesOwn hp (thn (hc ρ M _ (turn n ρ M w1) pins s1 σ1 H1 (fun b H2 => ∃ M2, Kp X.K H1 H2 ∧ HR X.K H2 M2 ∧ (if b = true then tb { D with nx := fun ρ' M' => ∃ m', m' < n ∧ W m' ρ' M', ct := fun ρ' M' => ∃ m', m' < n ∧ W m' ρ' M', bk := D.nx } ρ M2 else D.nx ρ M2)) I1 ⟨hr, hh, fun b M2 H2 k2 h2 q2 => ⟨M2, k2, h2, q2⟩⟩) fun b s2 ⟨H2, I2, M2, k2, h2, q2⟩ => ?_)
 have kk := k1.trans k2
 cases b with
 | true =>
   rw [if_pos rfl] at q2
   rw [if_pos rfl]
   refine wpAny_passesOwn hp (thn (hb _ ρ M2 q2 pins s2 σ1 H2 { nx := fun σ' H' => ∃ ρ' M', Kp X.K H2 H' ∧ RhoR X.K σ' H' ρ' ∧ HR X.K H' M' ∧ ∃ m', m' < n ∧ W m' ρ' M', rt := D2.rt, bk := D2.nx, ct := fun σ' H' => ∃ ρ' M', Kp X.K H2 H' ∧ RhoR X.K σ' H' ρ' ∧ HR X.K H' M' ∧ ∃ m', m' < n ∧ W m' ρ' M' } I2
     ⟨hr.kp k2, h2, ⟨fun ρ' M' σ' H' k r hh' q => ⟨ρ', M', k, r, hh', q⟩, en.rt.kp kk, fun ρ' M' σ' H' k r hh' q => en.nx ρ' M' σ' H' (kk.trans k) r hh' q, fun ρ' M' σ' H' k r hh' q => ⟨ρ', M', k, r, hh', q⟩⟩⟩) fun f s3 q3 => ?_)
   cases f with
   | next =>
     obtain ⟨σ3, H3, I3, ρ', M', k3, r3, h3, m', hm, w3⟩ := q3
     exact ⟨m', hm, σ3, H3, ρ', M', I3, kk.trans k3, r3, h3, w3⟩
   | cont =>
     obtain ⟨σ3, H3, I3, ρ', M', k3, r3, h3, m', hm, w3⟩ := q3
     exact ⟨m', hm, σ3, H3, ρ', M', I3, kk.trans k3, r3, h3, w3⟩
   | brk => exact q3
   | ret v => exact q3
 | false =>
   rw [if_neg Bool.false_ne_true] at q2
   rw [if_neg Bool.false_ne_true]
   exact wpAny_execs_nil ⟨σ1, H2, I2, en.nx ρ M2 σ1 H2 kk (hr.kp k2) h2 q2⟩
noncomputable def pick3 (ix : List (Option Nat)) (ρ : En) : En := ix.map fun o => match o with | some j => (ρ[j]?).join | none => none
theorem rho_pick {K : PySem.W.Frag} {σ : St} {H : Hp} {ρ : En} (ix : List (Option Nat)) (h : RhoR K σ H ρ) : RhoR K (pick ix σ) H (pick3 ix ρ) := by
 refine ⟨by unfold pick pick3; simp, fun i t e => ?_⟩
 unfold pick3 at e
 unfold pick
 rw [List.getElem?_map] at e ⊢
 cases hx : ix[i]? with
 | none => rw [hx] at e; cases e
 | some o =>
   rw [hx] at e
   cases o with
   | none =>
     have e' : (none : Option T) = some t := Option.some.inj e
     cases e'
   | some j =>
     have e' : (ρ[j]?).join = some t := Option.some.inj e
     cases hj : ρ[j]? with
     | none => rw [hj] at e'; cases e'
     | some u =>
       rw [hj] at e'
       have e2 : u = some t := e'
       subst e2
       obtain ⟨v, a, b⟩ := h.2 j t hj
       exact ⟨v, by show some ((σ[j]?).join) = some (some v); rw [a] <;> rfl, b⟩
noncomputable def tComp3 (wi : TI3) (ix : List (Option Nat)) (g : TG3) (tt : TT3) (te : TE3) : TE3 := fun ρ M Q => wi ρ M fun J M1 => ∃ W : Nat → List T → MH → Prop, W 0 [] M1 ∧ (∀ i ys M, W i ys M → J.stay M) ∧ J.items.length < sizeLine ∧
 (∀ i x ys M, J.items[i]? = some x → W i ys M → g x (pick3 ix ρ) M fun ρ2 M2 => tt ρ2 M2 fun ok M3 => if ok = true then te ρ2 M3 fun y M4 => W (i + 1) (ys ++ [y]) M4 else W (i + 1) ys M3) ∧
 ∀ ys M, W J.items.length ys M → ∀ p, M p = none → Q (.adr p) (updM M p (.lst ys))
noncomputable def HTs (X : Cx) (ifs : List Expr) (t : TT3) : Prop := ∀ ρ M Q, t ρ M Q → PTs X ifs (bT X.K ρ M Q)
noncomputable def tYes3 : TT3 := fun _ M Q => Q true M
theorem ts_nil : HTs X [] tYes3 := fun ρ M Q h pins s σ H Q2 I ⟨hr, hh, en⟩ => pts_nil pins s σ H Q2 I (en true M H Kp.refl hh h)
theorem ts_one {c : Expr} {t : TT3} (h : HT X c t) : HTs X [c] t := fun ρ M Q q => pts_one (h ρ M Q q)
end
end L2
namespace L2
open PySem PySem.Spec PyProof.Rows
noncomputable def dEx (K : PySem.W.Frag) (t : TE3) : TE := fun σ H Q2 => ∃ ρ M Q, t ρ M Q ∧ bE K ρ M Q σ H Q2
noncomputable def dTx (K : PySem.W.Frag) (t : TT3) : TT := fun σ H Q2 => ∃ ρ M Q, t ρ M Q ∧ bT K ρ M Q σ H Q2
section
variable {X : Cx} {e : Expr}
theorem HE.dx {t : TE3} (h : HE X e t) : PE X e (dEx X.K t) := fun pins s σ H Q I ⟨ρ, M, Q3, q, b⟩ => h ρ M Q3 q pins s σ H Q I b
theorem HTs.dx {ifs : List Expr} {t : TT3} (h : HTs X ifs t) : PTs X ifs (dTx X.K t) := fun pins s σ H Q I ⟨ρ, M, Q3, q, b⟩ => h ρ M Q3 q pins s σ H Q I b
structure BTg (K : PySem.W.Frag) (ix : List (Option Nat)) (g2 : TG) (g3 : TG3) : Prop where
 own : Own ix g2
 br : ∀ (t : T) (v : V) (ρ : En) (M : MH) (σ : St) (H : Hp) (Q3 : En → MH → Prop) (Q2 : St → Hp → Prop), Rep K H v t → RhoR K σ H ρ → HR K H M → g3 t ρ M Q3 → EndG K H Q3 Q2 → g2 v σ H Q2
theorem bt_name {K : PySem.W.Frag} {ix : List (Option Nat)} {i : Nat} (h : ix[i]? = some none := by rfl) : BTg K ix (gName i) (gName3 i) :=
 ⟨own_name h, fun t v ρ M σ H Q3 Q2 r hr hh q en => en _ M _ H Kp.refl (hr.set i r) hh q⟩
variable {elt iter tg : Expr} {ifs : List Expr} {pos : Pos} {scope : Scope} {N' : List Str} {ix : List (Option Nat)} {wi : TI3} {g2 : TG} {g3 : TG3} {tt : TT3} {te : TE3}
theorem comp_red {X : Cx} {N' : List Str} {ix : List (Option Nat)} {wi : TI3} {g2 : TG} {g3 : TG3} {tt : TT3} {te : TE3} (bt : BTg X.K ix g2 g3) (ρ0 : En) (M0 : MH) (Q : VK3) (h : tComp3 wi ix g3 tt te ρ0 M0 Q) (σ0 : St) (H0 : Hp) (Q2 : VK) (bb : bE X.K ρ0 M0 Q σ0 H0 Q2) :
   tComp (dI X.K ρ0 wi) ix g2 (dTx X.K tt) (dEx X.K te) σ0 H0 Q2 := by
 obtain ⟨hr0, hh0, en⟩ := bb
 exact ⟨M0, _, h, hr0, hh0, fun J J2 M1 H1 k1 h1 ok q1 => by
   obtain ⟨W, w0, wst, hsz, turn, fin⟩ := q1
   refine ⟨fun i m ys H => m = J.items.length - i ∧ i ≤ J.items.length ∧ ys.length ≤ i ∧ Kp X.K H1 H ∧ ∃ ts M, Reps X.K H ys ts ∧ HR X.K H M ∧ W i ts M, ⟨_, rfl, Nat.zero_le _, Nat.zero_le _, Kp.refl, [], M1, .nil, h1, w0⟩, ?_⟩
   rintro i m ys H ⟨rfl, hi, hy, kk, ts, M, rts, hh, w⟩
   have st := wst i ts M w
   by_cases hlt : i < J.items.length
   · have e : J.items[i]? = some J.items[i] := List.getElem?_eq_getElem hlt
     obtain ⟨go, yl⟩ := ok.go i _ H M e kk hh st
     refine .inr ⟨go, by lia, fun v H' y => ?_⟩
     obtain ⟨k2, h2, r2⟩ := yl v H' y
     have kk2 := kk.trans k2
     refine bt.br J.items[i] v _ M _ H' _ _ r2 (rho_pick ix (hr0.kp (k1.trans kk2))) h2 (turn i _ ts M e w) fun ρ3 M3 σ3 H3 k3 hr3 hh3 q3 => ⟨ρ3, M3, _, q3, hr3, hh3, fun b M4 H4 k4 h4 q4 => ?_⟩
     have kk4 := kk2.trans (k3.trans k4)
     dsimp only at q4 ⊢
     cases b with
     | true =>
       rw [if_pos rfl] at q4 ⊢
       refine ⟨ρ3, M4, _, q4, hr3.kp k4, h4, fun t5 v5 M5 H5 k5 h5 r5 q5 => ⟨_, Nat.sub_lt_sub_left hlt (Nat.lt_succ_self i), rfl, hlt, ?_, kk4.trans k5, ts ++ [t5], M5, ?_, h5, q5⟩⟩
       · rw [List.length_append, List.length_singleton]; lia
       · exact (Reps.kp (k2.trans (k3.trans (k4.trans k5))) _ _ rts).append (.cons r5 .nil)
     | false =>
       rw [if_neg Bool.false_ne_true] at q4 ⊢
       exact ⟨_, Nat.sub_lt_sub_left hlt (Nat.lt_succ_self i), rfl, hlt, by lia, kk4, ts, M4, Reps.kp (k2.trans (k3.trans k4)) _ _ rts, h4, q4⟩
   · have e : i = J.items.length := by lia
     subst e
     refine .inl ⟨ok.stop H M kk hh st, by lia, fun p hp => ?_⟩
     exact en _ _ _ _ (k1.trans (kk.trans (Kp.new hp))) (hh.newL hp rts) rep_adr (fin ts M w p (hh.free hp))⟩
theorem h_comp (hc : X.calm = true) (hi : HI X tg iter wi) (S : BlkScope X N' ix scope) (bt : BTg X.K ix g2 g3) (hg : ∀ C s H fp pins, PG (blk X N' scope C s H fp pins) tg g2)
   (ht : ∀ C s H fp pins, HTs (blk X N' scope C s H fp pins) ifs tt) (he : ∀ C s H fp pins, HE (blk X N' scope C s H fp pins) elt te)
   (hs : ∀ x, foldedSetIterable iter X.env x = pure x := by intro _; rfl) :
   HE X (.ListComp elt [⟨tg, iter, ifs, 0⟩] scope pos) (tComp3 wi ix g3 tt te) := fun ρ0 M0 Q h =>
 (pe_comp (tt := dTx X.K tt) (te := dEx X.K te) hc (hi.d (ρ := ρ0)) S bt.own hg (fun C s H fp pins => (ht C s H fp pins).dx) (fun C s H fp pins => (he C s H fp pins).dx) hs).imp fun σ0 H0 Q2 bb => comp_red (X := X) (N' := N') bt ρ0 M0 Q h σ0 H0 Q2 bb
theorem s_setC {i : Nat} {x : Str} {pos' spos : Pos} (hc : X.calm = true) (hi : HI X tg iter wi) (S : BlkScope X N' ix scope) (bt : BTg X.K ix g2 g3) (hg : ∀ C s H fp pins, PG (blk X N' scope C s H fp pins) tg g2)
   (ht : ∀ C s H fp pins, HTs (blk X N' scope C s H fp pins) ifs tt) (he : ∀ C s H fp pins, HE (blk X N' scope C s H fp pins) elt te) (hN : X.N.Nodup) (hi' : X.N[i]? = some x := by rfl) (hx : Loc X.env.scope x := by first | exact Or.inl rfl | exact Or.inr rfl)
   (hsw : swapsWith (.ListComp elt [⟨tg, iter, ifs, 0⟩] scope pos) (some (.Name x pos')) spos.line X.env = pure true := by rfl)
   (hs : ∀ x, foldedSetIterable iter X.env x = pure x := by intro _; rfl) (hf : X.fn x = true ∨ X.env.scope.names.lookup x = some .local := by first | exact .inl rfl | exact .inr rfl | assumption) :
   HS X (.Assign [.Name x pos'] (.ListComp elt [⟨tg, iter, ifs, 0⟩] scope pos) spos) (tSet3 i (tComp3 wi ix g3 tt te)) := fun D ρ M h =>
 (ps_setC (tt := dTx X.K tt) (te := dEx X.K te) hN hi' hx hc (hi.d (ρ := ρ)) S bt.own hg (fun C s H fp pins => (ht C s H fp pins).dx) (fun C s H fp pins => (he C s H fp pins).dx) hsw hs hf).imp fun D2 σ H ⟨hr, hh, en⟩ =>
   comp_red (X := X) (N' := N') bt ρ M (fun x M1 => D.nx (ρ.set i (some x)) M1) h σ H _ ⟨hr, hh, fun t v M1 H1 k1 h1 r1 q1 => en.nx _ M1 _ H1 k1 ((hr.kp k1).set i r1) h1 q1⟩
noncomputable def start3 (N : List Str) (ts : List T) : En := ts.map some ++ List.replicate (N.length - ts.length) none
theorem rho_start {K : PySem.W.Frag} {H : Hp} {N : List Str} {vs : List V} {ts : List T} (r : Reps K H vs ts) : RhoR K (start N vs) H (start3 N ts) := by
 have hl := r.length
 refine ⟨by unfold start start3; simp [hl], fun i t e => ?_⟩
 unfold start3 at e
 unfold start
 by_cases hi : i < ts.length
 · rw [List.getElem?_append_left (by simpa using hi), List.getElem?_map] at e
   cases q : ts[i]? with
   | none => rw [q] at e; cases e
   | some u =>
     rw [q] at e
     cases e
     obtain ⟨v, a, b⟩ := r.get q
     refine ⟨v, ?_, b⟩
     rw [List.getElem?_append_left (by simpa [hl] using hi), List.getElem?_map, a]
     rfl
 · rw [List.getElem?_append_right (by simpa using hi), List.getElem?_replicate] at e
   split at e <;> cases e
noncomputable def rt3 (M : MH) (Q : VK3) : VK3 := fun t M' => ∃ M0, Sub M0 M' ∧ Q t M0
end
section
variable {P : Program} {w : World} {K : PySem.W.Frag} {mg : Str → Option Value} {base : Heap}
theorem Fun.fnk {x qual : Str} {st : Stmt} {f : Addr} {fd : FuncData} {N ps : List Str} {n : Nat} {sp : Sp3} (F : Fun K x qual st f fd) (S : FnScope N ps (defScope st)) (len : ∀ ts M Q, sp ts M Q → ts.length = ps.length)
   (hbody : ∃ t : TS3, (∀ (cdv : Value) (A : Around) (outer : List Env) (s : Shared) (H : Hp) (E : XK), Room n (A.deeper (envOfC qual (defScope st) s.heap.objs.size f cdv)) →
     HSs (cxOf CX0 P w K mg base N qual (defScope st) f cdv A outer s H E).nox (defBody st) t) ∧
     ∀ ts M Q, sp ts M Q → t { nx := fun _ M' => rt3 M Q .non M', rt := rt3 M Q } (start3 N ts) M) : FnOk P w K mg base CX0 (n + 1) f fd ps (dSp K sp) := by
 obtain ⟨t, hbody, rd⟩ := hbody
 refine F.ok S (fun vs H Q E ⟨ts, M, Q3, r, _, q, _⟩ => by rw [r.length]; exact len _ _ _ q) (fun cdv A outer s H vs Q E hr ⟨ts, M, Q3, r, hh, q, en⟩ => ?_)
 refine ⟨_, hbody cdv A outer s H E hr _ _ _ (rd ts M Q3 q), rho_start r, hh, ⟨?_, ?_, fun _ _ _ _ _ _ _ z => z.elim, fun _ _ _ _ _ _ _ z => z.elim⟩⟩
 · rintro ρ' M' σ' H' k hr' hh' ⟨M0, hs, q'⟩
   exact en .non .non M0 H' k (hh'.sub hs) rep_non q'
 · rintro t' v' M' H' k hh' r' ⟨M0, hs, q'⟩
   exact en t' v' M0 H' k (hh'.sub hs) r' q'
theorem Fun.dfn {x qual : Str} {st : Stmt} {f : Addr} {fd : FuncData} {N ps : List Str} {n : Nat} {sp : Sp3} (F : Fun K x qual st f fd) (hm : mg x = some (.ref f)) (hb : Binds K fd ps []) (S : FnScope N ps (defScope st)) (len : ∀ ts M Q, sp ts M Q → ts.length = ps.length)
   (hbody : ∃ t : TS3, (∀ (cdv : Value) (A : Around) (outer : List Env) (s : Shared) (H : Hp) (E : XK), Room n (A.deeper (envOfC qual (defScope st) s.heap.objs.size f cdv)) →
     HSs (cxOf CX0 P w K mg base N qual (defScope st) f cdv A outer s H E).nox (defBody st) t) ∧
     ∀ ts M Q, sp ts M Q → t { nx := fun _ M' => rt3 M Q .non M', rt := rt3 M Q } (start3 N ts) M) : Df P w K mg base (n + 1) x ps sp :=
 ⟨f, fd, F.fnk S len hbody, hm, F.kp, hb⟩
end
theorem law_walk {l : PySem.W.OpenLaw} {k : Nat} {q : Program} {loose : List Str} {XP : (Str → Option Value) → Heap → Prop} {YP : World → Heap → Prop} {d : DefRec} {K : Params → PySem.W.Frag} {sp : Sp3}
   (hn : l.most = some 63) (hdf : d.params.defaults = []) (hr : Room k callerA) (hY : ∀ (w : World) (h : Heap), YP w h → (K w.params).In h)
   (hs : ∀ (ns : List Int) M Q, ns.length ≤ 63 → Q (.bl true) M → sp [.rd (ns.map .int)] M Q)
   (F : ∀ (w : World) (mg : Str → Option Value) (fa : Addr) (h : Heap), (K w.params).In h → h.Ns mainGlobals mg → mg d.name = some (.ref fa) →
     ∃ fd : FuncData, (∀ (s : Shared) (u : Value), BindsTo s fd ⟨[u], []⟩ [("script", u)]) ∧ ∀ base : Heap, (K w.params).In base → base.Ns mainGlobals mg → FnOk l.prog w (K w.params) mg base CX0 k fa fd ["script"] (dSp (K w.params) sp)) :
   PySem.W.WalkO q loose XP YP l.row.toRowW d [] (fun f vs => PySem.call f vs) := by
 refine L2.walk_of (n := 63) (k := k) (x := "script") (CX := fun _ => CX0) (sp := fun w => dSp (K w.params) sp) hn (by decide) hdf hr hY F (fun w H a ns hl hO hS => ?_) fun _ _ _ _ _ z => z
 have fz : FzL (K w.params) H a (ns.map V.int) := by
   rcases hS with (h | ⟨o, h⟩) | h
   · rcases hO a with z | ⟨ob, xs, z⟩
     · rw [h] at z; cases z
     · rw [h] at z; cases z
   · exact .inl ⟨o, h⟩
   · exact .inr h
 refine ⟨[.rd (ns.map .int)], fun _ => none, fun t _ => t = .bl true, .cons ?_ .nil, (fun _ _ z => by cases z), hs ns _ (fun t _ => t = .bl true) hl rfl, fun t v M' H' _ _ r e => ?_⟩
 · unfold Rep
   exact ⟨a, _, rfl, fz, Reps.of_ints ns⟩
 · subst e
   exact inv_bl r
end L2
namespace L2
open PySem PySem.Spec PyProof.Rows
theorem vals_of_get : ∀ {xs : List V} {us : List Value}, xs.length = us.length → (∀ (j : Nat) x, xs[j]? = some x → ∃ u, us[j]? = some u ∧ RelV x u) → Vals xs us
 | [], [], _, _ => .nil
 | [], _ :: _, h, _ => by simp at h
 | _ :: _, [], h, _ => by simp at h
 | x :: xs, u :: us, h, g => by
   refine .cons ?_ (vals_of_get (by simpa using h) fun j y e => ?_)
   · obtain ⟨w, e, r⟩ := g 0 x rfl
     have : u = w := by simpa using e
     subst this; exact r
   · obtain ⟨w, e', r⟩ := g (j + 1) y (by simpa using e)
     exact ⟨w, by simpa using e', r⟩
noncomputable def rangeV (lo : Int) (n : Nat) : List V := (List.range n).map fun i => V.int (lo + (i : Nat))
theorem rangeV_reps {K : PySem.W.Frag} {H : Hp} (lo : Int) (n : Nat) : Reps K H (rangeV lo n) (rangeT lo n) := by
 have e1 : rangeV lo n = ((List.range n).map fun i => lo + ((i : Nat) : Int)).map V.int := by unfold rangeV; rw [List.map_map]; rfl
 have e2 : rangeT lo n = ((List.range n).map fun i => lo + ((i : Nat) : Int)).map T.int := by unfold rangeT; rw [List.map_map]; rfl
 rw [e1, e2]; exact Reps.of_ints _
section
variable {X : Cx} {a b e : Expr} {es : List Expr} {ta te : TE3} {t : TA3} {pos : Pos}
noncomputable def tLRng1 (t : TA3) : TE3 := fun ρ M Q => t ρ M fun xs M1 => match xs with
 | [.int j] => (-(2 ^ 62) ≤ j ∧ j < 2 ^ 24) ∧ ∀ p, M1 p = none → Q (.adr p) (updM M1 p (.lst (rangeT 0 j.toNat)))
 | _ => False
theorem h_listRange1 {t : TA3} {p p' pos' : Pos} (hm : X.mg "list" = none) (hm' : X.mg "range" = none) (ha : HA X [a] t) (hc : X.calm = true := by rfl) (hg : Gl X "list" := by rfl) (hg' : Gl X "range" := by rfl) (hs : starEach [a] X.env = [(false, eval a X.env)] := by rfl)
   (he : starEach [.Call (.Name "range" p') [a] [] pos'] X.env = (false, eval (.Call (.Name "range" p') [a] [] pos') X.env) :: starEach [] X.env := by rfl) :
   HE X (.Call (.Name "list" p) [.Call (.Name "range" p') [a] [] pos'] [] pos) (tLRng1 t) := by
 intro ρ M Q h pins s σ H Q2 I bb
 obtain ⟨hr, hh, en⟩ := bb
 refine wpAny_Call_Name_kw (ld_blt I hg hm boot_list ?_ (by decide) (by decide))
 refine PyProof.Rows.callWith_type1 ?_ he rfl
 rw [he]
 refine Calls.spliced_cons ?_
 refine Call_ (ld_blt I hg' hm' boot_range (PyProof.Rows.callWith_type1 (thn (ha ρ M _ h pos' pins s σ H (fun vs H1 => ∃ j M1, vs = [V.int j] ∧ HR X.K H1 M1 ∧ Kp X.K H H1 ∧ (-(2 ^ 62) ≤ j ∧ j < 2 ^ 24) ∧ ∀ p, M1 p = none → Q (.adr p) (updM M1 p (.lst (rangeT 0 j.toNat)))) I
   ⟨hr, hh, fun ts vs M1 H1 k1 h1 r1 q1 => by
     dsimp only at q1
     split at q1
     · rename_i j
       obtain ⟨v, rfl, rv⟩ := reps1 r1
       obtain rfl := inv_int rv
       exact ⟨j, M1, rfl, h1, k1, q1.1, q1.2⟩
     · exact q1.elim⟩) fun us s1 ⟨vs, H1, I1, rv, j, M1, e1, h1, k1, hj, q1⟩ => ?_) hs rfl))
 subst e1
 obtain ⟨u, rfl, t', rfl⟩ := vals1 rv
 refine call_range_1 (Calls.spliced_nil ?_)
 have I2 : Inv X pins σ H1 { s1 with heap := s1.heap.push { cls := .type "range", data := .fields #[.int 0 s1.toks, .int j t', .int 1 (s1.toks + 1)] }, toks := s1.toks + 2 } := I1.kept fun b o e => Heap.get?_push_of_some _ e
 have hn : Builtin.Range.rangeSize 0 j 1 = ((j.toNat : Nat) : Int) := by rw [rangeSize_one]; split <;> lia
 refine call_list_range (I1.ok.hd hc) (IsRange.new ..) (small_one (by lia) (by lia) (by lia) (by lia)) hn (by lia) fun h' tk acc' c' kp e ito => ?_
 have hz : j.toNat ≤ sizeLine := by rw [sizeLine_eq]; lia
 have vr : Vals (rangeV 0 j.toNat) acc'.toList := by
   refine vals_of_get (by unfold rangeV; simp [ito.1]) fun i x ex => ?_
   have hi : i < j.toNat := by have := (List.getElem?_eq_some_iff.mp ex).1; simpa [rangeV] using this
   have hi' : i < acc'.size := by rw [ito.1]; exact hi
   have ea : acc'[i]? = some acc'[i] := Array.getElem?_eq_getElem hi'
   obtain ⟨tt, et⟩ := ito.2 i _ ea
   refine ⟨acc'[i], by rw [Array.getElem?_toList]; exact ea, ?_⟩
   unfold rangeV at ex
   rw [List.getElem?_map, List.getElem?_range hi] at ex
   have := Option.some.inj ex
   subst this
   exact ⟨tt, by rw [et, Int.mul_one]⟩
 have I3 := I2.laid (a := { s1 with heap := s1.heap.push { cls := .type "range", data := .fields #[.int 0 s1.toks, .int j t', .int 1 (s1.toks + 1)] }, toks := s1.toks + 2 }.heap.objs.size) (o := .lst (rangeV 0 j.toNat)) (t' := tk) kp (Nat.le_refl _)
   (show ObjOk X.prog X.w _ h' _ (.lst (rangeV 0 j.toNat)) from ⟨by unfold rangeV; simpa using hz, acc'.toList, c', vr, by simpa using e⟩)
 have hf := I2.hok.fresh (Nat.le_refl _)
 exact ⟨.ref _, _, I3, rfl, en _ _ _ _ (k1.trans (Kp.new hf)) (h1.newL hf (rangeV_reps 0 j.toNat)) rep_adr (q1 _ (h1.free hf))⟩
noncomputable def isLst (M : MH) (x : T) : Prop := match x with
 | .adr p => (match M p with | some (.lst _) => True | _ => False)
 | _ => False
noncomputable abbrev RM3 := T → List T → MH → VK3 → Prop
noncomputable def dM (K : PySem.W.Frag) (r : RM3) : V → List V → Hp → VK → Prop := fun v vs H Q2 => ∃ x xs M Q, Rep K H v x ∧ Reps K H vs xs ∧ HR K H M ∧ r x xs M Q ∧ EndE K H Q Q2
noncomputable def MtR3 (X : Cx) (id : String) (r : RM3) : Prop := MtR X id (dM X.K r)
noncomputable def tLM3 (r : RM3) (to : TE3) (t : TA3) : TE3 := fun ρ M Q => to ρ M fun x M1 => isLst M1 x ∧ t ρ M1 fun xs M2 => r x xs M2 Q
theorem isLst_ty {K : PySem.W.Frag} {H : Hp} {M : MH} {x : T} {v : V} (hh : HR K H M) (r : Rep K H v x) (h : isLst M x) : tyV K "list" v H := by
 unfold isLst at h
 split at h
 · rename_i p
   split at h
   · rename_i ts e
     obtain ⟨xs, g1, _⟩ := hh _ _ e
     obtain rfl := inv_adr r
     exact .inl ⟨rfl, xs, SqL.of g1⟩
   · exact h.elim
 · exact h.elim
theorem h_lm {o : Expr} {to : TE3} {name : Str} {apos cpos : Pos} {id : String} {r : RM3} (slot : Slot "list" name id) (hty : typeOf (.builtin id) = pure (.type "method_descriptor")) (hm : MtR3 X id r) (ho : HE X o to) (ha : HA X (e :: es) t)
   (hbase : attributeBase o name X.env (eval o X.env) = eval o X.env := by rfl)
   (hfew : ((backTo cpos (starEach (e :: es) X.env)).all (fun x => !x.1) && (backToKw cpos (keywordEach [] X.env)).all (fun x => x.1.isSome)
     && decide ((e :: es).length + ([] : List Keyword).length + (if ([] : List Keyword).isEmpty then 0 else 1) < 30)) = true := by rfl)
   (hline : (apos.endLine == cpos.line) = true := by rfl) (hs : starEach (e :: es) X.env = (false, eval e X.env) :: starEach es X.env := by rfl) (hplain : (backTo cpos (starEach es X.env)).any (·.1) = false := by rfl) :
   HE X (.Call (.Attribute o name apos) (e :: es) [] cpos) (tLM3 r to t) := fun ρ M Q h =>
 (pe_bm PySem.F.plainAttrs_list slot hty hm (ho.d (ρ := ρ)) (ha.d (ρ := ρ)) hbase hfew hline hs hplain).imp fun σ H Q2 ⟨hr, hh, en⟩ => ⟨M, _, h, hr, hh, fun x v M1 H1 k1 h1 r1 q1 => ⟨isLst_ty h1 r1 q1.1, M1, _, q1.2, hr.kp k1, h1, fun ts vs M2 H2 k2 h2 r2 q2 =>
   ⟨x, ts, M2, Q, Rep.kp k2 _ _ r1, r2, h2, q2, en.kp (k1.trans k2)⟩⟩⟩
noncomputable def rApp3 : RM3 := fun x xs M Q => match x, xs with
 | .adr p, [y] => (match M p with | some (.lst ts) => ts.length < sizeLine ∧ Q .non (updM M p (.lst (ts ++ [y]))) | _ => False)
 | _, _ => False
theorem mt3_append : MtR3 X "list.append" rApp3 := by
 intro pins s σ H v vs u us Q2 I rv rvs h
 obtain ⟨x, xs, M, Q, r1, r2, hh, q, en⟩ := h
 unfold rApp3 at q
 split at q
 · rename_i p y
   split at q
   · rename_i ts e0
     obtain ⟨ys, g1, g2⟩ := hh _ _ e0
     obtain rfl := inv_adr r1
     obtain ⟨w, rfl, rw'⟩ := reps1 r2
     exact mt_append pins s σ H _ _ u us Q2 I rv rvs ⟨_, ys, w, rfl, rfl, g1, by rw [g2.length]; exact q.1, en _ _ _ _ (Kp.lst g1) (hh.setL g1 (g2.append (.cons rw' .nil))) rep_non q.2⟩
   · exact q.elim
 · exact q.elim
noncomputable def intsT : List T → Option (List Int)
 | [] => some []
 | .int i :: ts => (intsT ts).map (i :: ·)
 | _ :: _ => none
theorem intsT_map : ∀ (ns : List Int), intsT (ns.map T.int) = some ns
 | [] => rfl
 | n :: ns => by show (intsT (ns.map T.int)).map (n :: ·) = _; rw [intsT_map ns]; rfl
theorem intsT_some : ∀ {ts : List T} {ns : List Int}, intsT ts = some ns → ts = ns.map T.int
 | [], ns, e => by unfold intsT at e; cases e; rfl
 | t :: ts, ns, e => by
   cases t with
   | int i =>
     unfold intsT at e
     cases q : intsT ts with
     | none => rw [q] at e; cases e
     | some cs => rw [q] at e; cases e; rw [intsT_some q]; rfl
   | _ => unfold intsT at e; cases e
noncomputable def rIndex3 : RM3 := fun x xs M Q => match x, xs with
 | .adr p, [.int k] => (match M p with
   | some (.lst ts) => (match intsT ts with | some ns => k ∈ ns ∧ Q (.int (ns.idxOf k)) M | none => False)
   | _ => False)
 | _, _ => False
theorem mt3_index : MtR3 X "list.index" rIndex3 := by
 intro pins s σ H v vs u us Q2 I rv rvs h
 obtain ⟨x, xs, M, Q, r1, r2, hh, q, en⟩ := h
 unfold rIndex3 at q
 split at q
 · rename_i p k
   split at q
   · rename_i ts e0
     obtain ⟨ys, g1, g2⟩ := hh _ _ e0
     obtain rfl := inv_adr r1
     obtain ⟨w, rfl, rw'⟩ := reps1 r2
     obtain rfl := inv_int rw'
     split at q
     · rename_i ns en'
       have et := intsT_some en'
       subst et
       obtain rfl := g2.ints
       cases rv
       obtain ⟨w', rfl, tk, rfl⟩ := vals1 rvs
       obtain ⟨its, r', pl, hz⟩ := I.list (SqL.of g1)
       have hl := r'.length
       rw [List.length_map] at hl hz
       obtain ⟨o, n, eo, ec, edd, ed⟩ := id pl
       obtain ⟨cls, dd, data, sl⟩ := o
       simp only at ec edd ed
       subst ec edd ed
       have hk : ns.idxOf k < ns.length := List.idxOf_lt_length_iff.mpr q.1
       have item : ∀ (j : Nat) (hj : j < its.toArray.size), ∃ tk', its.toArray[j] = Value.int (ns[j]'(by rw [List.size_toArray, ← hl] at hj; exact hj)) tk' := fun j hj => by
         have hj' : j < ns.length := by rw [List.size_toArray, ← hl] at hj; exact hj
         obtain ⟨w2, e2, tk', rfl⟩ := r'.get (i := j) (x := V.int ns[j]) (by rw [List.getElem?_map, List.getElem?_eq_getElem hj'] <;> rfl)
         have : its[j]? = some its.toArray[j] := by rw [List.getElem?_eq_getElem (by rw [List.size_toArray] at hj; exact hj)] <;> simp
         rw [e2] at this
         exact ⟨tk', (Option.some.inj this).symm⟩
       let ee : Value → Bool := fun v => match v with | .int i _ => i == k | _ => false
       have hsz := sizeLine_eq
       refine call_meets PySem.F.slot_list_index ⟨_, eo, rfl⟩ PySem.F.entry_list_index (PySem.F.args_list_index_2 _ _)
         (SeqAt.list_indexAt p its.toArray n none sl (.int k tk) ee (ns.idxOf k) (by rw [List.size_toArray, ← hl]; exact hk) (by lia) ?_ ?_) ⟨eo, fun y hy => ?_, ?_⟩
       · obtain ⟨tk', e⟩ := item (ns.idxOf k) (by rw [List.size_toArray, ← hl]; exact hk)
         rw [e]
         show (ns[ns.idxOf k] == k) = true
         simp
       · intro m hm hlt
         obtain ⟨tk', e⟩ := item m hm
         rw [e]
         show (ns[m]'_ == k) = false
         have := List.not_of_lt_findIdx (p := (· == k)) (xs := ns) (i := m) (by simpa [List.idxOf] using hlt)
         simpa using this
       · obtain ⟨j, hj, rfl⟩ := Array.getElem_of_mem hy
         obtain ⟨tk', e⟩ := item j hj
         rw [e]
         exact SeqAt.EqAt.int_int _ _ _ _
       · exact ⟨.int (ns.idxOf k), H, I.tok _, ⟨_, rfl⟩, en _ _ M H Kp.refl hh rep_int q.2⟩
     · exact q.elim
   · exact q.elim
 · exact q.elim
theorem h_m_append {o : Expr} {to : TE3} {apos cpos : Pos} (ho : HE X o to) (ha : HA X (e :: es) t)
   (hbase : attributeBase o "append" X.env (eval o X.env) = eval o X.env := by rfl)
   (hfew : ((backTo cpos (starEach (e :: es) X.env)).all (fun x => !x.1) && (backToKw cpos (keywordEach [] X.env)).all (fun x => x.1.isSome)
     && decide ((e :: es).length + ([] : List Keyword).length + (if ([] : List Keyword).isEmpty then 0 else 1) < 30)) = true := by rfl)
   (hline : (apos.endLine == cpos.line) = true := by rfl) (hs : starEach (e :: es) X.env = (false, eval e X.env) :: starEach es X.env := by rfl) (hplain : (backTo cpos (starEach es X.env)).any (·.1) = false := by rfl) :
   HE X (.Call (.Attribute o "append" apos) (e :: es) [] cpos) (tLM3 rApp3 to t) := h_lm PySem.F.slot_list_append PySem.F.type_list_append mt3_append ho ha hbase hfew hline hs hplain
end
end L2
namespace LM
noncomputable def LetOK (n l : Int) : Prop := 1 ≤ (l.natAbs : Int) ∧ (l.natAbs : Int) < n
noncomputable def WordOK (n : Int) (w : List Int) : Prop := ∀ l ∈ w, LetOK n l
noncomputable def isLet (n l : Int) : Bool := decide (1 ≤ l.natAbs) && decide ((l.natAbs : Int) < n)
noncomputable def isPl (n : Int) (w : List Int) : Bool := decide (1 ≤ n) && decide (n ≤ 6) && decide (w.length ≤ 16) && w.all (isLet n)
noncomputable def PlOK (n : Int) (w : List Int) : Prop := 1 ≤ n ∧ n ≤ 6 ∧ w.length ≤ 16 ∧ WordOK n w
theorem isLet_iff {n l : Int} : isLet n l = true ↔ LetOK n l := by
 unfold isLet LetOK
 simp only [Bool.and_eq_true, decide_eq_true_eq]
 lia
theorem PlOK.is {n : Int} {w : List Int} (h : PlOK n w) : isPl n w = true := by
 obtain ⟨h1, h2, h3, h4⟩ := h
 unfold isPl
 simp only [Bool.and_eq_true, decide_eq_true_eq, List.all_eq_true]
 exact ⟨⟨⟨h1, h2⟩, h3⟩, fun l hl => isLet_iff.mpr (h4 l hl)⟩
theorem isPl_iff {n : Int} {w : List Int} : isPl n w = true ↔ PlOK n w := by
 refine ⟨fun h => ?_, PlOK.is⟩
 unfold isPl at h
 simp only [Bool.and_eq_true, decide_eq_true_eq, List.all_eq_true] at h
 exact ⟨h.1.1.1, h.1.1.2, h.1.2, fun l hl => isLet_iff.mp (h.2 l hl)⟩
theorem WordOK.nil {n : Int} : WordOK n [] := fun _ z => nomatch z
theorem take_succ_map {α β : Type} (f : α → β) {L : List α} {i : Nat} {x : α} (h : L[i]? = some x) : (L.take i).map f ++ [f x] = (L.take (i + 1)).map f := by
 rw [List.take_add_one, h]; simp
theorem get_map_int {α β : Type} {f : α → β} {L : List α} {i : Nat} {y : β} (h : (L.map f)[i]? = some y) : ∃ x, L[i]? = some x ∧ f x = y := by
 rw [List.getElem?_map] at h
 cases q : L[i]? with
 | none => rw [q] at h; cases h
 | some x => rw [q] at h; exact ⟨x, rfl, Option.some.inj h⟩
noncomputable def range0 (n : Int) : List Int := (List.range n.toNat).map fun i => ((i : Nat) : Int)
theorem range0_length (n : Int) : (range0 n).length = n.toNat := by unfold range0; simp
theorem mem_range0 {n s : Int} (h : s ∈ range0 n) : 0 ≤ s ∧ s < n := by
 unfold range0 at h
 obtain ⟨i, hi, rfl⟩ := List.mem_map.mp h
 have := List.mem_range.mp hi
 lia
theorem range0_nodup (n : Int) : (range0 n).Nodup := by
 unfold range0
 refine List.Pairwise.map _ (fun (a b : Nat) (h : a ≠ b) => ?_) List.nodup_range
 show (a : Int) ≠ (b : Int)
 lia
theorem WordOK.map {n : Int} {w : List Int} {f : Int → Int} (hf : ∀ l, LetOK n l → LetOK n (f l)) (h : WordOK n w) : WordOK n (w.map f) := fun l hl => by
 obtain ⟨k, hk, rfl⟩ := List.mem_map.mp hl
 exact hf k (h k hk)
theorem PlOK.map {n : Int} {w : List Int} {f : Int → Int} (hf : ∀ l, LetOK n l → LetOK n (f l)) (h : PlOK n w) : PlOK n (w.map f) := ⟨h.1, h.2.1, by rw [List.length_map]; exact h.2.2.1, h.2.2.2.map hf⟩
theorem range0_mem {n s : Int} (h0 : 0 ≤ s) (h1 : s < n) : s ∈ range0 n := by
 unfold range0
 exact List.mem_map.mpr ⟨s.toNat, List.mem_range.mpr (by lia), by lia⟩
end LM
namespace LM
end LM
namespace LM
end LM
namespace LM
end LM
namespace LM
end LM
namespace LM
end LM
namespace L2
open PySem PySem.Spec PyProof.Rows LM
theorem start3_cons (x : Str) (N : List Str) (t : T) (ts : List T) : start3 (x :: N) (t :: ts) = some t :: start3 N ts := by
 unfold start3
 simp only [List.map_cons, List.length_cons, Nat.add_sub_add_right, List.cons_append]
theorem start3_none (x : Str) (N : List Str) : start3 (x :: N) [] = none :: start3 N [] := by
 unfold start3
 simp only [List.map_nil, List.length_cons, List.length_nil, Nat.sub_zero, List.nil_append, List.replicate_succ]
theorem start3_nil : start3 [] [] = [] := rfl
theorem pick3_none (ix : List (Option Nat)) (ρ : En) : pick3 (none :: ix) ρ = none :: pick3 ix ρ := rfl
theorem pick3_some (j : Nat) (ix : List (Option Nat)) (ρ : En) : pick3 (some j :: ix) ρ = (ρ[j]?).join :: pick3 ix ρ := rfl
theorem pick3_nil (ρ : En) : pick3 [] ρ = [] := rfl
theorem join_some {α : Type} (a : Option α) : (some a).join = a := rfl
theorem rt3_here {M : MH} {Q : VK3} {t : T} {M' : MH} (h : Q t M') : rt3 M Q t M' := ⟨M', Sub.refl, h⟩
theorem atI_0 {α : Type} (x : α) (xs : List α) : atI (x :: xs) 0 = some x := by
 have := atI_nat (xs := x :: xs) (j := 0) (v := x) rfl
 simpa using this
theorem atI_1 {α : Type} (x y : α) (xs : List α) : atI (x :: y :: xs) 1 = some y := by
 have := atI_nat (xs := x :: y :: xs) (j := 1) (v := y) rfl
 simpa using this
theorem atI_2 {α : Type} (x y z : α) (xs : List α) : atI (x :: y :: z :: xs) 2 = some z := by
 have := atI_nat (xs := x :: y :: z :: xs) (j := 2) (v := z) rfl
 simpa using this
theorem ixN_0 (n : Nat) : ixN (n + 1) 0 = some 0 := by
 unfold ixN
 rw [if_pos (by lia), if_pos (by lia)]; rfl
theorem updM_updM {M : MH} {a : Addr} {o u : MO} : updM (updM M a o) a u = updM M a u := by
 funext b; unfold updM; split <;> rfl
theorem atI_ints (ns : List Int) (i : Int) (h0 : 0 ≤ i) (h : i < ns.length) : atI (ns.map T.int) i = some (.int (ns.getD i.toNat 0)) := by
 have e : i = ((i.toNat : Nat) : Int) := by lia
 have hl : i.toNat < ns.length := by lia
 have := atI_nat (xs := ns.map T.int) (j := i.toNat) (v := .int (ns.getD i.toNat 0)) (by
   rw [List.getElem?_map, List.getElem?_eq_getElem hl]
   simp [List.getD, List.getElem?_eq_getElem hl])
 rw [← e] at this
 exact this
theorem bools_map (bs : List Bool) : bools (bs.map T.bl) = some bs := by
 induction bs with
 | nil => rfl
 | cons b bs ih => show (bools (bs.map T.bl)).map (b :: ·) = _; rw [ih]; rfl
theorem pureTs_ints (ns : List Int) : pureTs (ns.map T.int) = true := by
 induction ns with
 | nil => rfl
 | cons n ns ih => show (pureT (.int n) && pureTs (ns.map T.int)) = true; rw [ih]; rfl
theorem depTs_ints (ns : List Int) : depTs (ns.map T.int) = 0 := by
 induction ns with
 | nil => rfl
 | cons n ns ih => show max (depT (.int n)) (depTs (ns.map T.int)) = 0; rw [ih]; rfl
theorem eqTs_ints (a b : List Int) : eqTs (a.map T.int) (b.map T.int) = decide (a = b) := by
 induction a generalizing b with
 | nil => cases b <;> simp [eqTs]
 | cons x a ih =>
   cases b with
   | nil => simp [eqTs]
   | cons y b =>
     show (eqT (.int x) (.int y) && eqTs (a.map T.int) (b.map T.int)) = _
     rw [ih]
     have : eqT (.int x) (.int y) = (x == y) := rfl
     rw [this]
     by_cases h1 : x = y <;> by_cases h2 : a = b <;> simp [h1, h2]
theorem eqT_tup (a b : List T) : eqT (.tup a) (.tup b) = eqTs a b := rfl
theorem eqT_int (a b : Int) : eqT (.int a) (.int b) = decide (a = b) := by
 show (a == b) = _
 by_cases h : a = b <;> simp [h]
theorem eqTs_cons (x y : T) (a b : List T) : eqTs (x :: a) (y :: b) = (eqT x y && eqTs a b) := rfl
theorem eqTs_nil : eqTs [] [] = true := rfl
theorem pureTs_cons (x : T) (a : List T) : pureTs (x :: a) = (pureT x && pureTs a) := rfl
theorem pureTs_nil : pureTs [] = true := rfl
theorem pureT_int (i : Int) : pureT (.int i) = true := rfl
theorem pureT_bl (i : Bool) : pureT (.bl i) = true := rfl
theorem pureT_tup (i : List T) : pureT (.tup i) = pureTs i := rfl
theorem depT_int (i : Int) : depT (.int i) = 0 := rfl
theorem depT_bl (i : Bool) : depT (.bl i) = 0 := rfl
theorem depT_tup (i : List T) : depT (.tup i) = depTs i + 1 := rfl
theorem depTs_cons (x : T) (a : List T) : depTs (x :: a) = max (depT x) (depTs a) := rfl
theorem depTs_nil : depTs [] = 0 := rfl
theorem updM_self {M : MH} {p : Addr} {o : MO} (h : M p = some o) : updM M p o = M := by
 funext b; unfold updM; split
 · rename_i e; rw [e, h]
 · rfl
theorem Sub.set {M M' : MH} {p : Addr} {o u : MO} (h : Sub (updM M p o) M') : Sub (updM M p u) (updM M' p u) := fun a v e => by
 by_cases ha : a = p
 · subst ha; rw [updM_same] at e ⊢; exact e
 · rw [updM_ne ha] at e ⊢
   exact h a v (by rw [updM_ne ha]; exact e)
theorem Sub.newr {M M' : MH} {r : Addr} {o : MO} (h : Sub M M') (hr : M' r = none) : Sub M (updM M' r o) := h.trans (Sub.new hr)
theorem rt3_sub {M : MH} {Q : VK3} {t : T} {M0 M' : MH} (h : Q t M0) (s : Sub M0 M') : rt3 M Q t M' := ⟨M0, s, h⟩
theorem ixN_nat {n : Nat} {k : Int} (h0 : 0 ≤ k) (h : k < n) : ixN n k = some k.toNat := by
 unfold ixN
 rw [if_pos h0, if_pos h]
theorem rangeT_length (a : Int) (n : Nat) : (rangeT a n).length = n := by unfold rangeT; simp
theorem Sub.updF {M M' : MH} {p : Addr} {o : MO} (h : Sub M M') (hp : M p = none) : Sub M (updM M' p o) := fun a v e => by
 have ha : a ≠ p := by rintro rfl; rw [hp] at e; cases e
 rw [updM_ne ha]; exact h a v e
end L2
namespace L2
open PySem PySem.Spec PyProof.Rows
section
variable {prog : Program} {w : World} {A : Around} {E : Value → Shared → Prop} {s : Shared}
end
section
variable {X : Cx}
end
theorem line_len {n : Nat} (h : n < 10000) : n < sizeLine := Nat.lt_of_le_of_lt (by lia : n ≤ 10000) (by decide)
theorem line_len' {n : Nat} (h : n < 10000) : n ≤ sizeLine := Nat.le_of_lt (line_len h)
end L2
namespace HT
open PySem PySem.Spec PyProof.Rows
section
variable {prog : Program} {w : World} {A : Around} {E : Value → Shared → Prop} {s : Shared}
theorem getItem_tuple_all {t sl : Addr} {items : Array Value} {vl vu : Value} {lo hi : Option Int} {Q : Value → Shared → Prop} (ht : IsTup s.heap t items) (hs : s.heap.IsSliceOf sl vl vu .none) (pl : IsPart vl lo) (pu : IsPart vu hi)
   (hw : sIx items.size 0 lo = 0 ∧ sIx items.size items.size hi = items.size) (h : Q (.ref t) s)
   (hsz : items.size ≤ sizeLine) : wpAny (model prog w) A (getItem (.ref t) (.ref sl)) Q E s := by
 obtain ⟨os, hos, hcs, hds⟩ := id hs
 have hTs : s.TypeIs (.ref sl) "slice" := ⟨os, hos, hcs⟩
 unfold getItem
 try with_reducible refine wpAny_holding ?_
 first | refine wpAny_bind (wpAny_pure ?_) | skip
 refine wpAny_bind (wpAny_sequenceKey ht.typeIs (by decide) ?_)
 refine wpAny_bind (wpAny_callSpecial?_slot (name := Str.ofString "__getitem__") ht.typeIs PyProof.Rows.slot_tuple_getitem
   (wpAny_call_entry PyProof.Rows.slot_tuple_getitem ht.typeIs entry_tuple_getitem ?_ (args_tuple_getitem _ _)))
 show wpAny _ _ (Builtin.Tuple.tupleItemsOf (.ref t) >>= _) _ _ s
 refine wpAny_bind (tupleItemsOf_ ht ?_)
 refine wpAny_bind (wpAny_typeOf hTs ?_)
 rw [if_pos (by decide)]
 refine wpAny_bind (sliceApplied_gen hs pl pu ?_)
 have hyes : (((sIx items.size 0 lo : Nat) : Int) == 0 && (1 : Int) == 1 && (sIx items.size items.size hi - sIx items.size 0 lo) == items.size) = true := by
   rw [hw.1, hw.2]
   simp
 show wpAny _ _ (if (((sIx items.size 0 lo : Nat) : Int) == 0 && (1 : Int) == 1 && (sIx items.size items.size hi - sIx items.size 0 lo) == items.size) = true then _ else _) _ _ s
 rw [if_pos hyes]
 refine wpAny_bind (m := Builtin.Tuple.tupleIsExact (.ref t)) (wpAny_bind (wpAny_typeOf ht.typeIs (wpAny_pure ?_)))
 rw [if_pos (by decide)]
 refine wpAny_bind (wpAny_rule ?_)
 first
   | exact wpAny_pure ⟨_, rfl, wpAny_pure h⟩
   | exact wpAny_bind (wpAny_pure (wpAny_pure ⟨_, rfl, wpAny_pure h⟩))
end
end HT
namespace L2
open PySem PySem.Spec PyProof.Rows
section
variable {X : Cx}
noncomputable def cutT (xs : List T) (lo hi : Option Int) : List T := (xs.drop (HT.sIx xs.length 0 lo)).take (HT.sIx xs.length xs.length hi - HT.sIx xs.length 0 lo)
noncomputable def rSlT' (K : PySem.W.Frag) : V → Option Int → Option Int → Hp → VK → Prop := fun x lo hi H Q => ∃ a xs, x = .ref a ∧ SqT K H a xs ∧
 ∀ p H', SqT K H' p (cutV xs lo hi) → (H' = H ∨ H p = none ∧ H' = upd H p (.tup (cutV xs lo hi))) → Q (.ref p) H'
theorem sl_tup' : SlR X (rSlT' X.K) := by
 intro pins s σ H x v vl vu lo hi sl Q I rx hs pl pu h
 obtain ⟨a, xs, rfl, hx, q⟩ := h
 by_cases hw : HT.sIx xs.length 0 lo = 0 ∧ HT.sIx xs.length xs.length hi = xs.length
 · cases rx
   obtain ⟨its, r, ht, hz⟩ := I.tuple hx
   have hlen : its.toArray.size = xs.length := by rw [List.size_toArray]; exact r.length.symm
   refine ⟨"tuple", _, PyProof.Rows.slot_tuple_getitem.lookup, ht.typeIs, ?_⟩
   refine HT.getItem_tuple_all ht hs pl pu (by rw [hlen]; exact hw) ?_ (by rw [hlen]; exact hz)
   have e : cutV xs lo hi = xs := by
     unfold cutV
     rw [hw.1, hw.2]
     simp
   exact ⟨.ref a, H, I, rfl, q a H (by rw [e]; exact hx) (.inl rfl)⟩
 · exact sl_tup pins s σ H _ v vl vu lo hi sl Q I rx hs pl pu ⟨a, xs, rfl, hx, hw, fun p hp => q p _ (SqT.of upd_same) (.inr ⟨hp, rfl⟩)⟩
theorem Reps.cut {K : PySem.W.Frag} {H : Hp} {xs : List V} {ts : List T} (r : Reps K H xs ts) (lo hi : Option Int) : Reps K H (cutV xs lo hi) (cutT ts lo hi) := by
 unfold cutV cutT
 rw [r.length]
 exact (r.drop _).take _
noncomputable abbrev TO3 := En → MH → (Option Int → MH → Prop) → Prop
noncomputable def HPo (X : Cx) (e : Option Expr) (t : TO3) : Prop := ∀ ρ M Q, t ρ M Q → PO X e (fun σ H Q2 => RhoR X.K σ H ρ ∧ HR X.K H M ∧ ∀ o M' H', Kp X.K H H' → HR X.K H' M' → Q o M' → Q2 o H')
noncomputable def dPo (K : PySem.W.Frag) (ρ : En) (t : TO3) : TO := fun σ H Q2 => ∃ M Q, t ρ M Q ∧ RhoR K σ H ρ ∧ HR K H M ∧ ∀ o M' H', Kp K H H' → HR K H' M' → Q o M' → Q2 o H'
theorem HPo.d {e : Option Expr} {t : TO3} {ρ : En} (h : HPo X e t) : PO X e (dPo X.K ρ t) := fun pins s σ H Q I ⟨M, Q3, q, b⟩ => h ρ M Q3 q pins s σ H Q I b
theorem PO.imp {e : Option Expr} {w w' : TO} (h : PO X e w) (f : ∀ σ H Q, w' σ H Q → w σ H Q) : PO X e w' := fun pins s σ H Q I q => h pins s σ H Q I (f σ H Q q)
noncomputable def tNo3 : TO3 := fun ρ M Q => Q none M
noncomputable def tPt3 (t : TE3) : TO3 := fun ρ M Q => t ρ M fun x M1 => match x with
 | .int i => Q (some i) M1
 | _ => False
theorem o_none : HPo X none tNo3 := fun ρ M Q h => po_none.imp fun σ H Q2 ⟨hr, hh, en⟩ => en _ _ _ Kp.refl hh h
theorem o_some {e : Expr} {t : TE3} (he : HE X e t) : HPo X (some e) (tPt3 t) := fun ρ M Q h => (po_some (he.d (ρ := ρ))).imp fun σ H Q2 ⟨hr, hh, en⟩ =>
 ⟨M, _, h, hr, hh, fun x v M1 H1 k1 h1 r1 q1 => by
   dsimp only at q1
   split at q1
   · obtain rfl := inv_int r1
     exact ⟨_, rfl, en _ _ _ k1 h1 q1⟩
   · exact q1.elim⟩
noncomputable def rSlS : V → Option Int → Option Int → Hp → VK → Prop := fun x lo hi H Q => ∃ z, x = .str z ∧ z.length ≤ sizeLine ∧ Q (.str (Txt.slice z lo hi)) H
theorem sl_str : SlR X rSlS := by
 intro pins s σ H x v vl vu lo hi sl Q I rx hs pl pu h
 obtain ⟨z, rfl, hz, q⟩ := h
 obtain ⟨t, rfl⟩ := rx
 refine ⟨"str", _, F.slot_str_getitem.lookup, typeIs_str _ _ _, ?_⟩
 have fin : ∀ t' k, EP X pins σ Q (.str (Txt.slice z lo hi) t') { s with toks := k } := fun t' k => ⟨.str _, H, I.kept fun b o e => e, ⟨_, rfl⟩, q⟩
 have hl : (Txt.slice z lo hi).length ≤ sizeLine := Nat.le_trans (Txt.slice_le z _ _) hz
 cases pl with
 | none => cases pu with
   | none => exact wpAny_getItem_str_slice (l := none) (u := none) (st := none) hs rfl (post_val_or_str ⟨hl, fin⟩)
   | int j uj => exact wpAny_getItem_str_slice (l := none) (u := some (j, uj)) (st := none) hs rfl (post_val_or_str ⟨hl, fin⟩)
 | int i ui => cases pu with
   | none => exact wpAny_getItem_str_slice (l := some (i, ui)) (u := none) (st := none) hs rfl (post_val_or_str ⟨hl, fin⟩)
   | int j uj => exact wpAny_getItem_str_slice (l := some (i, ui)) (u := some (j, uj)) (st := none) hs rfl (post_val_or_str ⟨hl, fin⟩)
noncomputable def tSl3 (te : TE3) (tl th : TO3) : TE3 := fun ρ M Q => te ρ M fun x M1 => tl ρ M1 fun l M2 => th ρ M2 fun u M3 => match x with
 | .tup ts => Q (.tup (cutT ts l u)) M3
 | .adr p => (match M3 p with
   | some (.lst ts) => ∀ r, M3 r = none → Q (.adr r) (updM M3 r (.lst (cutT ts l u)))
   | _ => False)
 | .str z => z.length ≤ sizeLine ∧ Q (.str (Txt.slice z l u)) M3
 | _ => False
theorem h_slice {e : Expr} {lo hi : Option Expr} {te : TE3} {tl th : TO3} {pos p2 : Pos} (he : HE X e te) (hl : HPo X lo tl) (hu : HPo X hi th) : HE X (.Subscript e (.Slice lo hi none p2) pos) (tSl3 te tl th) := fun ρ M Q h =>
 (pe_slice ((sl_tup'.or sl_list).or sl_str) (he.d (ρ := ρ)) (hl.d (ρ := ρ)) (hu.d (ρ := ρ))).imp fun σ H Q2 ⟨hr, hh, en⟩ =>
   ⟨M, _, h, hr, hh, fun x v M1 H1 k1 h1 r1 q1 => ⟨M1, _, q1, hr.kp k1, h1, fun l M2 H2 k2 h2 q2 => ⟨M2, _, q2, hr.kp (k1.trans k2), h2, fun u M3 H3 k3 h3 q3 => by
     have r3 := Rep.kp (k2.trans k3) _ _ r1
     have k13 := (k1.trans k2).trans k3
     split at q3
     · rename_i ts
       obtain ⟨a, xs, rfl, g1, g2⟩ := inv_tup r3
       refine .inl (.inl ⟨a, xs, rfl, g1, fun p H' h' c => ?_⟩)
       rcases c with rfl | ⟨c1, rfl⟩
       · exact en _ _ _ _ k13 h3 (rep_tup h' (g2.cut l u)) q3
       · exact en _ _ _ _ (k13.trans (Kp.new c1)) (h3.keep c1) (rep_tup h' (Reps.kp (Kp.new c1) _ _ (g2.cut l u))) q3
     · obtain rfl := inv_adr r3
       split at q3
       · rename_i ts e0
         obtain ⟨xs, g1, g2⟩ := h3 _ _ e0
         refine .inl (.inr ⟨_, xs, rfl, SqL.of g1, fun p hp => ?_⟩)
         exact en _ _ _ _ (k13.trans (Kp.new hp)) (h3.newL hp (g2.cut l u)) rep_adr (q3 p (h3.free hp))
       · exact q3.elim
     · obtain rfl := inv_str r3
       exact .inr ⟨_, rfl, q3.1, en _ _ _ _ k13 h3 rep_str q3.2⟩
     · exact q3.elim⟩⟩⟩
end
end L2
namespace HT
open PySem PySem.Spec PyProof.Rows
section
variable {prog : Program} {w : World} {A : Around} {E : Value → Shared → Prop} {s : Shared}
end
end HT
namespace L2
open PySem PySem.Spec PyProof.Rows
section
variable {X : Cx}
end
end L2
namespace L2
open PySem PySem.Spec PyProof.Rows
section
variable {X : Cx}
end
end L2
namespace L2
open PySem PySem.Spec PyProof.Rows
section
variable {X : Cx}
end
end L2
namespace L2
open PySem PySem.Spec PyProof.Rows
section
variable {X : Cx}
end
end L2
namespace L2
open PySem PySem.Spec PyProof.Rows
section
variable {X : Cx} {es : List Expr} {e : Expr} {t : TA3}
end
end L2
namespace L2
open PySem PySem.Spec PyProof.Rows
section
variable {X : Cx} {es : List Expr} {e : Expr} {t : TA3}
noncomputable def strsT : List T → Option (List Str)
 | [] => some []
 | .str i :: ts => (strsT ts).map (i :: ·)
 | _ :: _ => none
theorem strsT_map : ∀ (ns : List Str), strsT (ns.map T.str) = some ns
 | [] => rfl
 | n :: ns => by show (strsT (ns.map T.str)).map (n :: ·) = _; rw [strsT_map ns]; rfl
end
end L2
namespace L2
open PySem PySem.Spec PyProof.Rows LM
end L2
namespace L2
open PySem PySem.Spec PyProof.Rows
section
variable {prog : Program} {w : World} {A : Around} {E : Value → Shared → Prop} {s : Shared}
end
section
open AutoSeq1 (wpAny_loadPart')
open SeqAt (EqAt)
theorem wpAny_forIn_rng {M : Model} {A : Around} {E : Value → Shared → Prop} {s : Shared} {β : Type} (f : Nat → β → Sem (ForInStep β)) (I : List Nat → β → Shared → Prop) (Q : β → Shared → Prop)
   (turn : ∀ x rest b s, I (x :: rest) b s → wpAny M A (f x b) (fun r s' => match r with | .yield b' => I rest b' s' | .done b' => Q b' s') E s)
   (fin : ∀ b s, I [] b s → Q b s) (r : Std.Legacy.Range) (b : β) (h : I (List.range' r.start r.size r.step) b s) : wpAny M A (forIn r b f) Q E s := by
 rw [Std.Legacy.Range.forIn_eq_forIn_range']
 exact wpAny_forIn_list f I Q turn fin _ b h
theorem tuple_indexAt (l : Addr) (items : Array Value) (n : Nat) (dd : Option Addr) (sl : Array (Option Value)) (x : Value) (e : Value → Bool) (j : Nat) (hj : j < items.size) (hit : e items[j] = true) (hno : ∀ m (hm : m < items.size), m < j → e items[m] = false) :
   Meets (Builtin.«tuple.index» ⟨[.ref l, x], []⟩)
     (fun A R s => s.heap.get? l = some { cls := .type "tuple", dict := dd, data := .seq items n, slots := sl } ∧ (∀ y, y ∈ items → EqAt A.in1 s y x (e y)) ∧ R (.ok (.ret (.int j s.toks))) { s with toks := s.toks + 1 }) :=
 .of_wp fun prog w A R s h => by
   obtain ⟨hp, g, d, tk, os⟩ := s; obtain ⟨hl, he, h⟩ := h
   wp_walk using wpAny_loadPart' hl, wpAny_forIn_rng _ (fun rest b s' => b.1 = none ∧ s' = ⟨hp, g, d, tk, os⟩ ∧ ∃ i, i ≤ j ∧ rest = List.range' i (items.size - i)) _
   case turn =>
     rintro y rest b s' ⟨hb, rfl, i, hij, hr⟩
     have hsz : items.size - i = (items.size - (i + 1)) + 1 := by lia
     rw [hsz, List.range'_succ] at hr
     injection hr with hy hr
     subst hy
     have hys : y < items.size := by lia
     rw [Array.getElem?_eq_getElem hys]
     refine wpAny_bind (he items[y] (Array.getElem_mem hys) prog w _ _ ?_)
     by_cases hyj : y = j
     · subst hyj
       rw [hit]
       wp_walk
       exact ⟨_, rfl, h⟩
     · rw [hno y hys (by lia)]
       wp_walk
       exact ⟨rfl, rfl, y + 1, by lia, hr⟩
   case fin =>
     rintro ⟨b1, b2⟩ s' ⟨hb, rfl, i, hij, hr⟩
     exfalso
     have : (List.range' i (items.size - i)).length = 0 := by rw [← hr]; rfl
     rw [List.length_range'] at this
     lia
   case h =>
     refine ⟨rfl, rfl, 0, Nat.zero_le _, ?_⟩
     simp [Std.Legacy.Range.size]
end
section
variable {X : Cx} {a b e : Expr} {es : List Expr} {ta te : TE3} {t : TA3} {pos : Pos}
noncomputable def isSeq (M : MH) (x : T) : Prop := match x with
 | .adr p => (match M p with | some (.lst _) => True | _ => False)
 | .tup _ => True
 | _ => False
noncomputable def rIdxS : RM3 := fun x xs M Q => match x, xs with
 | .adr p, [.int k] => (match M p with
   | some (.lst ts) => (match intsT ts with | some ns => k ∈ ns ∧ Q (.int (ns.idxOf k)) M | none => False)
   | _ => False)
 | .tup ts, [.int k] => (match intsT ts with | some ns => k ∈ ns ∧ Q (.int (ns.idxOf k)) M | none => False)
 | _, _ => False
theorem mt3_tindex (pins : List (Addr × Obj)) (s : Shared) (σ : St) (H : Hp) (v : V) (k : Int) (u : Value) (us : List Value) (ns : List Int) (M : MH) (Q : VK3) (Q2 : VK) (I : Inv X pins σ H s) (rv : RelV v u) (rvs : Vals [.int k] us) (r1 : Rep X.K H v (.tup (ns.map T.int))) (hh : HR X.K H M)
   (en : EndE X.K H Q Q2) (hk : k ∈ ns) (q : Q (.int (ns.idxOf k)) M) : wpAny (model X.prog X.w) X.A (call (.builtin "tuple.index") (u :: us)) (EP X pins σ Q2) X.xe s := by
 obtain ⟨p, ys, rfl, g1, g2⟩ := inv_tup r1
 obtain rfl := g2.ints
 cases rv
 obtain ⟨w', rfl, tk, rfl⟩ := vals1 rvs
 obtain ⟨its, r', pl, hz⟩ := I.tuple0 g1
 have hl := r'.length
 rw [List.length_map] at hl hz
 obtain ⟨o, eo, ec, edd, n, ed⟩ := id pl
 obtain ⟨cls, dd, data, sl⟩ := o
 simp only at ec edd ed
 subst ec edd ed
 have hk' : ns.idxOf k < ns.length := List.idxOf_lt_length_iff.mpr hk
 have item : ∀ (j : Nat) (hj : j < its.toArray.size), ∃ tk', its.toArray[j] = Value.int (ns[j]'(by rw [List.size_toArray, ← hl] at hj; exact hj)) tk' := fun j hj => by
   have hj' : j < ns.length := by rw [List.size_toArray, ← hl] at hj; exact hj
   obtain ⟨w2, e2, tk', rfl⟩ := r'.get (i := j) (x := V.int ns[j]) (by rw [List.getElem?_map, List.getElem?_eq_getElem hj'] <;> rfl)
   have : its[j]? = some its.toArray[j] := by rw [List.getElem?_eq_getElem (by rw [List.size_toArray] at hj; exact hj)] <;> simp
   rw [e2] at this
   exact ⟨tk', (Option.some.inj this).symm⟩
 let ee : Value → Bool := fun v => match v with | .int i _ => i == k | _ => false
 refine call_meets PySem.F.slot_tuple_index ⟨_, eo, rfl⟩ PySem.F.entry_tuple_index (PySem.F.args_tuple_index_2 _ _)
   (tuple_indexAt p its.toArray n none sl (.int k tk) ee (ns.idxOf k) (by rw [List.size_toArray, ← hl]; exact hk') ?_ ?_) ⟨eo, fun y hy => ?_, ?_⟩
 · obtain ⟨tk', e⟩ := item (ns.idxOf k) (by rw [List.size_toArray, ← hl]; exact hk')
   rw [e]
   show (ns[ns.idxOf k] == k) = true
   simp
 · intro m hm hlt
   obtain ⟨tk', e⟩ := item m hm
   rw [e]
   show (ns[m]'_ == k) = false
   have := List.not_of_lt_findIdx (p := (· == k)) (xs := ns) (i := m) (by simpa [List.idxOf] using hlt)
   simpa using this
 · obtain ⟨j, hj, rfl⟩ := Array.getElem_of_mem hy
   obtain ⟨tk', e⟩ := item j hj
   rw [e]
   exact SeqAt.EqAt.int_int _ _ _ _
 · exact ⟨.int (ns.idxOf k), H, I.tok _, ⟨_, rfl⟩, en _ _ M H Kp.refl hh rep_int q⟩
noncomputable def tLMS (to : TE3) (t : TA3) : TE3 := fun ρ M Q => to ρ M fun x M1 => isSeq M1 x ∧ t ρ M1 fun xs M2 => rIdxS x xs M2 Q
theorem h_m_index {o : Expr} {to : TE3} {apos cpos : Pos} (ho : HE X o to) (ha : HA X (e :: es) t)
   (hbase : attributeBase o "index" X.env (eval o X.env) = eval o X.env := by rfl)
   (hfew : ((backTo cpos (starEach (e :: es) X.env)).all (fun x => !x.1) && (backToKw cpos (keywordEach [] X.env)).all (fun x => x.1.isSome)
     && decide ((e :: es).length + ([] : List Keyword).length + (if ([] : List Keyword).isEmpty then 0 else 1) < 30)) = true := by rfl)
   (hline : (apos.endLine == cpos.line) = true := by rfl) (hs : starEach (e :: es) X.env = (false, eval e X.env) :: starEach es X.env := by rfl) (hplain : (backTo cpos (starEach es X.env)).any (·.1) = false := by rfl) :
   HE X (.Call (.Attribute o "index" apos) (e :: es) [] cpos) (tLMS to t) := by
 intro ρ M Q h pins s σ H Q2 I bb
 obtain ⟨hr, hh, en⟩ := bb
 refine wpAny_Call_method_late hbase hfew hline rfl (thn (ho ρ M _ h pins s σ H (fun v H1 => ∃ x M1, Rep X.K H1 v x ∧ HR X.K H1 M1 ∧ Kp X.K H H1 ∧ isSeq M1 x ∧ t ρ M1 fun xs M2 => rIdxS x xs M2 Q) I
   ⟨hr, hh, fun x v M1 H1 k1 h1 r1 q1 => ⟨x, M1, r1, h1, k1, q1.1, q1.2⟩⟩) fun v s1 ⟨vv, H1, I1, rvv, x, M1, r1, h1, k1, sq, q1⟩ => ?_)
 have hA := ha ρ M1 _ q1 cpos pins s1 σ H1
 cases x with
 | adr p =>
   have ty : tyV X.K "list" vv H1 := isLst_ty h1 r1 sq
   obtain ⟨t1, t2⟩ := tyV_is I1 rvv ty
   refine ⟨"list", "list.index", PySem.F.plainAttrs_list, PySem.F.slot_list_index, PySem.F.type_list_index, t1, t2, ?_⟩
   have hB := hA (fun vs H2 => ∃ xs M2, Reps X.K H2 vs xs ∧ HR X.K H2 M2 ∧ Kp X.K H1 H2 ∧ rIdxS (.adr p) xs M2 Q) I1 ⟨hr.kp k1, h1, fun ts vs M2 H2 k2 h2 r2 q2 => ⟨ts, M2, r2, h2, k2, q2⟩⟩
   rw [hs] at hB ⊢
   refine Calls.callWith_builtin (by show (false || (backTo cpos (starEach es X.env)).any (·.1)) = false; rw [hplain] <;> rfl) (Calls.evalArgs_plain ?_)
   refine thn hB fun us s2 ⟨vs, H2, I2, rvs, xs, M2, r2, h2, k2, q2⟩ => ?_
   have q3 : rIndex3 (.adr p) xs M2 Q := by
     unfold rIdxS at q2
     split at q2
     · rename_i h; cases h; exact q2
     · rename_i h; cases h
     · exact q2.elim
   exact mt3_index pins s2 σ H2 vv vs v us Q2 I2 rvv rvs ⟨.adr p, xs, M2, Q, Rep.kp k2 _ _ r1, r2, h2, q3, en.kp (k1.trans k2)⟩
 | tup ts =>
   obtain ⟨a1, ys, rfl, g1, g2⟩ := inv_tup r1
   have eu : v = .ref a1 := by cases rvv; rfl
   obtain ⟨its, _, ⟨oo, eo, ec, ed, _⟩, _⟩ := I1.tuple0 g1
   refine ⟨"tuple", "tuple.index", PySem.F.plainAttrs_tuple, PySem.F.slot_tuple_index, PySem.F.type_tuple_index, ?_, ?_, ?_⟩
   · rw [eu]; exact ⟨oo, eo, ec⟩
   · intro a2 e2
     rw [eu] at e2
     cases e2
     exact ⟨oo, eo, ed⟩
   have hB := hA (fun vs H2 => ∃ xs M2, Reps X.K H2 vs xs ∧ HR X.K H2 M2 ∧ Kp X.K H1 H2 ∧ rIdxS (.tup ts) xs M2 Q) I1 ⟨hr.kp k1, h1, fun ts vs M2 H2 k2 h2 r2 q2 => ⟨ts, M2, r2, h2, k2, q2⟩⟩
   rw [hs] at hB ⊢
   refine Calls.callWith_builtin (by show (false || (backTo cpos (starEach es X.env)).any (·.1)) = false; rw [hplain] <;> rfl) (Calls.evalArgs_plain ?_)
   refine thn hB fun us s2 ⟨vs, H2, I2, rvs, xs, M2, r2, h2, k2, q2⟩ => ?_
   unfold rIdxS at q2
   split at q2
   · rename_i h; cases h
   · rename_i ts' k h
     cases h
     obtain ⟨w, rfl, rw'⟩ := reps1 r2
     obtain rfl := inv_int rw'
     split at q2
     · rename_i ns en'
       have et := intsT_some en'
       subst et
       exact mt3_tindex pins s2 σ H2 _ k v us ns M2 Q Q2 I2 rvv rvs (Rep.kp k2 _ _ r1) h2 (en.kp (k1.trans k2)) q2.1 q2.2
     · exact q2.elim
   · exact q2.elim
 | _ => exact sq.elim
end
end L2
namespace L2
open PySem PySem.Spec PyProof.Rows
section
open AutoSeq1
theorem extend_tupleL (l : Addr) (items : Array Value) (n : Nat) (b : Addr) (items2 : Array Value) (n2 : Nat) (sl : Array (Option Value)) (hs0 : ¬(!items.isEmpty && Builtin.List.listTooLong (items.size + items2.size)) = true) (hs1 : items.size ≤ sizeLine) (hs2 : items.size + items2.size ≤ sizeLine + 1) :
   Meets (Builtin.«list.extend» ⟨[.ref l, .ref b], []⟩) (fun _ R s => s.heap.get? l = some { cls := .type "list", dict := none, data := .seq items n, slots := #[] } ∧ s.heap.get? b = some { cls := .type "tuple", dict := none, data := .seq items2 n2, slots := sl } ∧ R (.ok (.ret Value.none)) { s with heap := s.heap.update l (Obj.mapSeq fun x => x ++ items2), toks := s.toks }) :=
 .of_wp fun prog w A R s h => by
   obtain ⟨hp, g, d, tk, os⟩ := s; obtain ⟨hl, hb, h⟩ := h; have f1 := idx_int; have f2 := AutoSeq1.sub_tuple_tuple; have f3 := AutoSeq1.sub_list_list; have f4 := AutoSeq1.sub_tuple_list; have f5 := AutoSeq1.sub_list_tuple;
   have hz' : (items ++ items2).size ≤ sizeLine + 1 := by rw [Array.size_append]; exact hs2
   wp_walk using (wpAny_updateSeq hl rfl (hz := hs1) (_hz' := hz')), wpAny_loadPart' hl, wpAny_loadPart' hb; exact ⟨_, rfl, h⟩
end
section
variable {X : Cx} {a b e f : Expr} {es : List Expr} {ta te : TE3} {t : TA3} {pos : Pos}
noncomputable def rExt3 : RM3 := fun x xs M Q => match x, xs with
 | .adr p, [.tup us] => (match M p with | some (.lst ts) => ts.length + us.length ≤ sizeLine ∧ Q .non (updM M p (.lst (ts ++ us))) | _ => False)
 | .adr p, [.adr q] => (match M p, M q with | some (.lst ts), some (.lst us) => ts.length + us.length ≤ sizeLine ∧ Q .non (updM M p (.lst (ts ++ us))) | _, _ => False)
 | _, _ => False
theorem mt3_extend : MtR3 X "list.extend" rExt3 := by
 intro pins s σ H v vs u us Q2 I rv rvs h
 obtain ⟨x, xs, M, Q, r1, r2, hh, q, en⟩ := h
 unfold rExt3 at q
 split at q
 · rename_i p ys
   split at q
   · rename_i ts e0
     obtain ⟨zs, g1, g2⟩ := hh _ _ e0
     obtain rfl := inv_adr r1
     obtain ⟨w, rfl, rw'⟩ := reps1 r2
     obtain ⟨b1, ws, rfl, k1, k2⟩ := inv_tup rw'
     cases rv
     obtain ⟨u2, rfl, ru⟩ := rvs.one
     cases ru
     obtain ⟨z, its, n, r, hl, e⟩ := I.lstM g1
     obtain ⟨its2, r2', ⟨o, eo, ec, ed, n2, edd⟩, hz2⟩ := I.tuple0 k1
     obtain ⟨cls, dd, data, sl⟩ := o
     simp only at ec ed edd
     subst ec ed edd
     have l2 := r2'.length
     have l3 := g2.length
     have l4 := k2.length
     have hsz : its.toArray.size + its2.toArray.size ≤ sizeLine := by rw [List.size_toArray, List.size_toArray]; lia
     have hlong : ¬ (!its.toArray.isEmpty && Builtin.List.listTooLong (its.toArray.size + its2.toArray.size)) = true := by
       rw [notLongL hsz, Bool.and_false]
       exact Bool.false_ne_true
     refine call_meets F.slot_list_extend ⟨_, e, rfl⟩ F.entry_list_extend (F.args_list_extend_2 _ _)
       (extend_tupleL p its.toArray n b1 its2.toArray n2 sl hlong (by rw [List.size_toArray]; lia) (by lia)) ⟨e, eo, ?_⟩
     refine ⟨.non, _, I.lset (its' := its ++ its2) g1 e (by simp) (r.append r2') ?_, rfl, en _ _ _ _ (Kp.lst g1) (hh.setL g1 (g2.append k2)) rep_non q.2⟩
     rw [List.length_append]
     lia
   · exact q.elim
 · rename_i p b1
   split at q
   · rename_i ts us' e0 e1
     obtain ⟨zs, g1, g2⟩ := hh _ _ e0
     obtain ⟨ws, k1, k2⟩ := hh _ _ e1
     obtain rfl := inv_adr r1
     obtain ⟨w, rfl, rw'⟩ := reps1 r2
     obtain rfl := inv_adr rw'
     have l3 := g2.length
     have l4 := k2.length
     exact mt_extend pins s σ H _ _ u us Q2 I rv rvs ⟨_, _, zs, ws, rfl, rfl, g1, k1, by lia, en _ _ _ _ (Kp.lst g1) (hh.setL g1 (g2.append k2)) rep_non q.2⟩
   · exact q.elim
 · exact q.elim
theorem h_m_extend {o : Expr} {to : TE3} {apos cpos : Pos} (ho : HE X o to) (ha : HA X (e :: es) t)
   (hbase : attributeBase o "extend" X.env (eval o X.env) = eval o X.env := by rfl)
   (hfew : ((backTo cpos (starEach (e :: es) X.env)).all (fun x => !x.1) && (backToKw cpos (keywordEach [] X.env)).all (fun x => x.1.isSome)
     && decide ((e :: es).length + ([] : List Keyword).length + (if ([] : List Keyword).isEmpty then 0 else 1) < 30)) = true := by rfl)
   (hline : (apos.endLine == cpos.line) = true := by rfl) (hs : starEach (e :: es) X.env = (false, eval e X.env) :: starEach es X.env := by rfl) (hplain : (backTo cpos (starEach es X.env)).any (·.1) = false := by rfl) :
   HE X (.Call (.Attribute o "extend" apos) (e :: es) [] cpos) (tLM3 rExt3 to t) := h_lm PySem.F.slot_list_extend PySem.F.type_list_extend mt3_extend ho ha hbase hfew hline hs hplain
noncomputable def keyT : Key → T
 | .inl i => .int i
 | .inr x => .str x
theorem rep_key {K : PySem.W.Frag} {H : Hp} {v : V} {k : Key} (r : Rep K H v (keyT k)) : v = kV k := by
 cases k with
 | inl i => exact inv_int r
 | inr x => exact inv_str r
theorem rep_keys {K : PySem.W.Frag} {H : Hp} : ∀ {ks : List Key} {vs : List V}, Reps K H vs (ks.map keyT) → vs = ks.map kV
 | [], _, r => by rw [List.map_nil] at r; unfold Reps at r; exact r
 | k :: ks, _, r => by
   rw [List.map_cons] at r
   unfold Reps at r
   obtain ⟨v, w, rfl, r1, r2⟩ := r
   rw [rep_key r1, rep_keys r2]
   rfl
noncomputable def valT {κ : Type} [DecidableEq κ] (kvs : List (κ × T)) (k : κ) : Option T := (kvs.find? fun kv => decide (kv.1 = k)).map (·.2)
noncomputable def putT {κ : Type} [DecidableEq κ] (kvs : List (κ × T)) (k : κ) (v : T) : List (κ × T) :=
 if (kvs.any fun kv => decide (kv.1 = k)) = true then kvs.map (fun kv => if kv.1 = k then (kv.1, v) else kv) else kvs ++ [(k, v)]
theorem KRep.val {κ : Type} [DecidableEq κ] {K : PySem.W.Frag} {H : Hp} (k : κ) : ∀ {xs : List (κ × V)} {kvs : List (κ × T)}, KRep K H xs kvs → (match valT kvs k with | some t => ∃ v, valV xs k = some v ∧ Rep K H v t | none => valV xs k = none)
 | [], [], _ => rfl
 | p :: r, q :: u, h => by
   have ih := KRep.val k h.2.2
   unfold valT valV at ih ⊢
   rw [List.find?_cons, List.find?_cons, h.1]
   by_cases c : q.1 = k
   · simp only [c, decide_true, Option.map_some]
     exact ⟨p.2, rfl, h.2.1⟩
   · simp only [c, decide_false]
     exact ih
 | [], q :: u, h => h.elim
 | p :: r, [], h => h.elim
theorem KRep.any {κ : Type} [DecidableEq κ] {K : PySem.W.Frag} {H : Hp} (k : κ) : ∀ {xs : List (κ × V)} {kvs : List (κ × T)}, KRep K H xs kvs → (xs.any fun kv => decide (kv.1 = k)) = kvs.any fun kv => decide (kv.1 = k)
 | [], [], _ => rfl
 | p :: r, q :: u, h => by rw [List.any_cons, List.any_cons, h.1, KRep.any k h.2.2]
 | [], q :: u, h => h.elim
 | p :: r, [], h => h.elim
theorem KRep.repl {κ : Type} [DecidableEq κ] {K : PySem.W.Frag} {H : Hp} (k : κ) {v : V} {z : T} (rz : Rep K H v z) : ∀ {xs : List (κ × V)} {kvs : List (κ × T)}, KRep K H xs kvs → KRep K H (xs.map fun kv => if kv.1 = k then (kv.1, v) else kv) (kvs.map fun kv => if kv.1 = k then (kv.1, z) else kv)
 | [], [], _ => trivial
 | p :: r, q :: u, h => by
   rw [List.map_cons, List.map_cons]
   refine ⟨?_, ?_, KRep.repl k rz h.2.2⟩
   · rw [h.1]
     by_cases c : q.1 = k
     · rw [if_pos c, if_pos c]
     · rw [if_neg c, if_neg c]; exact h.1
   · rw [h.1]
     by_cases c : q.1 = k
     · rw [if_pos c, if_pos c]; exact rz
     · rw [if_neg c, if_neg c]; exact h.2.1
 | [], q :: u, h => h.elim
 | p :: r, [], h => h.elim
theorem KRep.snoc {κ : Type} {K : PySem.W.Frag} {H : Hp} (k : κ) {v : V} {z : T} (rz : Rep K H v z) : ∀ {xs : List (κ × V)} {kvs : List (κ × T)}, KRep K H xs kvs → KRep K H (xs ++ [(k, v)]) (kvs ++ [(k, z)])
 | [], [], _ => ⟨rfl, rz, trivial⟩
 | p :: r, q :: u, h => ⟨h.1, h.2.1, KRep.snoc k rz h.2.2⟩
 | [], q :: u, h => h.elim
 | p :: r, [], h => h.elim
theorem KRep.put {κ : Type} [DecidableEq κ] {K : PySem.W.Frag} {H : Hp} (k : κ) {v : V} {z : T} (rz : Rep K H v z) {xs : List (κ × V)} {kvs : List (κ × T)} (h : KRep K H xs kvs) : KRep K H (putK xs k v) (putT kvs k z) := by
 unfold putK putT
 rw [h.any k]
 split
 · exact h.repl k rz
 · exact h.snoc k rz
noncomputable def tDicE (tup : Bool) : TE3 := fun _ M Q => ∀ p, M p = none → Q (.adr p) (updM M p (if tup then .dt [] else .dk []))
theorem h_dicT {pos : Pos} : HE X (.Dict [] [] pos) (tDicE true) := fun ρ M Q h =>
 (pe_dnewT).imp fun σ H Q2 ⟨hr, hh, en⟩ => fun p hp => en _ _ _ _ (Kp.new hp) (hh.newT hp (kvs := []) (xs := []) trivial) rep_adr (h p (hh.free hp))
noncomputable def tDGT (td : TE3) (t : TA3) : TE3 := fun ρ M Q => td ρ M fun x M1 => t ρ M1 fun ks M2 => ks.length ≤ sizeLine ∧ (match x with
 | .adr p => (match M2 p with
   | some (.dt kvs) => ∃ (kk : List Key) (t : T), ks = kk.map keyT ∧ valT kvs kk = some t ∧ Q t M2
   | _ => False)
 | _ => False)
theorem h_dgt {o : Expr} {es : List Expr} {x1} {p1 : Pos} {td : TE3} {t : TA3} {pos : Pos} (hu : X.A.units + 64 < cLine) (ho : HE X o td) (ha : HA X es t) (hs : NoSl (.Tuple es x1 p1) := by intro _ _; rfl) : HE X (.Subscript o (.Tuple es x1 p1) pos) (tDGT td t) := fun ρ M Q h =>
 (pe_dget (by lia) (ho.d (ρ := ρ)) (pe_tup (ha.d (ρ := ρ))) hs).imp fun σ H Q2 ⟨hr, hh, en⟩ => ⟨M, _, h, hr, hh, fun x v M1 H1 k1 h1 r1 q1 => ⟨M1, _, q1, hr.kp k1, h1, fun ks vs M2 H2 k2 h2 r2 q2 => by
   obtain ⟨hz, q2⟩ := q2
   refine ⟨by rw [r2.length]; exact hz, fun b hb => ?_⟩
   cases x with
   | adr p =>
     cases r1
     dsimp only at q2
     split at q2
     · rename_i kvs e
       obtain ⟨kk, t, rfl, ev, q2⟩ := q2
       obtain rfl := rep_keys r2
       obtain ⟨xs, g1, g2⟩ := h2 _ _ e
       have hv := g2.val kk
       rw [ev] at hv
       obtain ⟨u, e1, e2⟩ := hv
       have np : p ≠ b := fun z => by rw [← z, g1] at hb; cases hb
       exact ⟨_, u, rfl, by rw [← e1]; exact DGet.t (by rw [upd_ne np]; exact g1) upd_same, en _ _ M2 _ ((k1.trans k2).trans (Kp.new hb)) (h2.keep hb) (Rep.kp (Kp.new hb) _ _ e2) q2⟩
     · exact q2.elim
   | _ => exact q2.elim⟩⟩
noncomputable def sDPT (td : TE3) (t : TA3) (tv : TE3) : TS3 := fun D ρ M => tv ρ M fun z M1 => td ρ M1 fun x M2 => t ρ M2 fun ks M3 => ks.length ≤ sizeLine ∧ (match x with
 | .adr p => (match M3 p with
   | some (.dt kvs) => ∃ kk : List Key, ks = kk.map keyT ∧ kvs.length < sizeLine ∧ D.nx ρ (updM M3 p (.dt (putT kvs kk z)))
   | _ => False)
 | _ => False)
theorem s_dpt {o value : Expr} {es : List Expr} {x1} {p1 : Pos} {td tv : TE3} {t : TA3} {pos pos' : Pos} (hu : X.A.units + 64 < cLine) (hv : HE X value tv) (ho : HE X o td) (ha : HA X es t) (hs : swapsWith value (some (.Subscript o (.Tuple es x1 p1) pos')) pos.line X.env = pure false := by rfl) :
   HS X (.Assign [.Subscript o (.Tuple es x1 p1) pos'] value pos) (sDPT td t tv) := fun D ρ M h =>
 (ps_dput (by lia) (ho.d (ρ := ρ)) (pe_tup (ha.d (ρ := ρ))) (hv.d (ρ := ρ)) hs).imp fun D2 σ H ⟨hr, hh, en⟩ => ⟨M, _, h, hr, hh, fun z v M1 H1 k1 h1 r1 q1 => ⟨M1, _, q1, hr.kp k1, h1, fun x v2 M2 H2 k2 h2 r2 q2 => ⟨M2, _, q2, hr.kp (k1.trans k2), h2, fun ks vs M3 H3 k3 h3 r3 q3 => by
   obtain ⟨hz, q3⟩ := q3
   refine ⟨by rw [r3.length]; exact hz, fun b hb => ?_⟩
   cases x with
   | adr p =>
     cases r2
     dsimp only at q3
     split at q3
     · rename_i kvs e
       obtain ⟨kk, rfl, hl, q3⟩ := q3
       obtain rfl := rep_keys r3
       obtain ⟨xs, g1, g2⟩ := h3 _ _ e
       have np : p ≠ b := fun z => by rw [← z, g1] at hb; cases hb
       have kb := Kp.new (K := X.K) (o := .tup (kk.map kV)) hb
       have g1' : upd H3 b (.tup (kk.map kV)) p = some (.dT xs) := by rw [upd_ne np]; exact g1
       have kk' := Kp.dict (K := X.K) (u := .dT (putK xs kk v)) g1' (.inr ⟨_, rfl⟩)
       have kall := (k1.trans k2).trans (k3.trans (kb.trans kk'))
       refine ⟨_, _, rfl, DPut.t g1' upd_same (by rw [g2.length]; exact hl), en.nx _ _ _ _ kall (hr.kp kall) ((h3.keep hb).setT g1' (.inr ⟨_, rfl⟩) ((g2.kp kb).put kk (Rep.kp ((k2.trans k3).trans kb) _ _ r1))) q3⟩
     · exact q3.elim
   | _ => exact q3.elim⟩⟩⟩
end
end L2
namespace L2
open PySem PySem.Spec PyProof.Rows LM
noncomputable def isWd (n : Int) (w : List Int) (k : Int) : Bool := decide (1 ≤ n) && decide (n ≤ 6) && decide ((w.length : Int) ≤ k) && w.all (isLet n)
theorem isWd_16 (n : Int) (w : List Int) : isWd n w 16 = isPl n w := by
 unfold isWd isPl
 rw [show decide ((w.length : Int) ≤ 16) = decide (w.length ≤ 16) from decide_eq_decide.mpr (by lia)]
theorem valT_cons {κ : Type} [DecidableEq κ] (p : κ × T) (r : List (κ × T)) (k : κ) : valT (p :: r) k = if p.1 = k then some p.2 else valT r k := by
 unfold valT
 rw [List.find?_cons]
 by_cases c : p.1 = k
 · simp [c]
 · simp [c]
theorem none_of {M M' : MH} {p : Addr} (h : Sub M M') (hp : M' p = none) : M p = none := by
 cases q : M p with
 | none => rfl
 | some o => have := h p o q; rw [hp] at this; cases this
theorem cutT_to' (xs : List T) (k : Int) (h0 : 0 ≤ k) : cutT xs none (some k) = xs.take k.toNat := by
 unfold cutT
 have e : k = ((k.toNat : Nat) : Int) := by lia
 rw [e, HT.sIx_nat, HT.sIx_none, List.drop_zero, Nat.sub_zero, Int.toNat_natCast]
 by_cases h : k.toNat ≤ xs.length
 · rw [Nat.min_eq_left h]
 · rw [Nat.min_eq_right (by lia), List.take_of_length_le (Nat.le_refl _), List.take_of_length_le (by lia)]
end L2
namespace L2
open PySem PySem.Spec PyProof.Rows LM
end L2
namespace L2
open PySem PySem.Spec PyProof.Rows LM
end L2
namespace L2
open PySem PySem.Spec PyProof.Rows LM
end L2
namespace L2
open PySem PySem.Spec PyProof.Rows LM
theorem WordOK.take {n : Int} {w : List Int} (h : WordOK n w) (k : Nat) : WordOK n (w.take k) := fun l hl => h l (List.mem_of_mem_take hl)
end L2
namespace L2
open PySem PySem.Spec PyProof.Rows LM
end L2
namespace L2
open PySem PySem.Spec PyProof.Rows LM
theorem cutT_from' (xs : List T) (k : Int) (h0 : 0 ≤ k) : cutT xs (some k) none = xs.drop k.toNat := by
 unfold cutT
 have e : k = ((k.toNat : Nat) : Int) := by lia
 rw [e, HT.sIx_nat, HT.sIx_none, Int.toNat_natCast]
 by_cases h : k.toNat ≤ xs.length
 · rw [Nat.min_eq_left h, List.take_of_length_le (by rw [List.length_drop]; lia)]
 · rw [Nat.min_eq_right (by lia), Nat.sub_self, List.take_zero, List.drop_of_length_le (by lia)]
end L2
namespace L2
open PySem PySem.Spec PyProof.Rows LM
end L2
namespace LM
end LM
namespace LM
end LM
namespace LM
end LM
namespace LM
end LM
namespace L2
open PySem PySem.Spec PyProof.Rows LM
noncomputable def gI (w : List Int) (k : Int) : Int := w.getD k.toNat 0
end L2
namespace L2
open PySem PySem.Spec PyProof.Rows LM
theorem gI_at {w : List Int} {a : Int} (h0 : 0 ≤ a) (h1 : a < w.length) : atI (w.map T.int) a = some (.int (gI w a)) := atI_ints w a h0 h1
end L2
namespace L2
open PySem PySem.Spec PyProof.Rows LM
theorem Sub.mk1 {A M : MH} {q : Nat} {o : MO} (h : Sub A M) (hq : M q = some o) : Sub (updM A q o) M := by
 intro x v hx
 by_cases e : x = q
 · rw [e] at hx ⊢
   rw [updM_same] at hx
   rw [hq, ← hx]
 · rw [updM_ne e] at hx
   exact h x v hx
end L2
namespace L2
open PySem PySem.Spec PyProof.Rows LM
end L2
namespace L2
open PySem PySem.Spec PyProof.Rows LM
end L2
namespace L2
open PySem PySem.Spec PyProof.Rows LM
theorem rangeT_range0 (n : Int) : rangeT 0 n.toNat = (range0 n).map .int := by
 unfold rangeT range0
 rw [List.map_map]
 exact List.map_congr_left fun i _ => by show T.int (0 + (i : Nat)) = T.int (i : Nat); rw [Int.zero_add]
theorem range0_sorted (n : Int) : (range0 n).Pairwise (· ≤ ·) := by
 unfold range0
 rw [List.pairwise_map]
 exact List.Pairwise.imp (fun h => by lia) List.pairwise_lt_range
theorem sorted_is {n : Int} {ns ms : List Int} (h : ms.Perm ns) (s : ms.Pairwise (· ≤ ·)) : decide (ms = range0 n) = decide (ns.Perm (range0 n)) := by
 rw [Bool.eq_iff_iff, decide_eq_true_eq, decide_eq_true_eq]
 constructor
 · rintro rfl
   exact h.symm
 · intro g
   exact List.Perm.eq_of_pairwise (fun a b _ _ h1 h2 => Int.le_antisymm h1 h2) s (range0_sorted n) (h.trans g)
noncomputable def tupT (r : List Int) : T := .tup (r.map .int)
theorem get_tupT {R : List (List Int)} {i : Nat} {x : T} (h : (R.map tupT)[i]? = some x) : ∃ r, R[i]? = some r ∧ x = tupT r := by
 rw [List.getElem?_map] at h
 cases e : R[i]? with
 | none => rw [e] at h; cases h
 | some s => rw [e] at h; exact ⟨s, rfl, (Option.some.inj h).symm⟩
theorem tupT_at {R : List (List Int)} {i : Nat} (h : i < R.length) : atI (R.map tupT) (i : Nat) = some (tupT (R.getD i [])) := by
 refine atI_nat ?_
 rw [List.getElem?_map, List.getD_eq_getElem?_getD, List.getElem?_eq_getElem h]
 rfl
end L2
namespace L2
open PySem PySem.Spec PyProof.Rows LM
end L2
namespace L2
open PySem PySem.Spec PyProof.Rows LM
end L2
namespace L2
open PySem PySem.Spec PyProof.Rows LM
end L2
namespace L2
open PySem PySem.Spec PyProof.Rows LM
end L2
namespace L2
open PySem PySem.Spec PyProof.Rows LM
end L2
namespace L2
open PySem PySem.Spec PyProof.Rows LM
theorem seq_cut {a b : TS3} {D : Ends3} {ρ : En} {M : MH} (h : ∀ K : En → MH → Prop, K = b D → a { D with nx := K } ρ M) : tSeq3 a b D ρ M := h _ rfl
theorem seq_cut2 {a b c : TS3} {D : Ends3} {ρ : En} {M : MH} (h : ∀ K : En → MH → Prop, K = c D → tSeq3 a b { D with nx := K } ρ M) : tSeq3 a (tSeq3 b c) D ρ M := h _ rfl
theorem seq_cut3 {a b c d : TS3} {D : Ends3} {ρ : En} {M : MH} (h : ∀ K : En → MH → Prop, K = d D → tSeq3 a (tSeq3 b c) { D with nx := K } ρ M) : tSeq3 a (tSeq3 b (tSeq3 c d)) D ρ M := h _ rfl
end L2
namespace L2
open PySem PySem.Spec PyProof.Rows LM
end L2
namespace L2
open PySem PySem.Spec PyProof.Rows LM
end L2
namespace L2
open PySem PySem.Spec PyProof.Rows LM
end L2
namespace L2
open PySem PySem.Spec PyProof.Rows LM
end L2
namespace L2
open PySem PySem.Spec PyProof.Rows LM
end L2
namespace L2
open PySem PySem.Spec PyProof.Rows LM
end L2
namespace L2
open PySem PySem.Spec PyProof.Rows LM
end L2
namespace L2
open PySem PySem.Spec PyProof.Rows LM
end L2
namespace L2
open PySem PySem.Spec PyProof.Rows LM
end L2
namespace L2
open PySem PySem.Spec PyProof.Rows LM
end L2
namespace L2
open PySem PySem.Spec PyProof.Rows LM
end L2
namespace L2
open PySem PySem.Spec PyProof.Rows LM
end L2
namespace L2
open PySem PySem.Spec PyProof.Rows LM
end L2
namespace L2
open PySem PySem.Spec PyProof.Rows LM
end L2
namespace L2
open PySem PySem.Spec PyProof.Rows LM
end L2
namespace L2
open PySem PySem.Spec PyProof.Rows LM
end L2
namespace LM
end LM
namespace L2
open PySem PySem.Spec PyProof.Rows LM
end L2
namespace LM
end LM
namespace L2
open PySem PySem.Spec PyProof.Rows LM
section
variable {n : Int} (h6 : n ≤ 6)
include h6
end
end L2
namespace L2
open PySem PySem.Spec PyProof.Rows LM
end L2
namespace L2
open PySem PySem.Spec PyProof.Rows LM
end L2
namespace L2
open PySem PySem.Spec PyProof.Rows LM
end L2
namespace L2
open PySem PySem.Spec PyProof.Rows LM
end L2
namespace L2
open PySem PySem.Spec PyProof.Rows LM
section
variable {n : Int}
end
end L2
namespace L2
open PySem PySem.Spec PyProof.Rows LM
section
variable {n : Int}
end
end L2
namespace L2
open PySem PySem.Spec PyProof.Rows LM
end L2
namespace L2
open PySem PySem.Spec PyProof.Rows LM
section
variable {n : Int}
end
end L2
namespace L2
open PySem PySem.Spec PyProof.Rows
noncomputable def rangeD (hi : Int) (n : Nat) : List T := (List.range n).map fun i => T.int (hi - (i : Nat))
section
variable {X : Cx} {a b c : Expr} {t : TA3} {pos : Pos}
noncomputable def iRng3_3 (t : TA3) : TI3 := fun ρ M R => t ρ M fun xs M1 => match xs with
 | [.int i, .int j, .int s] => (s = -1 ∧ -(2 ^ 62) ≤ i ∧ i < 2 ^ 62 ∧ -(2 ^ 62) ≤ j ∧ j < 2 ^ 62) ∧ R ⟨rangeD i (i - j).toNat, fun _ => True⟩ M1
 | _ => False
end
end L2
namespace L2
open PySem PySem.Spec PyProof.Rows
section
variable {X : Cx}
end
end L2
namespace L2
open PySem PySem.Spec PyProof.Rows LM
end L2
namespace L2
open PySem PySem.Spec PyProof.Rows
theorem Inv.turnNew {X : Cx} {pins : List (Addr × Obj)} {σ : St} {H : Hp} {s : Shared} {h' : Heap} {t' : Nat} {e it T : Addr} {xs : List V} (I : Inv X pins σ H s) (fe : FpOk X pins H e) (fi : FpOk X pins H it)
   (k : ∀ b o, b ≠ e → b ≠ it → s.heap.get? b = some o → h'.get? b = some o) (hT : s.heap.objs.size ≤ T) (new : ObjOk X.prog X.w (upd H T (.tup xs)) h' T (.tup xs)) :
   Inv X pins σ (upd H T (.tup xs)) { s with heap := h', toks := t' } := by
 have hn : H T = none := I.hok.fresh hT
 have ne : ∀ b u, H b = some u → b ≠ e ∧ b ≠ it := fun b u q => ⟨fun z => (by rw [z, fe.1] at q; cases q), fun z => (by rw [z, fi.1] at q; cases q)⟩
 have nc : ∀ {b : Addr}, b ∉ [e, it] → b ≠ e ∧ b ≠ it := fun hc => ⟨fun z => hc (by simp [z]), fun z => hc (by simp [z])⟩
 refine I.step (g' := s.gens) (d' := s.drawn) (ch := [e, it]) (fun b hb => ?_) (fun b o _ _ hc q _ => k b o (nc hc).1 (nc hc).2 q) (fun b o _ _ hc q _ => ⟨o.slots, k b o (nc hc).1 (nc hc).2 q⟩)
   (fun b o _ q n => by rw [upd_ne (Nat.ne_of_lt (Nat.lt_of_lt_of_le (Heap.lt_size q) hT))]; exact n)
   (fun b o hc q => ⟨o, k b o (nc hc).1 (nc hc).2 q⟩) (fun b xs q => by rw [upd_ne (ne_of_none q hn)]; exact q) (fun b o u q => by rw [upd_ne (ne_of_none q hn)]; exact q) (fun b ps q => ⟨#[], by rw [upd_ne (ne_of_none q hn), q]; simp⟩) (fun m hm => ?_) (fun b u q => ?_) I.bare
 · have z : b = e ∨ b = it := by simpa using hb
   rcases z with rfl | rfl
   · exact ⟨fe.2.2.2.1, fe.2.1, fe.2.2.2.2.1, fe.2.2.2.2.2⟩
   · exact ⟨fi.2.2.2.1, fi.2.1, fi.2.2.2.2.1, fi.2.2.2.2.2⟩
 · obtain ⟨o, es, ep, ho, r⟩ := hm
   exact ⟨o, es, ep, k _ o (Ne.symm fe.2.1) (Ne.symm fi.2.1) ho, r⟩
 · by_cases hb : b = T
   · subst hb; rw [upd_same] at q; cases q; exact new
   · rw [upd_ne hb] at q
     refine (I.hok b u q).stay (fun c v hc z => ?_) (fun c z => by rw [upd_ne (ne_of_none z hn)]; exact z) fun c xs z => by rw [upd_ne (ne_of_none z hn)]; exact z
     rcases hc with y | y
     · rw [y] at z ⊢; exact k b v (ne b u q).1 (ne b u q).2 z
     · exact k c v (ne c _ y).1 (ne c _ y).2 z
theorem for_cut {i : TI3} {g : TG3} {b : TS3} {D : Ends3} {ρ : En} {M : MH} (h : ∀ B : TS3, B = b → tFor3 i g B D ρ M) : tFor3 i g b D ρ M := h _ rfl
section
variable {X : Cx}
noncomputable def enT (ts : List T) : List T := (List.range ts.length).map fun i => .tup [.int (i : Nat), ts.getD i .non]
theorem enT_length (ts : List T) : (enT ts).length = ts.length := by unfold enT; rw [List.length_map, List.length_range]
theorem enT_get {ts : List T} {i : Nat} {x : T} (h : (enT ts)[i]? = some x) : ∃ t, ts[i]? = some t ∧ x = .tup [.int i, t] := by
 have hi : i < ts.length := by have := (List.getElem?_eq_some_iff.mp h).1; rwa [enT_length] at this
 unfold enT at h
 rw [List.getElem?_map, List.getElem?_range hi] at h
 refine ⟨ts[i], List.getElem?_eq_getElem hi, ?_⟩
 have e : ts.getD i .non = ts[i] := by rw [List.getD_eq_getElem?_getD, List.getElem?_eq_getElem hi]; rfl
 rw [← e]
 exact (Option.some.inj h).symm
end
end L2
namespace L2
open PySem PySem.Spec PyProof.Rows
theorem ObjOk.has {P : Program} {w : World} {H : Hp} {h : Heap} {a : Addr} {o : HO} (x : ObjOk P w H h a o) : ∃ ob, h.get? a = some ob := by
 cases o with
 | lst xs => obtain ⟨_, _, _, _, e⟩ := x; exact ⟨_, e⟩
 | tup xs => obtain ⟨_, _, _, o, e, _⟩ := x; exact ⟨_, e⟩
 | dK kvs => obtain ⟨_, _, _, _, o, _, _, e, _⟩ := x; exact ⟨_, e⟩
 | dT kvs => obtain ⟨_, _, _, _, o, _, _, e, _⟩ := x; exact ⟨_, e⟩
 | set S n => obtain ⟨o, _, _, _, e, _⟩ := x; exact ⟨_, e⟩
 | ins C dx fs => obtain ⟨_, _, _, e, _⟩ := x; exact ⟨_, e⟩
 | own y => obtain ⟨_, e⟩ := x; exact ⟨_, e⟩
 | xd fs => obtain ⟨_, ⟨_, _, _, e, _⟩, _⟩ := x; exact ⟨_, e⟩
 | rng lo hi => obtain ⟨_, _, _, e⟩ := x; exact ⟨_, e⟩
 | frz ob u => obtain ⟨e, _⟩ := x; exact ⟨_, e⟩
 | tbl ps => exact ⟨_, (show h.get? a = some _ from x)⟩
 | met f y => exact ⟨_, (show h.get? a = some _ from x)⟩
 | ext φ => obtain ⟨_, e, _⟩ := x; exact e
structure Fly (H : Hp) (h0 h : Heap) (a : Addr) (C : Value) : Prop where
 un : H a = none
 new : h0.get? a = none
 obj : ∃ oe vs a0, h.get? a = some oe ∧ oe.cls = C ∧ oe.data = .fields vs ∧ vs[0]? = some a0 ∧
   ∃ T oT ts, vs[1]? = some (.ref T) ∧ T ≠ a ∧ H T = none ∧ h0.get? T = none ∧ h.get? T = some oT ∧ oT.data = .fields ts ∧ ts[3]? = some .none
noncomputable def CXE (P : Program) (w : World) : CXT := fun outer H s E e s' => ∃ a C H', e = .ref a ∧ s'.os = s.os ∧ AllBare s'.gens ∧ Un (frs outer) [] H H' s.heap s'.heap ∧ HOk P w H' s'.heap ∧ Fly H' s.heap s'.heap a C ∧ E C none H'
theorem funFrames_of {h base B : Heap} : ∀ {l : List Env}, h.FunFrames base l → (∀ b ∈ frs l, B.get? b = none) → h.FunFrames B l
 | [], _, _ => trivial
 | env :: rest, ⟨hk, ⟨L, o, hf, hn, ho, hd⟩, hr⟩, hb => by
   have e : frs (env :: rest) = L :: frs rest := by unfold frs; rw [List.filterMap_cons, hf]
   exact ⟨hk, ⟨L, o, hf, hb L (by rw [e]; exact List.mem_cons_self), ho, hd⟩, funFrames_of hr fun b hm => hb b (by rw [e]; exact List.mem_cons_of_mem _ hm)⟩
section
variable {X : Cx} {pins : List (Addr × Obj)} {σ : St} {H : Hp} {s : Shared}
structure Leaves (X : Cx) (E : XK) : Prop where
 ex : X.ex = []
 stk : X.stack = X.env :: X.outer
 fr : X.env.frame = some X.env.locals
 xe : ∀ e s', wpAny (model X.prog X.w) X.A (leaving X.env e) (fun _ s'' => CXE X.prog X.w X.outer X.H₀ X.s₀ E e s'') (fun e' s'' => CXE X.prog X.w X.outer X.H₀ X.s₀ E e' s'') s' → X.xe e s'
theorem frs_stack {E : XK} (L : Leaves X E) : frs X.stack = X.env.locals :: X.fs := by
 rw [L.stk]
 unfold frs
 rw [List.filterMap_cons, L.fr]
 rfl
theorem Inv.old (I : Inv X pins σ H s) (hx : X.ex = []) {b : Addr} (h : X.s₀.heap.get? b ≠ none) : ∃ o, s.heap.get? b = some o := by
 cases q : X.s₀.heap.get? b with
 | none => exact absurd q h
 | some o => exact I.base.there b o q (by rw [hx]; simp)
theorem leave_end {E : XK} {B h2 : Heap} {a : Addr} {C a0 : Value} (L : Leaves X E) (I : Inv X pins σ H s) (ha : H a = none) (ha0 : X.s₀.heap.get? a = none)
   (hB : ∀ b o, s.heap.get? b = some o → b ∉ frs X.stack → b ≠ a → (H b ≠ none ∨ X.s₀.heap.get? b ≠ none) → B.get? b = some o)
   (k1 : B.StaysIn h2) (k3 : h2.TracedW B a C a0) (k4 : s.heap.UpToSlots h2) (hE : E C none H) : CXE X.prog X.w X.outer X.H₀ X.s₀ E (.ref a) { s with heap := h2 } := by
 have fs := frs_stack L
 have nL : ∀ b, X.s₀.heap.get? b ≠ none → b ≠ X.env.locals := fun b hb z => by
   cases q : X.s₀.heap.get? b with
   | none => exact hb q
   | some o => exact absurd (Heap.lt_size q) (Nat.not_lt.mpr (by rw [z]; exact I.ok.above))
 have stay : ∀ b o, s.heap.get? b = some o → b ∉ frs X.stack → (H b ≠ none ∨ X.s₀.heap.get? b ≠ none) → h2.get? b = some o := fun b o q hf hc => by
   refine k1 b o (hB b o q hf ?_ hc)
   rintro rfl
   rcases hc with z | z
   · exact z ha
   · exact z ha0
 have noT : ∀ b, (H b ≠ none ∨ X.s₀.heap.get? b ≠ none) → ∃ o, s.heap.get? b = some o := fun b hc => by
   rcases hc with z | z
   · cases q : H b with
     | none => exact absurd q z
     | some u => exact (I.hok b u q).has
   · exact I.old L.ex z
 have dfr : ∀ b ∈ frs X.stack, ∃ o, s.heap.get? b = some o ∧ ∀ vs, o.data ≠ .fields vs := fun b hb => (I.stack.mem hb).2
 obtain ⟨oe, vs, T, oT, ts, t1, ⟨t2, t3⟩, t4, t5, t6, t7, t8, t9, t10⟩ := k3
 have hT : T ∉ frs X.stack := fun hm => by
   obtain ⟨o, e1, e2⟩ := dfr T hm
   obtain ⟨sl, e3⟩ := k4 T o e1 e2
   rw [t8] at e3
   cases e3
   exact e2 ts t9
 have key : ¬ (H T ≠ none ∨ X.s₀.heap.get? T ≠ none) := fun hc => by
   obtain ⟨o, e1⟩ := noT T hc
   have := hB T o e1 hT t7 hc
   rw [t6] at this; cases this
 have hT1 : H T = none := Classical.byContradiction fun z => key (.inl z)
 have hT2 : X.s₀.heap.get? T = none := Classical.byContradiction fun z => key (.inr z)
 refine ⟨a, C, H, rfl, I.os, I.bare, ⟨fun b o q n hf _ => ?_, fun b o q n hf _ => ?_, fun b o q n _ => I.base.free b o q n (by rw [L.ex]; simp), fun b o q _ => ?_, I.base.tups, I.base.frzs, I.base.tbls⟩, fun b u q => ?_, ⟨ha, ha0, oe, vs, a0, t1, t2, t4, t3, T, oT, ts, t5, t7, hT1, hT2, t8, t9, t10⟩, hE⟩
 · have e1 := I.base.keep b o q n hf (by rw [L.ex]; simp)
   refine stay b o e1 ?_ (.inr (by rw [q]; simp))
   rw [fs]
   intro hm
   rcases List.mem_cons.mp hm with z | z
   · exact nL b (by rw [q]; simp) z
   · exact hf z
 · obtain ⟨sl, e1⟩ := I.base.slot b o q n hf (by rw [L.ex]; simp)
   have hm : b ∈ frs X.stack := by rw [fs]; exact List.mem_cons_of_mem _ hf
   obtain ⟨o2, e2, e3⟩ := dfr b hm
   rw [e1] at e2
   cases e2
   obtain ⟨sl', e4⟩ := k4 b _ e1 e3
   exact ⟨sl', e4⟩
 · obtain ⟨o', e1⟩ := I.base.there b o q (by rw [L.ex]; simp)
   by_cases hm : b ∈ frs X.stack
   · obtain ⟨o2, e2, e3⟩ := dfr b hm
     obtain ⟨sl, e4⟩ := k4 b o2 e2 e3
     exact ⟨_, e4⟩
   · exact ⟨_, stay b o' e1 hm (.inr (by rw [q]; simp))⟩
 · refine (I.hok b u q).stay (fun c v hc r => ?_) (fun _ r => r) fun _ _ r => r
   have hne : H c ≠ none := by
     rcases hc with rfl | hc
     · rw [q]; simp
     · rw [hc]; simp
   refine stay c v r (fun hm => hne ?_) (.inl hne)
   exact I.stkFree c hm
theorem leave_new1 {E : XK} {h' : Heap} {a : Addr} {C : Value} {args : List Value} (L : Leaves X E) (I : Inv X pins σ H s) (hx : Heap.MadeExcOf s.heap h' a C args) (hE : E C none H) : X.xe (.ref a) { s with heap := h' } := by
 refine L.xe _ _ ?_
 have hfr := I.ok.frames
 rw [L.stk] at hfr
 have hl : s.heap.FunFrames (PySem.W.hideAll s.heap (frs X.stack)) (X.env :: X.outer) := by
   rw [← L.stk]
   exact funFrames_of I.stack fun b hb => PySem.W.hideAll_none _ hb
 have st : (PySem.W.hideAll s.heap (frs X.stack)).StaysIn s.heap := fun b o q => PySem.W.of_hideAll _ q
 refine wpAny_leaves_madeW (s := { s with heap := h' }) hfr L.fr st hl hx fun h2 t hfl ht htn hsm => ?_
 obtain ⟨f1, f2, f3, f4⟩ := hfl
 have I1 : Inv X pins σ H { s with heap := h', toks := s.toks } := I.kept (t' := s.toks) hx.keeps
 have ha : H a = none := by
   cases q : H a with
   | none => rfl
   | some u => obtain ⟨ob, e⟩ := (I.hok a u q).has; rw [hx.new] at e; cases e
 have ha0 : X.s₀.heap.get? a = none := Classical.byContradiction fun z => by
   obtain ⟨o, e⟩ := I.old L.ex z
   rw [hx.new] at e; cases e
 refine leave_end (B := PySem.W.hideAll s.heap (frs X.stack)) (s := { s with heap := h', toks := s.toks }) L I1 ha ha0 (fun b o q hf hb hc => ?_) f1 f4 hsm hE
 have : ∃ o', s.heap.get? b = some o' := by
   rcases hc with z | z
   · cases r : H b with
     | none => exact absurd r z
     | some u => exact (I.hok b u r).has
   · exact I.old L.ex z
 obtain ⟨o', e⟩ := this
 have e2 := hx.keeps b o' e
 have q' : h'.get? b = some o := q
 rw [e2] at q'
 cases q'
 exact PySem.W.hideAll_get _ e hf
theorem leave_on1 {E : XK} {a : Addr} {C : Value} (L : Leaves X E) (I : Inv X pins σ H s) (F : Fly H X.s₀.heap s.heap a C) (hE : E C none H) : X.xe (.ref a) s := by
 refine L.xe _ _ ?_
 obtain ⟨ha, ha0, oe, vs, a0, t1, t2, t3, t4, T, oT, ts, t5, t6, t7, t8, t9, t10, t11⟩ := F
 have hfr := I.ok.frames
 rw [L.stk] at hfr
 have nfr : ∀ b vs' o, s.heap.get? b = some o → o.data = .fields vs' → b ∉ frs X.stack := fun b vs' o e d hm => by
   obtain ⟨o', e', d'⟩ := (I.stack.mem hm).2
   rw [e] at e'; cases e'
   exact d' _ d
 have hl : s.heap.FunFrames (PySem.W.hideAll s.heap (a :: T :: frs X.stack)) (X.env :: X.outer) := by
   rw [← L.stk]
   exact funFrames_of I.stack fun b hb => PySem.W.hideAll_none _ (List.mem_cons_of_mem _ (List.mem_cons_of_mem _ hb))
 have hfl : Heap.FlyingW (PySem.W.hideAll s.heap (a :: T :: frs X.stack)) (X.env :: X.outer) a C a0 s.heap :=
   ⟨fun b o q => PySem.W.of_hideAll _ q, PySem.W.hideAll_none _ List.mem_cons_self, hl, oe, vs, T, oT, ts, t1, ⟨t2, t4⟩, t3, t5, PySem.W.hideAll_none _ (List.mem_cons_of_mem _ List.mem_cons_self), t6, t9, t10, t11⟩
 refine wpAny_leaves_onW hfr L.fr hfl fun h2 hfl2 hsm => ?_
 obtain ⟨f1, f2, f3, f4⟩ := hfl2
 refine leave_end (B := PySem.W.hideAll s.heap (a :: T :: frs X.stack)) L I ha ha0 (fun b o q hf hb hc => PySem.W.hideAll_get _ q fun hm => ?_) f1 f4 hsm hE
 rcases List.mem_cons.mp hm with z | z
 · exact hb z
 · rcases List.mem_cons.mp z with z | z
   · subst z
     rcases hc with c | c
     · exact c t7
     · exact c t8
   · exact hf z
end
end L2
namespace L2
open PySem PySem.Spec PyProof.Rows
noncomputable abbrev EK3 := Str → En → MH → Prop
theorem Fly.older {H : Hp} {g h0 h : Heap} {a : Addr} {C : Value} (F : Fly H h0 h a C) (k : ∀ b, g.get? b ≠ none → h0.get? b ≠ none) : Fly H g h a C := by
 obtain ⟨f1, f2, oe, vs, a0, t1, t2, t3, t4, T, oT, ts, t5, t6, t7, t8, t9, t10, t11⟩ := F
 exact ⟨f1, Classical.byContradiction fun z => k a z f2, oe, vs, a0, t1, t2, t3, t4, T, oT, ts, t5, t6, t7, Classical.byContradiction fun z => k T z t8, t9, t10, t11⟩
structure Older (X : Cx) (pins : List (Addr × Obj)) (h0 : Heap) : Prop where
 start : ∀ b, X.s₀.heap.get? b ≠ none → h0.get? b ≠ none
 pins : ∀ p ∈ X.pn ++ pins, h0.get? p.1 ≠ none
 loc : h0.get? X.env.locals ≠ none
 cells : ∀ x c, X.env.cells.lookup x = some c → h0.get? c ≠ none
theorem Inv.older {X : Cx} {pins : List (Addr × Obj)} {σ : St} {H : Hp} {s : Shared} (I : Inv X pins σ H s) (hex : X.ex = []) : Older X pins s.heap := by
 refine ⟨fun b hb z => ?_, fun p hp z => ?_, fun z => ?_, fun x c e z => ?_⟩
 · obtain ⟨o, e⟩ := I.old hex hb
   rw [z] at e; cases e
 · have e := (I.pin p hp).1
   rw [z] at e; cases e
 · obtain ⟨m, ⟨o, _, _, e, _⟩, _⟩ := I.loc
   rw [z] at e; cases e
 · obtain ⟨v, o, e1, _⟩ := I.cell x c e
   rw [z] at e1; cases e1
noncomputable def Acc (X : Cx) (Ha : Hp) (E : EK3) : Prop := ∀ (pins : List (Addr × Obj)) (σ : St) (H : Hp) (s : Shared) (h0 : Heap) (a C : Addr) (nm : Str) (ρ : En) (M : MH),
 Inv X pins σ H s → Fly H h0 s.heap a (.ref C) → Older X pins h0 → X.mg nm = some (.ref C) → Kp X.K Ha H → RhoR X.K σ H ρ → HR X.K H M → E nm ρ M → X.xe (.ref a) s
noncomputable def AccN (X : Cx) (Ha : Hp) (E : EK3) : Prop := ∀ (pins : List (Addr × Obj)) (σ : St) (H : Hp) (s : Shared) (h' : Heap) (a C : Addr) (vs : List Value) (nm : Str) (ρ : En) (M : MH),
 Inv X pins σ H s → Heap.MadeExcOf s.heap h' a (.ref C) vs → X.mg nm = some (.ref C) → Kp X.K Ha H → RhoR X.K σ H ρ → HR X.K H M → E nm ρ M → X.xe (.ref a) { s with heap := h' }
noncomputable def HEX (X : Cx) (Ha : Hp) (e : Expr) (t : TE3) : Prop := ∀ ρ M Q, t ρ M Q → PE X e (fun σ H Q2 => Kp X.K Ha H ∧ bE X.K ρ M Q σ H Q2)
noncomputable def HTX (X : Cx) (Ha : Hp) (e : Expr) (t : TT3) : Prop := ∀ ρ M Q, t ρ M Q → PT X e (fun σ H Q2 => Kp X.K Ha H ∧ bT X.K ρ M Q σ H Q2)
noncomputable def HSX (X : Cx) (Ha : Hp) (st : Stmt) (t : TS3) : Prop := ∀ D ρ M, t D ρ M → PS X st (fun D2 σ H => Kp X.K Ha H ∧ bS X.K D ρ M D2 σ H)
noncomputable def HSsX (X : Cx) (Ha : Hp) (st : List Stmt) (t : TS3) : Prop := ∀ D ρ M, t D ρ M → PSs X st (fun D2 σ H => Kp X.K Ha H ∧ bS X.K D ρ M D2 σ H)
noncomputable def dEX (K : PySem.W.Frag) (Ha : Hp) (ρ : En) (t : TE3) : TE := fun σ H Q2 => ∃ M Q, t ρ M Q ∧ Kp K Ha H ∧ bE K ρ M Q σ H Q2
noncomputable def dTX (K : PySem.W.Frag) (Ha : Hp) (ρ : En) (t : TT3) : TT := fun σ H Q2 => ∃ M Q, t ρ M Q ∧ Kp K Ha H ∧ bT K ρ M Q σ H Q2
noncomputable def dSX (K : PySem.W.Frag) (Ha : Hp) (t : TS3) : TS := fun D2 σ H => ∃ D ρ M, t D ρ M ∧ Kp K Ha H ∧ bS K D ρ M D2 σ H
section
variable {X : Cx} {Ha : Hp} {a b c e : Expr} {es : List Expr} {st : Stmt} {rest ba bb body : List Stmt} {ta tb te : TE3} {tA : TT3} {t u : TS3} {pos : Pos}
theorem HEX.d {ρ : En} (h : HEX X Ha e te) : PE X e (dEX X.K Ha ρ te) := fun pins s σ H Q I ⟨M, Q3, q, b⟩ => h ρ M Q3 q pins s σ H Q I b
theorem HTX.d {ρ : En} (h : HTX X Ha e tA) : PT X e (dTX X.K Ha ρ tA) := fun pins s σ H Q I ⟨M, Q3, q, b⟩ => h ρ M Q3 q pins s σ H Q I b
theorem HSX.d (h : HSX X Ha st t) : PS X st (dSX X.K Ha t) := fun pins s σ H D I ⟨D3, ρ, M, q, b⟩ => h D3 ρ M q pins s σ H D I b
theorem HSsX.d (h : HSsX X Ha body t) : PSs X body (dSX X.K Ha t) := fun pins s σ H D I ⟨D3, ρ, M, q, b⟩ => h D3 ρ M q pins s σ H D I b
theorem HT.x (h : HT X e tA) : HTX X Ha e tA := fun ρ M Q q => (h ρ M Q q).imp fun σ H Q2 b => b.2
theorem HS.x (h : HS X st t) : HSX X Ha st t := fun D ρ M q => (h D ρ M q).imp fun D2 σ H b => b.2
theorem HSs.x (h : HSs X body t) : HSsX X Ha body t := fun D ρ M q => (h D ρ M q).imp fun D2 σ H b => b.2
theorem PS.nox {s : Stmt} {t : TS} (h : PS X.nox s t) : PS X s t := fun pins s σ H D I hw =>
 wpAny_mono (h pins s σ H D (I.wish _) hw) (fun _ _ q => q.unwish) fun _ _ z => False.elim z
theorem HT.n (h : HT X.nox e tA) : HT X e tA := fun ρ M Q q => (h ρ M Q q).nox
theorem HS.n (h : HS X.nox st t) : HS X st t := fun D ρ M q => (h D ρ M q).nox
theorem EndS.nxX {K : PySem.W.Frag} {H : Hp} {D : Ends3} {D2 : Ends} {t : TS3} (h : EndS K H D D2) (ka : Kp K Ha H) : EndS K H { D with nx := t D } { D2 with nx := dSX K Ha t D2 } :=
 ⟨fun ρ' M' σ' H' k r hh q => ⟨D, ρ', M', q, ka.trans k, r, hh, h.kp k⟩, h.rt, h.bk, h.ct⟩
theorem ss_consX (h1 : HSX X Ha st t) (h2 : HSsX X Ha rest u) : HSsX X Ha (st :: rest) (tSeq3 t u) := fun D ρ M h =>
 (pss_cons h1.d h2.d).imp fun D2 σ H ⟨ka, hr, hh, en⟩ => ⟨{ D with nx := u D }, ρ, M, h, ka, hr, hh, en.nxX ka⟩
theorem ss_oneX (h1 : HSX X Ha st t) : HSsX X Ha [st] t := fun D ρ M h => pss_one (h1 D ρ M h)
theorem ss_nilX : HSsX X Ha [] tNext3 := ss_nil.x
theorem s_retX (he : HEX X Ha e te) : HSX X Ha (.Return (some e) pos) (tRet3 te) := fun D ρ M h =>
 (ps_ret (he.d (ρ := ρ))).imp fun D2 σ H ⟨ka, hr, hh, en⟩ => ⟨M, _, h, ka, hr, hh, en.rt⟩
theorem s_exprX (he : HEX X Ha e te) (hs : swapsWith e none pos.line X.env = pure false := by rfl) : HSX X Ha (.Expr e pos) (tDrop3 te) := fun D ρ M h =>
 (ps_expr (he.d (ρ := ρ)) hs).imp fun D2 σ H ⟨ka, hr, hh, en⟩ => ⟨M, _, h, ka, hr, hh, fun x v M1 H1 k1 h1 r1 q1 => en.nx ρ M1 σ H1 k1 (hr.kp k1) h1 q1⟩
theorem s_ifX (hc : HTX X Ha c tA) (ha : HSsX X Ha ba t) (hb : HSsX X Ha bb u) : HSX X Ha (.If c ba bb pos) (tIfS3 tA t u) := fun D ρ M h =>
 (ps_if (hc.d (ρ := ρ)) ha.d hb.d).imp fun D2 σ H ⟨ka, hr, hh, en⟩ => ⟨M, _, h, ka, hr, hh, fun b M1 H1 k1 h1 q1 => by
   dsimp only at q1 ⊢
   split
   · rename_i hb; rw [if_pos hb] at q1
     exact ⟨D, ρ, M1, q1, ka.trans k1, hr.kp k1, h1, en.kp k1⟩
   · rename_i hb; rw [if_neg hb] at q1
     exact ⟨D, ρ, M1, q1, ka.trans k1, hr.kp k1, h1, en.kp k1⟩⟩
end
noncomputable abbrev Sp3X := List T → MH → VK3 → (Str → MH → Prop) → Prop
noncomputable def dSpX (K : PySem.W.Frag) (mg : Str → Option Value) (sp : Sp3X) : Sp := fun vs H Q2 E2 => ∃ ts M Q E, Reps K H vs ts ∧ HR K H M ∧ sp ts M Q E ∧ EndE K H Q Q2 ∧
 ∀ nm C M' H', Kp K H H' → HR K H' M' → mg nm = some (.ref C) → E nm M' → E2 (.ref C) none H'
structure DfX (P : Program) (w : World) (K : PySem.W.Frag) (mg : Str → Option Value) (base : Heap) (n : Nat) (x : Str) (ps : List Str) (sp : Sp3X) : Prop where
 out : ∃ f fd, FnOk P w K mg base (CXE P w) n f fd ps (dSpX K mg sp) ∧ mg x = some (.ref f) ∧ PySem.W.keepIn K (.ref f) = true ∧ Binds K fd ps []
theorem DfX.mono {P : Program} {w : World} {K : PySem.W.Frag} {mg : Str → Option Value} {base : Heap} {n m : Nat} {x : Str} {ps : List Str} {sp : Sp3X} (D : DfX P w K mg base n x ps sp) (h : n ≤ m) : DfX P w K mg base m x ps sp := by
 obtain ⟨f, fd, F, a, b, c⟩ := D.out
 exact ⟨f, fd, F.mono h, a, b, c⟩
section
variable {X : Cx} {Ha : Hp} {e : Expr} {es : List Expr} {t : TA3} {pos : Pos}
noncomputable def tCallX (E : EK3) (sp : Sp3X) (t : TA3) : TE3 := fun ρ M Q => t ρ M fun ts M1 => sp ts M1 Q fun nm M2 => E nm ρ M2
theorem h_callX {n : Nat} {x : Str} {ps : List Str} {sp : Sp3X} {p : Pos} {E : EK3} (A : Acc X Ha E) (hex : X.ex = []) (D : DfX X.prog X.w X.K X.mg X.base n x ps sp) (hr : Room n X.A) (ha : HA X (e :: es) t) (hg : Gl X x := by rfl) (hdb : (x == ("__debug__" : Str)) = false := by decide)
   (he : starEach (e :: es) X.env = (false, eval e X.env) :: starEach es X.env := by rfl) (hpl : (backTo pos (starEach es X.env)).any (·.1) = false := by rfl) :
   HEX X Ha (.Call (.Name x p) (e :: es) [] pos) (tCallX E sp t) := by
 intro ρ M Q h pins s σ H Q2 I bb
 obtain ⟨ka, hrr, hh, en⟩ := bb
 obtain ⟨f, fd, F, hm, hk, hb⟩ := D.out
 refine wpAny_Call_Name_kw (ld_glob I hg hm ?_ hdb)
 refine PySem.W.callWith_K (h₀ := X.base) I.ok.mod.kin hk (thn (ha ρ M _ h pos pins s σ H (fun vs H1 => ∃ ts M1, Kp X.K H H1 ∧ HR X.K H1 M1 ∧ Reps X.K H1 vs ts ∧ sp ts M1 Q fun nm M2 => E nm ρ M2) I ⟨hrr, hh, fun ts vs M1 H1 k1 h1 r1 q1 => ⟨ts, M1, k1, h1, r1, q1⟩⟩) fun us s1 ⟨vs, H1, I1, r, ts, M1, k1, h1, r1, q1⟩ => ⟨I1.kIn, ?_⟩) he hpl
 have r2 : Vals (vs ++ []) (us ++ []) := r.append .nil
 have q2 : dSpX X.K X.mg sp (vs ++ []) H1 Q2 (fun C _ H' => ∃ c nm M', C = .ref c ∧ X.mg nm = some (.ref c) ∧ Kp X.K H1 H' ∧ HR X.K H' M' ∧ E nm ρ M') :=
   ⟨ts, M1, Q, _, by rw [List.append_nil]; exact r1, h1, q1, en.kp k1, fun nm C M' H' k' h' m' e' => ⟨C, nm, M', rfl, m', k', h', e'⟩⟩
 have hl : (us ++ []).length = ps.length := by rw [← r2.length]; exact F.len _ _ _ _ q2
 refine wpAny_call (codeAny_mono (F.run X.A X.stack s1 H1 ⟨us, []⟩ (us ++ []) (vs ++ []) Q2 _ hr I1.env0 (hb s1 us I1.kIn hl) r2 q2) fun r s' hq => ?_)
 cases r with
 | error e =>
   obtain ⟨a, C, H', rfl, os, bare, un, hok, fly, c, nm, M', rfl, m', k', h', e'⟩ := hq
   have J := I1.call' (H' := H') (ch := []) os un hok bare (fun b z => absurd z (by simp))
   exact A pins σ H' s' s1.heap a c nm ρ M' J fly (I1.older hex) m' (ka.trans (k1.trans k')) (hrr.kp (k1.trans k')) h' e'
 | ok fl =>
   cases fl with
   | ret u => exact I1.after hq
   | next => exact False.elim hq
   | brk => exact False.elim hq
   | cont => exact False.elim hq
end
end L2
namespace L2
open PySem PySem.Spec PyProof.Rows
noncomputable abbrev bmVE : List Value := [.type "ValueError", .type "Exception", .type "BaseException", .type "object"]
noncomputable def XCl (K : PySem.W.Frag) (mg : Str → Option Value) (nm : Str) : Prop := ∃ C, mg nm = some (.ref C) ∧ PySem.W.excIn K C bmVE "ValueError.__new__" = true
theorem exc_of {K : PySem.W.Frag} {h : Heap} {C : Addr} (X : K.In h) (q : PySem.W.excIn K C bmVE "ValueError.__new__" = true) :
   ∃ bm N nm qn bs hd sn sub ab col dd k0 k1 k2 k3 k5 mN, h.get? C = some (excClassObj nm qn C N bs bm hd sn sub ab col dd k0 k1 k2 k3 k5 "ValueError.__new__") ∧ h.Ns N mN ∧ mN "__init__" = none ∧ OwnTail h bmVE bm := by
 unfold PySem.W.excIn at q
 split at q
 case h_2 => cases q
 rename_i dd cd sl ho
 split at q
 case h_2 => cases q
 rename_i C' bm k0 k1 k2 k3 n k5 hm hs
 simp only [Bool.and_eq_true, beq_iff_eq, Bool.not_eq_true'] at q
 obtain ⟨⟨⟨⟨⟨e1, e2⟩, e3⟩, e4⟩, e5⟩, e6⟩ := q
 subst e1 e2
 refine ⟨bm, cd.ns, cd.name, cd.qualname, cd.bases, cd.hasDict, cd.slotNames, cd.subclasses, cd.abstract, cd.collection, dd, k0, k1, k2, k3, k5, _, ?_, .of_isNs (PySem.W.isNs_of_in X e5), PySem.W.nsMap_none_of_in X e5 e6, PySem.W.tail_of_in X e4⟩
 have es : sl = #[k0, k1, k2, k3, some (.builtin "ValueError.__new__"), k5] := Array.toList_inj.mp (by simpa using hs)
 rw [X _ _ ho, es]
 cases cd
 simp only at hm e3
 subst hm e3
 rfl
section
variable {X : Cx} {Ha : Hp} {e : Expr} {te : TE3} {pos : Pos}
noncomputable def tRaise3 (E : EK3) (nm : Str) (te : TE3) : TS3 := fun _ ρ M => te ρ M fun _ M1 => E nm ρ M1
theorem s_raiseX {E : EK3} {x : Str} {np cpos : Pos} (A : AccN X Ha E) (hc : XCl X.K X.mg x) (ha : HE X e te) (hcalm : X.calm = true := by rfl) (hg : Gl X x := by rfl) (hdb : (x == ("__debug__" : Str)) = false := by decide)
   (he : starEach [e] X.env = (false, eval e X.env) :: starEach [] X.env := by rfl) : HSX X Ha (.Raise (some (.Call (.Name x np) [e] [] cpos)) none pos) (tRaise3 E x te) := by
 intro D ρ M h pins s σ H D2 I bb
 obtain ⟨ka, hr, hh, en⟩ := bb
 obtain ⟨C, hm, hx⟩ := hc
 obtain ⟨bm, N, nm, qn, bs, hd, sn, sub, ab, col, dd, k0, k1, k2, k3, k5, mN, hC, hN, hni, TL⟩ := exc_of I.ok.mod.kin hx
 refine wpAny_Raise_call_subU (C := C) (nm := nm) (q := qn) (N := N) (bs := bs) (bm := bm) (hdct := hd) (sn := sn) (sub := sub) (ab := ab) (col := col) (dd := dd) (k0 := k0) (k1 := k1) (k2 := k2) (k3 := k3) (k5 := k5)
   PySem.F.excBase_ValueError (by decide) PySem.F.excBase_ValueError (mN := mN) (TL.hasType (by decide)) (I.ok.hd hcalm) (by rw [he]; rfl) hni (ld_glob I hg hm ⟨rfl, ?_⟩ hdb)
 have w1 := (a_cons ha a_nil he) ρ M (fun ts M1 => ts.length ≤ 1 ∧ E x ρ M1) (show te ρ M (fun y M1 => ([y] : List T).length ≤ 1 ∧ E x ρ M1) from by
   have h' : te ρ M fun _ M1 => E x ρ M1 := h
   simpa using h') cpos pins s σ H (fun vs H1 => ∃ M1, vs.length ≤ 1 ∧ Kp X.K H H1 ∧ HR X.K H1 M1 ∧ E x ρ M1) I ⟨hr, hh, fun ts vs M1 H1 k1 h1 r1 q1 => ⟨M1, by rw [r1.length]; exact q1.1, k1, h1, q1.2⟩⟩
 rw [he] at w1 ⊢
 refine Calls.evalArgs_plain (wpAny_mono w1 (fun us s1 ⟨vs, H1, I1, r, M1, hl, kk, h1, q1⟩ => ?_) fun _ _ z => z)
 refine ⟨rfl, ?_, I1.bk _ _ hC, hN.keeps I1.bk, TL.keeps I1.bk, fun h' a hmade => A pins σ H1 s1 h' a C us x ρ M1 I1 hmade hm (ka.trans kk) (hr.kp kk) h1 q1⟩
 have : us.length ≤ 1 := by rw [← r.length]; exact hl
 exact Nat.le_trans this (by decide)
end
theorem leaves_cx {P : Program} {w : World} {K : PySem.W.Frag} {mg : Str → Option Value} {base : Heap} {N : List Str} {qual : Str} {scope : Scope} {f : Addr} {cd : Value} {A : Around} {outer : List Env} {s : Shared} {H : Hp} {E : XK} :
   Leaves (cxOf (CXE P w) P w K mg base N qual scope f cd A outer s H E) E := ⟨rfl, rfl, rfl, fun _ _ h => h⟩
section
variable {P : Program} {w : World} {K : PySem.W.Frag} {mg : Str → Option Value} {base : Heap}
theorem Fun.dfnX {x qual : Str} {st : Stmt} {f : Addr} {fd : FuncData} {N ps : List Str} {n : Nat} {sp : Sp3X} (F : Fun K x qual st f fd) (hm : mg x = some (.ref f)) (hb : Binds K fd ps []) (S : FnScope N ps (defScope st)) (len : ∀ ts M Q E, sp ts M Q E → ts.length = ps.length)
   (hbody : ∃ t : EK3 → TS3, (∀ (cdv : Value) (A : Around) (outer : List Env) (s : Shared) (H : Hp) (E : XK) (E3 : EK3), Room n (A.deeper (envOfC qual (defScope st) s.heap.objs.size f cdv)) →
     Acc (cxOf (CXE P w) P w K mg base N qual (defScope st) f cdv A outer s H E) H E3 → AccN (cxOf (CXE P w) P w K mg base N qual (defScope st) f cdv A outer s H E) H E3 →
     HSsX (cxOf (CXE P w) P w K mg base N qual (defScope st) f cdv A outer s H E) H (defBody st) (t E3)) ∧
     ∀ ts M Q E, sp ts M Q E → t (fun nm _ M' => ∃ M0, Sub M0 M' ∧ E nm M0) { nx := fun _ M' => rt3 M Q .non M', rt := rt3 M Q } (start3 N ts) M) : DfX P w K mg base (n + 1) x ps sp := by
 obtain ⟨t, hbody, rd⟩ := hbody
 refine ⟨f, fd, ?_, hm, F.kp, hb⟩
 obtain ⟨oc, od, kV, doc, pm, an, cdv, ct, osl, rfl, lk, hcd⟩ := F.ex
 refine fn_of lk hcd S (fun vs H Q E ⟨ts, M, Q3, E3, r, _, q, _⟩ => by rw [r.length]; exact len _ _ _ _ q) fun A outer s H vs Q E hr ⟨ts, M, Q3, Ex, r, hh, q, en, ex⟩ => ?_
 have L := leaves_cx (P := P) (w := w) (K := K) (mg := mg) (base := base) (N := N) (qual := qual) (scope := defScope st) (f := f) (cd := cdv) (A := A) (outer := outer) (s := s) (H := H) (E := E)
 refine ⟨_, hbody cdv A outer s H E (fun nm _ M' => ∃ M0, Sub M0 M' ∧ Ex nm M0) hr (fun pins σ H' s' h0 a C nm ρ M' I fly old m k _ hh' q' => ?_) (fun pins σ H' s' h' a C vs' nm ρ M' I made m k _ hh' q' => ?_) _ _ _ (rd ts M Q3 Ex q), Kp.refl, rho_start r, hh, ⟨?_, ?_, fun _ _ _ _ _ _ _ z => z.elim, fun _ _ _ _ _ _ _ z => z.elim⟩⟩
 · obtain ⟨M0, hs, q2⟩ := q'
   exact leave_on1 L I (fly.older old.start) (ex nm C M0 H' k (hh'.sub hs) m q2)
 · obtain ⟨M0, hs, q2⟩ := q'
   exact leave_new1 L I made (ex nm C M0 H' k (hh'.sub hs) m q2)
 · rintro ρ' M' σ' H' k hr' hh' ⟨M0, hs, q'⟩
   exact en .non .non M0 H' k (hh'.sub hs) rep_non q'
 · rintro t' v' M' H' k hh' r' ⟨M0, hs, q'⟩
   exact en t' v' M0 H' k (hh'.sub hs) r' q'
end
end L2
namespace L2
open PySem PySem.Spec PyProof.Rows
structure XLook (K : PySem.W.Frag) (C : Addr) : Prop where
 ga : PySem.W.findIn K (.ref C) "__getattribute__" = some (some (.builtin "BaseException.__getattribute__"))
 cl : PySem.W.findIn K (.ref C) "__class__" = some (some (.builtin "object.__class__"))
 na : PySem.W.findIn K (.ref C) "__getattr__" = some none
 ob : PySem.W.subIn K (.ref C) (.type "object") = some true
 be : PySem.W.subIn K (.ref C) (.type "BaseException") = some true
 is : (PySem.W.clsIn K C).isSome = true
section
variable {prog : Program} {w : World} {A : Around} {E : Value → Shared → Prop} {s : Shared} {h : Heap} {g : Array GenState} {d : Drawn} {t : Nat} {os : OsState} {a C : Addr} {o : Obj} {K : PySem.W.Frag}
theorem xc_ty {M : Model} (hx : h.get? a = some o) (hc : o.cls = .ref C) : PySem.W.Looks M h (typeOf (.ref a)) (.ref C) := hc ▸ (PySem.W.Looks.ld hx).andThen .now
local macro_rules | `(tactic| walk_at "xc") => `(tactic| (repeat any_goals (first | wp_step | assumption)))
theorem xc_get {R : Result → Shared → Prop} (X : K.In h) (L : XLook K C) (hx : h.get? a = some o) (hc : o.cls = .ref C) (hq : R (.ok (.ret (.ref C))) ⟨h, g, d, t, os⟩) :
   codeAny (model prog w) A (.call (.builtin "getset_descriptor.__get__") ⟨[.builtin "object.__class__", .ref a, .ref C], []⟩) R ⟨h, g, d, t, os⟩ := by
 have k5 : (⟨h, g, d, t, os⟩ : Shared).TypeIs (.builtin "object.__class__") "getset_descriptor" := F.typeOf_object_class
 have k6 := PySem.W.looks_subIn (M := model prog w) X L.ob
 obtain ⟨oc, od, dt, sl⟩ := o
 have hc' : oc = .ref C := hc
 subst hc'
 refine codeAny_call_builtin F.slot_gs_get.plain F.entry_gs_get (F.slot_gs_get.check _ _ _ _ _ _ _ _ k5 (F.args_gs_get _ _ _) ?_)
 walk_at "xc"
 rw [F.owner_object_class]
 refine k6.at ?_
 walk_at "xc"
 refine ⟨Code.quiet_builtin _ (by decide +kernel), codeAny_builtin F.entry_object_class ?_⟩
 walk_at "xc"
theorem xc_check {M : Model} {nameV : Value} {Q : Unit → Shared → Prop} (X : K.In h) (L : XLook K C) (hx : h.get? a = some o) (hc : o.cls = .ref C) (hq : Q () ⟨h, g, d, t, os⟩) :
   wpAny M A (checkBuiltinCall "BaseException.__getattribute__" ⟨[.ref a, nameV], []⟩) Q E ⟨h, g, d, t, os⟩ := by
 have e1 : builtinKind "BaseException.__getattribute__" = some .slot := by decide +kernel
 have e2 : splitId "BaseException.__getattribute__" = some ("BaseException", "__getattribute__") := by decide +kernel
 have k6 := PySem.W.looks_subIn (M := M) X L.be
 have e3 := F.args_bexc_ga (.ref a) nameV
 obtain ⟨oc, od, dt, sl⟩ := o
 have hc' : oc = .ref C := hc
 subst hc'
 simp only [checkBuiltinCall, e1, e2]
 refine wpAny_bind ?_
 unfold isInstance
 walk_at "xc"
 refine k6.at ?_
 walk_at "xc"
theorem xc_entry {tk : Tok} {Q : Fin → Shared → Prop} (X : K.In h) (L : XLook K C) (hx : h.get? a = some o) (hc : o.cls = .ref C) (hq : Q (.done (.ret (.ref C))) ⟨h, g, d, t, os⟩) :
   wpAny (model prog w) A (Builtin.«object.__getattribute__» ⟨[.ref a, .str "__class__" tk], []⟩) Q E ⟨h, g, d, t, os⟩ := by
 have k5 : (⟨h, g, d, t, os⟩ : Shared).TypeIs (.builtin "object.__class__") "getset_descriptor" := F.typeOf_object_class
 have f5 := F.typeOf_object_class
 have f6 := F.slot_gs_get.lookup
 have f7 := F.slot_gs_set.lookup
 have k6 := PySem.W.looks_findIn (M := model prog w) X L.cl
 obtain ⟨oc, od, dt, sl⟩ := o
 have hc' : oc = .ref C := hc
 subst hc'
 walk_at "xc"
 refine k6.at ?_
 walk_at "xc"
 refine xc_get X L hx rfl ?_
 walk_at "xc"
theorem xc_call {tk : Tok} {R : Result → Shared → Prop} (X : K.In h) (L : XLook K C) (hx : h.get? a = some o) (hc : o.cls = .ref C) (hq : R (.ok (.ret (.ref C))) ⟨h, g, d, t, os⟩) :
   codeAny (model prog w) A (.call (.builtin "BaseException.__getattribute__") ⟨[.ref a, .str "__class__" tk], []⟩) R ⟨h, g, d, t, os⟩ :=
 codeAny_call_builtin F.attr_ValueError.ga.plain F.entry_bexc_ga (xc_check X L hx hc (xc_entry X L hx hc hq))
theorem xc_by {tk : Tok} {Q : Value → Shared → Prop} (X : K.In h) (L : XLook K C) (hx : h.get? a = some o) (hc : o.cls = .ref C) (hq : Q (.ref C) ⟨h, g, d, t, os⟩) :
   wpAny (model prog w) A (getAttrBy (.ref a) (.str "__class__" tk) false) Q E ⟨h, g, d, t, os⟩ := by
 have f3 := F.attr_ValueError.ga.bind (.ref a)
 have k7 := PySem.W.looks_findIn (M := model prog w) X L.ga
 have hx2 : (Value.builtin "BaseException.__getattribute__" == Value.builtin "object.__getattribute__") = false := by decide +kernel
 have hx1 : (onTheHeap (Value.ref C) && Value.builtin "BaseException.__getattribute__" == Value.builtin "object.__getattribute__") = false := by rw [hx2]; rfl
 obtain ⟨oc, od, dt, sl⟩ := o
 have hc' : oc = .ref C := hc
 subst hc'
 walk_at "xc"
 refine k7.at ?_
 walk_at "xc"
 refine (PySem.W.looks_findIn (M := model prog w) X L.na).at ?_
 walk_at "xc"
 refine xc_call X L hx rfl ?_
 walk_at "xc"
theorem xc_attr {Q : Option Value → Shared → Prop} (X : K.In h) (L : XLook K C) (hx : h.get? a = some o) (hc : o.cls = .ref C) (hq : Q (some (.ref C)) ⟨h, g, d, t + 1, os⟩) :
   wpAny (model prog w) A (getAttr? (.ref a) "__class__") Q E ⟨h, g, d, t, os⟩ := by
 unfold getAttr? getAttrBy?
 repeat any_goals (first | with_reducible apply xc_by X L hx hc | wp_step | assumption)
end
noncomputable def XAt (a C : Addr) (h : Heap) : Prop := ∃ o, h.get? a = some o ∧ o.cls = .ref C
theorem kitx_exc {K : PySem.W.Frag} {a C : Addr} (L : XLook K C) : PySem.W.KitX K (.ref a) (.ref C) (XAt a C) where
 ty := fun M h _ ⟨o, h1, h2⟩ => xc_ty h1 h2
 it := fun M h X _ => by
   have hcl := L.is
   unfold PySem.W.clsIn at hcl
   split at hcl
   · rename_i c' d' cd' sl' ho
     intro A' Q' E' s' k q
     unfold isType loadHead
     refine wpAny_bind (wpAny_loadPart (k _ _ (X _ _ ho)) ?_)
     exact wpAny_pure q
   · simp at hcl
 ne := fun h tp dd its n sl X htp => by
   refine Bool.eq_false_iff.mpr fun q => ?_
   have e := Value.ref.inj (beq_iff_eq.mp q)
   subst e
   have hcl := L.is
   unfold PySem.W.clsIn at hcl
   split at hcl
   · rename_i c' d' cd' sl' ho
     cases (X _ _ ho).symm.trans htp
   · simp at hcl
 ca := fun {prog w A E Q s} X ⟨o, h1, h2⟩ k => by
   obtain ⟨h, g, d, t, os⟩ := s
   exact xc_attr X L h1 h2 k
end L2
namespace L2
open PySem PySem.Spec PyProof.Rows
noncomputable abbrev CX0' : CXT := fun _ _ _ _ _ _ => False
structure RoomH (k : Nat) (A : Around) : Prop where
 dp : A.depth + 3 * k + 5 < recursionLimit
 un : A.units + 16 * k + 200 < cLine
theorem RoomH.depth {k : Nat} {A : Around} (r : RoomH k A) : A.depth < recursionLimit := by have := r.dp; lia
theorem RoomH.deeper {k : Nat} {A : Around} (r : RoomH (k + 1) A) (env : Env) : RoomH k (A.deeper env) :=
 ⟨by have := r.dp; show A.depth + 1 + 3 * k + 5 < _; lia, by have := r.un; show A.units + 3 + 16 * k + 200 < _; lia⟩
structure FnOkH (P : Program) (w : World) (K : PySem.W.Frag) (mg : Str → Option Value) (base : Heap) (k : Nat) (f : Addr) (fd : FuncData) (ps : List Str) (sp : Sp) : Prop where
 len : ∀ vs H Q E, sp vs H Q E → vs.length = ps.length
 run : ∀ (A : Around) (outer : List Env) (s : Shared) (H : Hp) (args : Args) (us : List Value) (vs : List V) (Q : VK) (E : XK), RoomH k A → Env0 P w K mg base A outer s H → BindsTo s fd args (ps.zip us) → Vals vs us → sp vs H Q E →
   codeAny (model P w) A (.call (.ref f) args) (CR CX0' outer P w H s Q E) s
noncomputable def cxOfH (CX : CXT) (P : Program) (w : World) (K : PySem.W.Frag) (mg : Str → Option Value) (base : Heap) (N : List Str) (qual : Str) (scope : Scope) (f : Addr) (cd : Value) (A : Around) (outer : List Env) (s : Shared) (H : Hp) (E : XK) : Cx where
 prog := P
 w := w
 K := K
 mg := mg
 base := base
 A := A.deeper (envOfC qual scope s.heap.objs.size f cd)
 N := N
 s₀ := s
 H₀ := H
 env := envOfC qual scope s.heap.objs.size f cd
 outer := outer
 stack := envOfC qual scope s.heap.objs.size f cd :: outer
 ex := []
 calm := false
 fn := fun _ => true
 pn := []
 xe := fun _ _ => False
theorem inv_startH {P : Program} {w : World} {K : PySem.W.Frag} {mg : Str → Option Value} {base : Heap} {N ps : List Str} {qual : Str} {scope : Scope} {f : Addr} {cd : Value} {A : Around} {outer : List Env} {s s1 : Shared} {H : Hp} {E : XK} {us : List Value} {vs : List V}
   (S : FnScope N ps scope) (e0 : Env0 P w K mg base A outer s H) (hl : vs.length = ps.length) (r : Vals vs us)
   (x : InCallC s s.heap.objs.size (bindL (envOfC qual scope s.heap.objs.size f cd).kindOf (ps.zip us) fun _ => none) (cellsFrom (s.heap.objs.size + 1) scope.names []) (bindC (envOfC qual scope s.heap.objs.size f cd).kindOf (ps.zip us) fun _ => none) s1) :
   Inv (cxOfH CX0' P w K mg base N qual scope f cd A outer s H E) [] (start N vs) H s1 := by
 have hpl : ps.length ≤ N.length := by have := congrArg List.length S.pre; rw [List.length_take] at this; lia
 obtain ⟨h1, tk, rfl, hk⟩ := x.done
 have noA : ∀ b : Addr, b ∉ (cxOfH CX0' P w K mg base N qual scope f cd A outer s H E).ex := fun b z => absurd (show b ∈ ([] : List Addr) from z) (by simp)
 refine ⟨⟨e0.mod, S.kind, rfl, rfl, Nat.le_refl _, fun y z c h1 h2 => ?_, fun y hy => ?_, fun y c _ h => ?_, fun z => Bool.noConfusion z, Around.frames_deeper e0.frames, .inr ⟨rfl, rfl⟩, fun b z => absurd z (noA b), e0.bs, e0.bsz, fun b _ _ => noA b, fun b z => absurd z (noA b), e0.funs, e0.frf⟩,
   rfl, e0.bare, Un.kept hk, ⟨_, x.toInCall.ns, fun i y v h1 h2 h3 => ?_⟩, fun y c h => ⟨_, x.cell y c h⟩, e0.hok.fresh (Nat.le_refl _), fun y c h => ?_, fun p hp => absurd (show p ∈ ([] : List (Addr × Obj)) from hp) (by simp), e0.hok.kept hk, ?_⟩
 · exact name_of_addr x.apart (PySem.mem_of_lookup h1) (PySem.mem_of_lookup h2)
 · have hy : scope.names.lookup y = some .cell ∨ scope.names.lookup y = some .free := hy
   rcases hy with hy | hy
   · exact cell_has hy
   · exact absurd rfl (S.nofree _ (PySem.mem_of_lookup hy))
 · exact Nat.le_of_lt (x.above y c (PySem.mem_of_lookup h))
 · have hi : i < vs.length := by
     unfold start at h2
     by_cases hi : i < vs.length
     · exact hi
     · rw [List.getElem?_append_right (by simpa using hi)] at h2
       rw [List.getElem?_replicate] at h2
       split at h2 <;> cases h2
   have ha : vs[i]? = some v := by
     unfold start at h2
     rw [List.getElem?_append_left (by simpa using hi), List.getElem?_map] at h2
     cases e : vs[i]? with
     | none => rw [e] at h2; cases h2
     | some a => rw [e] at h2; cases h2; rfl
   obtain ⟨u, hu, rv⟩ := r.get ha
   have hp : ps[i]? = some y := by
     rw [← S.pre, List.getElem?_take_of_lt (by lia)]; exact h1
   have ndP : ps.Nodup := by rw [← S.pre]; exact S.nd.sublist (List.take_sublist _ _)
   refine ⟨u, rv, ?_⟩
   rcases S.par y (List.mem_of_getElem? hp) with k | k
   · exact .inl ⟨k, bindL_get ndP hp hu k⟩
   · obtain ⟨c, e⟩ := cell_has (n := s.heap.objs.size + 1) k
     refine .inr ⟨.inl k, c, e, ?_⟩
     have q := x.cell y c e
     rw [bindC_get ndP hp hu (by show scope.names.lookup y ≠ _; rw [k]; decide)] at q
     exact q
 · exact e0.hok.fresh (Nat.le_of_lt (x.above y c (PySem.mem_of_lookup h)))
 · unfold start
   show _ = N.length
   rw [List.length_append, List.length_map, List.length_replicate]
   lia
theorem fn_ofH {P : Program} {w : World} {K : PySem.W.Frag} {mg : Str → Option Value} {base : Heap} {k : Nat} {f : Addr} {name qual : Str} {params : Arguments} {body : List Stmt} {scope : Scope} {dV kV doc pm cdv ct oc : Value} {an od : Option Addr}
   {osl : Array (Option Value)} {N ps : List Str} {sp : Sp} (lk : K.lookup f = some ⟨oc, od, .func (PySem.W.fnOf name qual params body scope dV kV doc pm an cdv ct), osl⟩) (hcd : PySem.W.codeIn K cdv qual = true) (S : FnScope N ps scope)
   (len : ∀ vs H Q E, sp vs H Q E → vs.length = ps.length)
   (hbody : ∀ (A : Around) (outer : List Env) (s : Shared) (H : Hp) (vs : List V) (Q : VK) (E : XK), RoomH k (A.deeper (envOfC qual scope s.heap.objs.size f cdv)) → sp vs H Q E →
     ∃ t, PSs (cxOfH CX0' P w K mg base N qual scope f cdv A outer s H E) body t ∧ t { nx := fun _ H' => Q .non H', rt := Q } (start N vs) H) :
   FnOkH P w K mg base (k + 1) f (PySem.W.fnOf name qual params body scope dV kV doc pm an cdv ct) ps sp := by
 refine ⟨len, fun A outer s H args us vs Q E hr e0 hb r hsp => ?_⟩
 have hl := len _ _ _ _ hsp
 have KX : K.In s.heap := e0.mod.kin.keeps fun b o e => (e0.bs b o e).1
 have lim : s.heap.NoLimit := e0.mod.nolimit.keeps fun b o e => (e0.bs b o e).1
 have hkind : ∀ y ∈ ps.zip us, scope.names.lookup y.1 = some .local ∨ (scope.names.lookup y.1 = some .cell ∧ ((cellsFrom (s.heap.objs.size + 1) scope.names []).lookup y.1).isSome = true) := fun ⟨n, v⟩ hy => by
   rcases S.par n (List.of_mem_zip hy).1 with q | q
   · exact .inl q
   · exact .inr ⟨q, PySem.W.cellsFrom_some _ _ _ (.inl q)⟩
 refine codeAny_call_function hr.depth (KX _ _ lk) rfl S.co S.gen rfl (PySem.W.codeRec_of KX hcd) (hb _ _ _ _ ?_)
 refine wpAny_newFunctionEnv_cells S.kind hkind fun env he s1 x => ?_
 subst he
 refine ⟨lim.keeps x.toInCall.keep, codeAny_func ?_⟩
 obtain ⟨t, ht, hq⟩ := hbody A outer s H vs Q E (hr.deeper _) hsp
 have I : Inv (cxOfH CX0' P w K mg base N qual scope f cdv A outer s H E) [] (start N vs) H s1 := inv_startH S e0 hl r x
 refine wpAny_mono (ht [] s1 (start N vs) H _ I hq) (fun fl s' hs => ?_) fun e s' hs => hs.elim
 have fin : ∀ {σ' : St} {H' : Hp} {v : V} {u : Value}, Inv (cxOfH CX0' P w K mg base N qual scope f cdv A outer s H E) [] σ' H' s' → RelV v u → Q v H' → CE outer P w H s Q u s' :=
   fun {σ' H' v u} J rv q => ⟨v, H', J.os, J.bare, J.base, J.hok, rv, q⟩
 cases fl with
 | ret u =>
   obtain ⟨v, σ', H', J, rv, q⟩ := hs
   exact fin J rv q
 | next =>
   obtain ⟨σ', H', J, q⟩ := hs
   exact fin (v := V.non) (u := Value.none) J rfl q
 | brk =>
   obtain ⟨_, _, _, q⟩ := hs
   exact False.elim q
 | cont =>
   obtain ⟨_, _, _, q⟩ := hs
   exact False.elim q
end L2
namespace L2
open PySem PySem.Spec PyProof.Rows
structure XOne (K : PySem.W.Frag) (mg : Str → Option Value) (P C : Addr) (nm : Str) : Prop where
 mg : mg nm = some (.ref C)
 ok : PySem.W.excIn K C bmVE "ValueError.__new__" = true
 lk : XLook K C
 up : PySem.W.subIn K (.ref C) (.ref P) = some true
 ve : PySem.W.kitOne K (.ref C) (.type "ValueError") = some true
section
variable {X : Cx} {pos : Pos}
noncomputable def tIsX (i : Nat) (D : Value) (K : PySem.W.Frag) : TE := fun σ H Q => ∃ a C b, σ[i]? = some (some (.ref a)) ∧ (∃ φ, H a = some (.ext φ) ∧ ∀ h, φ h → XAt a C h) ∧ XLook K C ∧ PySem.W.kitOne K (.ref C) D = some b ∧ Q (.bl b) H
theorem pe_isx {i : Nat} {x y : Str} {D : Value} {p p1 p2 : Pos} (hN : X.N[i]? = some x) (hv : Vis X.env.scope x) (hm : X.mg "isinstance" = none) (hD : ∀ (pins : List (Addr × Obj)) (s : Shared) (σ : St) (H : Hp) (Q : Value → Shared → Prop) (E : Value → Shared → Prop), Inv X pins σ H s → Q D s → wpAny (model X.prog X.w) X.A (eval (.Name y p2) X.env) Q E s)
   (hx1 : (x == ("__debug__" : Str)) = false) (hx2 : (x == ("__classdict__" : Str)) = false) (hg : Gl X "isinstance" := by rfl)
   (he : starEach [.Name x p1, .Name y p2] X.env = (false, eval (.Name x p1) X.env) :: (false, eval (.Name y p2) X.env) :: [] := by rfl) :
   PE X (.Call (.Name "isinstance" p) [.Name x p1, .Name y p2] [] pos) (tIsX i D X.K) := by
 intro pins s σ H Q I ⟨a, C, b, e1, ⟨φ, e2, e3⟩, L, e4, q⟩
 refine wpAny_Call_Name_kw (ld_blt I hg hm boot_isinstance ?_ (by decide) (by decide))
 have hpl : (backTo pos (starEach [.Name y p2] X.env)).any (·.1) = false := by
   have : starEach [Expr.Name y p2] X.env = [(false, eval (.Name y p2) X.env)] := rfl
   rw [this]; rfl
 refine PyProof.Rows.callWith_builtin1 ?_ (by rfl) hpl
 rw [he]
 refine Calls.spliced_cons (thn ((pe_var hN hv hx1 hx2) pins s σ H (fun v H1 => v = .ref a ∧ H1 = H) I ⟨.ref a, e1, rfl, rfl⟩) fun u s1 ⟨v, H1, I1, r, ev, eh⟩ => ?_)
 subst ev eh
 obtain rfl : u = Value.ref a := r
 refine Calls.spliced_cons (hD pins s1 σ H1 _ _ I1 (Calls.spliced_nil ?_))
 obtain ⟨hφ, _, _⟩ := I1.hok a _ e2
 exact PySem.W.kia_one (kitx_exc L) I1.kIn (e3 _ hφ) e4 (fun z => nomatch z) fun tk => ⟨.bl b, H1, I1.tok _, rfl, q⟩
end
end L2
namespace L2
open PySem PySem.Spec PyProof.Rows
section
variable {X : Cx} {pins : List (Addr × Obj)} {σ : St} {H : Hp} {s : Shared}
theorem Inv.flown {B h2 : Heap} {a T : Addr} (I : Inv X pins σ H s) (hx : X.ex = []) (hst : X.stack = X.env :: X.outer) (hfr : X.env.frame = some X.env.locals)
   (hB : ∀ b o, s.heap.get? b = some o → b ∉ frs X.stack → b ≠ a → b ≠ T → B.get? b = some o) (k1 : B.StaysIn h2) (k4 : s.heap.UpToSlots h2)
   (na : H a = none ∧ X.s₀.heap.get? a = none ∧ ∀ p ∈ X.pn ++ pins, p.1 ≠ a) (nT : H T = none ∧ X.s₀.heap.get? T = none ∧ ∀ p ∈ X.pn ++ pins, p.1 ≠ T) : Inv X pins σ H { s with heap := h2 } := by
 have fs : frs X.stack = X.env.locals :: X.fs := by
   rw [hst]; unfold frs; rw [List.filterMap_cons, hfr]; rfl
 have nL : ∀ b, X.s₀.heap.get? b ≠ none → b ≠ X.env.locals := fun b hb z => by
   cases q : X.s₀.heap.get? b with
   | none => exact hb q
   | some o => exact absurd (Heap.lt_size q) (Nat.not_lt.mpr (by rw [z]; exact I.ok.above))
 have stay : ∀ b o, s.heap.get? b = some o → b ∉ frs X.stack → b ≠ a → b ≠ T → h2.get? b = some o := fun b o q hf h1 h2 => k1 b o (hB b o q hf h1 h2)
 have ne0 : ∀ b o, X.s₀.heap.get? b = some o → b ≠ a ∧ b ≠ T := fun b o q =>
   ⟨fun z => (by rw [z, na.2.1] at q; cases q), fun z => (by rw [z, nT.2.1] at q; cases q)⟩
 have dfr : ∀ b ∈ frs X.stack, ∃ o, s.heap.get? b = some o ∧ ∀ vs, o.data ≠ .fields vs := fun b hb => (I.stack.mem hb).2
 obtain ⟨m, hn, hl⟩ := I.loc
 have cellk : ∀ c v, s.heap.IsCell c v → h2.IsCell c v := fun c v hc => by
   obtain ⟨o, ho, hd⟩ := hc
   obtain ⟨sl, e⟩ := k4 c o ho fun vs q => by rw [hd] at q; cases q
   exact ⟨_, e, hd⟩
 refine ⟨I.ok, I.os, I.bare, ⟨fun b o q n hf hb => ?_, fun b o q n hf hb => ?_, fun b o q n hb => I.base.free b o q n hb, fun b o q hb => ?_, I.base.tups, I.base.frzs, I.base.tbls⟩, ⟨m, k4.ns hn, fun i x v e1 e2 e3 => ?_⟩, fun x c e => ?_, I.free, I.freeC, fun p hp => ?_, fun b u q => ?_, I.len⟩
 · have e1 := I.base.keep b o q n hf hb
   refine stay b o e1 ?_ (ne0 b o q).1 (ne0 b o q).2
   rw [fs]
   intro hm
   rcases List.mem_cons.mp hm with z | z
   · exact nL b (by rw [q]; simp) z
   · exact hf z
 · obtain ⟨sl, e1⟩ := I.base.slot b o q n hf hb
   obtain ⟨o2, e2, e3⟩ := dfr b (by rw [fs]; exact List.mem_cons_of_mem _ hf)
   rw [e1] at e2
   cases e2
   obtain ⟨sl', e4⟩ := k4 b _ e1 e3
   exact ⟨sl', e4⟩
 · obtain ⟨o', e1⟩ := I.base.there b o q hb
   by_cases hm : b ∈ frs X.stack
   · obtain ⟨o2, e2, e3⟩ := dfr b hm
     obtain ⟨sl, e4⟩ := k4 b o2 e2 e3
     exact ⟨_, e4⟩
   · exact ⟨_, stay b o' e1 hm (ne0 b o q).1 (ne0 b o q).2⟩
 · obtain ⟨u, r, q⟩ := hl i x v e1 e2 e3
   refine ⟨u, r, ?_⟩
   rcases q with q | ⟨k, c, e, z⟩
   · exact .inl q
   · exact .inr ⟨k, c, e, cellk _ _ z⟩
 · obtain ⟨v, z⟩ := I.cell x c e
   exact ⟨v, cellk _ _ z⟩
 · obtain ⟨e, n, ne, nf, d⟩ := I.pin p hp
   refine ⟨stay p.1 p.2 e ?_ (na.2.2 p hp) (nT.2.2 p hp), n, ne, nf, d⟩
   rw [fs]
   intro hm
   rcases List.mem_cons.mp hm with z | z
   · exact ne z
   · exact nf z
 · refine (I.hok b u q).stay (fun c v hc r => ?_) (fun _ r => r) fun _ _ r => r
   have hne : H c ≠ none := by
     rcases hc with rfl | hc
     · rw [q]; simp
     · rw [hc]; simp
   refine stay c v r (fun hm => hne (I.stkFree c hm)) ?_ ?_
   · rintro rfl; exact hne na.1
   · rintro rfl; exact hne nT.1
theorem Inv.tag {a : Addr} {φ : Heap → Prop} (I : Inv X pins σ H s) (ha : H a = none) (ha0 : X.s₀.heap.get? a = none) (hp : ∀ p ∈ X.pn ++ pins, p.1 ≠ a) (hL : a ≠ X.env.locals) (hc : ∀ x c, X.env.cells.lookup x = some c → c ≠ a)
   (h1 : φ s.heap) (h2 : ∃ o, s.heap.get? a = some o) (h3 : ∀ g1 g2 : Heap, φ g1 → (∀ o, g1.get? a = some o → g2.get? a = some o) → φ g2) : Inv X pins σ (upd H a (.ext φ)) s := by
 have old : ∀ b o, X.s₀.heap.get? b = some o → b ≠ a := fun b o q z => by rw [z, ha0] at q; cases q
 have had : ∀ b u, H b = some u → b ≠ a := fun b u q z => by rw [z, ha] at q; cases q
 refine ⟨I.ok, I.os, I.bare, ⟨I.base.keep, I.base.slot, fun b o q n hb => by rw [upd_ne (old b o q)]; exact I.base.free b o q n hb, I.base.there, fun b xs q => ?_, fun b o u q => ?_, fun b ps q => ?_⟩, I.loc, I.cell, by rw [upd_ne (Ne.symm hL)]; exact I.free,
   fun x c e => by rw [upd_ne (hc x c e)]; exact I.freeC x c e, fun p hpp => ?_, fun b u q => ?_, I.len⟩
 · have e := I.base.tups b xs q; rw [upd_ne (had b _ e)]; exact e
 · have e := I.base.frzs b o u q; rw [upd_ne (had b _ e)]; exact e
 · obtain ⟨more, e⟩ := I.base.tbls b ps q; exact ⟨more, by rw [upd_ne (had b _ e)]; exact e⟩
 · obtain ⟨e, n, ne, nf, d⟩ := I.pin p hpp
   exact ⟨e, by rw [upd_ne (hp p hpp)]; exact n, ne, nf, d⟩
 · by_cases hb : b = a
   · subst hb
     rw [upd_same] at q
     cases q
     exact ⟨h1, h2, h3⟩
   · rw [upd_ne hb] at q
     exact (I.hok b u q).stay (fun c v _ r => r) (fun c r => by rw [upd_ne (had c _ r)]; exact r) fun c xs r => by rw [upd_ne (had c _ r)]; exact r
end
end L2
namespace L2
open PySem PySem.Spec PyProof.Rows
local macro_rules | `(tactic| walk_at "xc") => `(tactic| (repeat any_goals (first | wp_step | assumption)))
theorem xc_match {M : Model} {A : Around} {E : Value → Shared → Prop} {h : Heap} {g : Array GenState} {d : Drawn} {t : Nat} {os : OsState} {a C P : Addr} {o : Obj} {K : PySem.W.Frag} {Q : Bool → Shared → Prop}
   (X : K.In h) (hx : h.get? a = some o) (hc : o.cls = .ref C) (up : PySem.W.subIn K (.ref C) (.ref P) = some true) (pb : PySem.W.subIn K (.ref P) (.type "BaseException") = some true) (hP : PySem.W.excIn K P bmVE "ValueError.__new__" = true)
   (hq : Q true ⟨h, g, d, t, os⟩) : wpAny M A (excMatches (.ref a) (.ref P)) Q E ⟨h, g, d, t, os⟩ := by
 obtain ⟨bm, N, nm, qn, bs, hd, sn, sub, ab, col, dd, k0, k1, k2, k3, k5, mN, hC, _⟩ := exc_of X hP
 have f1 := tc_notTuple
 have f2 := PySem.W.looks_subIn (M := M) X pb
 have f3 := PySem.W.looks_subIn (M := M) X up
 obtain ⟨oc, od, dt, sl⟩ := o
 have hc' : oc = .ref C := hc
 subst hc'
 unfold excMatches
 walk_at "xc"
 repeat (first | refine f2.at ?_ | refine f3.at ?_ | (with_reducible refine wpAny_loadPart_at hC ?_) | (with_reducible refine wpAny_loadPart_at hx ?_) | wp_step)
 exact hq
noncomputable def spM (K : PySem.W.Frag) (Ds : List Value) : Sp := fun vs H Q _ => ∃ a C φ bs, vs = [.ref a] ∧ H a = some (.ext φ) ∧ (∀ h, φ h → XAt a C h) ∧ XLook K C ∧ Ds.map (PySem.W.kitOne K (.ref C)) = (bs : List Bool).map some ∧
 ∀ l1 l2 r, H l1 = none → upd H l1 (.lst ((bs.take 4).map V.bl)) l2 = none → upd (upd H l1 (.lst ((bs.take 4).map V.bl))) l2 (.lst ((bs.drop 4).map V.bl)) r = none →
   Q (.ref r) (upd (upd (upd H l1 (.lst ((bs.take 4).map V.bl))) l2 (.lst ((bs.drop 4).map V.bl))) r (.lst (bs.map V.bl)))
structure DfM (P : Program) (w : World) (K : PySem.W.Frag) (mg : Str → Option Value) (base : Heap) (n : Nat) (x : Str) (Ds : List Value) : Prop where
 out : ∃ f fd, FnOkH P w K mg base n f fd ["e"] (spM K Ds) ∧ mg x = some (.ref f) ∧ PySem.W.keepIn K (.ref f) = true ∧ Binds K fd ["e"] []
theorem DfM.mono {P : Program} {w : World} {K : PySem.W.Frag} {mg : Str → Option Value} {base : Heap} {n m : Nat} {x : Str} {Ds : List Value} (D : DfM P w K mg base n x Ds) (h : n ≤ m) : DfM P w K mg base m x Ds := by
 obtain ⟨f, fd, F, a, b, c⟩ := D.out
 exact ⟨f, fd, ⟨F.len, fun A outer s H args us vs Q E hr => F.run A outer s H args us vs Q E ⟨by have := hr.dp; lia, by have := hr.un; lia⟩⟩, a, b, c⟩
section
variable {X : Cx} {pos : Pos}
theorem pe_callM {n : Nat} {x y : Str} {i : Nat} {p p1 : Pos} {Ds : List Value} (D : DfM X.prog X.w X.K X.mg X.base n x Ds) (hr : RoomH n X.A) (hN : X.N[i]? = some y) (hv : Vis X.env.scope y) (hg : Gl X x) (hx1 : (y == ("__debug__" : Str)) = false) (hx2 : (y == ("__classdict__" : Str)) = false) (hdb : (x == ("__debug__" : Str)) = false)
   (he : starEach [.Name y p1] X.env = (false, eval (.Name y p1) X.env) :: starEach [] X.env := by rfl) (hpl : (backTo pos (starEach [] X.env)).any (·.1) = false := by rfl) :
   PE X (.Call (.Name x p) [.Name y p1] [] pos) (fun σ H Q => ∃ v, σ[i]? = some (some v) ∧ spM X.K Ds [v] H Q fun _ _ _ => False) := by
 intro pins s σ H Q I ⟨v, ev, q⟩
 obtain ⟨f, fd, F, hm, hk, hb⟩ := D.out
 refine wpAny_Call_Name_kw (ld_glob I hg hm ?_ hdb)
 have pa := pa_cons (pe_var (X := X) (pos := p1) hN hv hx1 hx2) pa_nil he
 refine PySem.W.callWith_K (h₀ := X.base) I.ok.mod.kin hk (thn (pa pos pins s σ H (fun vs H1 => vs = [v] ∧ H1 = H) I ⟨v, ev, rfl, rfl⟩) fun us s1 ⟨vs, H1, I1, r, e1, e2⟩ => ⟨I1.kIn, ?_⟩) he hpl
 subst e1 e2
 have r2 : Vals ([v] ++ []) (us ++ []) := r.append .nil
 have hl : (us ++ []).length = ["e"].length := by rw [← r2.length]; rfl
 refine wpAny_call (codeAny_mono (F.run X.A X.stack s1 H1 ⟨us, []⟩ (us ++ []) ([v] ++ []) Q _ hr I1.env0 (hb s1 us I1.kIn hl) r2 q) fun r s' hq => ?_)
 cases r with
 | error e => exact hq.elim
 | ok fl =>
   cases fl with
   | ret u => exact I1.after hq
   | next => exact False.elim hq
   | brk => exact False.elim hq
   | cont => exact False.elim hq
end
end L2
namespace L2
open PySem PySem.Spec PyProof.Rows
section
variable {X : Cx} {pins : List (Addr × Obj)} {σ σ' : St} {H : Hp} {s : Shared}
theorem Inv.names {h' : Heap} {m' : Str → Option Value} (I : Inv X pins σ H s) (hs : Heap.SameBut X.env.locals s.heap h') (hn : h'.Ns X.env.locals m')
   (hl : ∀ (i : Nat) (x : Str) (v : V), X.N[i]? = some x → σ'[i]? = some (some v) → Vis X.env.scope x → ∃ u, RelV v u ∧ Look X.env h' m' x u) (len : σ'.length = X.N.length) : Inv X pins σ' H { s with heap := h' } := by
 have cne := I.cne
 have hL0 : X.s₀.heap.get? X.env.locals = none := Heap.get?_none_of_le I.ok.above
 have stay : ∀ b, b ≠ X.env.locals → h'.get? b = s.heap.get? b := fun b hb => hs.2 b hb
 have old : ∀ b o, X.s₀.heap.get? b = some o → b ≠ X.env.locals := fun b o q z => by rw [z, hL0] at q; cases q
 refine ⟨I.ok, I.os, I.bare, ⟨fun b o q n hf hb => (stay b (old b o q)).trans (I.base.keep b o q n hf hb), fun b o q n hf hb => ?_, I.base.free, fun b o q hb => ?_, I.base.tups, I.base.frzs, I.base.tbls⟩, ⟨m', hn, hl⟩, fun x c e => ?_, I.free, I.freeC, fun p hp => ?_, fun b u q => ?_, len⟩
 · obtain ⟨sl, e⟩ := I.base.slot b o q n hf hb
   exact ⟨sl, (stay b (old b o q)).trans e⟩
 · obtain ⟨o', e⟩ := I.base.there b o q hb
   exact ⟨o', (stay b (old b o q)).trans e⟩
 · obtain ⟨v, o, e1, e2⟩ := I.cell x c e
   exact ⟨v, o, (stay c (cne x c e)).trans e1, e2⟩
 · obtain ⟨e, n, ne, nf, d⟩ := I.pin p hp
   exact ⟨(stay p.1 ne).trans e, n, ne, nf, d⟩
 · refine (I.hok b u q).stay (fun c v hc r => (stay c ?_).trans r) (fun _ r => r) fun _ _ r => r
   rintro rfl
   rcases hc with rfl | hc
   · rw [I.free] at q; cases q
   · rw [I.free] at hc; cases hc
theorem cell_same {h h' : Heap} {L c : Addr} {v : Option Value} (hs : Heap.SameBut L h h') (hc : c ≠ L) (z : h.IsCell c v) : h'.IsCell c v := by
 obtain ⟨o, e1, e2⟩ := z
 exact ⟨o, (hs.2 c hc).trans e1, e2⟩
theorem name_goes {E : Value → Shared → Prop} {i : Nat} {x : Str} {pos : Pos} {v : V} {Q : Unit → Shared → Prop} (I : Inv X pins σ H s) (hN : X.N.Nodup) (hi : X.N[i]? = some x) (hx : X.env.scope.names.lookup x = some .local)
   (h : ∀ s', Inv X pins (σ.set i none) H s' → Q () s') : wpAny (model X.prog X.w) X.A (do bindName X.env x .none; unbindBehindTheSuite X.env x pos) Q E s := by
 refine wpAny_bind (wpAny_bindName (store_ok I hN hi (.inl hx) (v := .non) (u := .none) rfl (fun s1 I1 => ?_) (.inr hx)))
 have hiσ : i < σ.length := by rw [I.len]; exact (List.getElem?_eq_some_iff.mp hi).1
 obtain ⟨m, hn, hl⟩ := id I1.loc
 obtain ⟨u, ru, lk⟩ := hl i x .non hi (List.getElem?_set_self hiσ) (.inl hx)
 have hm : m x = some u := by
   rcases lk with ⟨_, e⟩ | ⟨z | z, _⟩
   · exact e
   · exact absurd (hx.symm.trans z) (by simp)
   · exact absurd (hx.symm.trans z) (by simp)
 have hcls : (X.env.scope.kind == .class || (X.env.scope.kind == .module && X.env.locals != X.env.globals)) = false := by rw [I.ok.kind]; rfl
 unfold unbindBehindTheSuite
 refine wpAny_onRaise ?_
 refine wpAny_unbindName_local hx hn hm hcls fun h2 w hn2 hs2 => h _ ?_
 refine (I1.names (σ' := σ.set i none) hs2 hn2 (fun j y v' e1 e2 e3 => ?_) (by rw [List.length_set]; exact I.len))
 by_cases hj : i = j
 · subst hj
   rw [List.getElem?_set_self hiσ] at e2
   cases e2
 · rw [List.getElem?_set_ne hj] at e2
   obtain ⟨u', r', lk'⟩ := hl j y v' e1 (by rw [List.getElem?_set_ne hj]; exact e2) e3
   refine ⟨u', r', ?_⟩
   have hne : y ≠ x := fun e => hj (nodup_ix hN hi (e ▸ e1))
   rcases lk' with ⟨k, e⟩ | ⟨k, c, e, z⟩
   · exact .inl ⟨k, (if_neg hne).trans e⟩
   · exact .inr ⟨k, c, e, cell_same hs2 (I1.cne y c e) z⟩
theorem RhoR.unset {K : PySem.W.Frag} {ρ : En} (h : RhoR K σ H ρ) (i : Nat) : RhoR K (σ.set i none) H (ρ.set i none) := by
 refine ⟨by rw [List.length_set, List.length_set]; exact h.1, fun j t e => ?_⟩
 by_cases hj : i = j
 · subst hj
   by_cases hl : i < ρ.length
   · rw [List.getElem?_set_self hl] at e; cases e
   · rw [List.getElem?_eq_none (by rw [List.length_set]; lia)] at e; cases e
 · rw [List.getElem?_set_ne hj] at e
   rw [List.getElem?_set_ne hj]
   exact h.2 j t e
end
end L2
namespace L2
open PySem PySem.Spec PyProof.Rows
section
variable {X : Cx} {body : List Stmt}
noncomputable def tTryM (tb : EK3 → TS3) (im ie : Nat) (names : List Str) (mk : Str → List Bool) : TS3 := fun D ρ M => tb (fun nm ρ' M' => nm ∈ names ∧ ∀ p, M' p = none → D.nx ((ρ'.set im (some (.adr p))).set ie none) (updM M' p (.lst ((mk nm).map T.bl)))) D ρ M
noncomputable abbrev Cx.tried (X : Cx) (pn : List (Addr × Obj)) (xe : Value → Shared → Prop) : Cx := { X with pn := pn, xe := xe }
noncomputable abbrev Cx.held (X : Cx) (a : Addr) : Cx := { X with A := X.A.mark (some (.ref a)), calm := false, xe := fun _ _ => False }
theorem Cx.Ok.tried {X : Cx} (ok : X.Ok) (pn : List (Addr × Obj)) (xe : Value → Shared → Prop) : (X.tried pn xe).Ok :=
 ⟨ok.mod, ok.kind, ok.glob, ok.blt, ok.above, ok.inj, ok.has, ok.cab, ok.hd, ok.frames, ok.stk, ok.exf, ok.bs, ok.bsz, ok.noex, ok.exfs, ok.funs, ok.frf⟩
theorem Cx.Ok.held {X : Cx} (ok : X.Ok) (a : Addr) : (X.held a).Ok :=
 ⟨ok.mod, ok.kind, ok.glob, ok.blt, ok.above, ok.inj, ok.has, ok.cab, fun z => Bool.noConfusion z, ok.frames, ok.stk, ok.exf, ok.bs, ok.bsz, ok.noex, ok.exfs, ok.funs, ok.frf⟩
theorem RelV.ref {a : Addr} : RelV (.ref a) (.ref a) := rfl
theorem reps_bools {K : PySem.W.Frag} {H : Hp} : ∀ bs : List Bool, Reps K H (bs.map V.bl) (bs.map T.bl)
 | [] => by unfold Reps; rfl
 | b :: bs => by
   unfold Reps
   exact ⟨_, _, rfl, rep_bl, reps_bools bs⟩
theorem set3 {α : Type} (l : List α) {i j : Nat} (h : i ≠ j) (x y z : α) : ((l.set j x).set i y).set j z = (l.set i y).set j z := by
 apply List.ext_getElem?
 intro k
 simp only [List.getElem?_set, List.length_set]
 by_cases h1 : j = k
 · simp [h1]
 · simp [h1]
theorem s_tryM {tb : EK3 → TS3} {im ie n : Nat} {names : List Str} {mk : Str → List Bool} {Ds : List Value} {tgt helper : Str} {P : Addr} {np tp hp ep cpos apos hpos pos : Pos}
   (hcalm : X.calm = true) (hex : X.ex = []) (hst : X.stack = X.env :: X.outer) (hfr : X.env.frame = some X.env.locals)
   (hb : ∀ (pn : List (Addr × Obj)) (xe : Value → Shared → Prop) (Ha : Hp) (E3 : EK3), Acc (X.tried pn xe) Ha E3 → HSsX (X.tried pn xe) Ha body (tb E3))
   (hP : X.mg "PlaitError" = some (.ref P)) (hPx : PySem.W.excIn X.K P bmVE "ValueError.__new__" = true) (pb : PySem.W.subIn X.K (.ref P) (.type "BaseException") = some true)
   (hn : ∀ nm ∈ names, ∃ C, XOne X.K X.mg P C nm ∧ Ds.map (PySem.W.kitOne X.K (.ref C)) = (mk nm).map some)
   (D : DfM X.prog X.w X.K X.mg X.base n helper Ds) (hr : Room n X.A) (hN : X.N.Nodup) (hne : im ≠ ie := by decide)
   (hi : X.N[im]? = some tgt := by rfl) (hxi : Loc X.env.scope tgt := by first | exact Or.inl rfl | exact Or.inr rfl) (hj : X.N[ie]? = some ("e" : Str) := by rfl) (hje : X.env.scope.names.lookup ("e" : Str) = some .local := by rfl)
   (hgP : Gl X "PlaitError" := by rfl) (hgh : Gl X helper := by rfl) (hdb : (helper == ("__debug__" : Str)) = false := by decide) (hfi : X.fn tgt = true ∨ X.env.scope.names.lookup tgt = some .local := by first | exact .inl rfl | exact .inr rfl)
   (he : ∀ (env : Env), starEach [.Name "e" ep] env = (false, eval (.Name "e" ep) env) :: starEach [] env := by intro _; rfl)
   (hsw : ∀ (env : Env), swapsWith (.Call (.Name helper hp) [.Name "e" ep] [] cpos) (some (.Name tgt tp)) apos.line env = pure false := by intro _; rfl) :
   HS X (.Try body [.ExceptHandler (some (.Name "PlaitError" np)) (some "e") [.Assign [.Name tgt tp] (.Call (.Name helper hp) [.Name "e" ep] [] cpos) apos] hpos] [] [] pos) (tTryM tb im ie names mk) := by
 intro D3 ρ M h pins s σ H D2 I ⟨hrr, hh, en⟩
 refine wpAny_Try_except ?_
 obtain ⟨xe0, hxe⟩ : ∃ xe0 : Value → Shared → Prop, xe0 = fun e s1 => wpAny (model X.prog X.w) X.A (noteFrame e X.env) (fun _ s2 => wpAny (model X.prog X.w) X.A (setFlight e none) (fun _ s3 => wpAny (model X.prog X.w) X.A (handleBy e X.env
     [.ExceptHandler (some (.Name "PlaitError" np)) (some "e") [.Assign [.Name tgt tp] (.Call (.Name helper hp) [.Name "e" ep] [] cpos) apos] hpos]) (SP X pins D2) X.xe s3) X.xe s2) X.xe s1 := ⟨_, rfl⟩
 have I' : Inv (X.tried (X.pn ++ pins) xe0) [] σ H s :=
   ⟨I.ok.tried _ _, I.os, I.bare, I.base, I.loc, I.cell, I.free, I.freeC, fun p hp => I.pin p (by simpa using hp), I.hok, I.len⟩
 refine wpAny_mono (hb (X.pn ++ pins) xe0 H _ ?_ D3 ρ M h [] s σ H D2 I' ⟨Kp.refl, hrr, hh, en⟩) (fun f s1 q => ?_) fun _ _ z => by rw [hxe] at z; exact z
 · intro pins' σ1 H1 s1 h0 a C nm ρ1 M1 J F old m k r1 h1 ⟨hnm, q⟩
   have J1 : Inv X pins σ1 H1 s1 := ⟨I.ok, J.os, J.bare, J.base, J.loc, J.cell, J.free, J.freeC, fun p hp => J.pin p (List.mem_append_left _ hp), J.hok, J.len⟩
   obtain ⟨C', x1, hmk⟩ := hn nm hnm
   have hCC : C' = C := by
     have := x1.mg.symm.trans m
     injection this with e
     injection e
   subst hCC
   obtain ⟨na, na0, oe, vs, a0, t1, t2, t3, t4, T5, oT, ts, t5, t6, t7, t8, t9, t10, t11⟩ := F
   have fA : H1 a = none ∧ X.s₀.heap.get? a = none ∧ ∀ p ∈ X.pn ++ pins, p.1 ≠ a := ⟨na, Classical.byContradiction fun z => old.start a z na0, fun p hp z => old.pins p (List.mem_append_left _ hp) (by rw [z]; exact na0)⟩
   have fT : H1 T5 = none ∧ X.s₀.heap.get? T5 = none ∧ ∀ p ∈ X.pn ++ pins, p.1 ≠ T5 := ⟨t7, Classical.byContradiction fun z => old.start T5 z t8, fun p hp z => old.pins p (List.mem_append_left _ hp) (by rw [z]; exact t8)⟩
   have hLa : a ≠ X.env.locals := fun z => old.loc (by show h0.get? X.env.locals = none; rw [← z]; exact na0)
   have hCa : ∀ x c, X.env.cells.lookup x = some c → c ≠ a := fun x c e z => old.cells x c e (by rw [z]; exact na0)
   have frames := I.ok.frames
   rw [hst] at frames
   have hl : s1.heap.FunFrames (PySem.W.hideAll s1.heap (a :: T5 :: frs X.stack)) (X.env :: X.outer) := by
     rw [← hst]
     exact funFrames_of J1.stack fun b hb => PySem.W.hideAll_none _ (List.mem_cons_of_mem _ (List.mem_cons_of_mem _ hb))
   have hfl : Heap.FlyingW (PySem.W.hideAll s1.heap (a :: T5 :: frs X.stack)) (X.env :: X.outer) a (.ref C') a0 s1.heap :=
     ⟨fun b o q => PySem.W.of_hideAll _ q, PySem.W.hideAll_none _ List.mem_cons_self, hl, oe, vs, T5, oT, ts, t1, ⟨t2, t4⟩, t3, t5, PySem.W.hideAll_none _ (List.mem_cons_of_mem _ List.mem_cons_self), t6, t9, t10, t11⟩
   have hB : ∀ b o, s1.heap.get? b = some o → b ∉ frs X.stack → b ≠ a → b ≠ T5 → (PySem.W.hideAll s1.heap (a :: T5 :: frs X.stack)).get? b = some o := fun b o q hf g1 g2 => PySem.W.hideAll_get _ q fun hm => by
     rcases List.mem_cons.mp hm with z | z
     · exact g1 z
     · rcases List.mem_cons.mp z with z | z
       · exact g2 z
       · exact hf z
   show xe0 (.ref a) s1
   rw [hxe]
   refine wpAny_looks_onW frames hfr hfl fun h4 hheld hsm4 => ?_
   refine wpAny_landsW (s := { s1 with heap := h4 }) hheld fun h5 hfl5 hsm5 => ?_
   have hsm : s1.heap.UpToSlots h5 := hsm4.trans hsm5
   have J5 : Inv (X.held a) pins σ1 H1 { s1 with heap := h5 } := by
     have := J1.flown hex hst hfr hB hfl5.1 hsm fA fT
     exact ⟨this.ok.held a, this.os, this.bare, this.base, this.loc, this.cell, this.free, this.freeC, this.pin, this.hok, this.len⟩
   obtain ⟨ob5, hob5, hcl5⟩ := hfl5.there
   refine wpAny_handleBy_cons (codeAny_handlers_test (ld_glob (X := X.held a) J5 hgP hP ?_)) (by intro q; cases q)
   refine xc_match J5.kIn hob5 hcl5 x1.up pb hPx ?_
   refine codeAny_handlers_suite_as ?_
   refine lands_againW (s := { s1 with heap := h5 }) hfl5 fun h6 hfl6 hsm6 => ?_
   have J6 : Inv (X.held a) pins σ1 H1 { s1 with heap := h6 } := by
     have := J1.flown hex hst hfr hB hfl6.1 (hsm.trans hsm6) fA fT
     exact ⟨this.ok.held a, this.os, this.bare, this.base, this.loc, this.cell, this.free, this.freeC, this.pin, this.hok, this.len⟩
   obtain ⟨ob6, hob6, hcl6⟩ := hfl6.there
   have J7 : Inv (X.held a) pins σ1 (upd H1 a (.ext (XAt a C'))) { s1 with heap := h6 } :=
     J6.tag (φ := XAt a C') na fA.2.1 fA.2.2 hLa hCa ⟨ob6, hob6, hcl6⟩ ⟨ob6, hob6⟩ fun g1 g2 ⟨o, e1, e2⟩ k => ⟨o, k o e1, e2⟩
   refine store_ok (X := X.held a) J7 hN hj (.inl hje) RelV.ref (fun s8 J8 => ?_) (.inr hje)
   have hie : ie < σ1.length := by rw [J1.len]; exact (List.getElem?_eq_some_iff.mp hj).1
   have hrh : RoomH n (X.held a).A := ⟨hr.dp, hr.un⟩
   have w := (pss_one (ps_set (X := X.held a) (i := im) (pos := apos) hN hi hxi (pe_callM (X := X.held a) (i := ie) (pos := cpos) (p := hp) (p1 := ep) D hrh hj (.inl hje) hgh (by decide) (by decide) hdb (he _) (by rfl)) (hsw _) hfi)) pins s8 (σ1.set ie (some (.ref a))) (upd H1 a (.ext (XAt a C')))
     { nx := fun σ' H' => ∃ p, σ' = (σ1.set ie (some (.ref a))).set im (some (.ref p)) ∧ Kp X.K H1 H' ∧ M1 p = none ∧ HR X.K H' (updM M1 p (.lst ((mk nm).map T.bl))), rt := fun _ _ => False } J8
     ⟨.ref a, List.getElem?_set_self hie, a, C', XAt a C', mk nm, rfl, upd_same, fun _ z => z, x1.lk, hmk, fun l1 l2 r e1 e2 e3 => ?_⟩
   · refine wpAny_mono w (fun f s9 q9 => ?_) fun _ _ z => z.elim
     cases f with
     | brk => obtain ⟨_, _, _, z⟩ := q9; exact False.elim z
     | cont => obtain ⟨_, _, _, z⟩ := q9; exact False.elim z
     | ret u => obtain ⟨_, _, _, _, _, z⟩ := q9; exact False.elim z
     | next =>
       obtain ⟨σ9, H9, J9, p, rfl, kp9, mp, hr9⟩ := q9
       have K9 : Inv X pins ((σ1.set ie (some (.ref a))).set im (some (.ref p))) H9 s9 := ⟨I.ok, J9.os, J9.bare, J9.base, J9.loc, J9.cell, J9.free, J9.freeC, J9.pin, J9.hok, J9.len⟩
       refine name_goes (v := .non) K9 hN hj hje fun s10 K10 => ⟨_, H9, K10, ?_⟩
       have es : ((σ1.set ie (some (V.ref a))).set im (some (V.ref p))).set ie none = ((σ1.set ie none).set im (some (V.ref p))).set ie none := by
         rw [set3 _ hne, set3 _ hne]
       rw [es]
       refine en.nx _ _ _ _ (k.trans kp9) ?_ hr9 (q p mp)
       have z := (((r1.kp kp9).unset ie).set im (rep_adr (a := p))).unset ie
       rw [set3 ρ1 hne] at z
       exact z
   · have c1 : H1 l1 = none := by
       by_cases z : l1 = a
       · rw [z, upd_same] at e1; cases e1
       · rwa [upd_ne z] at e1
     refine ⟨r, rfl, ?_, ?_, ?_⟩
     · exact (Kp.new na).trans ((Kp.new e1).trans ((Kp.new e2).trans (Kp.new e3)))
     · refine HR.free (h1.keep na |>.keep e1 |>.keep e2) e3
     · refine ((h1.keep na).keep e1).keep e2 |>.newL e3 (reps_bools _)
 · cases f with
   | next =>
     obtain ⟨σ', H', J, q⟩ := q
     exact wpAny_execs_nil ⟨σ', H', ⟨I.ok, J.os, J.bare, J.base, J.loc, J.cell, J.free, J.freeC, fun p hp => J.pin p (List.mem_append_left _ hp), J.hok, J.len⟩, q⟩
   | brk =>
     obtain ⟨σ', H', J, q⟩ := q
     exact ⟨σ', H', ⟨I.ok, J.os, J.bare, J.base, J.loc, J.cell, J.free, J.freeC, fun p hp => J.pin p (List.mem_append_left _ hp), J.hok, J.len⟩, q⟩
   | cont =>
     obtain ⟨σ', H', J, q⟩ := q
     exact ⟨σ', H', ⟨I.ok, J.os, J.bare, J.base, J.loc, J.cell, J.free, J.freeC, fun p hp => J.pin p (List.mem_append_left _ hp), J.hok, J.len⟩, q⟩
   | ret u =>
     obtain ⟨v, σ', H', J, r, q⟩ := q
     exact ⟨v, σ', H', ⟨I.ok, J.os, J.bare, J.base, J.loc, J.cell, J.free, J.freeC, fun p hp => J.pin p (List.mem_append_left _ hp), J.hok, J.len⟩, r, q⟩
end
end L2
namespace L2
open PySem PySem.Spec PyProof.Rows
noncomputable def xAll (K : PySem.W.Frag) (P : Addr) (cs : List (Str × Addr)) : Bool :=
 PySem.W.excIn K P bmVE "ValueError.__new__" && (PySem.W.subIn K (.ref P) (.type "BaseException") == some true) && cs.all fun c =>
   PySem.W.excIn K c.2 bmVE "ValueError.__new__" && (PySem.W.findIn K (.ref c.2) "__getattribute__" == some (some (.builtin "BaseException.__getattribute__"))) && (PySem.W.findIn K (.ref c.2) "__class__" == some (some (.builtin "object.__class__")))
     && (PySem.W.findIn K (.ref c.2) "__getattr__" == some none) && (PySem.W.subIn K (.ref c.2) (.type "object") == some true) && (PySem.W.subIn K (.ref c.2) (.type "BaseException") == some true) && (PySem.W.clsIn K c.2).isSome
     && (PySem.W.subIn K (.ref c.2) (.ref P) == some true) && (PySem.W.kitOne K (.ref c.2) (.type "ValueError") == some true) && cs.all fun d => PySem.W.kitOne K (.ref c.2) (.ref d.2) == some (c.1 == d.1)
structure Xs (K : PySem.W.Frag) (mg : Str → Option Value) (P : Addr) (cs : List (Str × Addr)) : Prop where
 pe : mg "PlaitError" = some (.ref P)
 mg : ∀ c ∈ cs, mg c.1 = some (.ref c.2)
 all : xAll K P cs = true
section
variable {K : PySem.W.Frag} {mg : Str → Option Value} {P : Addr} {cs : List (Str × Addr)}
theorem Xs.one (Z : Xs K mg P cs) {c : Str × Addr} (hc : c ∈ cs) : XOne K mg P c.2 c.1 ∧ ∀ d ∈ cs, PySem.W.kitOne K (.ref c.2) (.ref d.2) = some (c.1 == d.1) := by
 have h := Z.all
 unfold xAll at h
 simp only [Bool.and_eq_true, List.all_eq_true, beq_iff_eq] at h
 obtain ⟨⟨h1, h2⟩, h3⟩ := h
 obtain ⟨⟨⟨⟨⟨⟨⟨⟨⟨a1, a2⟩, a3⟩, a4⟩, a5⟩, a6⟩, a7⟩, a8⟩, a9⟩, a10⟩ := h3 c hc
 exact ⟨⟨Z.mg c hc, a1, ⟨a2, a3, a4, a5, a6, a7⟩, a8, a9⟩, fun d hd => a10 d hd⟩
theorem Xs.p (Z : Xs K mg P cs) : PySem.W.excIn K P bmVE "ValueError.__new__" = true ∧ PySem.W.subIn K (.ref P) (.type "BaseException") = some true := by
 have h := Z.all
 unfold xAll at h
 simp only [Bool.and_eq_true, beq_iff_eq] at h
 exact h.1
theorem Xs.cl (Z : Xs K mg P cs) {nm : Str} (h : nm ∈ cs.map (·.1)) : XCl K mg nm := by
 obtain ⟨c, hc, rfl⟩ := List.mem_map.mp h
 obtain ⟨o, _⟩ := Z.one hc
 exact ⟨c.2, o.mg, o.ok⟩
noncomputable def xDs (cs : List (Str × Addr)) : List Value := cs.map (fun c => .ref c.2) ++ [.type "ValueError"]
noncomputable def xMk (ns : List Str) (nm : Str) : List Bool := ns.map (fun n => nm == n) ++ [true]
theorem Xs.names (Z : Xs K mg P cs) {ns : List Str} (hns : cs.map (·.1) = ns) : ∀ nm ∈ ns, ∃ C, XOne K mg P C nm ∧ (xDs cs).map (PySem.W.kitOne K (.ref C)) = (xMk ns nm).map some := by
 subst hns
 intro nm h
 obtain ⟨c, hc, rfl⟩ := List.mem_map.mp h
 obtain ⟨o, k⟩ := Z.one hc
 refine ⟨c.2, o, ?_⟩
 unfold xDs xMk
 rw [List.map_append, List.map_append, List.map_map, List.map_map, List.map_map]
 congr 1
 · exact List.map_congr_left fun d hd => k d hd
 · show [PySem.W.kitOne K (.ref c.2) (.type "ValueError")] = [some true]
   rw [o.ve]
end
section
variable {X : Cx}
noncomputable def tMarks (K : PySem.W.Frag) (D1 D2 D3 D4 D5 D6 D7 : Value) : TS :=
 tSeq (tAsg (tLst (tCons (tIsX 0 D1 K) (tCons (tIsX 0 D2 K) (tCons (tIsX 0 D3 K) (tCons (tIsX 0 D4 K) tNil))))) (gName 1))
   (tRet (tOp rCat (tVar 1) (tLst (tCons (tIsX 0 D5 K) (tCons (tIsX 0 D6 K) (tCons (tIsX 0 D7 K) tNil))))))
theorem marks_read {K : PySem.W.Frag} {x y : Str} {D1 D2 D3 D4 D5 D6 D7 : Value} {vs : List V} {H : Hp} {Q : VK} {E : XK} (h : spM K [D1, D2, D3, D4, D5, D6, D7] vs H Q E) :
   tMarks K D1 D2 D3 D4 D5 D6 D7 { nx := fun _ H' => Q .non H', rt := Q } (start [x, y] vs) H := by
 obtain ⟨a, C, φ, bs, rfl, e, hφ, L, hk, q⟩ := h
 obtain ⟨b1, b2, b3, b4, b5, b6, b7, rfl⟩ : ∃ b1 b2 b3 b4 b5 b6 b7 : Bool, bs = [b1, b2, b3, b4, b5, b6, b7] := by
   have hl := congrArg List.length hk
   simp only [List.length_map, List.length_cons, List.length_nil] at hl
   match bs, hl with
   | [b1, b2, b3, b4, b5, b6, b7], _ => exact ⟨_, _, _, _, _, _, _, rfl⟩
 simp only [List.map_cons, List.map_nil, List.cons.injEq, and_true] at hk
 obtain ⟨k1, k2, k3, k4, k5, k6, k7⟩ := hk
 have ne : ∀ (H' : Hp) (l : Addr) (o : HO), (∃ ψ, H' a = some (.ext ψ) ∧ ∀ h, ψ h → XAt a C h) → H' l = none → ∃ ψ, upd H' l o a = some (.ext ψ) ∧ ∀ h, ψ h → XAt a C h := fun H' l o ⟨ψ, e1, e2⟩ hl =>
   ⟨ψ, by rw [upd_ne (fun z => by rw [z, hl] at e1; cases e1)]; exact e1, e2⟩
 have i0 : ∃ ψ, H a = some (.ext ψ) ∧ ∀ h, ψ h → XAt a C h := ⟨φ, e, hφ⟩
 have z7 : (7 : Nat) ≤ sizeLine := by decide
 refine ⟨a, C, b1, rfl, i0, L, k1, a, C, b2, rfl, i0, L, k2, a, C, b3, rfl, i0, L, k3, a, C, b4, rfl, i0, L, k4, Nat.le_trans (show 4 ≤ 7 by lia) z7, fun l1 h1 => ?_⟩
 have i1 := ne H l1 (.lst [.bl b1, .bl b2, .bl b3, .bl b4]) i0 h1
 refine ⟨.ref l1, rfl, a, C, b5, rfl, i1, L, k5, a, C, b6, rfl, i1, L, k6, a, C, b7, rfl, i1, L, k7, Nat.le_trans (show 3 ≤ 7 by lia) z7, fun l2 h2 => ⟨l1, l2, [.bl b1, .bl b2, .bl b3, .bl b4], [.bl b5, .bl b6, .bl b7], rfl, rfl, ?_, upd_same, z7, fun r h3 => q l1 l2 r h1 h2 h3⟩⟩
 rw [upd_ne (fun z => by rw [← z, upd_same] at h2; cases h2)]
 exact upd_same
end
end L2
namespace L2
open PySem PySem.Spec PyProof.Rows
theorem sub_over {M : MH} {p p' : Addr} {x o : MO} (hp : M p = none) : Sub (updM M p' o) (updM (updM M p x) p' o) := fun a u e => by
 by_cases h : a = p'
 · subst h
   rw [updM_same] at e ⊢
   exact e
 · rw [updM_ne h] at e ⊢
   rw [updM_ne (fun z => by rw [z, hp] at e; cases e)]
   exact e
end L2
namespace L2
open PySem PySem.Spec PyProof.Rows
section
variable {X : Cx}
end
end L2
namespace L2
open PySem PySem.Spec PyProof.Rows
end L2
namespace L2
open PySem PySem.Spec PyProof.Rows
section
variable {X : Cx} {d : Addr} {ks : List (Str × Addr)}
end
section
variable {X : Cx} {d : Addr} {ks : List (Str × Addr)}
end
end L2
namespace L2
open PySem PySem.Spec PyProof.Rows
section
variable {X : Cx}
end
end L2
namespace L2
open PySem PySem.Spec PyProof.Rows
section
variable {X : Cx} {Ha : Hp} {body : List Stmt} {pos : Pos}
theorem s_forX {tg iter : Expr} {wi : TI3} {g : TG3} {tb : TS3} (hp : PassesOwn (model X.prog X.w) X.A X.env X.xe) (hc : X.calm = true) (hi : HI X tg iter wi) (hg : HG X tg g) (hb : HSsX X Ha body tb)
   (hs : ∀ x, foldedSetIterable iter X.env x = pure x := by intro _; rfl) : HSX X Ha (.For tg iter body [] pos) (tFor3 wi g tb) := fun D ρ0 M0 h =>
 (ps_for hp hc (hi.d (ρ := ρ0)) hg hb.d hs).imp fun D2 σ0 H0 ⟨ka, hr0, hh0, en⟩ => ⟨M0, _, h, hr0, hh0, fun J J2 M1 H1 k1 h1 ok q1 => by
   obtain ⟨W, w0, wst, turn, fin⟩ := q1
   refine ⟨fun i m σ H => m = J.items.length - i ∧ i ≤ J.items.length ∧ Kp X.K H1 H ∧ ∃ ρ M, RhoR X.K σ H ρ ∧ HR X.K H M ∧ W i ρ M, ⟨_, rfl, Nat.zero_le _, Kp.refl, ρ0, M1, hr0.kp k1, h1, w0⟩, ?_⟩
   rintro i m σ H ⟨rfl, hi, kk, ρ, M, hr, hh, w⟩
   have st := wst i ρ M w
   by_cases hlt : i < J.items.length
   · have e : J.items[i]? = some J.items[i] := List.getElem?_eq_getElem hlt
     obtain ⟨go, yl⟩ := ok.go i _ H M e kk hh st
     refine .inr ⟨go, fun σ' H' => i + 1 ≤ J.items.length ∧ Kp X.K H1 H' ∧ ∃ ρ M, RhoR X.K σ' H' ρ ∧ HR X.K H' M ∧ W (i + 1) ρ M, fun σ' H' ⟨a, b, c⟩ => ⟨_, by lia, rfl, a, b, c⟩, fun v H' y => ?_⟩
     obtain ⟨k2, h2, r2⟩ := yl v H' y
     refine ⟨J.items[i], ρ, M, _, turn i _ ρ M e w, r2, hr.kp k2, h2, fun ρ3 M3 σ3 H3 k3 hr3 hh3 q3 => ⟨_, ρ3, M3, q3, ka.trans (k1.trans (kk.trans (k2.trans k3))), hr3, hh3, ?_⟩⟩
     have kall := kk.trans (k2.trans k3)
     refine ⟨fun ρ4 M4 σ4 H4 k4 hr4 hh4 q4 => ⟨hlt, kall.trans k4, ρ4, M4, hr4, hh4, q4⟩, fun t v M4 H4 k4 h4 r4 q4 => en.rt t v M4 H4 (k1.trans (kall.trans k4)) h4 r4 q4, fun ρ4 M4 σ4 H4 k4 hr4 hh4 q4 => en.nx ρ4 M4 σ4 H4 (k1.trans (kall.trans k4)) hr4 hh4 q4, fun ρ4 M4 σ4 H4 k4 hr4 hh4 q4 => ⟨hlt, kall.trans k4, ρ4, M4, hr4, hh4, q4⟩⟩
   · have e : i = J.items.length := by lia
     subst e
     exact .inl ⟨ok.stop H M kk hh st, en.nx ρ M σ H (k1.trans kk) hr hh (fin ρ M w)⟩⟩
end
end L2
namespace L2
open PySem PySem.Spec PyProof.Rows
open AutoSeq1 (wpAny_loadPart')
theorem meets_enumT (t : Addr) (items : Array Value) (n : Nat) (dct : Option Addr) (sl : Array (Option Value)) :
   Meets (Builtin.«enumerate.__new__» ⟨[.type "enumerate", .ref t], []⟩) (fun _ R s => s.heap.get? t = some { cls := .type "tuple", dict := dct, data := .seq items n, slots := sl } ∧
     R (.ok (.ret (.ref (s.heap.push { cls := .type "tuple_iterator", data := .fields #[.ref t, .int 0 0] }).objs.size)))
       { s with heap := (s.heap.push { cls := .type "tuple_iterator", data := .fields #[.ref t, .int 0 0] }).push { cls := .type "enumerate", data := .fields #[.none, .bool false, .ref s.heap.objs.size, rawInt 0, .none, .none] } }) :=
 .of_wp fun prog w A R s h => by
   obtain ⟨hp, g, d, tk, os⟩ := s; obtain ⟨hl, h⟩ := h
   have hsub := sub_enumerate
   have hL : Heap.IsTuple (Shared.heap ⟨hp, g, d, tk, os⟩) t items := ⟨_, hl, rfl, n, rfl⟩
   wp_walk using wpAny_loadPart' hl
   refine wpAny_stack_any fun st => wpAny_pure ?_
   split
   · rename_i c _ _ _ _ _
     cases (c == Value.type "enumerate")
     · wp_walk using wpAny_loadPart' hl, wpAny_pyIter_tuple hL
       exact ⟨_, rfl, h⟩
     · wp_walk using wpAny_loadPart' hl, wpAny_pyIter_tuple hL
       exact ⟨_, rfl, h⟩
   · wp_walk using wpAny_loadPart' hl, wpAny_pyIter_tuple hL
     exact ⟨_, rfl, h⟩
section
variable {prog : Program} {w : World} {A : Around} {E : Value → Shared → Prop} {s : Shared}
theorem call_enumT {l : Addr} {items : Array Value} {Q : Value → Shared → Prop} (hL : s.heap.IsTuple l items)
   (h : ∀ h', IsEnum h' (s.heap.objs.size + 1) s.heap.objs.size 0 .none → h'.IsTupleIter s.heap.objs.size l 0 → h'.objs.size = s.heap.objs.size + 2 →
     (∀ b o, s.heap.get? b = some o → h'.get? b = some o) → Q (.ref (s.heap.objs.size + 1)) { s with heap := h' }) :
   wpAny (model prog w) A (call (.type "enumerate") [.ref l]) Q E s := by
 obtain ⟨⟨c, dct, dt, sl⟩, hl, hc, n, hd⟩ := hL
 replace hc : c = .type "tuple" := hc
 replace hd : dt = .seq items n := hd
 subst hc hd
 refine callType_new F.called_enumerate (by decide) (F.typeCall_enumerate_1 _) (F.newCall_enumerate_1 _) (fun obj => F.args_object_init_2 obj _) F.entry_enumerate_new
   (meets_enumT l items n dct sl) ⟨hl, ?_⟩
 have hz : (s.heap.push { cls := .type "tuple_iterator", data := .fields #[.ref l, .int 0 0] }).objs.size = s.heap.objs.size + 1 := Heap.size_push ..
 show _ ∧ _
 rw [hz]
 have he : IsEnum ((s.heap.push { cls := .type "tuple_iterator", data := .fields #[.ref l, .int 0 0] }).push
     { cls := .type "enumerate", data := .fields #[.none, .bool false, .ref s.heap.objs.size, rawInt 0, .none, .none] }) (s.heap.objs.size + 1) s.heap.objs.size 0 .none := by
   have := Heap.get?_push_size (s.heap.push { cls := .type "tuple_iterator", data := .fields #[.ref l, .int 0 0] })
     (o := { cls := .type "enumerate", data := .fields #[.none, .bool false, .ref s.heap.objs.size, rawInt 0, .none, .none] }) rfl
   rw [hz] at this; exact this
 refine ⟨⟨_, he, rfl⟩, h _ he ⟨_, Heap.get?_push_of_some _ (Heap.get?_push_size _ rfl), rfl, rfl⟩ (by rw [Heap.size_push, hz]) fun b o x => Heap.get?_push_of_some _ (Heap.get?_push_of_some _ x)⟩
theorem nextOf_tup_item {it l : Addr} {i : Nat} {items} {x : Value} {Q : Value → Shared → Prop} (hit : s.heap.IsTupleIter it l i)
   (hl : s.heap.IsTuple l items) (hx : items[i]? = some x)
   (hQ : ∀ h', h'.IsTupleIter it l (i + 1) → Heap.SameBut it s.heap h' → Q x { s with heap := h' }) :
   wpAny (model prog w) A (Builtin.SmallTypes.nextOf (.ref it)) Q E s := by
 obtain ⟨o, ho, hc, hd⟩ := id hit
 obtain ⟨ol, hol, _, nl, hdl⟩ := hl
 unfold Builtin.SmallTypes.nextOf
 refine wpAny_bind (wpAny_callSpecial?_slot (name := Str.ofString "__next__") hit.typeIs F.slot_tuple_iterator_next
   (wpAny_call_entry F.slot_tuple_iterator_next hit.typeIs F.entry_tuple_iterator_next ?_ (F.args_tuple_iterator_next_1 _)))
 show wpAny _ _ (field (.ref it) 0 >>= _) _ _ s
 refine wpAny_bind (wpAny_field ho hd (x := .ref l) rfl ?_)
 show wpAny _ _ (if (Value.ref l == Value.none) = true then _ else _) _ _ s
 rw [if_neg (show ¬ ((Value.ref l == Value.none) = true) from Bool.false_ne_true)]
 show wpAny _ _ (field (.ref it) 1 >>= _) _ _ s
 refine wpAny_bind (wpAny_field ho hd (x := .int i 0) rfl ?_)
 show wpAny _ _ (seqItems? (.ref l) >>= _) _ _ s
 refine wpAny_bind (wpAny_seqItems hol hdl ?_)
 simp only [Int.toNat_natCast, hx]
 refine wpAny_bind (wpAny_setField ho hd (by simp) (wpAny_pure ⟨x, rfl, wpAny_pure (hQ _ ?_ (Heap.SameBut.update ..))⟩))
 exact ⟨_, Heap.get?_update_self _ ho (Obj.isFreed_of_fields (Obj.data_mapFields hd _)), (Obj.cls_mapFields ..).trans hc, by
   rw [Obj.data_mapFields hd]; simp [rawInt]⟩
theorem nextOf_tup_end {it l : Addr} {i : Nat} {items} {Q : Value → Shared → Prop} (hh : A.handled = none)
   (hit : s.heap.IsTupleIter it l i) (hl : s.heap.IsTuple l items) (hx : items[i]? = none)
   (hE : ∀ h' e, Heap.ExtBut it s.heap h' → (∃ o, h'.get? e = some o ∧ o.cls = .type "StopIteration") → E (.ref e) { s with heap := h' }) :
   wpAny (model prog w) A (Builtin.SmallTypes.nextOf (.ref it)) Q E s := by
 obtain ⟨o, ho, hc, hd⟩ := id hit
 obtain ⟨ol, hol, _, nl, hdl⟩ := hl
 unfold Builtin.SmallTypes.nextOf
 refine wpAny_bind (wpAny_callSpecial?_slot (name := Str.ofString "__next__") hit.typeIs F.slot_tuple_iterator_next
   (wpAny_call_entry F.slot_tuple_iterator_next hit.typeIs F.entry_tuple_iterator_next ?_ (F.args_tuple_iterator_next_1 _)))
 show wpAny _ _ (field (.ref it) 0 >>= _) _ _ s
 refine wpAny_bind (wpAny_field ho hd (x := .ref l) rfl ?_)
 show wpAny _ _ (if (Value.ref l == Value.none) = true then _ else _) _ _ s
 rw [if_neg (show ¬ ((Value.ref l == Value.none) = true) from Bool.false_ne_true)]
 show wpAny _ _ (field (.ref it) 1 >>= _) _ _ s
 refine wpAny_bind (wpAny_field ho hd (x := .int i 0) rfl ?_)
 show wpAny _ _ (seqItems? (.ref l) >>= _) _ _ s
 refine wpAny_bind (wpAny_seqItems hol hdl ?_)
 simp only [Int.toNat_natCast, hx]
 refine wpAny_bind (wpAny_rule (wpAny_bind (wpAny_setField ho hd (by simp) ?_)))
 show wpAny _ _ (newExc (.type "StopIteration") [] >>= _) _ _ _
 refine wpAny_bind ?_
 simp only [newExc, newTuple]
 refine wpAny_bind (wpAny_newObj_type ?_ (by size_fits))
 refine wpAny_bind (m := firstArgMember _ _) (wpAny_of_eq (a := Value.none) (by first | rfl | (simp only [firstArgMember]; rfl)) ?_)
 refine wpAny_newObj_type ?_ (by size_fits)
 simp only [raiseNew]
 refine wpAny_bind (wpAny_handled ?_)
 first | rw [show A.in1.handled = none from hh] | rw [hh]
 refine wpAny_bind (wpAny_pure (wpAny_throw ?_))
 exact hE _ _ (((Heap.SameBut.update ..).extBut.push _).push _) ⟨_, Heap.get?_push_size _ rfl, rfl⟩
theorem draws_tup (hh : A.handled = none) (it l : Addr) (hne : l ≠ it) (items : Array Value) :
   Draws prog w A it [it, l] items.size (fun i v => items[i]? = some v) (fun i h => h.IsTupleIter it l i ∧ h.IsTuple l items) where
 live := fun _ _ st => let ⟨o, ho, _⟩ := st.1; ⟨o, ho⟩
 frame := fun _ _ _ st hk => ⟨st.1.at fun o e => hk it (by simp) o e, st.2.at fun o e => hk l (by simp) o e⟩
 item := fun i s Q E hi st hQ => by
   refine nextOf_tup_item st.1 st.2 (x := items[i]) (by simp [hi]) fun h' hit' hs' => ?_
   exact hQ _ h' s.toks (by simp [hi]) ⟨hit', st.2.extBut hs'.extBut hne⟩ hs'
 done := fun s Q E st hE => nextOf_tup_end hh st.1 st.2 (by simp) hE
end
noncomputable def IttE (K : PySem.W.Frag) (a : Addr) (n : Nat) : It :=
 ⟨fun i H => i < n ∧ ∃ xs, SqT K H a xs ∧ xs.length = n, fun i H x H' => ∃ T y, x = .ref T ∧ H T = none ∧ H' = upd H T (.tup [.int i, y]) ∧ ∀ xs, SqT K H a xs → xs[i]? = some y, fun i H => i = n ∧ ∃ xs, SqT K H a xs ∧ xs.length = n⟩
theorem turn_enumT {P : Program} {w : World} {K : PySem.W.Frag} {es : List Expr} {x1} {tp : Pos} (a e it : Addr) (n : Nat) (hne : e ≠ it) (hai : a ≠ it) (hae : a ≠ e) : Turn P w K (.Tuple es x1 tp) (IttE K a n) [e, it] e (fun i h => (∃ old, IsEnum h e it (i : Int) old) ∧ Heap.IsTupleIter h it a i) where
 mem := by simp
 obj := fun i h st b hb => by
   obtain ⟨⟨old, he⟩, hit⟩ := st
   have z : b = e ∨ b = it := by simpa using hb
   rcases z with rfl | rfl
   · exact ⟨_, he, fun v z => by cases z⟩
   · obtain ⟨o, q, c, d⟩ := hit
     exact ⟨o, q, fun v z => by rw [d] at z; cases z⟩
 keep := fun i h h' st k => by
   obtain ⟨⟨old, he⟩, hit⟩ := st
   exact ⟨⟨old, k e (by simp) _ he⟩, hit.at fun o q => k it (by simp) o q⟩
 item := by
   intro X hP hw hK hc i pins s σ H E I hf st hg
   subst hP hw hK
   obtain ⟨⟨old, he⟩, hit⟩ := st
   obtain ⟨hi, xs, hq, hxn⟩ := hg
   subst hxn
   obtain ⟨its, rv, p, hz⟩ := I.tuple hq
   obtain ⟨x, hx⟩ : ∃ x, xs[i]? = some x := ⟨_, List.getElem?_eq_getElem hi⟩
   obtain ⟨u, hu, ru⟩ := rv.get hx
   have fe := hf e (by simp)
   have fi := hf it (by simp)
   have hpt : s.heap.IsTuple a its.toArray := p
   have hsz0 : i < its.toArray.size := by have := rv.length; simp; lia
   refine wpAny_pyNext_enum_itemD (draws_tup (A := X.A.in1) (show X.A.in1.handled = none from I.ok.hd hc) it a hai its.toArray) he ⟨hit, hpt⟩ hsz0 hne (by simp [hne, hae.symm]) fun x' h1 tk hx' ho hit1 hT hsz hk => ?_
   obtain rfl : u = x' := by
     have e1 : its.toArray[i]? = some u := by simpa using hu
     exact Option.some.inj (e1.symm.trans hx')
   refine ⟨_, rfl, wpAny_letOwnedTupleGo_enum ho fun h2 he2 hs2 => ?_⟩
   have neT : s.heap.objs.size ≠ e := Nat.ne_of_gt (Heap.lt_size he)
   have k2 : ∀ b o, b ≠ e → b ≠ it → s.heap.get? b = some o → h2.get? b = some o := fun b o h3 h4 q => (hs2.2 b h3).trans (hk b o h3 h4 q)
   have hT2 : h2.get? s.heap.objs.size = some { cls := .type "tuple", data := .seq #[.int i tk, u] } := (hs2.2 _ neT).trans hT
   have hn : H s.heap.objs.size = none := I.hok.fresh (Nat.le_refl _)
   have I2 : Inv X pins σ (upd H s.heap.objs.size (.tup [.int i, x])) { s with heap := h2, toks := tk + 1 } := I.turnNew fe fi k2 (Nat.le_refl _)
     ⟨by simp only [List.length_cons, List.length_nil]; rw [sizeLine_eq]; decide, [.int i tk, u], .cons ⟨_, rfl⟩ (.cons ru .nil), _, hT2, rfl, rfl, _, rfl⟩
   refine ⟨.ref s.heap.objs.size, _, I2, rfl, ⟨_, x, rfl, hn, rfl, fun ys hy => by rw [I.tuple_inj hy hq]; exact hx⟩, ⟨⟨_, he2⟩, hit1.1.at fun o q => (hs2.2 it hne.symm).trans q⟩, fun b hb => ?_⟩
   have z : b = e ∨ b = it := by simpa using hb
   have hb' : b < s.heap.objs.size := by
     rcases z with rfl | rfl
     · exact Heap.lt_size he
     · obtain ⟨o, q, _⟩ := hit
       exact Heap.lt_size q
   rw [upd_ne (Nat.ne_of_lt hb')]
   exact (hf b hb).1
 done := by
   intro X hP hw hK hc i pins s σ H E I hf st hg
   subst hP hw hK
   obtain ⟨⟨old, he⟩, hit⟩ := st
   obtain ⟨hi, xs, hq, hxn⟩ := hg
   subst hi
   obtain ⟨its, rv, p, hz⟩ := I.tuple hq
   have hl := rv.length
   obtain ⟨f0, f1, f2, f3, f4, f5⟩ := hf it (by simp)
   have hpt : s.heap.IsTuple a its.toArray := p
   have hn2 : i = its.toArray.size := by simp; lia
   rw [hn2] at hit
   exact wpAny_pyNext_enum_endD (draws_tup (A := X.A.in1) (show X.A.in1.handled = none from I.ok.hd hc) it a hai its.toArray) he ⟨hit, hpt⟩ fun h' eb => ⟨rfl, I.turned (t' := s.toks) (fun b o hb e => eb b o hb e) f0 f1 f3 f4 f5⟩
 self := fun A i s Q E st h => by
   obtain ⟨⟨old, he⟩, _⟩ := st
   exact wpAny_pyIter_enum he h
section
variable {X : Cx}
theorem itok_enumT {K : PySem.W.Frag} {H : Hp} {a : Addr} {xs : List V} {ts : List T} (h : SqT K H a xs) (r : Reps K H xs ts) : ItOk K H (IttE K a ts.length) ⟨enT ts, fun _ => True⟩ := by
 refine ⟨fun H' M' k hh _ => ⟨by show (enT ts).length = _; rw [enT_length], xs, k.tup _ _ h, r.length⟩, fun i x H' M' e k hh _ => ?_⟩
 obtain ⟨t, ht, rfl⟩ := enT_get e
 obtain ⟨v, e1, r1⟩ := r.get ht
 refine ⟨⟨(List.getElem?_eq_some_iff.mp ht).1, xs, k.tup _ _ h, r.length⟩, fun v' H'' y => ?_⟩
 obtain ⟨p, y, rfl, hn, rfl, hy⟩ := y
 have e2 := hy xs (k.tup _ _ h)
 rw [e1] at e2
 cases e2
 refine ⟨Kp.new hn, hh.keep hn, rep_tup (SqT.of upd_same) ?_⟩
 unfold Reps
 refine ⟨_, _, rfl, rep_int, ?_⟩
 unfold Reps
 refine ⟨_, _, rfl, Rep.kp (Kp.new hn) _ _ (Rep.kp k _ _ r1), ?_⟩
 unfold Reps
 rfl
noncomputable def iEnumT (tl : TE3) : TI3 := fun ρ M R => tl ρ M fun x M1 => match x with
 | .tup ts => R ⟨enT ts, fun _ => True⟩ M1
 | _ => False
theorem i_enumT {es : List Expr} {x1} {tp pos : Pos} {l : Expr} {tl : TE3} {p : Pos} (hm : X.mg "enumerate" = none) (hl : HE X l tl) (hg : Gl X "enumerate" := by rfl) (hs : starEach [l] X.env = [(false, eval l X.env)] := by rfl) : HI X (.Tuple es x1 tp) (.Call (.Name "enumerate" p) [l] [] pos) (iEnumT tl) := by
 intro ρ M R h pins s σ H R2 I b
 obtain ⟨hr, hh, en⟩ := b
 have pa := pa_cons (X := X) (hl.d (ρ := ρ)) pa_nil hs
 refine Call_ (ld_blt I hg hm PyProof.Rows.boot_enumerate (PyProof.Rows.callWith_type1 (thn (pa pos pins s σ H (fun vs H1 => ∃ v t M1, vs = [v] ∧ Kp X.K H H1 ∧ HR X.K H1 M1 ∧ Rep X.K H1 v t ∧ (match t with
   | .tup ts => R ⟨enT ts, fun _ => True⟩ M1
   | _ => False)) I ⟨M, _, h, hr, hh, fun t v M1 H1 k1 h1 r1 q1 => ⟨v, t, M1, rfl, k1, h1, r1, q1⟩⟩) fun us s1 ⟨vs, H1, I1, r1, v, t, M1, e, k1, h1, rt, q1⟩ => ?_) hs rfl))
 subst e
 cases r1 with
 | cons r rr =>
   cases rr
   split at q1
   · rename_i ts
     obtain ⟨a, xs, rfl, g1, g2⟩ := inv_tup rt
     cases r
     obtain ⟨its, rv, p, hz⟩ := I1.tuple g1
     have hpt : s1.heap.IsTuple a its.toArray := p
     have ha : a < s1.heap.objs.size := by obtain ⟨o, ho, _⟩ := hpt; exact Heap.lt_size ho
     refine call_enumT hpt fun h' he hit hsz hk => ?_
     refine wpAny_pyIter_enum (s := { s1 with heap := h' }) he ?_
     refine ⟨s1.heap.objs.size + 1, [s1.heap.objs.size + 1, s1.heap.objs.size], _, _, H1, rfl, I1.kept (t' := s1.toks) hk, turn_enumT a _ _ ts.length (Nat.succ_ne_self _) (Nat.ne_of_lt ha) (Nat.ne_of_lt (Nat.lt_succ_of_lt ha)), ⟨⟨_, he⟩, hit⟩, fun b hb => ?_, en _ _ M1 H1 k1 h1 (itok_enumT g1 g2) q1⟩
     have z : b = s1.heap.objs.size + 1 ∨ b = s1.heap.objs.size := by simpa using hb
     rcases z with rfl | rfl
     · exact I1.fpOk (Nat.le_succ _) (I1.hok.fresh (Nat.le_succ _))
     · exact I1.fpOk (Nat.le_refl _) (I1.hok.fresh (Nat.le_refl _))
   · exact q1.elim
end
theorem starEach_tup {es rest : List Expr} {x1} {pos : Pos} {env : Env} : starEach (.Tuple es x1 pos :: rest) env = (false, eval (.Tuple es x1 pos) env) :: starEach rest env := rfl
theorem a_consT {X : Cx} {es1 es : List Expr} {x1} {pos : Pos} {ta : TE3} {t : TA3} (ha : HE X (.Tuple es1 x1 pos) ta) (hr : HA X es t) : HA X (.Tuple es1 x1 pos :: es) (tCons3 ta t) := a_cons ha hr (hs := starEach_tup)
end L2
namespace L2
open PySem PySem.Spec PyProof.Rows
section
variable {prog : Program} {w : World} {A : Around} {E : Value → Shared → Prop} {s : Shared}
theorem collect_tup {l : Addr} {vs : List Value} {Q : List Value → Shared → Prop} (hl : s.heap.IsTuple l vs.toArray)
   (h : Q vs { s with heap := (s.heap.push (seqObj "list" #[] 0)).update s.heap.objs.size (Obj.mapSeq (· ++ vs.toArray)) }) (hsz : vs.length ≤ sizeLine) :
   wpAny (model prog w) A (collect (.ref l)) Q E s := by
 obtain ⟨o, ho, hc, n, hd⟩ := id hl
 unfold collect
 refine wpAny_bind (wpAny_runValue (codeAny_builtin entry_proto_collect' ?_))
 show wpAny _ _ (do again (.builtin "list.__iadd__" ⟨[← newList [], .ref l], []⟩)) _ _ s
 refine wpAny_bind (wpAny_newList (wpAny_pure ⟨Code.quiet_builtin _ (by decide +kernel), codeAny_builtin entry_list_iadd' ?_⟩))
 show wpAny _ _ (Builtin.List.listExtendWith (.ref s.heap.objs.size) (.ref l) (.ref s.heap.objs.size)) _ _ { s with heap := s.heap.push (seqObj "list" #[] 0) }
 unfold Builtin.List.listExtendWith
 have ho' : (s.heap.push (seqObj "list" #[] 0)).get? l = some o := Heap.get?_push_of_some _ ho
 refine wpAny_bind (wpAny_typeOf (T := "tuple") ⟨o, ho', hc⟩ ?_)
 have ht : (Value.type "tuple" == Value.type "tuple") = true := by rfl
 rw [if_pos (by rw [ht]; simp)]
 refine wpAny_bind (listItems_at ho' hd ?_)
 refine wpAny_bind (listItems_at (xs := #[]) (n := 0) (Heap.get?_push_size _ rfl) rfl ?_)
 rw [if_neg (by simp)]
 refine wpAny_bind (listUpdate_at (xs := #[]) (n := 0) (Heap.get?_push_size _ rfl) rfl ?_ (Nat.zero_le _) (by show (#[] ++ vs.toArray).size ≤ sizeLine + 1; simp only [Array.size_append, List.size_toArray, List.length_nil]; lia))
 refine wpAny_pure ?_
 show wpAny (model prog w) A (do
     let o ← load s.heap.objs.size
     match o.data with
     | .seq xs _ => pure xs.toList
     | _ => unsupported "internal:collect") Q E { s with heap := (s.heap.push (seqObj "list" #[] 0)).update s.heap.objs.size (Obj.mapSeq (· ++ vs.toArray)) }
 refine wpAny_bind (wpAny_load (get?_update_seq (Heap.get?_push_size _ rfl) _) ?_)
 show wpAny _ _ (pure ((#[] : Array Value) ++ vs.toArray).toList) Q E _
 rw [show ((#[] : Array Value) ++ vs.toArray).toList = vs by simp]
 exact wpAny_pure h
theorem sorted_of {l : Addr} {vs : List Value} {ns : List Int} {Q : Value → Shared → Prop} (hI : IntsAre vs ns) (h64 : vs.length < 64)
   (hcol : ∀ (Q' : List Value → Shared → Prop), Q' vs { s with heap := (s.heap.push (seqObj "list" #[] 0)).update s.heap.objs.size (Obj.mapSeq (· ++ vs.toArray)) } → wpAny (model prog w) A.in1 (collect (.ref l)) Q' E s)
   (h : ∀ (out : Array Value) (ns' : List Int), IntsAre out.toList ns' → ns'.Perm ns → ns'.Pairwise (· ≤ ·) → Q (.ref (s.heap.objs.size + 1)) { s with heap := sortedAll s.heap vs out }) :
   wpAny (model prog w) A (call (.builtin "sorted") [.ref l]) Q E s := by
 refine Calls.call_function_entry kind_sorted plain_sorted entry_sorted (args_sorted1 _) ?_
 unfold Builtin.«sorted»
 refine wpAny_bind (m := checkCount "sorted" 1 1 _) (wpAny_pure ?_)
 refine wpAny_bind (hcol _ ?_)
 refine wpAny_bind (wpAny_newList ?_)
 have hsz : ((s.heap.push (seqObj "list" #[] 0)).update s.heap.objs.size (Obj.mapSeq (· ++ vs.toArray))).objs.size = s.heap.objs.size + 1 := by
   rw [Heap.size_update, size_push']
 have hoL : (((s.heap.push (seqObj "list" #[] 0)).update s.heap.objs.size (Obj.mapSeq (· ++ vs.toArray))).push (seqObj "list" vs.toArray 0)).get? (s.heap.objs.size + 1) = some (seqObj "list" vs.toArray 0) := by
   rw [← hsz]; exact Heap.get?_push_size _ rfl
 show wpAny _ _ _ _ _ { s with heap := ((s.heap.push (seqObj "list" #[] 0)).update s.heap.objs.size (Obj.mapSeq (· ++ vs.toArray))).push (seqObj "list" vs.toArray 0) }
 rw [hsz]
 refine wpAny_bind (wpAny_holding (wpAny_call_entry slot_list_sort ⟨_, hoL, rfl⟩ entry_list_sort (list_sort_tree hoL hI h64 fun out ns' a1 a2 a3 => ⟨_, rfl, ?_⟩) (args_list_sort _)))
 exact wpAny_pure ⟨_, rfl, h out ns' a1 a2 a3⟩
end
section
variable {X : Cx}
theorem call_sorted_of : CallR X (.builtin "sorted") (fun xs H Q => ∃ p ns, xs = [.ref p] ∧ (SqL X.K H p (ns.map V.int) ∨ SqT X.K H p (ns.map V.int)) ∧ ns.length < 64 ∧ ∀ ms : List Int, ms.Perm ns → ms.Pairwise (· ≤ ·) → ∀ l, H l = none → Q (.ref l) (upd H l (.lst (ms.map V.int)))) := by
 intro pins s σ H xs us Q I r h
 obtain ⟨p, ns, rfl, hq, h64, q⟩ := h
 obtain ⟨u, rfl, rx⟩ := vals1 r
 cases rx
 have fin : ∀ (its : List Value), its.length = ns.length → ∀ (out : Array Value) (ns' : List Int), IntsAre out.toList ns' → ns'.Perm ns → ns'.Pairwise (· ≤ ·) → EP X pins σ Q (.ref (s.heap.objs.size + 1)) { s with heap := sortedAll s.heap its out } := by
   intro its hl out ns' h1 h2 h3
   obtain ⟨e, he⟩ := sortedAll_at s.heap its out
   have hv := vals_ints h1
   have hn : ns'.length ≤ sizeLine := by rw [h2.length_eq, sizeLine_eq]; lia
   refine ⟨.ref (s.heap.objs.size + 1), _, I.laid (t' := s.toks) (fun b o hb => sortedAll_old hb) (Nat.le_succ _) (show ObjOk X.prog X.w _ (sortedAll s.heap its out) _ (.lst (ns'.map V.int)) from ⟨by rw [List.length_map]; exact hn, out.toList, e, hv, by rw [Array.toArray_toList]; exact he⟩), rfl, q ns' h2 h3 _ (I.hok.fresh (Nat.le_succ _))⟩
 rcases hq with hq | hq
 · obtain ⟨its, r', pl, hz⟩ := I.list hq
   have hlen : its.length = ns.length := by have := r'.length; rw [List.length_map] at this; lia
   have hl := pl.isList
   exact sorted_of (vs := its) (intsAre_of r') (by lia) (fun Q' q' => collect_list (by simpa using hl) q' (by rw [sizeLine_eq]; lia)) (fin its hlen)
 · obtain ⟨its, r', pl, hz⟩ := I.tuple hq
   have hlen : its.length = ns.length := by have := r'.length; rw [List.length_map] at this; lia
   have hl : s.heap.IsTuple p its.toArray := pl
   exact sorted_of (vs := its) (intsAre_of r') (by lia) (fun Q' q' => collect_tup hl q' (by rw [sizeLine_eq]; lia)) (fin its hlen)
noncomputable def rSorted3 : List T → MH → VK3 → Prop := fun xs M Q => match xs with
 | [.tup ts] => ∃ ns : List Int, ts = ns.map .int ∧ ns.length < 64 ∧ ∀ ms : List Int, ms.Perm ns → ms.Pairwise (· ≤ ·) → ∀ r, M r = none → Q (.adr r) (updM M r (.lst (ms.map .int)))
 | [.adr p] => (match M p with | some (.lst ts) => ∃ ns : List Int, ts = ns.map .int ∧ ns.length < 64 ∧ ∀ ms : List Int, ms.Perm ns → ms.Pairwise (· ≤ ·) → ∀ r, M r = none → Q (.adr r) (updM M r (.lst (ms.map .int))) | _ => False)
 | _ => False
theorem reps_ints {K : PySem.W.Frag} {H : Hp} : ∀ {ns : List Int} {vs : List V}, Reps K H vs (ns.map .int) → vs = ns.map V.int
 | [], _, r => by unfold Reps at r; exact r
 | n :: ns, _, r => by
   rw [List.map_cons] at r
   unfold Reps at r
   obtain ⟨v, w, rfl, r1, r2⟩ := r
   obtain rfl := inv_int r1
   rw [reps_ints r2]
   rfl
theorem ints_reps {K : PySem.W.Frag} {H : Hp} : ∀ ns : List Int, Reps K H (ns.map V.int) (ns.map .int)
 | [] => by rw [List.map_nil, List.map_nil]; unfold Reps; rfl
 | n :: ns => by
   rw [List.map_cons, List.map_cons]
   unfold Reps
   exact ⟨_, _, rfl, rep_int, ints_reps ns⟩
theorem call3_sorted : CallR3 X (.builtin "sorted") rSorted3 := by
 intro pins s σ H vs us Q2 I r h
 obtain ⟨xs, M, Q, rr, hh, q, en⟩ := h
 unfold rSorted3 at q
 split at q
 · obtain ⟨v, rfl, r1⟩ := reps1 rr
   obtain ⟨p, ys, rfl, g1, g2⟩ := inv_tup r1
   obtain ⟨ns, rfl, h64, q⟩ := q
   obtain rfl := reps_ints g2
   exact call_sorted_of pins s σ H _ us Q2 I r ⟨p, ns, rfl, .inr g1, h64, fun ms h1 h2 l hl => en _ _ _ _ (Kp.new hl) (hh.newL hl (ints_reps ms)) rep_adr (q ms h1 h2 l (hh.free hl))⟩
 · obtain ⟨v, rfl, r1⟩ := reps1 rr
   obtain rfl := inv_adr r1
   split at q
   · rename_i ts e0
     obtain ⟨ns, rfl, h64, q⟩ := q
     obtain ⟨ys, g1, g2⟩ := hh _ _ e0
     obtain rfl := reps_ints g2
     exact call_sorted_of pins s σ H _ us Q2 I r ⟨_, ns, rfl, .inl (SqL.of g1), h64, fun ms h1 h2 l hl => en _ _ _ _ (Kp.new hl) (hh.newL hl (ints_reps ms)) rep_adr (q ms h1 h2 l (hh.free hl))⟩
   · exact q.elim
 · exact q.elim
theorem _root_.L2.Reps.erase {K : PySem.W.Frag} {H : Hp} {vs : List V} {ts : List T} (r : Reps K H vs ts) (k : Nat) : Reps K H (vs.eraseIdx k) (ts.eraseIdx k) := by
 rw [List.eraseIdx_eq_take_drop_succ, List.eraseIdx_eq_take_drop_succ]
 exact (r.take k).append (r.drop (k + 1))
noncomputable def rPopAt3 : RM3 := fun x xs M Q => match x, xs with
 | .adr p, [.int i] => (match M p with | some (.lst ts) => 0 ≤ i ∧ i < ts.length ∧ ts.length < 2 ^ 62 ∧ (match ts[i.toNat]? with | some y => Q y (updM M p (.lst (ts.eraseIdx i.toNat))) | none => False) | _ => False)
 | _, _ => False
theorem mt3_popAt : MtR3 X "list.pop" rPopAt3 := by
 intro pins s σ H v vs u us Q2 I rv rvs h
 obtain ⟨x, xs, M, Q, r1, r2, hh, q, en⟩ := h
 unfold rPopAt3 at q
 split at q
 · rename_i p i
   split at q
   · rename_i ts e0
     obtain ⟨h0, h1, h2, q⟩ := q
     obtain ⟨ys, g1, g2⟩ := hh _ _ e0
     obtain rfl := inv_adr r1
     obtain ⟨w, rfl, rw'⟩ := reps1 r2
     obtain rfl := inv_int rw'
     split at q
     · rename_i y ey
       obtain ⟨w2, ew, rw2⟩ := g2.get ey
       have hl := g2.length
       exact mt_popAt pins s σ H _ _ u us Q2 I rv rvs ⟨_, ys, i, i.toNat, w2, rfl, rfl, g1, by lia, by lia, seqIndex_of h0 (by lia), ew, en _ _ _ _ (Kp.lst g1) (hh.setL g1 (g2.erase _)) (Rep.kp (Kp.lst g1) _ _ rw2) q⟩
     · exact q.elim
   · exact q.elim
 · exact q.elim
theorem h_m_popAt {o e : Expr} {es : List Expr} {to : TE3} {t : TA3} {apos cpos : Pos} (ho : HE X o to) (ha : HA X (e :: es) t)
   (hbase : attributeBase o "pop" X.env (eval o X.env) = eval o X.env := by rfl)
   (hfew : ((backTo cpos (starEach (e :: es) X.env)).all (fun x => !x.1) && (backToKw cpos (keywordEach [] X.env)).all (fun x => x.1.isSome)
     && decide ((e :: es).length + ([] : List Keyword).length + (if ([] : List Keyword).isEmpty then 0 else 1) < 30)) = true := by rfl)
   (hline : (apos.endLine == cpos.line) = true := by rfl) (hs : starEach (e :: es) X.env = (false, eval e X.env) :: starEach es X.env := by rfl) (hplain : (backTo cpos (starEach es X.env)).any (·.1) = false := by rfl) :
   HE X (.Call (.Attribute o "pop" apos) (e :: es) [] cpos) (tLM3 rPopAt3 to t) := h_lm PySem.F.slot_list_pop PySem.F.type_list_pop mt3_popAt ho ha hbase hfew hline hs hplain
end
theorem len_1 {α : Type} {us : List α} {P : List α → Prop} (hl : us.length = 1) (h : ∀ a : α, P [a]) : P us := by
 obtain ⟨a, rfl⟩ := List.length_eq_one_iff.mp hl
 exact h a
theorem len_2 {α : Type} {us : List α} {P : List α → Prop} (hl : us.length = 2) (h : ∀ a b : α, P [a, b]) : P us := by
 obtain ⟨a, r, rfl⟩ := List.exists_cons_of_length_eq_add_one hl
 exact len_1 (P := fun r => P (a :: r)) (Nat.succ.inj hl) (h a)
theorem len_3 {α : Type} {us : List α} {P : List α → Prop} (hl : us.length = 3) (h : ∀ a b c : α, P [a, b, c]) : P us := by
 obtain ⟨a, r, rfl⟩ := List.exists_cons_of_length_eq_add_one hl
 exact len_2 (P := fun r => P (a :: r)) (Nat.succ.inj hl) (h a)
theorem len_4 {α : Type} {us : List α} {P : List α → Prop} (hl : us.length = 4) (h : ∀ a b c d : α, P [a, b, c, d]) : P us := by
 obtain ⟨a, r, rfl⟩ := List.exists_cons_of_length_eq_add_one hl
 exact len_3 (P := fun r => P (a :: r)) (Nat.succ.inj hl) (h a)
end L2
namespace L2
open PySem PySem.Spec PyProof.Rows
section
variable {X : Cx}
end
end L2
namespace L2
open PySem PySem.Spec PyProof.Rows
section
variable {X : Cx}
end
end L2
namespace L2
open PySem PySem.Spec PyProof.Rows LM
section
variable {κ : Type} [DecidableEq κ]
theorem valT_map (k j : κ) (y : T) : ∀ kvs : List (κ × T), valT (kvs.map fun kv => if kv.1 = k then (kv.1, y) else kv) j = if j = k then (valT kvs j).map (fun _ => y) else valT kvs j
 | [] => by show (none : Option T) = _; split <;> rfl
 | p :: r => by
   have ih := valT_map k j y r
   rw [List.map_cons, valT_cons, valT_cons, ih]
   by_cases c : p.1 = k
   · rw [if_pos c]
     by_cases d : p.1 = j
     · rw [if_pos d, if_pos d, if_pos (d.symm.trans c)]; rfl
     · rw [if_neg d, if_neg d]
   · rw [if_neg c]
     by_cases d : p.1 = j
     · rw [if_pos d, if_pos d, if_neg (fun z => c (d.trans z))]
     · rw [if_neg d, if_neg d]
theorem valT_snoc (k j : κ) (y : T) : ∀ kvs : List (κ × T), valT (kvs ++ [(k, y)]) j = match valT kvs j with | some t => some t | none => if k = j then some y else none
 | [] => by rw [List.nil_append, valT_cons]; rfl
 | p :: r => by
   rw [List.cons_append, valT_cons, valT_cons, valT_snoc k j y r]
   by_cases d : p.1 = j
   · rw [if_pos d, if_pos d]
   · rw [if_neg d, if_neg d]
theorem valT_any (k : κ) : ∀ kvs : List (κ × T), (kvs.any fun kv => decide (kv.1 = k)) = (valT kvs k).isSome
 | [] => rfl
 | p :: r => by
   rw [List.any_cons, valT_cons, valT_any k r]
   by_cases e : p.1 = k
   · rw [if_pos e, decide_eq_true e]; rfl
   · rw [if_neg e, decide_eq_false e]; rfl
theorem valT_put (kvs : List (κ × T)) (k j : κ) (y : T) : valT (putT kvs k y) j = if j = k then some y else valT kvs j := by
 unfold putT
 rw [valT_any]
 by_cases c : (valT kvs k).isSome = true
 · rw [if_pos c, valT_map]
   by_cases d : j = k
   · rw [if_pos d, if_pos d]
     subst d
     cases e : valT kvs j with
     | none => rw [e] at c; cases c
     | some t => rfl
   · rw [if_neg d, if_neg d]
 · rw [if_neg c, valT_snoc]
   have hn : valT kvs k = none := by
     cases e : valT kvs k with
     | none => rfl
     | some t => rw [e] at c; exact absurd rfl c
   by_cases d : j = k
   · subst d
     rw [hn]
   · rw [if_neg d]
     cases valT kvs j with
     | none => rw [if_neg (fun z => d z.symm)]
     | some t => rfl
theorem putT_len (kvs : List (κ × T)) (k : κ) (y : T) : (putT kvs k y).length ≤ kvs.length + 1 := by
 unfold putT
 split
 · rw [List.length_map]; lia
 · rw [List.length_append]; exact Nat.le_refl _
end
section
variable {X : Cx}
end
end L2
namespace L2
open PySem PySem.Spec PyProof.Rows LM
noncomputable def g2 (tab : List (List Int)) (a b : Int) : Int := gI (tab.getD a.toNat []) b
noncomputable def shB (tab : List (List Int)) : Bool := decide (1 ≤ tab.length) && decide (tab.length ≤ 7) && tab.all fun r => decide (r.length = tab.length)
noncomputable def coB (tab : List (List Int)) (c : Int) : Bool := decide (g2 tab c c = c) && decide ((tab.map fun r => gI r c).Perm (range0 tab.length))
noncomputable def thA (tab : List (List Int)) (c a : Int) : Bool := (range0 tab.length).all fun b => decide (g2 tab (g2 tab a b) c = g2 tab (g2 tab a c) (g2 tab b c))
noncomputable def thB (tab : List (List Int)) (c : Int) : Bool := (range0 tab.length).all (thA tab c)
noncomputable def tabB (tab : List (List Int)) : Bool := shB tab && ((range0 tab.length).all (coB tab)) && ((range0 tab.length).all (thB tab))
noncomputable def InM (m c : Int) : Prop := 0 ≤ c ∧ c < m
structure TabOK (tab : List (List Int)) : Prop where
 l1 : 1 ≤ tab.length
 l7 : tab.length ≤ 7
 rows : ∀ r ∈ tab, r.length = tab.length
 idem : ∀ c, InM tab.length c → g2 tab c c = c
 col : ∀ c, InM tab.length c → (tab.map fun r => gI r c).Perm (range0 tab.length)
 third : ∀ a b c, InM tab.length a → InM tab.length b → InM tab.length c → g2 tab (g2 tab a b) c = g2 tab (g2 tab a c) (g2 tab b c)
theorem shB_iff {tab : List (List Int)} : shB tab = true ↔ 1 ≤ tab.length ∧ tab.length ≤ 7 ∧ ∀ r ∈ tab, r.length = tab.length := by
 unfold shB
 rw [Bool.and_eq_true, Bool.and_eq_true, decide_eq_true_eq, decide_eq_true_eq, List.all_eq_true]
 simp only [decide_eq_true_eq, and_assoc]
theorem range0_iff {m c : Int} : c ∈ range0 m ↔ InM m c := ⟨mem_range0, fun h => range0_mem h.1 h.2⟩
theorem tabB_ok {tab : List (List Int)} (h : tabB tab = true) : TabOK tab := by
 unfold tabB at h
 rw [Bool.and_eq_true, Bool.and_eq_true, List.all_eq_true, List.all_eq_true] at h
 obtain ⟨⟨h1, h2⟩, h3⟩ := h
 obtain ⟨a, b, c⟩ := shB_iff.mp h1
 refine ⟨a, b, c, fun x hx => ?_, fun x hx => ?_, fun x y z hx hy hz => ?_⟩
 · have := h2 x (range0_iff.mpr hx)
   unfold coB at this
   rw [Bool.and_eq_true, decide_eq_true_eq] at this
   exact this.1
 · have := h2 x (range0_iff.mpr hx)
   unfold coB at this
   rw [Bool.and_eq_true, decide_eq_true_eq, decide_eq_true_eq] at this
   exact this.2
 · have := h3 z (range0_iff.mpr hz)
   unfold thB at this
   rw [List.all_eq_true] at this
   have := this x (range0_iff.mpr hx)
   unfold thA at this
   rw [List.all_eq_true] at this
   exact of_decide_eq_true (this y (range0_iff.mpr hy))
theorem tab_row {tab : List (List Int)} (hr : ∀ r ∈ tab, r.length = tab.length) {a : Int} (ha : InM tab.length a) : atI (tab.map tupT) a = some (T.tup ((tab.getD a.toNat []).map T.int)) ∧ (tab.getD a.toNat []).length = tab.length := by
 obtain ⟨i, rfl⟩ := Int.eq_ofNat_of_zero_le ha.1
 have hi : i < tab.length := by have := ha.2; lia
 rw [Int.toNat_natCast]
 refine ⟨tupT_at hi, hr _ ?_⟩
 rw [List.getD_eq_getElem?_getD, List.getElem?_eq_getElem hi]
 exact List.getElem_mem hi
theorem tab_at {tab : List (List Int)} (hr : ∀ r ∈ tab, r.length = tab.length) {a b : Int} (ha : InM tab.length a) (hb : InM tab.length b) : atI ((tab.getD a.toNat []).map T.int) b = some (.int (g2 tab a b)) :=
 gI_at hb.1 (by rw [(tab_row hr ha).2]; exact hb.2)
theorem col_in {tab : List (List Int)} {c : Int} (h : (tab.map fun r => gI r c).Perm (range0 tab.length)) {a : Int} (ha : InM tab.length a) : InM tab.length (g2 tab a c) := by
 have hl : a.toNat < tab.length := by have := ha.1; have := ha.2; lia
 have hm : g2 tab a c ∈ tab.map fun r => gI r c := by
   refine List.mem_map.mpr ⟨tab.getD a.toNat [], ?_, rfl⟩
   rw [List.getD_eq_getElem?_getD, List.getElem?_eq_getElem hl]
   exact List.getElem_mem hl
 exact mem_range0 (h.mem_iff.mp hm)
theorem TabOK.rng {tab : List (List Int)} (h : TabOK tab) {a c : Int} (ha : InM tab.length a) (hc : InM tab.length c) : InM tab.length (g2 tab a c) := col_in (h.col c hc) ha
theorem col_get {tab : List (List Int)} {c a : Int} (ha : InM tab.length a) : (tab.map fun r => gI r c)[a.toNat]? = some (g2 tab a c) := by
 have hl : a.toNat < tab.length := by have := ha.1; have := ha.2; lia
 rw [List.getElem?_map, List.getElem?_eq_getElem hl]
 unfold g2
 rw [List.getD_eq_getElem?_getD, List.getElem?_eq_getElem hl]
 rfl
theorem TabOK.inj {tab : List (List Int)} (h : TabOK tab) {a b c : Int} (ha : InM tab.length a) (hb : InM tab.length b) (hc : InM tab.length c) (e : g2 tab a c = g2 tab b c) : a = b := by
 have nd : (tab.map fun r => gI r c).Nodup := (h.col c hc).nodup_iff.mpr (range0_nodup _)
 have x := col_get (tab := tab) (c := c) ha
 have y := col_get (tab := tab) (c := c) hb
 obtain ⟨l1, x⟩ := List.getElem?_eq_some_iff.mp x
 obtain ⟨l2, y⟩ := List.getElem?_eq_some_iff.mp y
 have q : a.toNat = b.toNat := by
   have pw := List.pairwise_iff_getElem.mp nd
   rcases Nat.lt_trichotomy a.toNat b.toNat with z | z | z
   · exact absurd (x.trans (e.trans y.symm)) (pw _ _ l1 l2 z)
   · exact z
   · exact absurd (y.trans (e.symm.trans x.symm)) (pw _ _ l2 l1 z)
 have := ha.1; have := hb.1; lia
theorem TabOK.surj {tab : List (List Int)} (h : TabOK tab) {d c : Int} (hd : InM tab.length d) (hc : InM tab.length c) : ∃ a, InM tab.length a ∧ g2 tab a c = d := by
 have hm : d ∈ tab.map fun r => gI r c := (h.col c hc).mem_iff.mpr (range0_iff.mpr hd)
 obtain ⟨i, hi, e⟩ := List.getElem_of_mem hm
 rw [List.length_map] at hi
 have ha : InM tab.length (i : Int) := ⟨by lia, by lia⟩
 refine ⟨i, ha, ?_⟩
 have := col_get (tab := tab) (c := c) ha
 rw [Int.toNat_natCast] at this
 rw [List.getElem?_eq_getElem (by rw [List.length_map]; exact hi)] at this
 exact (Option.some.inj this).symm.trans e
noncomputable def iv (tab : List (List Int)) (d c : Int) : Int := ((range0 tab.length).find? fun a => decide (g2 tab a c = d)).getD 0
theorem TabOK.iv_spec {tab : List (List Int)} (h : TabOK tab) {d c : Int} (hd : InM tab.length d) (hc : InM tab.length c) : InM tab.length (iv tab d c) ∧ g2 tab (iv tab d c) c = d := by
 obtain ⟨a, ha, e⟩ := h.surj hd hc
 unfold iv
 cases q : (range0 tab.length).find? fun a => decide (g2 tab a c = d) with
 | none =>
   have := List.find?_eq_none.mp q a (range0_iff.mpr ha)
   rw [decide_eq_true e] at this
   exact absurd rfl this
 | some x =>
   exact ⟨range0_iff.mp (List.mem_of_find?_eq_some q), of_decide_eq_true (List.find?_some q :)⟩
theorem col_row {tab : List (List Int)} (hr : ∀ r ∈ tab, r.length = tab.length) {r : List Int} {i : Nat} {c : Int} (h : tab[i]? = some r) (hc : InM tab.length c) : atI (r.map T.int) c = some (.int (gI r c)) :=
 gI_at hc.1 (by rw [hr r (List.mem_of_getElem? h)]; exact hc.2)
theorem coB_not {tab : List (List Int)} {c : Int} (hc : InM tab.length c) (h : coB tab c ≠ true) : tabB tab = false := by
 refine Bool.eq_false_iff.mpr fun z => h ?_
 unfold tabB at z
 rw [Bool.and_eq_true, Bool.and_eq_true] at z
 exact List.all_eq_true.mp z.1.2 c (range0_iff.mpr hc)
theorem coB_col {tab : List (List Int)} (h : ∀ c, InM tab.length c → coB tab c = true) {a b : Int} (ha : InM tab.length a) (hb : InM tab.length b) : InM tab.length (g2 tab a b) := by
 have := h b hb
 unfold coB at this
 rw [Bool.and_eq_true, decide_eq_true_eq, decide_eq_true_eq] at this
 exact col_in this.2 ha
noncomputable def pr1 (tab : List (List Int)) (l a b : Int) : Int := if l > 0 then b else iv tab b a
noncomputable def pr2 (tab : List (List Int)) (l a b : Int) : Int := if l > 0 then g2 tab a b else a
noncomputable def dn1 (tab : List (List Int)) (cs : List Int) (l : Int) : List Int := (cs.set (l.natAbs - 1) (pr1 tab l (cs.getD (l.natAbs - 1) 0) (cs.getD l.natAbs 0))).set l.natAbs (pr2 tab l (cs.getD (l.natAbs - 1) 0) (cs.getD l.natAbs 0))
noncomputable def dn (tab : List (List Int)) (w cs : List Int) : List Int := w.foldl (dn1 tab) cs
theorem dn_append (tab : List (List Int)) (u v cs : List Int) : dn tab (u ++ v) cs = dn tab v (dn tab u cs) := List.foldl_append
theorem dn_succ (tab : List (List Int)) {w : List Int} {i : Nat} {l : Int} (h : w[i]? = some l) (cs : List Int) : dn tab (w.take (i + 1)) cs = dn1 tab (dn tab (w.take i) cs) l := by
 rw [List.take_add_one, h, dn_append]
 rfl
theorem dn1_at {tab : List (List Int)} {ds : List Int} {l : Int} {k : Nat} (hk : l.natAbs = k + 1) (h : k + 1 < ds.length) : (dn1 tab ds l).map T.int = ((ds.map T.int).set k (.int (pr1 tab l (gI ds k) (gI ds (k + 1))))).set (k + 1) (.int (pr2 tab l (gI ds k) (gI ds (k + 1)))) := by
 unfold dn1 gI
 rw [hk, Nat.add_sub_cancel, List.map_set, List.map_set, Int.toNat_natCast, show ((k : Int) + 1).toNat = k + 1 by lia]
theorem dn1_length (tab : List (List Int)) (cs : List Int) (l : Int) : (dn1 tab cs l).length = cs.length := by unfold dn1; rw [List.length_set, List.length_set]
theorem dn_length (tab : List (List Int)) : ∀ (w cs : List Int), (dn tab w cs).length = cs.length
 | [], _ => rfl
 | l :: w, cs => (dn_length tab w (dn1 tab cs l)).trans (dn1_length tab cs l)
theorem dn1_cut {tab : List (List Int)} {p q : List Int} {a b l : Int} (h : p.length + 1 = l.natAbs) : dn1 tab (p ++ a :: b :: q) l = p ++ pr1 tab l a b :: pr2 tab l a b :: q := by
 unfold dn1
 have e1 : l.natAbs - 1 = p.length := by lia
 have g1 : (p ++ a :: b :: q).getD p.length 0 = a := by simp
 have g2' : (p ++ a :: b :: q).getD (p.length + 1) 0 = b := by rw [List.getD_eq_getElem?_getD, List.getElem?_append_right (by lia)]; simp
 rw [e1, ← h, g1, g2']
 simp
theorem cutC {cs : List Int} {k : Nat} (h : k + 1 < cs.length) : ∃ p a b q, cs = p ++ a :: b :: q ∧ p.length = k := by
 refine ⟨cs.take k, cs[k], cs[k + 1], cs.drop (k + 2), ?_, by rw [List.length_take]; lia⟩
 rw [List.getElem_cons_drop, List.getElem_cons_drop, List.take_append_drop]
noncomputable def InA (m : Int) (cs : List Int) : Prop := ∀ c ∈ cs, InM m c
theorem pr_in {tab : List (List Int)} (h : TabOK tab) {l a b : Int} (ha : InM tab.length a) (hb : InM tab.length b) : InM tab.length (pr1 tab l a b) ∧ InM tab.length (pr2 tab l a b) := by
 unfold pr1 pr2
 split
 · exact ⟨hb, h.rng ha hb⟩
 · exact ⟨(h.iv_spec hb ha).1, ha⟩
theorem inA_cut {m a b : Int} {p q : List Int} : InA m (p ++ a :: b :: q) ↔ InA m p ∧ InM m a ∧ InM m b ∧ InA m q := by
 constructor
 · intro h
   exact ⟨fun c hc => h c (by simp [hc]), h a (by simp), h b (by simp), fun c hc => h c (by simp [hc])⟩
 · rintro ⟨h1, h2, h3, h4⟩ c hc
   simp only [List.mem_append, List.mem_cons] at hc
   rcases hc with hc | rfl | rfl | hc
   · exact h1 c hc
   · exact h2
   · exact h3
   · exact h4 c hc
theorem dn1_in {tab : List (List Int)} (h : TabOK tab) {cs : List Int} {l : Int} (hl : LetOK cs.length l) (hc : InA tab.length cs) : InA tab.length (dn1 tab cs l) := by
 obtain ⟨l1, l2⟩ := hl
 obtain ⟨p, a, b, q, rfl, e⟩ := cutC (cs := cs) (k := l.natAbs - 1) (by lia)
 rw [dn1_cut (by lia)]
 obtain ⟨h1, h2, h3, h4⟩ := inA_cut.mp hc
 exact inA_cut.mpr ⟨h1, (pr_in h h2 h3).1, (pr_in h h2 h3).2, h4⟩
theorem dn_in {tab : List (List Int)} (h : TabOK tab) : ∀ {w cs : List Int}, WordOK cs.length w → InA tab.length cs → InA tab.length (dn tab w cs)
 | [], _, _, hc => hc
 | l :: w, cs, hw, hc => dn_in h (w := w) (cs := dn1 tab cs l) (by rw [dn1_length]; exact fun x hx => hw x (List.mem_cons_of_mem _ hx)) (dn1_in h (hw l List.mem_cons_self) hc)
end L2
namespace L2
open PySem PySem.Spec PyProof.Rows LM
end L2
namespace L2
open PySem PySem.Spec PyProof.Rows LM
section
variable {X : Cx}
noncomputable def tPar3 (i j : Nat) (t : TA3) : TS3 := fun D ρ M => t ρ M fun vs M1 => match vs with
 | [v, w] => D.nx ((ρ.set i (some v)).set j (some w)) M1
 | _ => False
theorem s_par {i j : Nat} {x y : Str} {a b : Expr} {t : TA3} {px py pt pos : Pos} {kt k2 pt2} (hN : X.N.Nodup) (ha : HA X [a, b] t) (hc : X.calm = true := by rfl) (hi : X.N[i]? = some x := by rfl) (hj : X.N[j]? = some y := by rfl) (hij : i ≠ j := by decide)
   (hx : X.env.scope.names.lookup x = some .local := by rfl) (hy : X.env.scope.names.lookup y = some .local := by rfl)
   (hw : swappedStores [.Tuple [.Name x px, .Name y py] kt pt] (.Tuple [a, b] k2 pt2) X.env = pure (some [x, y]) := by rfl)
   (hs : swapsWithSole [.Tuple [.Name x px, .Name y py] kt pt] (.Tuple [a, b] k2 pt2) pos.line X.env = pure false := by rfl) :
   HS X (.Assign [.Tuple [.Name x px, .Name y py] kt pt] (.Tuple [a, b] k2 pt2) pos) (tPar3 i j t) := fun D ρ M h =>
 (ps_par hc hN hi hj hij hx hy (ha.d (ρ := ρ)) hw hs).imp fun D2 σ H ⟨hr, hh, en⟩ => ⟨M, _, h, hr, hh, fun ts vs M1 H1 k1 h1 r1 q1 => by
   match ts, r1, q1 with
   | [v, w], r1, q1 =>
     unfold Reps at r1
     obtain ⟨u1, us, rfl, r2, r1⟩ := r1
     unfold Reps at r1
     obtain ⟨u2, us, rfl, r3, r1⟩ := r1
     unfold Reps at r1
     subst r1
     exact ⟨u1, u2, rfl, en.nx _ M1 _ H1 k1 (((hr.kp k1).set i r2).set j r3) h1 q1⟩⟩
end
theorem gcd_turn {x y : Int} (hx : 0 ≤ x) (hy : 0 ≤ y) : Int.gcd y (x % y) = Int.gcd x y := by
 obtain ⟨a, rfl⟩ := Int.eq_ofNat_of_zero_le hx
 obtain ⟨b, rfl⟩ := Int.eq_ofNat_of_zero_le hy
 show Nat.gcd b (a % b) = Nat.gcd a b
 rw [Nat.gcd_comm a b, Nat.gcd_rec b a, Nat.gcd_comm]
theorem perm_of_sub : ∀ (l r : List Int), l.Nodup → (∀ x ∈ l, x ∈ r) → r.length ≤ l.length → l.Perm r
 | [], r, _, _, h => by
   rw [List.length_nil] at h
   rw [List.eq_nil_of_length_eq_zero (by lia : r.length = 0)]
 | x :: l, r, nd, hs, h => by
   have hx := hs x List.mem_cons_self
   have nd' := List.nodup_cons.mp nd
   refine (List.Perm.cons x (perm_of_sub l (r.erase x) nd'.2 (fun y hy => ?_) ?_)).trans (List.perm_cons_erase hx).symm
   · exact (List.mem_erase_of_ne (fun z => nd'.1 (by rw [← z]; exact hy))).mpr (hs y (List.mem_cons_of_mem _ hy))
   · rw [List.length_erase_of_mem hx]
     rw [List.length_cons] at h
     lia
theorem TabOK.b {tab : List (List Int)} (h : TabOK tab) : tabB tab = true := by
 unfold tabB
 rw [shB_iff.mpr ⟨h.l1, h.l7, h.rows⟩, List.all_eq_true.mpr (fun c hc => ?_), List.all_eq_true.mpr (fun c hc => ?_)]
 · rfl
 · refine List.all_eq_true.mpr fun a ha => List.all_eq_true.mpr fun b hb => decide_eq_true ?_
   exact h.third a b c (range0_iff.mp ha) (range0_iff.mp hb) (range0_iff.mp hc)
 · unfold coB
   rw [decide_eq_true (h.idem c (range0_iff.mp hc)), decide_eq_true (h.col c (range0_iff.mp hc))]; rfl
noncomputable def fnT (m : Int) (F : Int → Int → Int) : List (List Int) := (range0 m).map fun a => (range0 m).map fun b => F a b
theorem fnT_len {m : Int} {F : Int → Int → Int} : (fnT m F).length = m.toNat := by unfold fnT; rw [List.length_map, range0_length]
theorem gI_rgm {m : Int} {f : Int → Int} {a : Int} (h : InM m a) : gI ((range0 m).map f) a = f a := by
 unfold gI
 have e : (range0 m)[a.toNat]? = some a := by
   unfold range0
   rw [List.getElem?_map, List.getElem?_range (by have := h.1; have := h.2; lia)]
   exact congrArg some (Int.toNat_of_nonneg h.1)
 rw [List.getD_eq_getElem?_getD, List.getElem?_map, e]
 rfl
theorem fnT_at {m : Int} {F : Int → Int → Int} {a b : Int} (ha : InM m a) (hb : InM m b) : g2 (fnT m F) a b = F a b := by
 unfold g2 fnT
 have e : (range0 m)[a.toNat]? = some a := by
   unfold range0
   rw [List.getElem?_map, List.getElem?_range (by have := ha.1; have := ha.2; lia)]
   exact congrArg some (Int.toNat_of_nonneg ha.1)
 rw [List.getD_eq_getElem?_getD, List.getElem?_map, e]
 exact gI_rgm hb
theorem fnT_ok {m : Int} {F : Int → Int → Int} (h1 : 1 ≤ m) (h7 : m ≤ 7) (hin : ∀ a b, InM m a → InM m b → InM m (F a b)) (hid : ∀ a, InM m a → F a a = a)
   (hinj : ∀ a b c, InM m a → InM m b → InM m c → F a c = F b c → a = b) (hth : ∀ a b c, InM m a → InM m b → InM m c → F (F a b) c = F (F a c) (F b c)) : tabB (fnT m F) = true := by
 have el : ((fnT m F).length : Int) = m := by rw [fnT_len]; lia
 refine TabOK.b ⟨by rw [fnT_len]; lia, by rw [fnT_len]; lia, fun r hr => ?_, fun c hc => ?_, fun c hc => ?_, fun a b c ha hb hc => ?_⟩
 · unfold fnT at hr
   obtain ⟨a, _, rfl⟩ := List.mem_map.mp hr
   rw [fnT_len, List.length_map, range0_length]
 · rw [el] at hc
   rw [fnT_at hc hc]; exact hid c hc
 · rw [el] at hc ⊢
   have e : ((fnT m F).map fun r => gI r c) = (range0 m).map fun a => F a c := by
     unfold fnT
     rw [List.map_map]
     exact List.map_congr_left fun a _ => gI_rgm hc
   rw [e]
   refine perm_of_sub _ _ ?_ (fun x hx => ?_) (by rw [List.length_map]; exact Nat.le_refl _)
   · refine List.pairwise_map.mpr ((range0_nodup m).imp_of_mem ?_)
     intro a b ha hb ne e
     exact ne (hinj a b c (range0_iff.mp ha) (range0_iff.mp hb) hc e)
   · obtain ⟨a, ha, rfl⟩ := List.mem_map.mp hx
     exact range0_iff.mpr (hin a c (range0_iff.mp ha) hc)
 · rw [el] at ha hb hc
   rw [fnT_at ha hb, fnT_at (hin a b ha hb) hc, fnT_at ha hc, fnT_at hb hc, fnT_at (hin a c ha hc) (hin b c hb hc)]
   exact hth a b c ha hb hc
noncomputable def nmF (us : List Int) (tab : List (List Int)) (a b : Int) : Int := gI us (g2 tab (us.idxOf a) (us.idxOf b))
theorem idx_in {us : List Int} {m : Int} (hp : us.Perm (range0 m)) {a : Int} (ha : InM m a) : InM m (us.idxOf a) ∧ gI us (us.idxOf a) = a := by
 have hm : a ∈ us := hp.mem_iff.mpr (range0_iff.mpr ha)
 have hl := List.idxOf_lt_length_of_mem hm
 have e : us.length = m.toNat := by rw [hp.length_eq, range0_length]
 refine ⟨⟨by lia, by lia⟩, ?_⟩
 unfold gI
 rw [Int.toNat_natCast, List.getD_eq_getElem?_getD, List.getElem?_eq_getElem hl]
 exact List.getElem_idxOf hl
theorem gI_in {us : List Int} {m : Int} (hp : us.Perm (range0 m)) {a : Int} (ha : InM m a) : InM m (gI us a) ∧ ((us.idxOf (gI us a) : Nat) : Int) = a := by
 have e : us.length = m.toNat := by rw [hp.length_eq, range0_length]
 have hl : a.toNat < us.length := by have := ha.1; have := ha.2; lia
 have hg : gI us a = us[a.toNat] := by
   unfold gI
   rw [List.getD_eq_getElem?_getD, List.getElem?_eq_getElem hl]; rfl
 have nd : us.Nodup := hp.nodup_iff.mpr (range0_nodup m)
 rw [hg]
 refine ⟨range0_iff.mp (hp.mem_iff.mp (List.getElem_mem hl)), ?_⟩
 have hi := List.idxOf_lt_length_of_mem (List.getElem_mem hl)
 have h2 : us[us.idxOf us[a.toNat]] = us[a.toNat] := List.getElem_idxOf hi
 have q : us.idxOf us[a.toNat] = a.toNat := by
   have pw := List.pairwise_iff_getElem.mp nd
   rcases Nat.lt_trichotomy (us.idxOf us[a.toNat]) a.toNat with z | z | z
   · exact absurd h2 (pw _ _ hi hl z)
   · exact z
   · exact absurd h2.symm (pw _ _ hl hi z)
 rw [q]
 exact Int.toNat_of_nonneg ha.1
theorem named_ok {tab : List (List Int)} {us : List Int} (h : TabOK tab) (hp : us.Perm (range0 tab.length)) : tabB (fnT tab.length (nmF us tab)) = true := by
 have := h.l1
 have := h.l7
 have hin : ∀ a b, InM tab.length a → InM tab.length b → InM tab.length (g2 tab (us.idxOf a) (us.idxOf b)) := fun a b ha hb => h.rng (idx_in hp ha).1 (idx_in hp hb).1
 refine fnT_ok (by lia) (by lia) (fun a b ha hb => (gI_in hp (hin a b ha hb)).1) (fun a ha => ?_) (fun a b c ha hb hc e => ?_) (fun a b c ha hb hc => ?_)
 · unfold nmF
   rw [h.idem _ (idx_in hp ha).1]
   exact (idx_in hp ha).2
 · unfold nmF at e
   have e2 := congrArg (fun x => ((us.idxOf x : Nat) : Int)) e
   rw [(gI_in hp (hin a c ha hc)).2, (gI_in hp (hin b c hb hc)).2] at e2
   have e3 := h.inj (idx_in hp ha).1 (idx_in hp hb).1 (idx_in hp hc).1 e2
   rw [← (idx_in hp ha).2, ← (idx_in hp hb).2, e3]
 · unfold nmF
   rw [(gI_in hp (hin a b ha hb)).2, (gI_in hp (hin a c ha hc)).2, (gI_in hp (hin b c hb hc)).2, h.third _ _ _ (idx_in hp ha).1 (idx_in hp hb).1 (idx_in hp hc).1]
theorem perm_eraseIdx : ∀ {l : List Int} {k : Nat} (h : k < l.length), l.Perm (l[k] :: l.eraseIdx k)
 | a :: l, 0, _ => .refl _
 | a :: l, k + 1, h => by
   have := perm_eraseIdx (l := l) (k := k) (by simpa using h)
   rw [List.getElem_cons_succ, List.eraseIdx_cons_succ]
   exact (List.Perm.cons a this).trans (.swap _ _ _)
theorem map_eraseIdx {α β : Type} (f : α → β) : ∀ (l : List α) (k : Nat), (l.map f).eraseIdx k = (l.eraseIdx k).map f
 | [], _ => rfl
 | a :: l, 0 => rfl
 | a :: l, k + 1 => by rw [List.map_cons, List.eraseIdx_cons_succ, List.eraseIdx_cons_succ, List.map_cons, map_eraseIdx f l k]
theorem upd_two {M : MH} {p q : Addr} {a b c d : MO} (h : p ≠ q) : updM (updM (updM (updM M p a) q b) p c) q d = updM (updM M p c) q d := by
 funext x
 by_cases e : x = q
 · subst e; rw [updM_same, updM_same]
 · rw [updM_ne e, updM_ne e]
   by_cases e2 : x = p
   · subst e2; rw [updM_same, updM_same]
   · rw [updM_ne e2, updM_ne e, updM_ne e2, updM_ne e2]
noncomputable def affF (m t a b : Int) : Int := (t * a + (1 - t) * b) % m
theorem aff_all : ((range0 8).all fun m => (range0 8).all fun t => !(decide (1 ≤ m) && decide (1 ≤ t) && decide (t ≤ m) && decide (Int.gcd t m = 1)) || tabB (fnT m (affF m t))) = true := by decide +kernel
theorem aff_ok {m t : Int} (h1 : 1 ≤ m) (h7 : m ≤ 7) (t1 : 1 ≤ t) (tm : t ≤ m) (hg : Int.gcd t m = 1) : tabB (fnT m (affF m t)) = true := by
 have := List.all_eq_true.mp (List.all_eq_true.mp aff_all m (range0_iff.mpr ⟨by lia, by lia⟩)) t (range0_iff.mpr ⟨by lia, by lia⟩)
 rw [decide_eq_true h1, decide_eq_true t1, decide_eq_true tm, decide_eq_true hg] at this
 exact this
noncomputable def someT : List (List (List Int)) := [[[0, 3, 1, 2], [2, 1, 3, 0], [3, 0, 2, 1], [1, 2, 0, 3]], [[0, 0, 1], [1, 1, 0], [2, 2, 2]], [[0]]]
theorem someT_ok : ∀ t ∈ someT, tabB t = true := List.all_eq_true.mp (by decide +kernel : (someT.all tabB) = true)
noncomputable def ttT (tab : List (List Int)) : T := .tup (tab.map tupT)
noncomputable def longT (m : Int) (row : List Int) : List (List Int) := (range0 m).map fun c => row ++ [c]
noncomputable def alR (m : Int) : Nat → List (List Int)
 | 0 => [[]]
 | k + 1 => (alR m k).flatMap (longT m)
theorem longT_len (m : Int) (row : List Int) : (longT m row).length = m.toNat := by unfold longT; rw [List.length_map, range0_length]
theorem flt_len (m : Int) : ∀ R : List (List Int), (R.flatMap (longT m)).length = R.length * m.toNat
 | [] => by simp
 | r :: R => by rw [List.flatMap_cons, List.length_append, longT_len, flt_len m R, List.length_cons, Nat.succ_mul, Nat.add_comm]
theorem alR_len (m : Int) : ∀ k, (alR m k).length = m.toNat ^ k
 | 0 => rfl
 | k + 1 => by show ((alR m k).flatMap (longT m)).length = _; rw [flt_len, alR_len m k, Nat.pow_succ]
theorem alR_mem {m : Int} : ∀ {k : Nat} {r : List Int}, r ∈ alR m k → r.length = k ∧ InA m r
 | 0, r, h => by
   rw [List.mem_singleton.mp h]
   exact ⟨rfl, fun _ z => absurd z List.not_mem_nil⟩
 | k + 1, r, h => by
   obtain ⟨q, hq, hr⟩ := List.mem_flatMap.mp h
   obtain ⟨c, hc, rfl⟩ := List.mem_map.mp hr
   obtain ⟨a, b⟩ := alR_mem hq
   refine ⟨by rw [List.length_append, a]; rfl, fun x hx => ?_⟩
   rcases List.mem_append.mp hx with z | z
   · exact b x z
   · rw [List.mem_singleton.mp z]; exact range0_iff.mp hc
theorem flt_take {m : Int} {R : List (List Int)} {j : Nat} {r : List Int} (h : R[j]? = some r) : (R.take (j + 1)).flatMap (longT m) = (R.take j).flatMap (longT m) ++ longT m r := by
 rw [List.take_add_one, h, List.flatMap_append]
 simp
end L2
namespace L2
open PySem PySem.Spec PyProof.Rows LM
section
variable {prog : Program} {w : World} {A : Around} {E : Value → Shared → Prop} {s : Shared}
end
section
variable {X : Cx} {pos : Pos}
end
theorem filt_snoc {α : Type} (f : α → Bool) {L : List α} {i : Nat} {x : α} (h : L[i]? = some x) : (L.take (i + 1)).filter f = (L.take i).filter f ++ if f x = true then [x] else [] := by
 rw [List.take_add_one, h, List.filter_append]
 congr 1
 show List.filter f [x] = _
 rw [List.filter_cons]
 rfl
end L2
namespace L2
open PySem PySem.Spec PyProof.Rows LM
section
variable {X : Cx} {Ha : Hp} {a b : Expr} {ta tb : TE3} {tA : TT3} {pos : Pos}
end
noncomputable def HIX (X : Cx) (Ha : Hp) (tg iter : Expr) (wi : TI3) : Prop := ∀ ρ M R, wi ρ M R → PI X tg iter (fun σ H R2 => Kp X.K Ha H ∧ RhoR X.K σ H ρ ∧ HR X.K H M ∧ ∀ J J2 M' H', Kp X.K H H' → HR X.K H' M' → ItOk X.K H' J2 J → R J M' → R2 J2 H')
noncomputable def dIX (K : PySem.W.Frag) (Ha : Hp) (ρ : En) (wi : TI3) : TI := fun σ H R2 => ∃ M R, wi ρ M R ∧ Kp K Ha H ∧ RhoR K σ H ρ ∧ HR K H M ∧ ∀ J J2 M' H', Kp K H H' → HR K H' M' → ItOk K H' J2 J → R J M' → R2 J2 H'
section
variable {X : Cx} {Ha : Hp}
theorem HIX.d {tg iter : Expr} {wi : TI3} {ρ : En} (h : HIX X Ha tg iter wi) : PI X tg iter (dIX X.K Ha ρ wi) := fun pins s σ H R I ⟨M, R3, q, b⟩ => h ρ M R3 q pins s σ H R I b
theorem i_seqX {tg l : Expr} {tl : TE3} (hl : HEX X Ha l tl) : HIX X Ha tg l (iSeq3 tl) := by
 intro ρ M R h pins s σ H R2 I b
 obtain ⟨ka, hr, hh, en⟩ := b
 refine thn (hl ρ M _ h pins s σ H (fun v H1 => ∃ t M1, Kp X.K H H1 ∧ HR X.K H1 M1 ∧ Rep X.K H1 v t ∧ (match t with
   | .tup ts => R ⟨ts, fun _ => True⟩ M1
   | .adr p => (match M1 p with | some (.lst ts) => R ⟨ts, fun M' => M' p = some (.lst ts)⟩ M1 | _ => False)
   | _ => False)) I ⟨ka, hr, hh, fun t v M1 H1 k1 h1 r1 q1 => ⟨t, M1, k1, h1, r1, q1⟩⟩) fun v s1 ⟨x, H1, I1, rv, t, M1, k1, h1, r1, q1⟩ => ?_
 split at q1
 · rename_i ts
   obtain ⟨a, xs, rfl, g1, g2⟩ := inv_tup r1
   cases rv
   obtain ⟨its, rv, p, hz⟩ := I1.tuple g1
   refine wpAny_pyIter_tuple (show s1.heap.IsTuple a its.toArray from p) ?_
   refine ⟨s1.heap.objs.size, [s1.heap.objs.size], _, _, H1, rfl, I1.kept (t' := s1.toks) fun b o e => Heap.get?_push_of_some _ e, turn_tuple a _, ⟨_, Heap.get?_push_size _ rfl, rfl, rfl⟩, fun b hb => ?_, en _ _ M1 H1 k1 h1 (itok_tup g1 g2) q1⟩
   have e : b = s1.heap.objs.size := by simpa using hb
   subst e
   exact I1.fpOk (Nat.le_refl _) (I1.hok.fresh (Nat.le_refl _))
 · rename_i a
   obtain rfl := inv_adr r1
   cases rv
   split at q1
   · rename_i ts e0
     obtain ⟨xs, g1, g2⟩ := h1 _ _ e0
     obtain ⟨its, rv, p, hz⟩ := I1.list (SqL.of g1)
     refine wpAny_pyIter_list p.isList ?_
     refine ⟨s1.heap.objs.size, [s1.heap.objs.size], _, _, H1, rfl, I1.kept (t' := s1.toks) fun b o e => Heap.get?_push_of_some _ e, turn_list a _, ⟨_, Heap.get?_push_size _ rfl, rfl, rfl⟩, fun b hb => ?_, en _ _ M1 H1 k1 h1 itok_lst q1⟩
     have e : b = s1.heap.objs.size := by simpa using hb
     subst e
     exact I1.fpOk (Nat.le_refl _) (I1.hok.fresh (Nat.le_refl _))
   · exact q1.elim
 · exact q1.elim
theorem h_compX {elt iter tg : Expr} {ifs : List Expr} {pos : Pos} {scope : Scope} {N' : List Str} {ix : List (Option Nat)} {wi : TI3} {g2 : TG} {g3 : TG3} {tt : TT3} {te : TE3} (hc : X.calm = true) (hi : HIX X Ha tg iter wi) (S : BlkScope X N' ix scope) (bt : BTg X.K ix g2 g3) (hg : ∀ C s H fp pins, PG (blk X N' scope C s H fp pins) tg g2)
   (ht : ∀ C s H fp pins, HTs (blk X N' scope C s H fp pins) ifs tt) (he : ∀ C s H fp pins, HE (blk X N' scope C s H fp pins) elt te)
   (hs : ∀ x, foldedSetIterable iter X.env x = pure x := by intro _; rfl) :
   HEX X Ha (.ListComp elt [⟨tg, iter, ifs, 0⟩] scope pos) (tComp3 wi ix g3 tt te) := fun ρ0 M0 Q h =>
 (pe_comp (tt := dTx X.K tt) (te := dEx X.K te) hc (hi.d (ρ := ρ0)) S bt.own hg (fun C s H fp pins => (ht C s H fp pins).dx) (fun C s H fp pins => (he C s H fp pins).dx) hs).imp fun σ0 H0 Q2 bb => by
   obtain ⟨M, R, q, hr, hh, en⟩ := comp_red (X := X) (N' := N') bt ρ0 M0 Q h σ0 H0 Q2 bb.2
   exact ⟨M, R, q, bb.1, hr, hh, en⟩
end
section
variable {X : Cx} {pos : Pos}
end
end L2
namespace L2
open PySem PySem.Spec PyProof.Rows LM
section
variable {X : Cx}
end
end L2
namespace L2
open PySem PySem.Spec PyProof.Rows LM
section
variable {X : Cx}
end
end L2
namespace L2
open PySem PySem.Spec PyProof.Rows LM
theorem sd_len : ∀ (ns acc : List Int), acc.Nodup → (ns.foldl step_dedup acc).length ≤ acc.length + ns.length ∧ ((ns.foldl step_dedup acc).length = acc.length + ns.length ↔ (acc ++ ns).Nodup)
 | [], acc, h => by simp [h]
 | n :: ns, acc, h => by
   rw [List.foldl_cons]
   by_cases c : acc.any (· == n) = true
   · rw [show step_dedup acc n = acc from if_pos c]
     obtain ⟨h1, h2⟩ := sd_len ns acc h
     refine ⟨by rw [List.length_cons]; lia, ⟨fun z => by rw [List.length_cons] at z; lia, fun z => ?_⟩⟩
     obtain ⟨y, hy, e⟩ := List.any_eq_true.mp c
     have e : y = n := by simpa using e
     subst e
     exact absurd rfl ((List.nodup_append.mp z).2.2 y hy y (.head _))
   · rw [show step_dedup acc n = acc ++ [n] from if_neg c]
     have hn : n ∉ acc := fun z => c (List.any_eq_true.mpr ⟨n, z, by simp⟩)
     have h' : (acc ++ [n]).Nodup := List.nodup_append.mpr ⟨h, by simp, fun a ha b hb => by rw [List.mem_singleton.mp hb]; exact fun z => hn (by rw [← z]; exact ha)⟩
     obtain ⟨h1, h2⟩ := sd_len ns (acc ++ [n]) h'
     rw [List.length_append, List.length_singleton] at h1 h2
     refine ⟨by rw [List.length_cons]; lia, ?_⟩
     rw [List.length_cons, show acc.length + (ns.length + 1) = acc.length + 1 + ns.length by lia, h2, List.append_assoc]; rfl
noncomputable def tLenSet3 (te : TE3) : TE3 := fun ρ M Q => te ρ M fun x M1 => match x with
 | .adr p => (match M1 p with
   | some (.lst ts) => ∃ ns : List Int, ts = ns.map .int ∧ ns.length < 60 ∧ ∀ k : Nat, k ≤ ns.length → (k = ns.length ↔ ns.Nodup) → Q (.int k) M1
   | _ => False)
 | _ => False
section
variable {X : Cx} {e : Expr} {te : TE3} {p p2 pos pos2 : Pos}
theorem h_lenset (hc : X.calm = true) (he : HE X e te) (hm : X.mg "len" = none) (hm2 : X.mg "set" = none) (hg : Gl X "len" := by rfl) (hg2 : Gl X "set" := by rfl)
   (h1 : starEach [e] X.env = (false, eval e X.env) :: starEach [] X.env := by rfl) (h2 : (backTo pos2 (starEach [] X.env)).any (·.1) = false := by rfl)
   (h3 : starEach [.Call (.Name "set" p2) [e] [] pos2] X.env = (false, eval (.Call (.Name "set" p2) [e] [] pos2) X.env) :: starEach [] X.env := by rfl) (h4 : (backTo pos (starEach [] X.env)).any (·.1) = false := by rfl) :
   HE X (.Call (.Name "len" p) [.Call (.Name "set" p2) [e] [] pos2] [] pos) (tLenSet3 te) := by
 intro ρ M Q h pins s σ H Q2 I bb
 obtain ⟨hr, hh, en⟩ := bb
 refine wpAny_Call_Name_kw (ld_blt I hg hm boot_len ?_)
 refine PyProof.Rows.callWith_builtin1 ?_ h3 h4
 rw [h3]
 show wpAny _ _ (spliced ((false, eval (.Call (.Name "set" p2) [e] [] pos2) X.env) :: backTo pos (starEach [] X.env))) _ _ s
 refine Calls.spliced_cons ?_
 refine wpAny_Call_Name_kw (ld_blt I hg2 hm2 PyProof.Rows.boot_set ?_)
 refine PyProof.Rows.callWith_type1 ?_ h1 h2
 rw [h1]
 show wpAny _ _ (spliced ((false, eval e X.env) :: backTo pos2 (starEach [] X.env))) _ _ s
 refine Calls.spliced_cons (thn (he ρ M _ h pins s σ H (fun v H1 => ∃ t M1, Kp X.K H H1 ∧ HR X.K H1 M1 ∧ Rep X.K H1 v t ∧ (match t with
   | .adr p => (match M1 p with
     | some (.lst ts) => ∃ ns : List Int, ts = ns.map .int ∧ ns.length < 60 ∧ ∀ k : Nat, k ≤ ns.length → (k = ns.length ↔ ns.Nodup) → Q (.int k) M1
     | _ => False)
   | _ => False)) I ⟨hr, hh, fun t v M1 H1 k1 h1 r1 q1 => ⟨t, M1, k1, h1, r1, q1⟩⟩) fun u s1 ⟨v, H1, I1, r, t, M1, k1, hh1, r1, q1⟩ => ?_)
 refine Calls.spliced_nil ?_
 split at q1
 · rename_i a
   split at q1
   · rename_i ts e0
     obtain ⟨ns, rfl, h60, q⟩ := q1
     obtain rfl := inv_adr r1
     cases r
     obtain ⟨xs, g1, g2⟩ := hh1 _ _ e0
     obtain rfl := reps_ints g2
     obtain ⟨its, r', pl, hz⟩ := I1.list (SqL.of g1)
     have hlen : its.length = ns.length := by have := r'.length; rw [List.length_map] at this; lia
     refine call_set_list (items := its.toArray) (ns := ns) (I1.ok.hd hc) pl.isList (by simpa using intsAre_of r') (by simp only [List.size_toArray]; rw [hlen]; exact Nat.lt_trans (Nat.succ_lt_succ h60) (by decide)) fun h' tk hs hk => ?_
     refine Calls.spliced_nil ?_
     obtain ⟨o, es, ep, t, ho, hex, hd, _, _, hsz, hf, hn⟩ := hs
     have kk : ∀ b u, s1.heap.get? b = some u → h'.get? b = some u := fun b u e => hk b u (Heap.lt_size e) e
     refine call_len_set (s := { s1 with heap := h', toks := tk }) ho hex hd hf (by have : es.size < 4096 := hsz; omega) ?_
     have hfm : firstMet (fun i => ns.getD i 0) its.toArray.size = ns.foldl step_dedup [] := by
       unfold firstMet
       rw [List.size_toArray, hlen]
       congr 1
       apply List.ext_getElem
       · simp
       · intro i i1 i2
         rw [List.getElem_map, List.getElem_range, List.getD_eq_getElem?_getD, List.getElem?_eq_getElem i2]; rfl
     rw [hfm] at hn
     obtain ⟨n1, n2⟩ := sd_len ns [] .nil
     rw [List.length_nil, Nat.zero_add] at n1 n2
     rw [List.nil_append] at n2
     rw [← hn] at n1 n2
     exact ⟨.int es.size, H1, I1.kept kk, ⟨_, rfl⟩, en _ _ M1 H1 k1 hh1 rep_int (q es.size n1 n2)⟩
   · exact q1.elim
 · exact q1.elim
end
theorem getD_memI {L : List Int} {i : Nat} (hi : i < L.length) : L.getD i 0 ∈ L := by
 rw [List.getD_eq_getElem?_getD, List.getElem?_eq_getElem hi]; exact List.getElem_mem hi
theorem max_tupN {prog : Program} {w : World} {A : Around} {E : Value → Shared → Prop} {s : Shared} {l : Addr} {vs : List Value} {ns : List Int} {Q : Value → Shared → Prop} (hh : A.handled = none)
   (hl : s.heap.IsTuple l vs.toArray) (hi : IntsAre vs ns) (hne : 0 < ns.length)
   (h : ∀ h' M (t : Tok) tk, (∀ b o, s.heap.get? b = some o → h'.get? b = some o) → M ∈ ns → (∀ a, a ∈ ns → a ≤ M) → Q (.int M t) { s with heap := h', toks := tk }) :
   wpAny (model prog w) A (call (.builtin "max") [.ref l]) Q E s := by
 obtain ⟨xs, e⟩ := hi.allInts.items
 have hns : ns = xs.toList.map (·.1) := by
   rw [← hi.numsOf, ← nums_intItems, ← e]
 have hsz : 0 < xs.size := by
   have h3 := hne; rw [hns, List.length_map, Array.length_toList] at h3; exact h3
 rw [e] at hl
 have hlt : l < s.heap.objs.size := by obtain ⟨_, e, _⟩ := hl; exact Heap.lt_size e
 refine call_max_walk (wpAny_pyIter_tuple hl ?_)
 refine ⟨_, _, _, _, _, _, _, rfl, Walks.tuple (A := A.in1) hh s.heap.objs.size l (Nat.ne_of_lt hlt) (intItems xs), ⟨⟨_, Heap.get?_push_size _ rfl, rfl, rfl⟩, hl.push _⟩, fun b hb => ?_, by simpa [intItems] using hsz, CmpOf.ints_gt (numAt xs) (fun _ _ => intItems_at), fun v h' tk hP hk => ?_⟩
 · show b < (s.heap.push _).objs.size
   rw [Heap.size_push]
   rcases List.mem_cons.mp hb with rfl | hb
   · exact Nat.lt_succ_self _
   · rcases List.mem_cons.mp hb with rfl | hb
     · exact Nat.lt_succ_of_lt hlt
     · cases hb
 · obtain ⟨t, rfl⟩ := intItems_at hP
   have sz : (intItems xs).size = xs.size := by simp [intItems]
   rw [sz]
   obtain ⟨h1, h2⟩ := argBest_gt (numAt xs) (xs.size - 1)
   refine h _ _ t tk (fun b o eb => hk b o (fun hm => ?_) (Heap.get?_push_of_some _ eb)) ?_ fun a ha => ?_
   · rcases List.mem_cons.mp hm with e1 | hm
     · exact absurd (e1 ▸ Heap.lt_size eb) (Nat.lt_irrefl _)
     · cases hm
   · rw [hns, numAt_eq]; exact getD_memI (by rw [List.length_map, Array.length_toList]; omega)
   · rw [hns] at ha
     obtain ⟨j, hj, rfl⟩ := mem_getD ha
     rw [List.length_map, Array.length_toList] at hj
     rw [← numAt_eq]; exact h2 j (by omega)
noncomputable def rMaxT3 : List T → MH → VK3 → Prop := fun xs M Q => match xs with
 | [.tup ts] => ∃ ns : List Int, ts = ns.map .int ∧ 0 < ns.length ∧ ∀ M' : Int, M' ∈ ns → (∀ a ∈ ns, a ≤ M') → Q (.int M') M
 | _ => False
theorem call3_maxT {X : Cx} (hc : X.calm = true) : CallR3 X (.builtin "max") rMaxT3 := by
 intro pins s σ H vs us Q2 I r h
 obtain ⟨xs, M, Q, rr, hh, q, en⟩ := h
 unfold rMaxT3 at q
 split at q
 · obtain ⟨v, rfl, r1⟩ := reps1 rr
   obtain ⟨p, ys, rfl, g1, g2⟩ := inv_tup r1
   obtain ⟨ns, rfl, hne, q⟩ := q
   obtain rfl := reps_ints g2
   obtain ⟨u, rfl, rx⟩ := vals1 r
   cases rx
   obtain ⟨its, r', pl, hz⟩ := I.tuple g1
   exact max_tupN (I.ok.hd hc) pl (intsAre_of r') hne fun h' m t tk k m1 m2 => ⟨.int m, H, I.kept k, ⟨_, rfl⟩, en _ _ M H Kp.refl hh rep_int (q m m1 m2)⟩
 · exact q.elim
theorem min_tupN {prog : Program} {w : World} {A : Around} {E : Value → Shared → Prop} {s : Shared} {l : Addr} {vs : List Value} {ns : List Int} {Q : Value → Shared → Prop} (hh : A.handled = none)
   (hl : s.heap.IsTuple l vs.toArray) (hi : IntsAre vs ns) (hne : 0 < ns.length)
   (h : ∀ h' M (t : Tok) tk, (∀ b o, s.heap.get? b = some o → h'.get? b = some o) → M ∈ ns → (∀ a, a ∈ ns → M ≤ a) → Q (.int M t) { s with heap := h', toks := tk }) :
   wpAny (model prog w) A (call (.builtin "min") [.ref l]) Q E s := by
 obtain ⟨xs, e⟩ := hi.allInts.items
 have hns : ns = xs.toList.map (·.1) := by
   rw [← hi.numsOf, ← nums_intItems, ← e]
 have hsz : 0 < xs.size := by
   have h3 := hne; rw [hns, List.length_map, Array.length_toList] at h3; exact h3
 rw [e] at hl
 have hlt : l < s.heap.objs.size := by obtain ⟨_, e, _⟩ := hl; exact Heap.lt_size e
 refine call_min_walk (wpAny_pyIter_tuple hl ?_)
 refine ⟨_, _, _, _, _, _, _, rfl, Walks.tuple (A := A.in1) hh s.heap.objs.size l (Nat.ne_of_lt hlt) (intItems xs), ⟨⟨_, Heap.get?_push_size _ rfl, rfl, rfl⟩, hl.push _⟩, fun b hb => ?_, by simpa [intItems] using hsz, CmpOf.ints_lt (numAt xs) (fun _ _ => intItems_at), fun v h' tk hP hk => ?_⟩
 · show b < (s.heap.push _).objs.size
   rw [Heap.size_push]
   rcases List.mem_cons.mp hb with rfl | hb
   · exact Nat.lt_succ_self _
   · rcases List.mem_cons.mp hb with rfl | hb
     · exact Nat.lt_succ_of_lt hlt
     · cases hb
 · obtain ⟨t, rfl⟩ := intItems_at hP
   have sz : (intItems xs).size = xs.size := by simp [intItems]
   rw [sz]
   obtain ⟨h1, h2⟩ := argBest_lt (numAt xs) (xs.size - 1)
   refine h _ _ t tk (fun b o eb => hk b o (fun hm => ?_) (Heap.get?_push_of_some _ eb)) ?_ fun a ha => ?_
   · rcases List.mem_cons.mp hm with e1 | hm
     · exact absurd (e1 ▸ Heap.lt_size eb) (Nat.lt_irrefl _)
     · cases hm
   · rw [hns, numAt_eq]; exact getD_memI (by rw [List.length_map, Array.length_toList]; omega)
   · rw [hns] at ha
     obtain ⟨j, hj, rfl⟩ := mem_getD ha
     rw [List.length_map, Array.length_toList] at hj
     rw [← numAt_eq]; exact h2 j (by omega)
noncomputable def rMinT3 : List T → MH → VK3 → Prop := fun xs M Q => match xs with
 | [.tup ts] => ∃ ns : List Int, ts = ns.map .int ∧ 0 < ns.length ∧ ∀ M' : Int, M' ∈ ns → (∀ a ∈ ns, M' ≤ a) → Q (.int M') M
 | _ => False
theorem call3_minT {X : Cx} (hc : X.calm = true) : CallR3 X (.builtin "min") rMinT3 := by
 intro pins s σ H vs us Q2 I r h
 obtain ⟨xs, M, Q, rr, hh, q, en⟩ := h
 unfold rMinT3 at q
 split at q
 · obtain ⟨v, rfl, r1⟩ := reps1 rr
   obtain ⟨p, ys, rfl, g1, g2⟩ := inv_tup r1
   obtain ⟨ns, rfl, hne, q⟩ := q
   obtain rfl := reps_ints g2
   obtain ⟨u, rfl, rx⟩ := vals1 r
   cases rx
   obtain ⟨its, r', pl, hz⟩ := I.tuple g1
   exact min_tupN (I.ok.hd hc) pl (intsAre_of r') hne fun h' m t tk k m1 m2 => ⟨.int m, H, I.kept k, ⟨_, rfl⟩, en _ _ M H Kp.refl hh rep_int (q m m1 m2)⟩
 · exact q.elim
end L2
namespace L2
open PySem PySem.Spec PyProof.Rows LM
local macro_rules | `(tactic| walk_at "rd") => `(tactic| (try simp only [ tPar3, rSorted3, rPopAt3, tRet3, tRaise3, tCallX, tChain3, tCB3, tCons3, tNil3, tVar3, tK, tOp3, tUn3, tSeq3, tSet3, tNext3, tIfS3, tDrop3, tAsg3, tTest3, tTru3, tNot3, tAnd3, tOr3, tAndV3, tComp3, tTup3, tLst3, tCall3, tLM3, tLRng1, tLMS, rIdxS, isSeq, rExt3, tDicE, tDGT, sDPT, tYes3,
 gName3, gCons3, gNil3, gTup3, gSub3, strsT_map, tSl3, tNo3, tPt3, iSeq3, iEnumT, iRng1_3, iRng2_3, iRng3_3, rAdd3, rSub3, rMul3, rDiv3, rMod3, rPow3, rInt, rNeg3, rIx3, rLen3, rAbs3, rTuple3, rList3, rAll3, rApp3, rIndex3, rLt3, rLe3, rGt3, rGe3, rCmp3, rEq3, rNe3, rEqv, tLenSet3, rMaxT3, rMinT3, truT, isLst,
 start3_cons, start3_none, start3_nil, pick3_none, pick3_some, pick3_nil, join_some, List.getElem?_cons_zero, List.getElem?_cons_succ, List.set_cons_zero, List.set_cons_succ, List.length_cons, List.length_nil, List.map_nil, List.isEmpty_cons, List.isEmpty_nil, updM_same, updM_updM, atI_0, atI_1, atI_2, ixN_0, bools_map, intsT_map,
 pureT_int, pureT_bl, pureT_tup, pureTs_cons, pureTs_nil, pureTs_ints, depT_int, depT_bl, depT_tup, depTs_cons, depTs_nil, depTs_ints, eqT_tup, eqT_int, eqTs_cons, eqTs_nil, eqTs_ints, id, Bool.not_true, Bool.not_false, Bool.and_true, Bool.true_and, Bool.or_false, Bool.false_or,
 decide_eq_true_eq, Bool.not_eq_true', decide_eq_false_iff_not, Bool.false_eq_true, ↓reduceIte, if_true, if_false, true_and, and_true, and_self, Nat.zero_le, not_true_eq_false, not_false_eq_true, List.length_map, List.length_append, List.length_singleton]))
noncomputable abbrev top (i : Nat) : Stmt := PySem.Challenge.pw_loopwright_k61_tables_looked_at.main.body.getD i (.Pass ⟨0, 0, 0, 0⟩)
noncomputable abbrev s_is_letter : Stmt := top 11
noncomputable abbrev s_is_word : Stmt := top 12
noncomputable abbrev s_is_plait : Stmt := top 13
noncomputable abbrev s_looked : Stmt := top 14
noncomputable abbrev s_has_form : Stmt := top 18
noncomputable abbrev s_keeps_third_rule : Stmt := top 19
noncomputable abbrev s_is_table : Stmt := top 20
noncomputable abbrev s_looked_table : Stmt := top 21
noncomputable abbrev s_undone : Stmt := top 22
noncomputable abbrev s_led_down : Stmt := top 23
noncomputable abbrev s_coloured : Stmt := top 24
noncomputable abbrev s_all_rows : Stmt := top 25
noncomputable abbrev s_colourings : Stmt := top 26
noncomputable abbrev s__law_state : Stmt := top 28
noncomputable abbrev s__law_take : Stmt := top 29
noncomputable abbrev s__law_named : Stmt := top 30
noncomputable abbrev s__law_common : Stmt := top 32
noncomputable abbrev s__law_table : Stmt := top 31
noncomputable abbrev s__law_which : Stmt := top 33
noncomputable abbrev s__law_good : Stmt := top 34
noncomputable abbrev s__law_spoiled : Stmt := top 35
noncomputable abbrev s__law_flags : Stmt := top 36
noncomputable abbrev s_law : Stmt := top 37
theorem sc_is_letter : FnScope ["strands", "letter"] ["strands", "letter"] (defScope s_is_letter) := ⟨rfl, rfl, rfl, by decide +kernel, rfl, by decide +kernel, by decide +kernel⟩
theorem sc_is_word : FnScope ["strands", "word", "most"] ["strands", "word", "most"] (defScope s_is_word) := ⟨rfl, rfl, rfl, by decide +kernel, rfl, by decide +kernel, by decide +kernel⟩
theorem sc_is_plait : FnScope ["plait"] ["plait"] (defScope s_is_plait) := ⟨rfl, rfl, rfl, by decide +kernel, rfl, by decide +kernel, by decide +kernel⟩
theorem sc_looked : FnScope ["plait"] ["plait"] (defScope s_looked) := ⟨rfl, rfl, rfl, by decide +kernel, rfl, by decide +kernel, by decide +kernel⟩
theorem sc_has_form : FnScope ["table", "many"] ["table"] (defScope s_has_form) := ⟨rfl, rfl, rfl, by decide +kernel, rfl, by decide +kernel, by decide +kernel⟩
theorem sc_keeps_third_rule : FnScope ["table", "c", "a", "row", "b", "under"] ["table", "c"] (defScope s_keeps_third_rule) := ⟨rfl, rfl, rfl, by decide +kernel, rfl, by decide +kernel, by decide +kernel⟩
theorem sc_is_table : FnScope ["table", "colours", "colour"] ["table"] (defScope s_is_table) := ⟨rfl, rfl, rfl, by decide +kernel, rfl, by decide +kernel, by decide +kernel⟩
theorem sc_looked_table : FnScope ["table"] ["table"] (defScope s_looked_table) := ⟨rfl, rfl, rfl, by decide +kernel, rfl, by decide +kernel, by decide +kernel⟩
theorem sc_undone : FnScope ["table", "colour_by", "a", "row", "c", "d"] ["table"] (defScope s_undone) := ⟨rfl, rfl, rfl, by decide +kernel, rfl, by decide +kernel, by decide +kernel⟩
theorem sc_led_down : FnScope ["table", "colour_by", "word", "colours", "row", "letter", "at", "left", "right"] ["table", "colour_by", "word", "colours"] (defScope s_led_down) := ⟨rfl, rfl, rfl, by decide +kernel, rfl, by decide +kernel, by decide +kernel⟩
theorem sc_coloured : FnScope ["table", "plait", "colours"] ["table", "plait", "colours"] (defScope s_coloured) := ⟨rfl, rfl, rfl, by decide +kernel, rfl, by decide +kernel, by decide +kernel⟩
theorem sc_all_rows : FnScope ["many", "places", "rows", "place", "longer", "row"] ["many", "places"] (defScope s_all_rows) := ⟨rfl, rfl, rfl, by decide +kernel, rfl, by decide +kernel, by decide +kernel⟩
theorem sc_colourings : FnScope ["table", "plait", "colour_by"] ["table", "plait"] (defScope s_colourings) := ⟨rfl, rfl, rfl, by decide +kernel, rfl, by decide +kernel, by decide +kernel⟩
theorem sc__law_state : FnScope ["script", "k", "cell"] ["script", "k"] (defScope s__law_state) := ⟨rfl, rfl, rfl, by decide +kernel, rfl, by decide +kernel, by decide +kernel⟩
theorem sc__law_take : FnScope ["state", "many", "found", "mixed"] ["state", "many"] (defScope s__law_take) := ⟨rfl, rfl, rfl, by decide +kernel, rfl, by decide +kernel, by decide +kernel⟩
theorem sc__law_named : FnScope ["table", "state", "many", "left", "names", "found", "a"] ["table", "state"] (defScope s__law_named) := ⟨rfl, rfl, rfl, by decide +kernel, rfl, by decide +kernel, by decide +kernel⟩
theorem sc__law_common : FnScope ["one", "other"] ["one", "other"] (defScope s__law_common) := ⟨rfl, rfl, rfl, by decide +kernel, rfl, by decide +kernel, by decide +kernel⟩
theorem sc__law_table : FnScope ["state", "most", "some", "way", "many", "times", "t", "plain"] ["state", "most"] (defScope s__law_table) := ⟨rfl, rfl, rfl, by decide +kernel, rfl, by decide +kernel, by decide +kernel⟩
theorem sc__law_which : FnScope ["e", "flags"] ["e"] (defScope s__law_which) := ⟨rfl, rfl, rfl, by decide +kernel, rfl, by decide +kernel, by decide +kernel⟩
theorem sc__law_good : FnScope ["table", "many", "row", "some", "b", "a", "c", "left"] ["table"] (defScope s__law_good) := ⟨rfl, rfl, rfl, by decide +kernel, rfl, by decide +kernel, by decide +kernel⟩
theorem sc__law_spoiled : FnScope ["state", "table", "at", "row", "way", "spot", "new"] ["state", "table"] (defScope s__law_spoiled) := ⟨rfl, rfl, rfl, by decide +kernel, rfl, by decide +kernel, by decide +kernel⟩
theorem sc__law_flags : FnScope ["way", "table", "flags", "e"] ["way", "table"] (defScope s__law_flags) := ⟨rfl, rfl, rfl, by decide +kernel, rfl, by decide +kernel, by decide +kernel⟩
theorem sc_law : FnScope ["script", "state", "table", "turn", "due"] ["script"] (defScope s_law) := ⟨rfl, rfl, rfl, by decide +kernel, rfl, by decide +kernel, by decide +kernel⟩
structure Zs (K : PySem.W.Frag) (P_ z1 z2 z3 z4 z5 z6 : Addr) (mg : Str → Option Value) : Prop where
 xs : Xs K mg P_ [("NoPlait", z1), ("NoStep", z2), ("NoRoom", z3), ("NoTable", z4), ("NoNumber", z5), ("BadNote", z6)]
 b_ValueError : mg "ValueError" = none
 b_abs : mg "abs" = none
 b_all : mg "all" = none
 b_enumerate : mg "enumerate" = none
 b_isinstance : mg "isinstance" = none
 b_len : mg "len" = none
 b_list : mg "list" = none
 b_max : mg "max" = none
 b_min : mg "min" = none
 b_range : mg "range" = none
 b_set : mg "set" = none
 b_sorted : mg "sorted" = none
 b_tuple : mg "tuple" = none
 c_MOST_COLOURS : ∃ tk, mg "MOST_COLOURS" = some (.int 7 tk)
 c_MOST_LETTERS : ∃ tk, mg "MOST_LETTERS" = some (.int 16 tk)
 c_MOST_ROWS : ∃ tk, mg "MOST_ROWS" = some (.int 2500 tk)
 c_MOST_STRANDS : ∃ tk, mg "MOST_STRANDS" = some (.int 6 tk)
noncomputable def sp_is_letter : Sp3 := fun ts M Q => match ts with
 | [.int n, .int l] => Q (.bl (isLet n l)) M
 | _ => False
theorem ok_is_letter {P : Program} {w : World} {K : PySem.W.Frag} {mg : Str → Option Value} {base : Heap} {f : Addr} {fd : FuncData} {n : Nat} {P_ z1 z2 z3 z4 z5 z6 : Addr}  (F : Fun K "is_letter" "is_letter" s_is_letter f fd) (hm : mg "is_letter" = some (.ref f)) (hb : Binds K fd ["strands", "letter"] []) (Z : Zs K P_ z1 z2 z3 z4 z5 z6 mg)  : Df P w K mg base (n + 1) "is_letter" ["strands", "letter"] sp_is_letter := by
 refine F.dfn hm hb sc_is_letter (by intro ts M Q h; unfold sp_is_letter at h; first | (split at h <;> first | rfl | exact h.elim) | (obtain ⟨_, _, _, _, _, rfl, _⟩ := h; rfl) | (obtain ⟨_, _, _, _, rfl, _⟩ := h; rfl) | (obtain ⟨_, _, _, rfl, _⟩ := h; rfl) | (obtain ⟨_, _, rfl, _⟩ := h; rfl) | (obtain ⟨_, rfl, _⟩ := h; rfl)) ⟨_, fun cdv A outer s H E hr => (ss_one (s_ret (h_chain op3_le op3_lt h_int (h_callB call3_abs Z.b_abs PyProof.Rows.boot_abs (a_cons (hv 1) a_nil)) (hv 0)))), fun ts M Q h => ?_⟩
 unfold sp_is_letter isLet at h
 split at h
 · rename_i n l
   walk_at "rd"
   refine ite2 (fun c => rt3_here ?_) (fun c => rt3_here ?_)
   · simpa [show 1 ≤ l.natAbs by lia] using h
   · simpa [show ¬ 1 ≤ l.natAbs by lia] using h
 · exact h.elim
noncomputable def sp_is_word : Sp3 := fun ts M Q => match ts with
 | [.int n, .tup w, .int k] => ∃ ws : List Int, w = ws.map .int ∧ ws.length < 10000 ∧ Q (.bl (isWd n ws k)) M
 | _ => False
theorem ok_is_word {P : Program} {w : World} {K : PySem.W.Frag} {mg : Str → Option Value} {base : Heap} {f : Addr} {fd : FuncData} {n : Nat} {P_ z1 z2 z3 z4 z5 z6 : Addr}  (F : Fun K "is_word" "is_word" s_is_word f fd) (hm : mg "is_word" = some (.ref f)) (hb : Binds K fd ["strands", "word", "most"] []) (Z : Zs K P_ z1 z2 z3 z4 z5 z6 mg) (D_is_letter : Df P w K mg base n "is_letter" ["strands", "letter"] sp_is_letter) : Df P w K mg base (n + 1) "is_word" ["strands", "word", "most"] sp_is_word := by
 obtain ⟨tk_MOST_STRANDS, c_MOST_STRANDS⟩ := Z.c_MOST_STRANDS
 refine F.dfn hm hb sc_is_word (by intro ts M Q h; unfold sp_is_word at h; first | (split at h <;> first | rfl | exact h.elim) | (obtain ⟨_, _, _, _, _, rfl, _⟩ := h; rfl) | (obtain ⟨_, _, _, _, rfl, _⟩ := h; rfl) | (obtain ⟨_, _, _, rfl, _⟩ := h; rfl) | (obtain ⟨_, _, rfl, _⟩ := h; rfl) | (obtain ⟨_, rfl, _⟩ := h; rfl)) ⟨_, fun cdv A outer s H E hr => (ss_cons (s_if (HW.ht (w_or (h_not (h_tchain op3_le op3_le h_int (hv 0) (h_globI c_MOST_STRANDS))) (w_or1 (h_tcmp op3_gt (h_callB call3_len Z.b_len PySem.boot_len (a_cons (hv 1) a_nil)) (hv 2) (nomark _))))) (ss_one (s_ret h_bl)) ss_nil) (ss_one (s_ret (h_callB (call3_all rfl) Z.b_all PyProof.Rows.boot_all (a_cons (h_comp rfl (i_seq (hv 1)) (blk_scope (outer := defScope s_is_word) (N := ["strands", "word", "most"]) (N' := ["letter", "strands"]) (ix := [none, some 0]) (by decide +kernel) rfl rfl) bt_name (fun _ _ _ _ _ => pg_name (i := 0) (show List.Nodup (["letter", "strands"] : List Str) by decide +kernel) rfl (Or.inl rfl) (Or.inr rfl)) (fun _ _ _ _ _ => ts_nil) (fun _ _ _ _ _ => (h_call D_is_letter hr (a_cons (hv 1) (a_cons (hv 0) a_nil))))) a_nil))))), fun ts M Q h => ?_⟩
 unfold sp_is_word at h
 split at h
 · rename_i n w k
   obtain ⟨ws, rfl, hl, h⟩ := h
   unfold isWd at h
   walk_at "rd"
   refine ite2 (fun c1 => ite2 (fun c2 => ?_) fun c2 => ite2 (fun c3 => ?_) fun c3 => ?_) fun c1 => ?_
   · rw [decide_eq_false c2, Bool.and_false, Bool.false_and] at h
     exact rt3_here h
   · rw [decide_eq_false (show ¬ (ws.length : Int) ≤ k by lia), Bool.and_false, Bool.false_and] at h
     exact rt3_here h
   · rw [decide_eq_true c1, decide_eq_true (show n ≤ 6 by lia), decide_eq_true (show (ws.length : Int) ≤ k by lia)] at h
     refine ⟨fun i ys M' => ys = ((ws.take i).map (isLet n)).map T.bl ∧ M' = M, ⟨rfl, rfl⟩, fun _ _ _ _ => trivial, Nat.lt_of_le_of_lt (by lia : ws.length ≤ 10000) (by decide), ?_, ?_⟩
     · rintro i x ys M' hx ⟨rfl, rfl⟩
       obtain ⟨l, hl', rfl⟩ := get_map_int hx
       unfold sp_is_letter
       refine ⟨?_, rfl⟩
       rw [← take_succ_map (isLet n) hl', List.map_append]; rfl
     · rintro ys M' ⟨rfl, rfl⟩ p hp
       rw [List.take_length, bools_map]
       refine rt3_sub (M0 := M') ?_ (Sub.new hp)
       rw [List.all_map]
       exact h
   · rw [decide_eq_false c1, Bool.false_and, Bool.false_and, Bool.false_and] at h
     exact rt3_here h
 · exact h.elim
noncomputable def sp_is_plait : Sp3 := fun ts M Q => match ts with
 | [.tup [.int n, .tup w]] => ∃ ws : List Int, w = ws.map .int ∧ ws.length < 10000 ∧ Q (.bl (isPl n ws)) M
 | _ => False
theorem ok_is_plait {P : Program} {w : World} {K : PySem.W.Frag} {mg : Str → Option Value} {base : Heap} {f : Addr} {fd : FuncData} {n : Nat} {P_ z1 z2 z3 z4 z5 z6 : Addr}  (F : Fun K "is_plait" "is_plait" s_is_plait f fd) (hm : mg "is_plait" = some (.ref f)) (hb : Binds K fd ["plait"] []) (Z : Zs K P_ z1 z2 z3 z4 z5 z6 mg) (D_is_word : Df P w K mg base n "is_word" ["strands", "word", "most"] sp_is_word) : Df P w K mg base (n + 1) "is_plait" ["plait"] sp_is_plait := by
 obtain ⟨tk_MOST_LETTERS, c_MOST_LETTERS⟩ := Z.c_MOST_LETTERS
 refine F.dfn hm hb sc_is_plait (by intro ts M Q h; unfold sp_is_plait at h; first | (split at h <;> first | rfl | exact h.elim) | (obtain ⟨_, _, _, _, _, rfl, _⟩ := h; rfl) | (obtain ⟨_, _, _, _, rfl, _⟩ := h; rfl) | (obtain ⟨_, _, _, rfl, _⟩ := h; rfl) | (obtain ⟨_, _, rfl, _⟩ := h; rfl) | (obtain ⟨_, rfl, _⟩ := h; rfl)) ⟨_, fun cdv A outer s H E hr => (ss_one (s_ret (h_call D_is_word hr (a_cons (h_ix (hv 0) h_int) (a_cons (h_ix (hv 0) h_int) (a_cons (h_globI c_MOST_LETTERS) a_nil)))))), fun ts M Q h => ?_⟩
 unfold sp_is_plait at h
 split at h
 · rename_i n w
   obtain ⟨ws, rfl, hl, h⟩ := h
   walk_at "rd"
   refine ⟨ws, rfl, hl, ?_⟩
   rw [isWd_16]
   exact rt3_here h
 · exact h.elim
noncomputable def sp_looked : Sp3X := fun ts M Q E => match ts with
 | [.tup [.int n, .tup w]] => ∃ ws : List Int, w = ws.map .int ∧ ws.length < 10000 ∧ (PlOK n ws → Q (.int ws.length) M) ∧ (¬ PlOK n ws → E "NoPlait" M)
 | _ => False
theorem ok_looked {P : Program} {w : World} {K : PySem.W.Frag} {mg : Str → Option Value} {base : Heap} {f : Addr} {fd : FuncData} {n : Nat} {P_ z1 z2 z3 z4 z5 z6 : Addr}  (F : Fun K "looked" "looked" s_looked f fd) (hm : mg "looked" = some (.ref f)) (hb : Binds K fd ["plait"] []) (Z : Zs K P_ z1 z2 z3 z4 z5 z6 mg) (D_is_plait : Df P w K mg base n "is_plait" ["plait"] sp_is_plait) : DfX P w K mg base (n + 1) "looked" ["plait"] sp_looked := by
 refine F.dfnX hm hb sc_looked (by intro ts M Q E h; unfold sp_looked at h; first | (split at h <;> first | rfl | exact h.elim) | (obtain ⟨_, _, _, _, _, rfl, _⟩ := h; rfl) | (obtain ⟨_, _, _, _, rfl, _⟩ := h; rfl) | (obtain ⟨_, _, _, rfl, _⟩ := h; rfl) | (obtain ⟨_, _, rfl, _⟩ := h; rfl) | (obtain ⟨_, rfl, _⟩ := h; rfl)) ⟨_, fun cdv A outer s H E E3 hr acc accN => (ss_consX (s_ifX (HT.x (HT.n (h_not (h_truth (h_call D_is_plait hr (a_cons (hv 0) a_nil)))))) (ss_oneX (s_raiseX accN (Z.xs.cl (.head _)) h_str)) ss_nilX) (ss_oneX (HS.x (HS.n (s_ret (h_callB call3_len Z.b_len PySem.boot_len (a_cons (h_ix (hv 0) h_int) a_nil))))))), fun ts M Q E h => ?_⟩
 unfold sp_looked at h
 split at h
 · rename_i n w
   obtain ⟨ws, rfl, hl, h1, h2⟩ := h
   walk_at "rd"
   refine ⟨ws, rfl, hl, ?_⟩
   dsimp only
   by_cases c : PlOK n ws
   · rw [c.is, if_neg (by decide)]
     exact rt3_here (h1 c)
   · rw [show isPl n ws = false from Bool.eq_false_iff.mpr fun z => c (isPl_iff.mp z), if_pos rfl]
     exact ⟨M, Sub.refl, h2 c⟩
 · exact h.elim
noncomputable def sp_has_form : Sp3 := fun ts M Q => match ts with
 | [.tup t] => ∃ tab : List (List Int), t = tab.map tupT ∧ tab.length < 60 ∧ (∀ r ∈ tab, r.length < 60) ∧ Q (.bl (shB tab)) M
 | _ => False
theorem ok_has_form {P : Program} {w : World} {K : PySem.W.Frag} {mg : Str → Option Value} {base : Heap} {f : Addr} {fd : FuncData} {n : Nat} {P_ z1 z2 z3 z4 z5 z6 : Addr}  (F : Fun K "has_form" "has_form" s_has_form f fd) (hm : mg "has_form" = some (.ref f)) (hb : Binds K fd ["table"] []) (Z : Zs K P_ z1 z2 z3 z4 z5 z6 mg)  : Df P w K mg base (n + 1) "has_form" ["table"] sp_has_form := by
 obtain ⟨tk_MOST_COLOURS, c_MOST_COLOURS⟩ := Z.c_MOST_COLOURS
 refine F.dfn hm hb sc_has_form (by intro ts M Q h; unfold sp_has_form at h; first | (split at h <;> first | rfl | exact h.elim) | (obtain ⟨_, _, _, _, _, rfl, _⟩ := h; rfl) | (obtain ⟨_, _, _, _, rfl, _⟩ := h; rfl) | (obtain ⟨_, _, _, rfl, _⟩ := h; rfl) | (obtain ⟨_, _, rfl, _⟩ := h; rfl) | (obtain ⟨_, rfl, _⟩ := h; rfl)) ⟨_, fun cdv A outer s H E hr => (ss_cons (s_set (i := 1) (h_callB call3_len Z.b_len PySem.boot_len (a_cons (hv 0) a_nil)) sc_has_form.nd) (ss_one (s_ret (h_and (h_chain op3_le op3_le h_int (hv 1) (h_globI c_MOST_COLOURS)) (h_one (h_callB (call3_all rfl) Z.b_all PyProof.Rows.boot_all (a_cons (h_comp rfl (i_seq (hv 0)) (blk_scope (outer := defScope s_has_form) (N := ["table", "many"]) (N' := ["row", "many"]) (ix := [none, some 1]) (by decide +kernel) rfl rfl) bt_name (fun _ _ _ _ _ => pg_name (i := 0) (show List.Nodup (["row", "many"] : List Str) by decide +kernel) rfl (Or.inl rfl) (Or.inr rfl)) (fun _ _ _ _ _ => ts_nil) (fun _ _ _ _ _ => (h_cmp (op3_eq hr.units) (h_callB call3_len Z.b_len PySem.boot_len (a_cons (hv 0) a_nil)) (hv 1) (nomark _)))) a_nil))))))), fun ts M Q h => ?_⟩
 unfold sp_has_form at h
 split at h
 · rename_i t
   obtain ⟨tab, rfl, hl, hr, h⟩ := h
   walk_at "rd"
   unfold shB at h
   refine ite2 (fun c1 => ite2 (fun c2 => ?_) fun c2 => ?_) fun c1 => ?_
   · rw [decide_eq_true (show 1 ≤ tab.length by lia), decide_eq_true (show tab.length ≤ 7 by lia)] at h
     refine ⟨fun i ys M' => ys = ((tab.take i).map fun r => decide (r.length = tab.length)).map T.bl ∧ M' = M, ⟨rfl, rfl⟩, fun _ _ _ _ => trivial, line_len (by lia), ?_, ?_⟩
     · rintro i x ys M' hx ⟨rfl, rfl⟩
       obtain ⟨r, hr', rfl⟩ := get_tupT hx
       refine ⟨?_, rfl⟩
       rw [← take_succ_map (fun r : List Int => decide (r.length = tab.length)) hr', List.map_append, List.length_map]
       rw [show decide ((r.length : Int) = (tab.length : Int)) = decide (r.length = tab.length) from by congr 1; exact propext Int.ofNat_inj]
       rfl
     · rintro ys M' ⟨rfl, rfl⟩ p hp
       rw [List.take_length, bools_map]
       refine rt3_sub (M0 := M') ?_ (Sub.new hp)
       rw [List.all_map]
       exact h
   · rw [decide_eq_false (show ¬ tab.length ≤ 7 by lia), Bool.and_false, Bool.false_and] at h
     exact rt3_here h
   · rw [decide_eq_false (show ¬ 1 ≤ tab.length by lia), Bool.false_and, Bool.false_and] at h
     exact rt3_here h
 · exact h.elim
noncomputable def sp_keeps_third_rule : Sp3 := fun ts M Q => match ts with
 | [.tup t, .int c] => ∃ tab : List (List Int), t = tab.map tupT ∧ tab.length ≤ 7 ∧ (∀ r ∈ tab, r.length = tab.length) ∧ InM tab.length c ∧ (∀ a b, InM tab.length a → InM tab.length b → InM tab.length (g2 tab a b)) ∧ Q (.bl (thB tab c)) M
 | _ => False
theorem ok_keeps_third_rule {P : Program} {w : World} {K : PySem.W.Frag} {mg : Str → Option Value} {base : Heap} {f : Addr} {fd : FuncData} {n : Nat} {P_ z1 z2 z3 z4 z5 z6 : Addr}  (F : Fun K "keeps_third_rule" "keeps_third_rule" s_keeps_third_rule f fd) (hm : mg "keeps_third_rule" = some (.ref f)) (hb : Binds K fd ["table", "c"] []) (Z : Zs K P_ z1 z2 z3 z4 z5 z6 mg)  : Df P w K mg base (n + 1) "keeps_third_rule" ["table", "c"] sp_keeps_third_rule := by
 refine F.dfn hm hb sc_keeps_third_rule (by intro ts M Q h; unfold sp_keeps_third_rule at h; first | (split at h <;> first | rfl | exact h.elim) | (obtain ⟨_, _, _, _, _, rfl, _⟩ := h; rfl) | (obtain ⟨_, _, _, _, rfl, _⟩ := h; rfl) | (obtain ⟨_, _, _, rfl, _⟩ := h; rfl) | (obtain ⟨_, _, rfl, _⟩ := h; rfl) | (obtain ⟨_, rfl, _⟩ := h; rfl)) ⟨_, fun cdv A outer s H E hr => (ss_cons (s_for PassesOwn.never rfl (i_enumT Z.b_enumerate (hv 0)) (g_tup (n := 2) rfl (gs_cons (g_name (i := 2) sc_keeps_third_rule.nd) (gs_cons (g_name (i := 3) sc_keeps_third_rule.nd) gs_nil))) (ss_one (s_for PassesOwn.never rfl (i_enumT Z.b_enumerate (hv 3)) (g_tup (n := 2) rfl (gs_cons (g_name (i := 4) sc_keeps_third_rule.nd) (gs_cons (g_name (i := 5) sc_keeps_third_rule.nd) gs_nil))) (ss_one (s_if (h_tcmp (op3_ne hr.units) (h_ix (h_ix (hv 0) (hv 5)) (hv 1)) (h_ix (h_ix (hv 0) (h_ix (h_ix (hv 0) (hv 2)) (hv 1))) (h_ix (h_ix (hv 0) (hv 4)) (hv 1))) (nomark _)) (ss_one (s_ret h_bl)) ss_nil))))) (ss_one (s_ret h_bl))), fun ts M Q h => ?_⟩
 unfold sp_keeps_third_rule at h
 split at h
 · rename_i t c
   obtain ⟨tab, rfl, hl, hr, hc, hin, h⟩ := h
   have row : ∀ {a : Int}, InM tab.length a → atI (tab.map tupT) a = some (T.tup ((tab.getD a.toNat []).map T.int)) ∧ (tab.getD a.toNat []).length = tab.length := fun {a} ha => tab_row hr ha
   have at2 : ∀ {a b : Int}, InM tab.length a → InM tab.length b → atI ((tab.getD a.toNat []).map T.int) b = some (.int (g2 tab a b)) := fun {a b} ha hb => tab_at hr ha hb
   refine seq_cut fun K1 hK1 => ?_
   refine for_cut fun B1 hB1 => ?_
   walk_at "rd"
   unfold tFor3
   walk_at "rd"
   refine ⟨fun i ρ M' => (∃ x1 x2 x3 x4, ρ = [some (T.tup (List.map tupT tab)), some (T.int c), x1, x2, x3, x4]) ∧ M' = M ∧ ∀ a, 0 ≤ a → a < (i : Int) → thA tab c a = true, ⟨⟨_, _, _, _, rfl⟩, rfl, fun a h1 h2 => absurd h2 (by lia)⟩, fun _ _ _ _ => trivial, ?_, ?_⟩
   · rintro i x ρ M' hx ⟨⟨x1, x2, x3, x4, rfl⟩, rfl, ih⟩
     obtain ⟨t, hx2, rfl⟩ := enT_get hx
     obtain ⟨r, hx3, rfl⟩ := get_tupT hx2
     have hi : i < tab.length := (List.getElem?_eq_some_iff.mp hx3).1
     have ha : InM tab.length (i : Int) := ⟨by lia, by lia⟩
     have er : r = tab.getD (i : Int).toNat [] := by rw [Int.toNat_natCast, List.getD_eq_getElem?_getD, hx3]; rfl
     subst er
     walk_at "rd"
     rw [hB1]
     refine for_cut fun B2 hB2 => ?_
     rw [show tupT (tab.getD (i : Int).toNat []) = T.tup ((tab.getD (i : Int).toNat []).map T.int) from rfl]
     unfold tFor3
     walk_at "rd"
     refine ⟨fun j ρ M2 => (∃ x3 x4, ρ = [some (T.tup (List.map tupT tab)), some (T.int c), some (T.int i), some (T.tup ((tab.getD (i : Int).toNat []).map T.int)), x3, x4]) ∧ M2 = M' ∧ ∀ b, 0 ≤ b → b < (j : Int) → g2 tab (g2 tab i b) c = g2 tab (g2 tab i c) (g2 tab b c), ⟨⟨_, _, rfl⟩, rfl, fun a h1 h2 => absurd h2 (by lia)⟩, fun _ _ _ _ => trivial, ?_, ?_⟩
     · rintro j x ρ M2 hy ⟨⟨x3, x4, rfl⟩, rfl, ih2⟩
       obtain ⟨t, hy2, rfl⟩ := enT_get hy
       obtain ⟨u, hy3, rfl⟩ := get_map_int hy2
       have hj : j < tab.length := by have := (List.getElem?_eq_some_iff.mp hy3).1; rwa [(row ha).2] at this
       have hb : InM tab.length (j : Int) := ⟨by lia, by lia⟩
       have eu : u = g2 tab i j := by
         have := at2 ha hb
         rw [atI_ints _ _ hb.1 (by rw [(row ha).2]; exact hb.2)] at this
         unfold g2 gI
         rw [Int.toNat_natCast j, List.getD_eq_getElem?_getD, hy3]; rfl
       subst eu
       walk_at "rd"
       rw [hB2]
       walk_at "rd"
       have hij := hin _ _ ha hb
       have hic := hin _ _ ha hc
       have hjc := hin _ _ hb hc
       rw [(row hij).1, (row ha).1, (row hb).1]
       dsimp only
       rw [at2 hij hc, at2 ha hc, at2 hb hc]
       dsimp only
       rw [(row hic).1]
       dsimp only
       rw [at2 hic hjc]
       walk_at "rd"
       refine ite2 (fun ne => ?_) (fun eq => ?_)
       · have e : thB tab c = false := by
           refine Bool.eq_false_iff.mpr fun z => ?_
           have z1 := List.all_eq_true.mp (List.all_eq_true.mp z i (range0_iff.mpr ha)) j (range0_iff.mpr hb)
           exact ne (of_decide_eq_true z1)
         rw [e] at h
         exact rt3_here h
       · refine ⟨⟨_, _, rfl⟩, fun b h1 h2 => ?_⟩
         rcases (show b < (j : Int) ∨ b = j by lia) with z | rfl
         · exact ih2 b h1 z
         · exact Classical.byContradiction fun z => eq z
     · rintro ρ M2 ⟨⟨x3, x4, rfl⟩, rfl, ih2⟩
       refine ⟨⟨_, _, _, _, rfl⟩, rfl, fun a h1 h2 => ?_⟩
       rcases (show a < (i : Int) ∨ a = i by lia) with z | rfl
       · exact ih a h1 z
       · refine List.all_eq_true.mpr fun b hb => decide_eq_true (ih2 b (range0_iff.mp hb).1 ?_)
         rw [enT_length, List.length_map, (row ha).2]; exact (range0_iff.mp hb).2
   · rintro ρ M' ⟨⟨x1, x2, x3, x4, rfl⟩, rfl, ih⟩
     rw [hK1]
     walk_at "rd"
     have e : thB tab c = true := List.all_eq_true.mpr fun a ha => ih a (range0_iff.mp ha).1 (by rw [enT_length, List.length_map]; exact (range0_iff.mp ha).2)
     rw [e] at h
     exact rt3_here h
 · exact h.elim
noncomputable def sp_is_table : Sp3 := fun ts M Q => match ts with
 | [.tup t] => ∃ tab : List (List Int), t = tab.map tupT ∧ tab.length < 60 ∧ (∀ r ∈ tab, r.length < 60) ∧ Q (.bl (tabB tab)) M
 | _ => False
theorem ok_is_table {P : Program} {w : World} {K : PySem.W.Frag} {mg : Str → Option Value} {base : Heap} {f : Addr} {fd : FuncData} {n : Nat} {P_ z1 z2 z3 z4 z5 z6 : Addr}  (F : Fun K "is_table" "is_table" s_is_table f fd) (hm : mg "is_table" = some (.ref f)) (hb : Binds K fd ["table"] []) (Z : Zs K P_ z1 z2 z3 z4 z5 z6 mg) (D_has_form : Df P w K mg base n "has_form" ["table"] sp_has_form) (D_keeps_third_rule : Df P w K mg base n "keeps_third_rule" ["table", "c"] sp_keeps_third_rule) : Df P w K mg base (n + 1) "is_table" ["table"] sp_is_table := by
 refine F.dfn hm hb sc_is_table (by intro ts M Q h; unfold sp_is_table at h; first | (split at h <;> first | rfl | exact h.elim) | (obtain ⟨_, _, _, _, _, rfl, _⟩ := h; rfl) | (obtain ⟨_, _, _, _, rfl, _⟩ := h; rfl) | (obtain ⟨_, _, _, rfl, _⟩ := h; rfl) | (obtain ⟨_, _, rfl, _⟩ := h; rfl) | (obtain ⟨_, rfl, _⟩ := h; rfl)) ⟨_, fun cdv A outer s H E hr => (ss_cons (s_if (h_not (h_truth (h_call D_has_form hr (a_cons (hv 0) a_nil)))) (ss_one (s_ret h_bl)) ss_nil) (ss_cons (s_set (i := 1) (h_listRange1 Z.b_list Z.b_range (a_cons (h_callB call3_len Z.b_len PySem.boot_len (a_cons (hv 0) a_nil)) a_nil)) sc_is_table.nd) (ss_cons (s_for PassesOwn.never rfl (i_seq (hv 1)) (g_name (i := 2) sc_is_table.nd) (ss_one (s_if (HW.ht (w_or (h_tcmp (op3_ne hr.units) (h_ix (h_ix (hv 0) (hv 2)) (hv 2)) (hv 2) (nomark _)) (w_or1 (h_tcmp (op3_ne hr.units) (h_callB call3_sorted Z.b_sorted PyProof.Rows.boot_sorted (a_cons (h_comp rfl (i_seq (hv 0)) (blk_scope (outer := defScope s_is_table) (N := ["table", "colours", "colour"]) (N' := ["row", "colour"]) (ix := [none, some 2]) (by decide +kernel) rfl rfl) bt_name (fun _ _ _ _ _ => pg_name (i := 0) (show List.Nodup (["row", "colour"] : List Str) by decide +kernel) rfl (Or.inl rfl) (Or.inr rfl)) (fun _ _ _ _ _ => ts_nil) (fun _ _ _ _ _ => (h_ix (hv 0) (hv 1)))) a_nil)) (hv 1) (nomark _))))) (ss_one (s_ret h_bl)) ss_nil))) (ss_one (s_ret (h_callB (call3_all rfl) Z.b_all PyProof.Rows.boot_all (a_cons (h_comp rfl (i_seq (hv 1)) (blk_scope (outer := defScope s_is_table) (N := ["table", "colours", "colour"]) (N' := ["colour", "table"]) (ix := [none, some 0]) (by decide +kernel) rfl rfl) bt_name (fun _ _ _ _ _ => pg_name (i := 0) (show List.Nodup (["colour", "table"] : List Str) by decide +kernel) rfl (Or.inl rfl) (Or.inr rfl)) (fun _ _ _ _ _ => ts_nil) (fun _ _ _ _ _ => (h_call D_keeps_third_rule hr (a_cons (hv 1) (a_cons (hv 0) a_nil))))) a_nil))))))), fun ts M Q h => ?_⟩
 unfold sp_is_table at h
 split at h
 · rename_i t
   obtain ⟨tab, rfl, hl, hr, h⟩ := h
   refine seq_cut fun K1 hK1 => ?_
   walk_at "rd"
   refine ⟨tab, rfl, hl, hr, ?_⟩
   dsimp only
   by_cases c1 : shB tab = true
   · rw [c1, if_neg (by decide), hK1]
     clear hK1
     obtain ⟨l1, l7, rows⟩ := shB_iff.mp c1
     refine seq_cut fun K2 hK2 => ?_
     walk_at "rd"
     refine ⟨by constructor <;> lia, fun q hq => ?_⟩
     rw [rangeT_range0, hK2]
     clear hK2
     have hM : (updM M q (MO.lst ((range0 tab.length).map T.int))) q = some (.lst ((range0 tab.length).map T.int)) := updM_same
     have hS : Sub M (updM M q (MO.lst ((range0 tab.length).map T.int))) := Sub.new hq
     generalize updM M q (MO.lst ((range0 tab.length).map T.int)) = M1 at hM hS ⊢
     refine seq_cut fun K3 hK3 => ?_
     refine for_cut fun B hB => ?_
     unfold tFor3
     walk_at "rd"
     rw [hM]
     dsimp only
     refine ⟨fun i ρ M' => (∃ x1, ρ = [some (T.tup (List.map tupT tab)), some (T.adr q), x1]) ∧ Sub M1 M' ∧ ∀ c, 0 ≤ c → c < (i : Int) → coB tab c = true, ⟨⟨_, rfl⟩, Sub.refl, fun a h1 h2 => absurd h2 (by lia)⟩, ?_, ?_, ?_⟩
     · rintro i ρ M' ⟨_, hS2, _⟩
       exact hS2 _ _ hM
     · rintro i x ρ M' hx ⟨⟨x1, rfl⟩, hS2, ih⟩
       obtain ⟨c, hx2, rfl⟩ := get_map_int hx
       have hi : i < tab.length := by have := (List.getElem?_eq_some_iff.mp hx2).1; rw [range0_length] at this; lia
       have hc : c = (i : Int) := by
         unfold range0 at hx2
         rw [List.getElem?_map, List.getElem?_range (by lia)] at hx2
         exact (Option.some.inj hx2).symm
       subst hc
       have hci : InM tab.length (i : Int) := ⟨by lia, by lia⟩
       rw [hB]
       walk_at "rd"
       rw [(tab_row rows hci).1]
       dsimp only
       rw [tab_at rows hci hci]
       walk_at "rd"
       refine ite2 (fun ne => ?_) (fun eq => ?_)
       · have e : tabB tab = false := coB_not hci fun z => by
           unfold coB at z
           rw [Bool.and_eq_true, decide_eq_true_eq] at z
           exact ne z.1
         rw [e] at h
         exact rt3_sub h (hS.trans hS2)
       · refine ⟨fun j ys M2 => ys = ((tab.take j).map fun r => gI r i).map T.int ∧ M2 = M', ⟨rfl, rfl⟩, fun _ _ _ _ => trivial, line_len (by lia), ?_, ?_⟩
         · rintro j x ys M2 hy ⟨rfl, rfl⟩
           obtain ⟨r, hy2, rfl⟩ := get_tupT hy
           unfold tupT
           dsimp only
           rw [col_row rows hy2 hci]
           dsimp only
           refine ⟨?_, rfl⟩
           rw [← take_succ_map (fun r : List Int => gI r i) hy2, List.map_append]; rfl
         · rintro ys M2 ⟨rfl, rfl⟩ p hp
           refine ⟨_, rfl, by rw [List.length_map, List.length_take]; lia, fun ms hpm hps r hr2 => ?_⟩
           rw [List.take_length] at hpm
           have hS3 := (Sub.new hp (o := MO.lst (((tab.take tab.length).map fun r => gI r i).map T.int))).newr hr2 (o := MO.lst (ms.map T.int))
           generalize updM (updM M2 p (MO.lst (((tab.take tab.length).map fun r => gI r i).map T.int))) r (MO.lst (ms.map T.int)) = M3 at hS3 ⊢
           rw [hS3 _ _ (hS2 _ _ hM)]
           dsimp only
           rw [eqTs_ints, sorted_is hpm hps]
           refine ⟨pureTs_ints _, pureTs_ints _, by rw [depTs_ints]; lia, ?_⟩
           by_cases c2 : (tab.map fun r => gI r i).Perm (range0 tab.length)
           · rw [decide_eq_true c2, if_neg (by decide)]
             refine ⟨⟨_, rfl⟩, hS2.trans hS3, fun c h1 h2 => ?_⟩
             rcases (show c < (i : Int) ∨ c = i by lia) with z | rfl
             · exact ih c h1 z
             · unfold coB
               rw [decide_eq_true (show g2 tab i i = i from Classical.byContradiction fun z => eq z), decide_eq_true c2]; rfl
           · rw [decide_eq_false c2, if_pos rfl]
             have e : tabB tab = false := coB_not hci fun z => by
               unfold coB at z
               rw [Bool.and_eq_true, decide_eq_true_eq, decide_eq_true_eq] at z
               exact c2 z.2
             rw [e] at h
             exact rt3_sub h (hS.trans (hS2.trans hS3))
     · rintro ρ M' ⟨⟨x1, rfl⟩, hS2, ih⟩
       rw [hK3]
       clear hK3
       have hco : ∀ c, InM tab.length c → coB tab c = true := fun c hc => ih c hc.1 (by rw [List.length_map, range0_length]; have := hc.2; lia)
       walk_at "rd"
       rw [hS2 _ _ hM]
       dsimp only
       refine ⟨fun j ys M2 => ys = (((range0 tab.length).take j).map (thB tab)).map T.bl ∧ M2 = M', ⟨rfl, rfl⟩, ?_, by rw [List.length_map, range0_length]; exact line_len (by lia), ?_, ?_⟩
       · rintro j ys M2 ⟨_, rfl⟩
         exact hS2 _ _ hM
       · rintro j x ys M2 hx ⟨rfl, rfl⟩
         obtain ⟨c, hx2, rfl⟩ := get_map_int hx
         have hc : InM tab.length c := range0_iff.mp (List.mem_of_getElem? hx2)
         refine ⟨tab, rfl, l7, rows, hc, fun a b => coB_col hco, ?_, rfl⟩
         rw [← take_succ_map (thB tab) hx2, List.map_append]; rfl
       · rintro ys M2 ⟨rfl, rfl⟩ p hp
         rw [List.length_map, List.take_length, bools_map]
         dsimp only
         have e : tabB tab = (((range0 tab.length).map (thB tab)).all id) := by
           unfold tabB
           rw [c1, List.all_eq_true.mpr (fun c hc => hco c (range0_iff.mp hc)), List.all_map]; rfl
         rw [← e]
         exact rt3_sub h ((hS.trans hS2).newr hp)
   · have e : tabB tab = false := by
       unfold tabB
       rw [Bool.eq_false_iff.mpr c1]; rfl
     rw [Bool.eq_false_iff.mpr c1, if_pos rfl]
     rw [e] at h
     exact rt3_here h
 · exact h.elim
noncomputable def sp_looked_table : Sp3X := fun ts M Q E => match ts with
 | [.tup t] => ∃ tab : List (List Int), t = tab.map tupT ∧ tab.length < 60 ∧ (∀ r ∈ tab, r.length < 60) ∧ (tabB tab = false → E "NoTable" M) ∧ (tabB tab = true → Q .non M)
 | _ => False
theorem ok_looked_table {P : Program} {w : World} {K : PySem.W.Frag} {mg : Str → Option Value} {base : Heap} {f : Addr} {fd : FuncData} {n : Nat} {P_ z1 z2 z3 z4 z5 z6 : Addr}  (F : Fun K "looked_table" "looked_table" s_looked_table f fd) (hm : mg "looked_table" = some (.ref f)) (hb : Binds K fd ["table"] []) (Z : Zs K P_ z1 z2 z3 z4 z5 z6 mg) (D_is_table : Df P w K mg base n "is_table" ["table"] sp_is_table) : DfX P w K mg base (n + 1) "looked_table" ["table"] sp_looked_table := by
 refine F.dfnX hm hb sc_looked_table (by intro ts M Q E h; unfold sp_looked_table at h; first | (split at h <;> first | rfl | exact h.elim) | (obtain ⟨_, _, _, _, _, rfl, _⟩ := h; rfl) | (obtain ⟨_, _, _, _, rfl, _⟩ := h; rfl) | (obtain ⟨_, _, _, rfl, _⟩ := h; rfl) | (obtain ⟨_, _, rfl, _⟩ := h; rfl) | (obtain ⟨_, rfl, _⟩ := h; rfl)) ⟨_, fun cdv A outer s H E E3 hr acc accN => (ss_oneX (s_ifX (HT.x (HT.n (h_not (h_truth (h_call D_is_table hr (a_cons (hv 0) a_nil)))))) (ss_oneX (s_raiseX accN (Z.xs.cl (.tail _ (.tail _ (.tail _ (.head _))))) h_str)) ss_nilX)), fun ts M Q E h => ?_⟩
 unfold sp_looked_table at h
 split at h
 · rename_i t
   obtain ⟨tab, rfl, l1, l2, e0, h⟩ := h
   walk_at "rd"
   refine ⟨tab, rfl, l1, l2, ?_⟩
   dsimp only
   by_cases c : tabB tab = true
   · rw [c, if_neg (by decide)]
     exact rt3_here (h c)
   · have c' := Bool.eq_false_iff.mpr c
     rw [c', if_pos rfl]
     exact ⟨M, Sub.refl, e0 c'⟩
 · exact h.elim
noncomputable def CB (tab : List (List Int)) (kvs : List (List Key × T)) : Prop := ∀ a c, InM tab.length a → InM tab.length c → valT kvs [.inl (g2 tab a c), .inl c] = some (.int a)
noncomputable def sp_undone : Sp3 := fun ts M Q => match ts with
 | [.tup t] => ∃ tab : List (List Int), t = tab.map tupT ∧ tabB tab = true ∧ ∀ kvs p, CB tab kvs → M p = none → Q (.adr p) (updM M p (.dt kvs))
 | _ => False
theorem ok_undone {P : Program} {w : World} {K : PySem.W.Frag} {mg : Str → Option Value} {base : Heap} {f : Addr} {fd : FuncData} {n : Nat} {P_ z1 z2 z3 z4 z5 z6 : Addr}  (F : Fun K "undone" "undone" s_undone f fd) (hm : mg "undone" = some (.ref f)) (hb : Binds K fd ["table"] []) (Z : Zs K P_ z1 z2 z3 z4 z5 z6 mg)  : Df P w K mg base (n + 1) "undone" ["table"] sp_undone := by
 refine F.dfn hm hb sc_undone (by intro ts M Q h; unfold sp_undone at h; first | (split at h <;> first | rfl | exact h.elim) | (obtain ⟨_, _, _, _, _, rfl, _⟩ := h; rfl) | (obtain ⟨_, _, _, _, rfl, _⟩ := h; rfl) | (obtain ⟨_, _, _, rfl, _⟩ := h; rfl) | (obtain ⟨_, _, rfl, _⟩ := h; rfl) | (obtain ⟨_, rfl, _⟩ := h; rfl)) ⟨_, fun cdv A outer s H E hr => (ss_cons (s_set (i := 1) h_dicT sc_undone.nd) (ss_cons (s_for PassesOwn.never rfl (i_enumT Z.b_enumerate (hv 0)) (g_tup (n := 2) rfl (gs_cons (g_name (i := 2) sc_undone.nd) (gs_cons (g_name (i := 3) sc_undone.nd) gs_nil))) (ss_one (s_for PassesOwn.never rfl (i_enumT Z.b_enumerate (hv 3)) (g_tup (n := 2) rfl (gs_cons (g_name (i := 4) sc_undone.nd) (gs_cons (g_name (i := 5) sc_undone.nd) gs_nil))) (ss_one (s_dpt hr.units (hv 2) (hv 1) (a_cons (hv 5) (a_cons (hv 4) a_nil))))))) (ss_one (s_ret (hv 1))))), fun ts M Q h => ?_⟩
 unfold sp_undone at h
 split at h
 · rename_i t
   obtain ⟨tab, rfl, ht, h⟩ := h
   have ok := tabB_ok ht
   have l7 := ok.l7
   walk_at "rd"
   intro p hp
   refine seq_cut (a := tFor3 _ _ _) fun K1 hK1 => ?_
   refine for_cut fun B1 hB1 => ?_
   unfold tFor3
   walk_at "rd"
   refine ⟨fun i ρ M' => ∃ x1 x2 x3 x4 kvs, ρ = [some (T.tup (List.map tupT tab)), some (.adr p), x1, x2, x3, x4] ∧ M' = updM M p (.dt kvs) ∧ kvs.length ≤ 10 * i ∧ ∀ a c, InM tab.length a → InM tab.length c → a < (i : Int) → valT kvs [.inl (g2 tab a c), .inl c] = some (.int a), ⟨_, _, _, _, [], rfl, rfl, by decide, fun a c h1 h2 h3 => absurd h3 (by have := h1.1; lia)⟩, fun _ _ _ _ => trivial, ?_, ?_⟩
   · rintro i x ρ M' hx ⟨x1, x2, x3, x4, kvs, rfl, rfl, hlen, ih⟩
     obtain ⟨t, hx2, rfl⟩ := enT_get hx
     obtain ⟨r, hx3, rfl⟩ := get_tupT hx2
     have hi : i < tab.length := (List.getElem?_eq_some_iff.mp hx3).1
     have ha : InM tab.length (i : Int) := ⟨by lia, by lia⟩
     have er : r = tab.getD (i : Int).toNat [] := by rw [Int.toNat_natCast, List.getD_eq_getElem?_getD, hx3]; rfl
     subst er
     have hrl := (tab_row ok.rows ha).2
     walk_at "rd"
     rw [hB1]
     refine for_cut fun B2 hB2 => ?_
     rw [show tupT (tab.getD (i : Int).toNat []) = T.tup ((tab.getD (i : Int).toNat []).map T.int) from rfl]
     unfold tFor3
     walk_at "rd"
     refine ⟨fun j ρ M2 => ∃ x3 x4 kvs2, ρ = [some (T.tup (List.map tupT tab)), some (.adr p), some (.int i), some (T.tup ((tab.getD (i : Int).toNat []).map T.int)), x3, x4] ∧ M2 = updM M p (.dt kvs2) ∧ kvs2.length ≤ 10 * i + j ∧ ∀ a c, InM tab.length a → InM tab.length c → (a < (i : Int) ∨ (a = (i : Int) ∧ c < (j : Int))) → valT kvs2 [.inl (g2 tab a c), .inl c] = some (.int a), ⟨_, _, kvs, rfl, rfl, hlen, fun a c h1 h2 h3 => ih a c h1 h2 (by have := h2.1; lia)⟩, fun _ _ _ _ => trivial, ?_, ?_⟩
     · rintro j x ρ M2 hy ⟨x3, x4, kvs2, rfl, rfl, hlen2, ih2⟩
       obtain ⟨t, hy2, rfl⟩ := enT_get hy
       obtain ⟨u, hy3, rfl⟩ := get_map_int hy2
       have hj : j < tab.length := by have := (List.getElem?_eq_some_iff.mp hy3).1; rwa [hrl] at this
       have hb : InM tab.length (j : Int) := ⟨by lia, by lia⟩
       have eu : u = g2 tab i j := by
         unfold g2 gI
         rw [Int.toNat_natCast j, List.getD_eq_getElem?_getD, hy3]; rfl
       subst eu
       walk_at "rd"
       rw [hB2]
       walk_at "rd"
       refine ⟨by decide, [.inl (g2 tab i j), .inl (j : Int)], rfl, line_len (by lia), _, _, _, rfl, rfl, Nat.le_trans (putT_len _ _ _) (by lia), fun a c h1 h2 h3 => ?_⟩
       rw [valT_put]
       by_cases e : ([.inl (g2 tab a c), .inl c] : List Key) = [.inl (g2 tab i j), .inl (j : Int)]
       · rw [if_pos e]
         injection e with e1 e2
         injection e1 with e1
         injection e2 with e2 _
         injection e2 with e2
         subst e2
         rw [ok.inj h1 ha h2 e1]
       · rw [if_neg e]
         refine ih2 a c h1 h2 ?_
         rcases h3 with z | ⟨z, z2⟩
         · exact .inl z
         · rcases (show c < (j : Int) ∨ c = j by lia) with y | y
           · exact .inr ⟨z, y⟩
           · exact absurd (by rw [z, y]) e
     · rintro ρ M2 ⟨x3, x4, kvs2, rfl, rfl, hlen2, ih2⟩
       have el : (enT (List.map T.int (tab.getD (i : Int).toNat []))).length = tab.length := by rw [enT_length, List.length_map, hrl]
       rw [el] at ih2 hlen2
       exact ⟨_, _, _, _, kvs2, rfl, rfl, by lia, fun a c h1 h2 h3 => ih2 a c h1 h2 (by have := h2.2; lia)⟩
   · rintro ρ M' ⟨x1, x2, x3, x4, kvs, rfl, rfl, hlen, ih⟩
     rw [enT_length, List.length_map] at ih
     rw [hK1]
     walk_at "rd"
     exact rt3_here (h kvs p (fun a c h1 h2 => ih a c h1 h2 h1.2) hp)
 · exact h.elim
noncomputable def sp_led_down : Sp3 := fun ts M Q => match ts with
 | [.tup t, .adr p, .tup w, .tup c] => ∃ (tab : List (List Int)) (ws cs : List Int) (kvs : List (List Key × T)), t = tab.map tupT ∧ w = ws.map .int ∧ c = cs.map .int ∧ M p = some (.dt kvs) ∧ tabB tab = true ∧ CB tab kvs ∧ WordOK cs.length ws ∧ InA tab.length cs ∧ ws.length < 60 ∧ cs.length < 60 ∧ Q (.tup ((dn tab ws cs).map .int)) M
 | _ => False
theorem ok_led_down {P : Program} {w : World} {K : PySem.W.Frag} {mg : Str → Option Value} {base : Heap} {f : Addr} {fd : FuncData} {n : Nat} {P_ z1 z2 z3 z4 z5 z6 : Addr}  (F : Fun K "led_down" "led_down" s_led_down f fd) (hm : mg "led_down" = some (.ref f)) (hb : Binds K fd ["table", "colour_by", "word", "colours"] []) (Z : Zs K P_ z1 z2 z3 z4 z5 z6 mg)  : Df P w K mg base (n + 1) "led_down" ["table", "colour_by", "word", "colours"] sp_led_down := by
 refine F.dfn hm hb sc_led_down (by intro ts M Q h; unfold sp_led_down at h; first | (split at h <;> first | rfl | exact h.elim) | (obtain ⟨_, _, _, _, _, rfl, _⟩ := h; rfl) | (obtain ⟨_, _, _, _, rfl, _⟩ := h; rfl) | (obtain ⟨_, _, _, rfl, _⟩ := h; rfl) | (obtain ⟨_, _, rfl, _⟩ := h; rfl) | (obtain ⟨_, rfl, _⟩ := h; rfl)) ⟨_, fun cdv A outer s H E hr => (ss_cons (s_set (i := 4) (h_callT call3_list Z.b_list PyProof.Rows.boot_list (a_cons (hv 3) a_nil)) sc_led_down.nd) (ss_cons (s_for PassesOwn.never rfl (i_seq (hv 2)) (g_name (i := 5) sc_led_down.nd) (ss_cons (s_set (i := 6) (h_bin op3_sub (h_callB call3_abs Z.b_abs PyProof.Rows.boot_abs (a_cons (hv 5) a_nil)) h_int) sc_led_down.nd) (ss_cons (s_set (i := 7) (h_ix (hv 4) (hv 6)) sc_led_down.nd) (ss_cons (s_set (i := 8) (h_ix (hv 4) (h_bin op3_add (hv 6) h_int)) sc_led_down.nd) (ss_one (s_if (h_tcmp op3_gt (hv 5) h_int (nomark _)) (ss_cons (s_asg (hv 8) (g_sub (hv 4) (hv 6))) (ss_one (s_asg (h_ix (h_ix (hv 0) (hv 7)) (hv 8)) (g_sub (hv 4) (h_bin op3_add (hv 6) h_int))))) (ss_cons (s_asg (h_dgt hr.units (hv 1) (a_cons (hv 8) (a_cons (hv 7) a_nil))) (g_sub (hv 4) (hv 6))) (ss_one (s_asg (hv 7) (g_sub (hv 4) (h_bin op3_add (hv 6) h_int))))))))))) (ss_one (s_ret (h_callT call3_tuple Z.b_tuple PyProof.Rows.boot_tuple (a_cons (hv 4) a_nil)))))), fun ts M Q h => ?_⟩
 unfold sp_led_down at h
 split at h
 · rename_i t p w c
   obtain ⟨tab, ws, cs, kvs, rfl, rfl, rfl, hM, ht, hC, hw, hc, lw, lc, h⟩ := h
   have ok := tabB_ok ht
   have l7 := ok.l7
   refine seq_cut fun K1 hK1 => ?_
   walk_at "rd"
   intro q hq
   rw [hK1]
   clear hK1
   have hpq : p ≠ q := fun z => by rw [← z, hM] at hq; cases hq
   refine seq_cut fun K2 hK2 => ?_
   refine for_cut fun B1 hB1 => ?_
   unfold tFor3
   walk_at "rd"
   have hM1 : ∀ x : MO, (updM M q x) p = some (.dt kvs) := fun x => by rw [updM_ne hpq]; exact hM
   refine ⟨fun i ρ M' => ∃ x1 x2 x3 x4, ρ = [some (T.tup (List.map tupT tab)), some (T.adr p), some (T.tup (List.map T.int ws)), some (T.tup (List.map T.int cs)), some (T.adr q), x1, x2, x3, x4] ∧ M' = updM M q (MO.lst ((dn tab (ws.take i) cs).map .int)), ⟨_, _, _, _, rfl, rfl⟩, fun _ _ _ _ => trivial, ?_, ?_⟩
   · rintro i x ρ M' hx ⟨x1, x2, x3, x4, rfl, rfl⟩
     obtain ⟨l, hx2, rfl⟩ := get_map_int hx
     have hl := hw l (List.mem_of_getElem? hx2)
     obtain ⟨hl1, hl2⟩ := hl
     have hin : InA tab.length (dn tab (ws.take i) cs) := dn_in ok (WordOK.take hw i) hc
     have hlen : (dn tab (ws.take i) cs).length = cs.length := dn_length ..
     have hdn := dn_succ tab hx2 cs
     dsimp only
     rw [hdn]
     generalize dn tab (ws.take i) cs = ds at hin hlen ⊢
     rw [hB1]
     clear hB1
     obtain ⟨k, hk⟩ : ∃ k : Nat, l.natAbs = k + 1 := ⟨l.natAbs - 1, by lia⟩
     have hg1 : InM tab.length (gI ds k) := hin _ (by unfold gI; rw [Int.toNat_natCast, List.getD_eq_getElem?_getD, List.getElem?_eq_getElem (by lia)]; exact List.getElem_mem _)
     have hg2 : InM tab.length (gI ds (k + 1)) := hin _ (by unfold gI; rw [show ((k : Int) + 1).toNat = k + 1 by lia, List.getD_eq_getElem?_getD, List.getElem?_eq_getElem (by lia)]; exact List.getElem_mem _)
     have a1 : atI (ds.map T.int) (k : Int) = some (.int (gI ds k)) := gI_at (by lia) (by lia)
     have a2 : atI (ds.map T.int) ((k : Int) + 1) = some (.int (gI ds (k + 1))) := gI_at (by lia) (by lia)
     rw [dn1_at hk (by lia)]
     walk_at "rd"
     rw [hk, show ((k + 1 : Nat) : Int) - 1 = (k : Int) by lia, a1]
     dsimp only
     rw [a2]
     dsimp only
     have i1 : ixN ds.length (k : Int) = some k := ixN_nat (k := (k : Int)) (by lia) (by lia)
     have i2 : ixN ((ds.map T.int).set k (.int (pr1 tab l (gI ds k) (gI ds (k + 1))))).length ((k : Int) + 1) = some (k + 1) := by
       rw [List.length_set, List.length_map]; exact ixN_nat (k := (k : Int) + 1) (by lia) (by lia)
     refine ite2 (fun pos => ?_) (fun pos => ?_)
     · rw [show pr1 tab l (gI ds k) (gI ds (k + 1)) = gI ds (k + 1) from if_pos pos] at i2 ⊢
       rw [show pr2 tab l (gI ds k) (gI ds (k + 1)) = g2 tab (gI ds k) (gI ds (k + 1)) from if_pos pos, i1]
       dsimp only
       rw [(tab_row ok.rows hg1).1]
       dsimp only
       rw [tab_at ok.rows hg1 hg2]
       dsimp only
       rw [i2]
       exact ⟨_, _, _, _, rfl, rfl⟩
     · rw [show pr1 tab l (gI ds k) (gI ds (k + 1)) = iv tab (gI ds (k + 1)) (gI ds k) from if_neg pos] at i2 ⊢
       rw [show pr2 tab l (gI ds k) (gI ds (k + 1)) = gI ds k from if_neg pos, i1]
       dsimp only
       have hv := hC _ _ (ok.iv_spec hg2 hg1).1 hg1
       rw [(ok.iv_spec hg2 hg1).2] at hv
       refine ⟨by decide, ?_⟩
       rw [hM1]
       dsimp only
       refine ⟨[.inl (gI ds (k + 1)), .inl (gI ds k)], _, rfl, hv, ?_⟩
       rw [i2]
       exact ⟨_, _, _, _, rfl, rfl⟩
   · rintro ρ M' ⟨x1, x2, x3, x4, rfl, rfl⟩
     rw [hK2]
     walk_at "rd"
     rw [List.take_length]
     exact rt3_sub h (Sub.new hq)
 · exact h.elim
noncomputable def ColOK (tab : List (List Int)) (n : Int) (cs : List Int) : Prop := (cs.length : Int) = n ∧ InA tab.length cs
noncomputable def sp_coloured : Sp3X := fun ts M Q E => match ts with
 | [.tup t, .tup [.int n, .tup w], .tup c] => ∃ (tab : List (List Int)) (ws cs : List Int), t = tab.map tupT ∧ w = ws.map .int ∧ c = cs.map .int ∧ tab.length < 60 ∧ (∀ r ∈ tab, r.length < 60) ∧ ws.length < 10000 ∧ cs.length < 60 ∧
     (¬ PlOK n ws → E "NoPlait" M) ∧ (PlOK n ws → tabB tab = false → E "NoTable" M) ∧ (PlOK n ws → tabB tab = true → ¬ ColOK tab n cs → E "NoTable" M) ∧ (PlOK n ws → tabB tab = true → ColOK tab n cs → Q (.tup ((dn tab ws cs).map .int)) M)
 | _ => False
theorem ok_coloured {P : Program} {w : World} {K : PySem.W.Frag} {mg : Str → Option Value} {base : Heap} {f : Addr} {fd : FuncData} {n : Nat} {P_ z1 z2 z3 z4 z5 z6 : Addr}  (F : Fun K "coloured" "coloured" s_coloured f fd) (hm : mg "coloured" = some (.ref f)) (hb : Binds K fd ["table", "plait", "colours"] []) (Z : Zs K P_ z1 z2 z3 z4 z5 z6 mg) (D_looked : DfX P w K mg base n "looked" ["plait"] sp_looked) (D_looked_table : DfX P w K mg base n "looked_table" ["table"] sp_looked_table) (D_led_down : Df P w K mg base n "led_down" ["table", "colour_by", "word", "colours"] sp_led_down) (D_undone : Df P w K mg base n "undone" ["table"] sp_undone) : DfX P w K mg base (n + 1) "coloured" ["table", "plait", "colours"] sp_coloured := by
 refine F.dfnX hm hb sc_coloured (by intro ts M Q E h; unfold sp_coloured at h; first | (split at h <;> first | rfl | exact h.elim) | (obtain ⟨_, _, _, _, _, rfl, _⟩ := h; rfl) | (obtain ⟨_, _, _, _, rfl, _⟩ := h; rfl) | (obtain ⟨_, _, _, rfl, _⟩ := h; rfl) | (obtain ⟨_, _, rfl, _⟩ := h; rfl) | (obtain ⟨_, rfl, _⟩ := h; rfl)) ⟨_, fun cdv A outer s H E E3 hr acc accN => (ss_consX (s_exprX (h_callX acc rfl D_looked hr (a_cons (hv 1) a_nil))) (ss_consX (s_exprX (h_callX acc rfl D_looked_table hr (a_cons (hv 0) a_nil))) (ss_consX (s_ifX (HT.x (HT.n (HW.ht (w_or (h_tcmp (op3_ne hr.units) (h_callB call3_len Z.b_len PySem.boot_len (a_cons (hv 2) a_nil)) (h_ix (hv 1) h_int) (nomark _)) (w_or1 (h_not (h_truth (h_callB (call3_all rfl) Z.b_all PyProof.Rows.boot_all (a_cons (h_comp rfl (i_seq (hv 2)) (blk_scope (outer := defScope s_coloured) (N := ["table", "plait", "colours"]) (N' := ["colour", "table"]) (ix := [none, some 0]) (by decide +kernel) rfl rfl) bt_name (fun _ _ _ _ _ => pg_name (i := 0) (show List.Nodup (["colour", "table"] : List Str) by decide +kernel) rfl (Or.inl rfl) (Or.inr rfl)) (fun _ _ _ _ _ => ts_nil) (fun _ _ _ _ _ => (h_chain op3_le op3_lt h_int (hv 0) (h_callB call3_len Z.b_len PySem.boot_len (a_cons (hv 1) a_nil))))) a_nil))))))))) (ss_oneX (s_raiseX accN (Z.xs.cl (.tail _ (.tail _ (.tail _ (.head _))))) h_str)) ss_nilX) (ss_oneX (HS.x (HS.n (s_ret (h_call D_led_down hr (a_cons (hv 0) (a_cons (h_call D_undone hr (a_cons (hv 0) a_nil)) (a_cons (h_ix (hv 1) h_int) (a_cons (hv 2) a_nil)))))))))))), fun ts M Q E h => ?_⟩
 unfold sp_coloured at h
 split at h
 · rename_i t n w c
   obtain ⟨tab, ws, cs, rfl, rfl, rfl, lt, lr, lw, lc, e0, e1, e2, h⟩ := h
   refine seq_cut3 fun K1 hK1 => ?_
   walk_at "rd"
   refine ⟨ws, rfl, lw, fun ok => ?_, fun z => ⟨M, Sub.refl, e0 z⟩⟩
   refine ⟨tab, rfl, lt, lr, fun z => ⟨M, Sub.refl, e1 ok z⟩, fun ht => ?_⟩
   replace e2 := e2 ok ht
   replace h := h ok ht
   obtain ⟨n1, n6, hl, hw⟩ := ok
   dsimp only
   refine ite2 (fun z => ⟨M, Sub.refl, e2 fun y => z y.1⟩) (fun z => ?_)
   replace z : (cs.length : Int) = n := Classical.byContradiction z
   have l7 := (tabB_ok ht).l7
   refine ⟨fun i ys M' => ys = ((cs.take i).map fun c => decide (0 ≤ c) && decide (c < (tab.length : Int))).map T.bl ∧ M' = M, ⟨rfl, rfl⟩, fun _ _ _ _ => trivial, line_len (by lia), ?_, ?_⟩
   · rintro i x ys M' hx ⟨rfl, rfl⟩
     obtain ⟨c, hx2, rfl⟩ := get_map_int hx
     dsimp only
     have e := take_succ_map (fun c : Int => decide (0 ≤ c) && decide (c < (tab.length : Int))) hx2
     rw [← e, List.map_append]
     refine ite2 (fun y => ?_) (fun y => ?_)
     · rw [decide_eq_true y]; exact ⟨rfl, rfl⟩
     · rw [decide_eq_false y]; exact ⟨rfl, rfl⟩
   · rintro ys M' ⟨rfl, rfl⟩ p hp
     rw [List.take_length, bools_map]
     dsimp only
     have hS := Sub.new hp (o := MO.lst ((cs.map fun c => decide (0 ≤ c) && decide (c < (tab.length : Int))).map T.bl))
     generalize updM M' p (MO.lst ((cs.map fun c => decide (0 ≤ c) && decide (c < (tab.length : Int))).map T.bl)) = M1 at hS ⊢
     by_cases a : ((cs.map fun c => decide (0 ≤ c) && decide (c < (tab.length : Int))).all id) = true
     · have hc : InA tab.length cs := fun c hc => by
         have := List.all_eq_true.mp a _ (List.mem_map_of_mem hc)
         simp only [id, Bool.and_eq_true, decide_eq_true_eq] at this
         exact this
       rw [a, if_neg (by decide), hK1]
       clear hK1
       walk_at "rd"
       refine ⟨tab, rfl, ht, fun kvs q hC hq => ?_⟩
       refine ⟨tab, ws, cs, kvs, rfl, rfl, rfl, updM_same, ht, hC, by rw [z]; exact hw, hc, by lia, by lia, ?_⟩
       exact rt3_sub (h ⟨z, hc⟩) (hS.newr hq)
     · rw [Bool.eq_false_iff.mpr a, if_pos rfl]
       refine ⟨M', hS, e2 fun y => a (List.all_eq_true.mpr fun b hb => ?_)⟩
       obtain ⟨c, hc, rfl⟩ := List.mem_map.mp hb
       have := y.2 c hc
       simp only [id, Bool.and_eq_true, decide_eq_true_eq]
       exact this
 · exact h.elim
noncomputable def sp_all_rows : Sp3X := fun ts M Q E => match ts with
 | [.int m, .int k] => 1 ≤ m ∧ 0 ≤ k ∧ k ≤ 6 ∧ m ≤ 7 ∧ (2500 < m.toNat ^ k.toNat → E "NoRoom" M) ∧ (m.toNat ^ k.toNat ≤ 2500 → ∀ r, M r = none → Q (.adr r) (updM M r (.lst ((alR m k.toNat).map tupT))))
 | _ => False
theorem ok_all_rows {P : Program} {w : World} {K : PySem.W.Frag} {mg : Str → Option Value} {base : Heap} {f : Addr} {fd : FuncData} {n : Nat} {P_ z1 z2 z3 z4 z5 z6 : Addr}  (F : Fun K "all_rows" "all_rows" s_all_rows f fd) (hm : mg "all_rows" = some (.ref f)) (hb : Binds K fd ["many", "places"] []) (Z : Zs K P_ z1 z2 z3 z4 z5 z6 mg)  : DfX P w K mg base (n + 1) "all_rows" ["many", "places"] sp_all_rows := by
 obtain ⟨tk_MOST_ROWS, c_MOST_ROWS⟩ := Z.c_MOST_ROWS
 refine F.dfnX hm hb sc_all_rows (by intro ts M Q E h; unfold sp_all_rows at h; first | (split at h <;> first | rfl | exact h.elim) | (obtain ⟨_, _, _, _, _, rfl, _⟩ := h; rfl) | (obtain ⟨_, _, _, _, rfl, _⟩ := h; rfl) | (obtain ⟨_, _, _, rfl, _⟩ := h; rfl) | (obtain ⟨_, _, rfl, _⟩ := h; rfl) | (obtain ⟨_, rfl, _⟩ := h; rfl)) ⟨_, fun cdv A outer s H E E3 hr acc accN => (ss_consX (HS.x (HS.n (s_set (i := 2) (h_lst (@a_consT _ _ _ _ _ _ _ (h_tup a_nil) a_nil)) sc_all_rows.nd))) (ss_consX (s_forX PassesOwn.leaving rfl (i_range1 Z.b_range (a_cons (hv 1) a_nil)) (g_name (i := 3) sc_all_rows.nd) (ss_consX (s_ifX (HT.x (HT.n (h_tcmp op3_gt (h_bin op3_mul (h_callB call3_len Z.b_len PySem.boot_len (a_cons (hv 2) a_nil)) (hv 0)) (h_globI c_MOST_ROWS) (nomark _)))) (ss_oneX (s_raiseX accN (Z.xs.cl (.tail _ (.tail _ (.head _)))) h_str)) ss_nilX) (ss_consX (HS.x (HS.n (s_set (i := 4) (h_lst a_nil) sc_all_rows.nd))) (ss_consX (HS.x (HS.n (s_for PassesOwn.never rfl (i_seq (hv 2)) (g_name (i := 5) sc_all_rows.nd) (ss_one (s_expr (h_m_extend (hv 4) (a_cons (h_comp rfl (i_range1 Z.b_range (a_cons (hv 0) a_nil)) (blk_scope (outer := defScope s_all_rows) (N := ["many", "places", "rows", "place", "longer", "row"]) (N' := ["colour", "row"]) (ix := [none, some 5]) (by decide +kernel) rfl rfl) bt_name (fun _ _ _ _ _ => pg_name (i := 0) (show List.Nodup (["colour", "row"] : List Str) by decide +kernel) rfl (Or.inl rfl) (Or.inr rfl)) (fun _ _ _ _ _ => ts_nil) (fun _ _ _ _ _ => (h_bin op3_add (hv 1) (h_tup (a_cons (hv 0) a_nil))))) a_nil))))))) (ss_oneX (HS.x (HS.n (s_set (i := 2) (hv 4) sc_all_rows.nd)))))))) (ss_oneX (HS.x (HS.n (s_ret (hv 2))))))), fun ts M Q E h => ?_⟩
 unfold sp_all_rows at h
 split at h
 · rename_i m k
   obtain ⟨h1, k0, k6, h7, e0, h⟩ := h
   refine seq_cut fun K1 hK1 => ?_
   walk_at "rd"
   refine ⟨by decide, fun q hq => ?_⟩
   rw [hK1]
   clear hK1
   refine seq_cut fun K2 hK2 => ?_
   refine for_cut fun B hB => ?_
   unfold tFor3
   walk_at "rd"
   refine ⟨by lia, by lia, fun i ρ M' => ∃ x1 x2 x3 d, ρ = [some (T.int m), some (T.int k), some (T.adr d), x1, x2, x3] ∧ M d = none ∧ M' d = some (.lst ((alR m i).map tupT)) ∧ m.toNat ^ i ≤ 2500 ∧ Sub M M', ⟨_, _, _, q, rfl, hq, updM_same, by rw [Nat.pow_zero]; decide, Sub.new hq⟩, fun _ _ _ _ => trivial, ?_, ?_⟩
   · rintro i x ρ M' hx ⟨x1, x2, x3, d, rfl, hd0, hd, hpi, hS⟩
     have hi : i < k.toNat := by have := (List.getElem?_eq_some_iff.mp hx).1; rwa [rangeT_length] at this
     have hp1 : m.toNat ^ i ≤ m.toNat ^ k.toNat := Nat.pow_le_pow_right (by lia) (by lia)
     have hp2 : m.toNat ^ (i + 1) ≤ m.toNat ^ k.toNat := Nat.pow_le_pow_right (by lia) (by lia)
     have l1 := alR_len m i
     have l2 := alR_len m (i + 1)
     rw [hB]
     clear hB
     refine seq_cut2 fun K3 hK3 => ?_
     walk_at "rd"
     rw [hd]
     dsimp only
     have e1 : ((m.toNat ^ i : Nat) : Int) * m = ((m.toNat ^ (i + 1) : Nat) : Int) := by
       rw [Nat.pow_succ]
       obtain ⟨k, rfl⟩ := Int.eq_ofNat_of_zero_le (show 0 ≤ m by lia)
       rw [Int.toNat_natCast]
       exact (Int.natCast_mul _ _).symm
     refine ⟨by unfold CMul; right; constructor <;> lia, ?_⟩
     rw [List.length_map, l1, e1]
     refine ite2 (fun z => ⟨M, hS, e0 (by lia)⟩) (fun z => ?_)
     have hb : m.toNat ^ (i + 1) ≤ 2500 := by lia
     clear e1 z
     intro e he
     have hde : d ≠ e := fun z => by rw [← z, hd] at he; cases he
     have he0 : M e = none := by
       cases q : M e with
       | none => rfl
       | some o => rw [hS _ _ q] at he; cases he
     rw [hK3]
     clear hK3
     refine seq_cut fun K4 hK4 => ?_
     refine for_cut fun B2 hB2 => ?_
     unfold tFor3
     walk_at "rd"
     rw [updM_ne hde, hd]
     dsimp only
     refine ⟨fun j ρ M2 => (∃ x1, ρ = [some (T.int m), some (T.int k), some (T.adr d), some x, some (T.adr e), x1]) ∧ M2 d = some (.lst ((alR m i).map tupT)) ∧ M2 e = some (.lst ((((alR m i).take j).flatMap (longT m)).map tupT)) ∧ Sub M M2, ⟨⟨_, rfl⟩, by rw [updM_ne hde]; exact hd, updM_same, hS.newr he⟩, ?_, ?_, ?_⟩
     · rintro j ρ M2 ⟨_, h2, _⟩
       exact h2
     · rintro j y ρ M2 hy ⟨⟨x4, rfl⟩, hd2, he2, hS2⟩
       obtain ⟨row, hy2, rfl⟩ := get_tupT hy
       have hrow := alR_mem (List.mem_of_getElem? hy2)
       rw [hB2]
       clear hB2
       walk_at "rd"
       rw [he2]
       refine ⟨trivial, by lia, by lia, fun c ys M3 => ys = ((range0 m).take c).map (fun c => tupT (row ++ [c])) ∧ M3 = M2, ⟨rfl, rfl⟩, fun _ _ _ _ => trivial, by rw [rangeT_length]; exact line_len (by lia), ?_, ?_⟩
       · rintro c z ys M3 hz ⟨rfl, rfl⟩
         rw [rangeT_range0] at hz
         obtain ⟨u, hz2, rfl⟩ := get_map_int hz
         unfold tupT
         dsimp only
         refine ⟨by decide, line_len' (by rw [List.length_map]; simp only [List.length_cons, List.length_nil]; lia), ?_, rfl⟩
         rw [← take_succ_map (fun c : Int => T.tup ((row ++ [c]).map T.int)) hz2, List.map_append]; rfl
       · rintro ys M3 ⟨rfl, rfl⟩ p7 hp7
         have e1 : ((range0 m).take (rangeT 0 m.toNat).length).map (fun c => tupT (row ++ [c])) = (longT m row).map tupT := by
           rw [rangeT_length, show m.toNat = (range0 m).length by rw [range0_length], List.take_length]
           unfold longT
           rw [List.map_map]; rfl
         rw [e1]
         have hS7 : Sub M3 (updM M3 p7 (MO.lst ((longT m row).map tupT))) := Sub.new hp7
         generalize updM M3 p7 (MO.lst ((longT m row).map tupT)) = M7 at hS7 ⊢
         rw [hS7 _ _ he2]
         dsimp only
         have hj : j < (alR m i).length := (List.getElem?_eq_some_iff.mp hy2).1
         refine ⟨line_len' ?_, ⟨_, rfl⟩, by rw [updM_ne hde]; exact hS7 _ _ hd2, by rw [flt_take hy2, List.map_append], (hS2.trans hS7).updF he0⟩
         rw [List.length_map, List.length_map, flt_len, longT_len, List.length_take, Nat.min_eq_left (by lia), ← Nat.succ_mul]
         have : (j + 1) * m.toNat ≤ m.toNat ^ i * m.toNat := Nat.mul_le_mul_right _ (by rw [← l1]; exact hj)
         rw [← Nat.pow_succ] at this
         exact Nat.lt_of_le_of_lt (Nat.le_trans this hb) (by decide)
     · rintro ρ M2 ⟨⟨x4, rfl⟩, hd2, he2, hS2⟩
       rw [hK4]
       walk_at "rd"
       rw [List.length_map, List.take_length] at he2
       exact ⟨_, _, _, e, rfl, he0, he2, hb, hS2⟩
   · rintro ρ M' ⟨x1, x2, x3, d, rfl, hd0, hd, hpi, hS⟩
     rw [hK2]
     walk_at "rd"
     rw [rangeT_length] at hd hpi
     exact rt3_sub (h hpi d hd0) (hS.mk1 hd)
 · exact h.elim
noncomputable def backR (tab : List (List Int)) (ws : List Int) (n : Nat) : List (List Int) := (alR tab.length n).filter fun row => decide (dn tab ws row = row)
noncomputable def sp_colourings : Sp3X := fun ts M Q E => match ts with
 | [.tup t, .tup [.int n, .tup w]] => ∃ (tab : List (List Int)) (ws : List Int), t = tab.map tupT ∧ w = ws.map .int ∧ tab.length < 60 ∧ (∀ r ∈ tab, r.length < 60) ∧ ws.length < 10000 ∧
     (¬ PlOK n ws → E "NoPlait" M) ∧ (PlOK n ws → tabB tab = false → E "NoTable" M) ∧ (PlOK n ws → tabB tab = true → 2500 < tab.length ^ n.toNat → E "NoRoom" M) ∧ (PlOK n ws → tabB tab = true → tab.length ^ n.toNat ≤ 2500 → ∀ r, M r = none → Q (.adr r) (updM M r (.lst ((backR tab ws n.toNat).map tupT))))
 | _ => False
theorem ok_colourings {P : Program} {w : World} {K : PySem.W.Frag} {mg : Str → Option Value} {base : Heap} {f : Addr} {fd : FuncData} {n : Nat} {P_ z1 z2 z3 z4 z5 z6 : Addr}  (F : Fun K "colourings" "colourings" s_colourings f fd) (hm : mg "colourings" = some (.ref f)) (hb : Binds K fd ["table", "plait"] []) (Z : Zs K P_ z1 z2 z3 z4 z5 z6 mg) (D_looked : DfX P w K mg base n "looked" ["plait"] sp_looked) (D_looked_table : DfX P w K mg base n "looked_table" ["table"] sp_looked_table) (D_undone : Df P w K mg base n "undone" ["table"] sp_undone) (D_all_rows : DfX P w K mg base n "all_rows" ["many", "places"] sp_all_rows) (D_led_down : Df P w K mg base n "led_down" ["table", "colour_by", "word", "colours"] sp_led_down) : DfX P w K mg base (n + 1) "colourings" ["table", "plait"] sp_colourings := by
 refine F.dfnX hm hb sc_colourings (by intro ts M Q E h; unfold sp_colourings at h; first | (split at h <;> first | rfl | exact h.elim) | (obtain ⟨_, _, _, _, _, rfl, _⟩ := h; rfl) | (obtain ⟨_, _, _, _, rfl, _⟩ := h; rfl) | (obtain ⟨_, _, _, rfl, _⟩ := h; rfl) | (obtain ⟨_, _, rfl, _⟩ := h; rfl) | (obtain ⟨_, rfl, _⟩ := h; rfl)) ⟨_, fun cdv A outer s H E E3 hr acc accN => (ss_consX (s_exprX (h_callX acc rfl D_looked hr (a_cons (hv 1) a_nil))) (ss_consX (s_exprX (h_callX acc rfl D_looked_table hr (a_cons (hv 0) a_nil))) (ss_consX (HS.x (HS.n (s_set (i := 2) (h_call D_undone hr (a_cons (hv 0) a_nil)) sc_colourings.nd))) (ss_oneX (s_retX (h_compX rfl (i_seqX (h_callX acc rfl D_all_rows hr (a_cons (h_callB call3_len Z.b_len PySem.boot_len (a_cons (hv 0) a_nil)) (a_cons (h_ix (hv 1) h_int) a_nil)))) (blk_scope (outer := defScope s_colourings) (N := ["table", "plait", "colour_by"]) (N' := ["row", "table", "colour_by", "plait"]) (ix := [none, some 0, some 2, some 1]) (by decide +kernel) rfl rfl) bt_name (fun _ _ _ _ _ => pg_name (i := 0) (show List.Nodup (["row", "table", "colour_by", "plait"] : List Str) by decide +kernel) rfl (Or.inl rfl) (Or.inr rfl)) (fun _ _ _ _ _ => ts_one (h_tcmp (op3_eq hr.units) (h_call D_led_down hr (a_cons (hv 1) (a_cons (hv 2) (a_cons (h_ix (hv 3) h_int) (a_cons (hv 0) a_nil))))) (hv 0) (nomark _))) (fun _ _ _ _ _ => (hv 0)))))))), fun ts M Q E h => ?_⟩
 unfold sp_colourings at h
 split at h
 · rename_i t n w
   obtain ⟨tab, ws, rfl, rfl, lt, lr, lw, e0, e1, e2, h⟩ := h
   refine seq_cut3 fun K1 hK1 => ?_
   walk_at "rd"
   refine ⟨ws, rfl, lw, fun ok => ?_, fun z => ⟨M, Sub.refl, e0 z⟩⟩
   refine ⟨tab, rfl, lt, lr, fun z => ⟨M, Sub.refl, e1 ok z⟩, fun ht => ?_⟩
   replace e2 := e2 ok ht
   replace h := h ok ht
   obtain ⟨n1, n6, hl, hw⟩ := ok
   have tok := tabB_ok ht
   have l1 := tok.l1
   have l7 := tok.l7
   dsimp only
   refine ⟨tab, rfl, ht, fun kvs q hC hq => ?_⟩
   have hMq : (updM M q (.dt kvs)) q = some (.dt kvs) := updM_same
   have hS : Sub M (updM M q (.dt kvs)) := Sub.new hq
   generalize updM M q (.dt kvs) = M1 at hMq hS ⊢
   rw [hK1]
   clear hK1
   walk_at "rd"
   refine ⟨by lia, by lia, by lia, by lia, fun z => ⟨M, hS, e2 (by rw [Int.toNat_natCast] at z; exact z)⟩, fun hb r hr => ?_⟩
   rw [Int.toNat_natCast] at hb
   replace h := h hb
   have hrq : q ≠ r := fun z => by rw [← z, hMq] at hr; cases hr
   have hMr : (updM M1 r (.lst ((alR tab.length n.toNat).map tupT))) r = some (.lst ((alR tab.length n.toNat).map tupT)) := updM_same
   have hMq2 : (updM M1 r (.lst ((alR tab.length n.toNat).map tupT))) q = some (.dt kvs) := by rw [updM_ne hrq]; exact hMq
   have hS2 := hS.newr hr (o := .lst ((alR tab.length n.toNat).map tupT))
   generalize updM M1 r (.lst ((alR tab.length n.toNat).map tupT)) = M2 at hMr hMq2 hS2 ⊢
   have hal := alR_len (tab.length : Int) n.toNat
   rw [Int.toNat_natCast] at hal
   dsimp only
   rw [hMr]
   dsimp only
   refine ⟨fun i ys M' => ys = (((alR tab.length n.toNat).take i).filter fun row => decide (dn tab ws row = row)).map tupT ∧ M' = M2, ⟨rfl, rfl⟩, ?_, by rw [List.length_map]; exact line_len (by lia), ?_, ?_⟩
   · rintro i ys M' ⟨_, rfl⟩
     exact hMr
   · rintro i x ys M' hx ⟨rfl, rfl⟩
     obtain ⟨row, hx2, rfl⟩ := get_tupT hx
     obtain ⟨hrl, hri⟩ := alR_mem (List.mem_of_getElem? hx2)
     refine ⟨tab, ws, row, kvs, rfl, rfl, rfl, hMq2, ht, hC, ?_, hri, by lia, by lia, ?_⟩
     · rw [hrl, show ((n.toNat : Nat) : Int) = n by lia]; exact hw
     dsimp only
     rw [filt_snoc (fun row => decide (dn tab ws row = row)) hx2]
     refine ⟨by rw [pureT_tup, pureTs_ints], by unfold tupT; rw [pureT_tup, pureTs_ints], by rw [depT_tup, depTs_ints]; decide, ?_⟩
     rw [show eqT (.tup ((dn tab ws row).map T.int)) (tupT row) = decide (dn tab ws row = row) by unfold tupT; rw [eqT_tup, eqTs_ints]]
     by_cases z : dn tab ws row = row
     · rw [decide_eq_true z, if_pos rfl, if_pos rfl, List.map_append]
       exact ⟨rfl, rfl⟩
     · rw [decide_eq_false z, if_neg (by decide), if_neg (by decide), List.append_nil]
       exact ⟨rfl, rfl⟩
   · rintro ys M' ⟨rfl, rfl⟩ p hp
     rw [List.length_map, List.take_length]
     have hp0 : M p = none := by
       cases e : M p with
       | none => rfl
       | some o => rw [hS2 _ _ e] at hp; cases hp
     refine rt3_sub (h p hp0) ?_
     exact (hS2.newr hp).mk1 updM_same
 · exact h.elim
noncomputable def sp__law_state : Sp3 := fun ts M Q => match ts with
 | [.rd s, .int k] => ∃ ns : List Int, s = ns.map .int ∧ 0 ≤ k ∧ k < 100 ∧ ∀ p c f, M p = none → Q (.adr p) (updM M p (.lst [.int c, .int f]))
 | _ => False
theorem ok__law_state {P : Program} {w : World} {K : PySem.W.Frag} {mg : Str → Option Value} {base : Heap} {f : Addr} {fd : FuncData} {n : Nat} {P_ z1 z2 z3 z4 z5 z6 : Addr}  (F : Fun K "_law_state" "_law_state" s__law_state f fd) (hm : mg "_law_state" = some (.ref f)) (hb : Binds K fd ["script", "k"] []) (Z : Zs K P_ z1 z2 z3 z4 z5 z6 mg)  : Df P w K mg base (n + 1) "_law_state" ["script", "k"] sp__law_state := by
 refine F.dfn hm hb sc__law_state (by intro ts M Q h; unfold sp__law_state at h; first | (split at h <;> first | rfl | exact h.elim) | (obtain ⟨_, _, _, _, _, rfl, _⟩ := h; rfl) | (obtain ⟨_, _, _, _, rfl, _⟩ := h; rfl) | (obtain ⟨_, _, _, rfl, _⟩ := h; rfl) | (obtain ⟨_, _, rfl, _⟩ := h; rfl) | (obtain ⟨_, rfl, _⟩ := h; rfl)) ⟨_, fun cdv A outer s H E hr => (ss_cons (s_set (i := 2) h_int sc__law_state.nd) (ss_cons (s_if (h_tcmp op3_lt (hv 1) (h_callB call3_len Z.b_len PySem.boot_len (a_cons (hv 0) a_nil)) (nomark _)) (ss_one (s_set (i := 2) (h_ix (hv 0) (hv 1)) sc__law_state.nd)) ss_nil) (ss_cons (s_if (h_tcmp op3_ge (hv 2) (h_bin op3_pow h_int h_int) (nomark _)) (ss_one (s_ret (h_lst (a_cons (h_bin op3_sub (hv 2) (h_bin op3_pow h_int h_int)) (a_cons h_int a_nil))))) ss_nil) (ss_one (s_ret (h_lst (a_cons (h_bin op3_mod (h_bin op3_add (hv 2) (h_bin op3_mul h_int (hv 1))) h_int) (a_cons h_int a_nil)))))))), fun ts M Q h => ?_⟩
 unfold sp__law_state at h
 split at h
 · rename_i s k
   obtain ⟨ns, rfl, h0, h1, h⟩ := h
   walk_at "rd"
   refine ite2 (fun c => ?_) (fun c => ?_)
   · rw [atI_ints ns k h0 c]
     refine ⟨⟨by decide, by decide, by decide⟩, ite2 (fun _ => ⟨⟨by decide, by decide, by decide⟩, by decide, fun p hp => rt3_here (h _ _ _ hp)⟩) (fun _ => ⟨.inl ⟨by decide, by decide⟩, by decide, by decide, fun p hp => rt3_here (h _ _ _ hp)⟩)⟩
   · refine ⟨⟨by decide, by decide, by decide⟩, ite2 (fun _ => ⟨⟨by decide, by decide, by decide⟩, by decide, fun p hp => rt3_here (h _ _ _ hp)⟩) (fun _ => ⟨.inl ⟨by decide, by decide⟩, by decide, by decide, fun p hp => rt3_here (h _ _ _ hp)⟩)⟩
 · exact h.elim
theorem cdiv_ok {x m : Int} (h0 : 0 < m) (h1 : m < 2 ^ 100) : CDivB x m := by
 refine ⟨h0, ?_⟩
 have : m.natAbs.log2 < 100 := (Nat.log2_lt (by lia)).mpr (by lia)
 lia
theorem cmul_mod {x y k : Int} (hk : 0 < k) (hk' : k ≤ 2 ^ 64) : CMul (x % k) y := by
 have h1 := Int.emod_nonneg x (Int.ne_of_gt hk)
 have h2 := Int.emod_lt_of_pos x hk
 exact .inl ⟨by lia, by lia⟩
noncomputable def sp__law_take : Sp3 := fun ts M Q => match ts with
 | [.adr p, .int m] => ∃ s f, M p = some (.lst [.int s, .int f]) ∧ 0 < m ∧ m < 2 ^ 60 ∧ ∀ c s' f', 0 ≤ c → c < m → Q (.int c) (updM M p (.lst [.int s', .int f']))
 | _ => False
theorem ok__law_take {P : Program} {w : World} {K : PySem.W.Frag} {mg : Str → Option Value} {base : Heap} {f : Addr} {fd : FuncData} {n : Nat} {P_ z1 z2 z3 z4 z5 z6 : Addr}  (F : Fun K "_law_take" "_law_take" s__law_take f fd) (hm : mg "_law_take" = some (.ref f)) (hb : Binds K fd ["state", "many"] []) (Z : Zs K P_ z1 z2 z3 z4 z5 z6 mg)  : Df P w K mg base (n + 1) "_law_take" ["state", "many"] sp__law_take := by
 refine F.dfn hm hb sc__law_take (by intro ts M Q h; unfold sp__law_take at h; first | (split at h <;> first | rfl | exact h.elim) | (obtain ⟨_, _, _, _, _, rfl, _⟩ := h; rfl) | (obtain ⟨_, _, _, _, rfl, _⟩ := h; rfl) | (obtain ⟨_, _, _, rfl, _⟩ := h; rfl) | (obtain ⟨_, _, rfl, _⟩ := h; rfl) | (obtain ⟨_, rfl, _⟩ := h; rfl)) ⟨_, fun cdv A outer s H E hr => (ss_cons (s_if (HW.ht (w_and (h_tcmp (op3_eq hr.units) (h_ix (hv 0) h_int) h_int (nomark _)) (w_and1 (h_tcmp op3_gt (h_ix (hv 0) h_int) h_int (nomark _))))) (ss_cons (s_set (i := 2) (h_bin op3_mod (h_ix (hv 0) h_int) (hv 1)) sc__law_take.nd) (ss_cons (s_asg (h_bin op3_div (h_ix (hv 0) h_int) (hv 1)) (g_sub (hv 0) h_int)) (ss_one (s_ret (hv 2))))) ss_nil) (ss_cons (s_asg h_int (g_sub (hv 0) h_int)) (ss_cons (s_asg (h_bin op3_mod (h_bin op3_add (h_bin op3_mul (h_ix (hv 0) h_int) h_int) h_int) h_int) (g_sub (hv 0) h_int)) (ss_cons (s_set (i := 3) (h_bin op3_mod (h_bin op3_add (h_bin op3_mul (h_ix (hv 0) h_int) (h_ix (hv 0) h_int)) (h_bin op3_mul h_int (h_ix (hv 0) h_int))) h_int) sc__law_take.nd) (ss_cons (s_set (i := 3) (h_bin op3_mod (h_bin op3_add (h_bin op3_mul (hv 3) (hv 3)) (h_bin op3_mul h_int (hv 3))) h_int) sc__law_take.nd) (ss_one (s_ret (h_bin op3_mod (h_bin op3_div (hv 3) h_int) (hv 1))))))))), fun ts M Q h => ?_⟩
 unfold sp__law_take at h
 split at h
 · rename_i p m
   obtain ⟨s, f, hM, h0, h1, h⟩ := h
   refine seq_cut fun K1 hK1 => ?_
   have hk : K1 [some (.adr p), some (.int m), none, none] M := by
     rw [hK1]
     clear hK1
     walk_at "rd"
     simp only [hM]
     walk_at "rd"
     have i1 : ixN (0 + 1 + 1) 1 = some 1 := by decide
     simp only [i1]
     exact ⟨.inr ⟨by decide, by decide⟩, by decide, cmul_mod (by decide) (by decide), .inl ⟨by decide, by decide⟩, by decide, cmul_mod (by decide) (by decide), .inl ⟨by decide, by decide⟩, by decide, cdiv_ok (by decide) (by decide), h0,
       rt3_here (h _ _ _ (Int.emod_nonneg _ (Int.ne_of_gt h0)) (Int.emod_lt_of_pos _ h0))⟩
   walk_at "rd"
   simp only [hM]
   walk_at "rd"
   have i0 : ixN 2 0 = some 0 := by decide
   exact ite2 (fun c => ite2 (fun c2 => ⟨h0, cdiv_ok h0 (by lia), rt3_here (h _ _ _ (Int.emod_nonneg _ (Int.ne_of_gt h0)) (Int.emod_lt_of_pos _ h0))⟩) (fun c2 => hk)) (fun c => hk)
 · exact h.elim
noncomputable def sp__law_named : Sp3 := fun ts M Q => match ts with
 | [.tup t, .adr p] => ∃ (tab : List (List Int)) (s f : Int), t = tab.map tupT ∧ M p = some (.lst [.int s, .int f]) ∧ tabB tab = true ∧ ∀ (tab' : List (List Int)) s' f', tabB tab' = true → tab'.length = tab.length → Q (.tup (tab'.map tupT)) (updM M p (.lst [.int s', .int f']))
 | _ => False
theorem ok__law_named {P : Program} {w : World} {K : PySem.W.Frag} {mg : Str → Option Value} {base : Heap} {f : Addr} {fd : FuncData} {n : Nat} {P_ z1 z2 z3 z4 z5 z6 : Addr}  (F : Fun K "_law_named" "_law_named" s__law_named f fd) (hm : mg "_law_named" = some (.ref f)) (hb : Binds K fd ["table", "state"] []) (Z : Zs K P_ z1 z2 z3 z4 z5 z6 mg) (D__law_take : Df P w K mg base n "_law_take" ["state", "many"] sp__law_take) : Df P w K mg base (n + 1) "_law_named" ["table", "state"] sp__law_named := by
 refine F.dfn hm hb sc__law_named (by intro ts M Q h; unfold sp__law_named at h; first | (split at h <;> first | rfl | exact h.elim) | (obtain ⟨_, _, _, _, _, rfl, _⟩ := h; rfl) | (obtain ⟨_, _, _, _, rfl, _⟩ := h; rfl) | (obtain ⟨_, _, _, rfl, _⟩ := h; rfl) | (obtain ⟨_, _, rfl, _⟩ := h; rfl) | (obtain ⟨_, rfl, _⟩ := h; rfl)) ⟨_, fun cdv A outer s H E hr => (ss_cons (s_set (i := 2) (h_callB call3_len Z.b_len PySem.boot_len (a_cons (hv 0) a_nil)) sc__law_named.nd) (ss_cons (s_set (i := 3) (h_listRange1 Z.b_list Z.b_range (a_cons (hv 2) a_nil)) sc__law_named.nd) (ss_cons (s_set (i := 4) (h_comp rfl (i_range1 Z.b_range (a_cons (hv 2) a_nil)) (blk_scope (outer := defScope s__law_named) (N := ["table", "state", "many", "left", "names", "found", "a"]) (N' := ["k", "left", "state"]) (ix := [none, some 3, some 1]) (by decide +kernel) rfl rfl) bt_name (fun _ _ _ _ _ => pg_name (i := 0) (show List.Nodup (["k", "left", "state"] : List Str) by decide +kernel) rfl (Or.inl rfl) (Or.inr rfl)) (fun _ _ _ _ _ => ts_nil) (fun _ _ _ _ _ => (h_m_popAt (hv 1) (a_cons (h_call D__law_take hr (a_cons (hv 2) (a_cons (h_callB call3_len Z.b_len PySem.boot_len (a_cons (hv 1) a_nil)) a_nil))) a_nil)))) sc__law_named.nd) (ss_cons (s_set (i := 5) (h_lst a_nil) sc__law_named.nd) (ss_cons (s_for PassesOwn.never rfl (i_range1 Z.b_range (a_cons (hv 2) a_nil)) (g_name (i := 6) sc__law_named.nd) (ss_one (s_expr (h_m_append (hv 5) (a_cons (h_callT call3_tuple Z.b_tuple PyProof.Rows.boot_tuple (a_cons (h_comp rfl (i_range1 Z.b_range (a_cons (hv 2) a_nil)) (blk_scope (outer := defScope s__law_named) (N := ["table", "state", "many", "left", "names", "found", "a"]) (N' := ["b", "names", "table", "a"]) (ix := [none, some 4, some 0, some 6]) (by decide +kernel) rfl rfl) bt_name (fun _ _ _ _ _ => pg_name (i := 0) (show List.Nodup (["b", "names", "table", "a"] : List Str) by decide +kernel) rfl (Or.inl rfl) (Or.inr rfl)) (fun _ _ _ _ _ => ts_nil) (fun _ _ _ _ _ => (h_ix (hv 1) (h_ix (h_ix (hv 2) (h_m_index (hv 1) (a_cons (hv 3) a_nil))) (h_m_index (hv 1) (a_cons (hv 0) a_nil)))))) a_nil)) a_nil))))) (ss_one (s_ret (h_callT call3_tuple Z.b_tuple PyProof.Rows.boot_tuple (a_cons (hv 5) a_nil))))))))), fun ts M Q h => ?_⟩
 unfold sp__law_named at h
 split at h
 · rename_i t p
   obtain ⟨tab, s, f, rfl, hM, ht, h⟩ := h
   have ok := tabB_ok ht
   have l7 := ok.l7
   refine seq_cut3 fun K1 hK1 => ?_
   walk_at "rd"
   refine ⟨by constructor <;> lia, fun q hq => ⟨by lia, by lia, fun i ys M' => ∃ (us vs : List Int) (s' f' : Int), ys = us.map T.int ∧ us.length = i ∧ (us ++ vs).Perm (range0 tab.length) ∧ M' = updM (updM M p (.lst [.int s', .int f'])) q (.lst (vs.map T.int)), ?_, fun _ _ _ _ => trivial, by rw [rangeT_length]; exact line_len (by lia), ?_, ?_⟩⟩
   · refine ⟨[], range0 tab.length, s, f, rfl, rfl, .refl _, ?_⟩
     rw [rangeT_range0, updM_self hM]
   · rintro i x ys M' hx ⟨us, vs, s', f', rfl, hul, hperm, rfl⟩
     have hpq : p ≠ q := fun z => by rw [← z, hM] at hq; cases hq
     have hi : i < tab.length := by have := (List.getElem?_eq_some_iff.mp hx).1; rw [rangeT_length] at this; lia
     have hlen : us.length + vs.length = tab.length := by rw [← List.length_append, hperm.length_eq, range0_length]; rfl
     rw [updM_same]
     dsimp only
     refine ⟨trivial, s', f', by rw [updM_ne hpq, updM_same], by rw [List.length_map]; lia, by rw [List.length_map]; lia, fun c s2 f2 c0 c1 => ?_⟩
     rw [List.length_map] at c1
     dsimp only
     rw [updM_ne hpq.symm, updM_same]
     dsimp only
     obtain ⟨k, rfl⟩ := Int.eq_ofNat_of_zero_le c0
     have hk : k < vs.length := by lia
     refine ⟨c0, by rw [List.length_map]; exact c1, by rw [List.length_map]; lia, ?_⟩
     rw [Int.toNat_natCast, List.getElem?_map, List.getElem?_eq_getElem hk]
     refine ⟨us ++ [vs[k]], vs.eraseIdx k, s2, f2, by rw [List.map_append]; rfl, by rw [List.length_append, hul]; rfl, ?_, ?_⟩
     · rw [List.append_assoc]
       refine (List.Perm.append_left us ?_).trans hperm
       exact (perm_eraseIdx hk).symm
     · rw [upd_two hpq, map_eraseIdx]
   · rintro ys M' ⟨us, vs, s', f', rfl, hul, hperm, rfl⟩ r hr
     rw [rangeT_length] at hul
     have hv0 : vs = [] := by
       have hlen : us.length + vs.length = tab.length := by rw [← List.length_append, hperm.length_eq, range0_length]; rfl
       exact List.eq_nil_of_length_eq_zero (by lia)
     subst hv0
     rw [List.append_nil] at hperm
     have hpq : p ≠ q := fun z => by rw [← z, hM] at hq; cases hq
     have hS0 : Sub (updM M p (.lst [.int s', .int f'])) (updM (updM (updM M p (.lst [.int s', .int f'])) q (.lst (List.map T.int []))) r (.lst (us.map T.int))) := by
       refine Sub.newr (Sub.new ?_) hr
       rw [updM_ne hpq.symm]; exact hq
     have hMr : (updM (updM (updM M p (.lst [.int s', .int f'])) q (.lst (List.map T.int []))) r (.lst (us.map T.int))) r = some (.lst (us.map T.int)) := updM_same
     generalize updM (updM (updM M p (.lst [.int s', .int f'])) q (.lst (List.map T.int []))) r (.lst (us.map T.int)) = M2 at hS0 hMr ⊢
     rw [hK1]
     clear hK1
     refine seq_cut2 fun K2 hK2 => ?_
     walk_at "rd"
     intro d hd
     have hrd : r ≠ d := fun z => by rw [← z, hMr] at hd; cases hd
     have hMr2 : (updM M2 d (.lst [])) r = some (.lst (us.map T.int)) := by rw [updM_ne hrd]; exact hMr
     replace h := h _ s' f' (named_ok ok hperm) (by rw [fnT_len]; rfl)
     generalize updM M p (.lst [.int s', .int f']) = MA at hS0 h
     have hd0 : MA d = none := by
       cases e : MA d with
       | none => rfl
       | some o => rw [hS0 _ _ e] at hd; cases hd
     have hMd2 : (updM M2 d (.lst [])) d = some (.lst []) := updM_same
     have hS2 : Sub MA (updM M2 d (.lst [])) := hS0.newr hd
     generalize updM M2 d (.lst []) = M3 at hMr2 hMd2 hS2 ⊢
     refine for_cut fun B hB => ?_
     unfold tFor3
     walk_at "rd"
     refine ⟨by lia, by lia, fun i ρ M' => (∃ x1, ρ = [some (T.tup (List.map tupT tab)), some (T.adr p), some (T.int tab.length), some (T.adr q), some (T.adr r), some (T.adr d), x1]) ∧ M' r = some (.lst (us.map T.int)) ∧ M' d = some (.lst (((fnT tab.length (nmF us tab)).take i).map tupT)) ∧ Sub MA M', ⟨⟨_, rfl⟩, hMr2, hMd2, hS2⟩, fun _ _ _ _ => trivial, ?_, ?_⟩
     · rintro i x ρ M' hx ⟨⟨x1, rfl⟩, hr', hd', hS'⟩
       rw [rangeT_range0] at hx
       obtain ⟨a, hx2, rfl⟩ := get_map_int hx
       have ha : InM tab.length a := range0_iff.mp (List.mem_of_getElem? hx2)
       rw [hB]
       clear hB
       walk_at "rd"
       rw [hd']
       refine ⟨trivial, by lia, by lia, fun j ys M2 => ys = (((range0 tab.length).take j).map fun b => nmF us tab a b).map T.int ∧ M2 = M', ⟨rfl, rfl⟩, fun _ _ _ _ => trivial, by rw [rangeT_length]; exact line_len (by lia), ?_, ?_⟩
       · rintro j y ys M2 hy ⟨rfl, rfl⟩
         rw [rangeT_range0] at hy
         obtain ⟨b, hy2, rfl⟩ := get_map_int hy
         have hb : InM tab.length b := range0_iff.mp (List.mem_of_getElem? hy2)
         have ia := idx_in hperm ha
         have ib := idx_in hperm hb
         have ig := ok.rng ia.1 ib.1
         have ml : ∀ {x : Int}, InM tab.length x → x ∈ us := fun hx => hperm.mem_iff.mpr (range0_iff.mpr hx)
         rw [hr']
         walk_at "rd"
         refine ⟨ml ha, ?_⟩
         rw [(tab_row ok.rows ia.1).1]
         dsimp only
         rw [hr']
         walk_at "rd"
         refine ⟨ml hb, ?_⟩
         rw [tab_at ok.rows ia.1 ib.1]
         dsimp only
         rw [hr']
         dsimp only
         rw [gI_at ig.1 (by rw [hperm.length_eq, range0_length]; have := ig.2; lia)]
         dsimp only
         rw [← take_succ_map (nmF us tab a) hy2, List.map_append]; rfl
       · rintro ys M2 ⟨rfl, rfl⟩ p5 hp5
         have hS5 : Sub M2 (updM M2 p5 (MO.lst (((range0 tab.length).take (rangeT 0 (tab.length : Int).toNat).length |>.map fun b => nmF us tab a b).map T.int))) := Sub.new hp5
         generalize updM M2 p5 (MO.lst (((range0 tab.length).take (rangeT 0 (tab.length : Int).toNat).length |>.map fun b => nmF us tab a b).map T.int)) = M4 at hS5 ⊢
         have hi : i < tab.length := by have := (List.getElem?_eq_some_iff.mp hx2).1; rwa [range0_length] at this
         rw [hS5 _ _ hd']
         dsimp only
         refine ⟨line_len (by rw [List.length_map, List.length_take]; lia), ⟨_, rfl⟩, by rw [updM_ne hrd]; exact hS5 _ _ hr', ?_, (hS'.trans hS5).updF hd0⟩
         rw [rangeT_length, show (tab.length : Int).toNat = (range0 tab.length).length by rw [range0_length], List.take_length, Option.some_inj, MO.lst.injEq]
         have e : (fnT tab.length (nmF us tab))[i]? = some ((range0 tab.length).map fun b => nmF us tab a b) := by
           unfold fnT
           rw [List.getElem?_map, hx2]; rfl
         rw [← take_succ_map tupT e]; rfl
     · rintro ρ M' ⟨⟨x1, rfl⟩, hr', hd', hS'⟩
       rw [hK2]
       walk_at "rd"
       rw [hd']
       dsimp only
       rw [rangeT_length, List.take_of_length_le (by rw [fnT_len]; exact Nat.le_refl _)]
       exact rt3_sub h hS'
 · exact h.elim
noncomputable def sp__law_common : Sp3 := fun ts M Q => match ts with
 | [.int a, .int b] => 0 ≤ a ∧ 0 ≤ b ∧ Q (.int (Int.gcd a b)) M
 | _ => False
theorem ok__law_common {P : Program} {w : World} {K : PySem.W.Frag} {mg : Str → Option Value} {base : Heap} {f : Addr} {fd : FuncData} {n : Nat} {P_ z1 z2 z3 z4 z5 z6 : Addr}  (F : Fun K "_law_common" "_law_common" s__law_common f fd) (hm : mg "_law_common" = some (.ref f)) (hb : Binds K fd ["one", "other"] []) (Z : Zs K P_ z1 z2 z3 z4 z5 z6 mg)  : Df P w K mg base (n + 1) "_law_common" ["one", "other"] sp__law_common := by
 refine F.dfn hm hb sc__law_common (by intro ts M Q h; unfold sp__law_common at h; first | (split at h <;> first | rfl | exact h.elim) | (obtain ⟨_, _, _, _, _, rfl, _⟩ := h; rfl) | (obtain ⟨_, _, _, _, rfl, _⟩ := h; rfl) | (obtain ⟨_, _, _, rfl, _⟩ := h; rfl) | (obtain ⟨_, _, rfl, _⟩ := h; rfl) | (obtain ⟨_, rfl, _⟩ := h; rfl)) ⟨_, fun cdv A outer s H E hr => (ss_cons (s_while PassesOwn.never (h_tcmp op3_gt (hv 1) h_int (nomark _)) (ss_one (s_par (i := 0) (j := 1) sc__law_common.nd (a_cons (hv 1) (a_cons (h_bin op3_mod (hv 0) (hv 1)) a_nil))))) (ss_one (s_ret (hv 0)))), fun ts M Q h => ?_⟩
 unfold sp__law_common at h
 split at h
 · rename_i a b
   obtain ⟨a0, b0, h⟩ := h
   refine seq_cut fun K1 hK1 => ?_
   unfold tWhile3
   walk_at "rd"
   refine ⟨fun m ρ M' => ∃ x y : Int, ρ = [some (T.int x), some (T.int y)] ∧ M' = M ∧ 0 ≤ x ∧ 0 ≤ y ∧ m = y.toNat ∧ Int.gcd x y = Int.gcd a b, ⟨_, a, b, rfl, rfl, a0, b0, rfl, rfl⟩, ?_⟩
   rintro m ρ M' ⟨x, y, rfl, rfl, x0, y0, rfl, hg⟩
   walk_at "rd"
   refine ite2 (fun c => ?_) (fun c => ?_)
   · refine ⟨c, ⟨_, ?_, y, x % y, rfl, y0, Int.emod_nonneg x (by lia), rfl, ?_⟩⟩
     · have := Int.emod_lt_of_pos x c
       have := Int.emod_nonneg x (show y ≠ 0 by lia)
       lia
     · rw [← hg]; exact gcd_turn x0 y0
   · obtain rfl : y = 0 := by lia
     rw [Int.gcd_zero_right] at hg
     rw [hK1]
     walk_at "rd"
     rw [show x = ((x.natAbs : Nat) : Int) by lia, hg]
     exact rt3_here h
 · exact h.elim
noncomputable def sp__law_table : Sp3 := fun ts M Q => match ts with
 | [.adr p, .int most] => ∃ (s f : Int), M p = some (.lst [.int s, .int f]) ∧ 1 ≤ most ∧ most ≤ 7 ∧ ∀ (tab : List (List Int)) s' f', tabB tab = true → (tab.length : Int) ≤ most → Q (.tup (tab.map tupT)) (updM M p (.lst [.int s', .int f']))
 | _ => False
theorem ok__law_table {P : Program} {w : World} {K : PySem.W.Frag} {mg : Str → Option Value} {base : Heap} {f : Addr} {fd : FuncData} {n : Nat} {P_ z1 z2 z3 z4 z5 z6 : Addr}  (F : Fun K "_law_table" "_law_table" s__law_table f fd) (hm : mg "_law_table" = some (.ref f)) (hb : Binds K fd ["state", "most"] []) (Z : Zs K P_ z1 z2 z3 z4 z5 z6 mg) (D__law_take : Df P w K mg base n "_law_take" ["state", "many"] sp__law_take) (D__law_named : Df P w K mg base n "_law_named" ["table", "state"] sp__law_named) (D__law_common : Df P w K mg base n "_law_common" ["one", "other"] sp__law_common) : Df P w K mg base (n + 1) "_law_table" ["state", "most"] sp__law_table := by
 refine F.dfn hm hb sc__law_table (by intro ts M Q h; unfold sp__law_table at h; first | (split at h <;> first | rfl | exact h.elim) | (obtain ⟨_, _, _, _, _, rfl, _⟩ := h; rfl) | (obtain ⟨_, _, _, _, rfl, _⟩ := h; rfl) | (obtain ⟨_, _, _, rfl, _⟩ := h; rfl) | (obtain ⟨_, _, rfl, _⟩ := h; rfl) | (obtain ⟨_, rfl, _⟩ := h; rfl)) ⟨_, fun cdv A outer s H E hr => (@ss_cons _ _ _ _ _ (@s_set _ _ _ _ 2 _ _ (@h_lst _ _ _ _ (@a_consT _ _ _ _ _ _ _ (h_tup (@a_consT _ _ _ _ _ _ _ (h_tup (a_cons h_int (a_cons h_int (a_cons h_int (a_cons h_int a_nil))))) (@a_consT _ _ _ _ _ _ _ (h_tup (a_cons h_int (a_cons h_int (a_cons h_int (a_cons h_int a_nil))))) (@a_consT _ _ _ _ _ _ _ (h_tup (a_cons h_int (a_cons h_int (a_cons h_int (a_cons h_int a_nil))))) (@a_consT _ _ _ _ _ _ _ (h_tup (a_cons h_int (a_cons h_int (a_cons h_int (a_cons h_int a_nil))))) a_nil))))) (@a_consT _ _ _ _ _ _ _ (h_tup (@a_consT _ _ _ _ _ _ _ (h_tup (a_cons h_int (a_cons h_int (a_cons h_int a_nil)))) (@a_consT _ _ _ _ _ _ _ (h_tup (a_cons h_int (a_cons h_int (a_cons h_int a_nil)))) (@a_consT _ _ _ _ _ _ _ (h_tup (a_cons h_int (a_cons h_int (a_cons h_int a_nil)))) a_nil)))) (@a_consT _ _ _ _ _ _ _ (h_tup (@a_consT _ _ _ _ _ _ _ (h_tup (a_cons h_int a_nil)) a_nil)) a_nil)))) sc__law_table.nd rfl (by first | exact Or.inl rfl | exact Or.inr rfl) rfl (by first | exact .inl rfl | exact .inr rfl | assumption)) (ss_cons (s_set (i := 3) (h_call D__law_take hr (a_cons (hv 0) (a_cons h_int a_nil))) sc__law_table.nd) (ss_cons (s_if (HW.ht (w_and (h_tcmp op3_lt (hv 3) h_int (nomark _)) (w_and1 (h_tcmp op3_le (h_callB call3_len Z.b_len PySem.boot_len (a_cons (h_ix (hv 2) (hv 3)) a_nil)) (hv 1) (nomark _))))) (ss_one (s_ret (h_call D__law_named hr (a_cons (h_ix (hv 2) (hv 3)) (a_cons (hv 0) a_nil))))) ss_nil) (ss_cons (s_set (i := 4) (h_bin op3_add h_int (h_call D__law_take hr (a_cons (hv 0) (a_cons (hv 1) a_nil)))) sc__law_table.nd) (ss_cons (s_setC (i := 5) rfl (i_range2 Z.b_range (a_cons h_int (a_cons (h_bin op3_add (hv 4) h_int) a_nil))) (blk_scope (outer := defScope s__law_table) (N := ["state", "most", "some", "way", "many", "times", "t", "plain"]) (N' := ["k", "many"]) (ix := [none, some 4]) (by decide +kernel) rfl rfl) bt_name (fun _ _ _ _ _ => pg_name (i := 0) (show List.Nodup (["k", "many"] : List Str) by decide +kernel) rfl (Or.inl rfl) (Or.inr rfl)) (fun _ _ _ _ _ => ts_one (h_tcmp (op3_eq hr.units) (h_call D__law_common hr (a_cons (hv 0) (a_cons (hv 1) a_nil))) h_int (nomark _))) (fun _ _ _ _ _ => (hv 0)) sc__law_table.nd) (ss_cons (s_set (i := 6) (h_ix (hv 5) (h_call D__law_take hr (a_cons (hv 0) (a_cons (h_callB call3_len Z.b_len PySem.boot_len (a_cons (hv 5) a_nil)) a_nil)))) sc__law_table.nd) (ss_cons (s_set (i := 7) (h_callT call3_tuple Z.b_tuple PyProof.Rows.boot_tuple (a_cons (h_comp rfl (i_range1 Z.b_range (a_cons (hv 4) a_nil)) (blk_scope (outer := defScope s__law_table) (N := ["state", "most", "some", "way", "many", "times", "t", "plain"]) (N' := ["a", "many", "t"]) (ix := [none, some 4, some 6]) (by decide +kernel) rfl rfl) bt_name (fun _ _ _ _ _ => pg_name (i := 0) (show List.Nodup (["a", "many", "t"] : List Str) by decide +kernel) rfl (Or.inr rfl) (Or.inl rfl)) (fun _ _ _ _ _ => ts_nil) (fun _ _ _ _ _ => (h_callT call3_tuple Z.b_tuple PyProof.Rows.boot_tuple (a_cons (h_comp rfl (i_range1 Z.b_range (a_cons (hv 1) a_nil)) (blk_scope2 (outer := defScope s__law_table) (N := ["a", "many", "t"]) (N' := ["b", "t", "a", "many"]) (ix := [none, some 2, some 0, some 1]) (by decide +kernel) rfl rfl) bt_name (fun _ _ _ _ _ => pg_name (i := 0) (show List.Nodup (["b", "t", "a", "many"] : List Str) by decide +kernel) rfl (Or.inl rfl) (Or.inr rfl)) (fun _ _ _ _ _ => ts_nil) (fun _ _ _ _ _ => (h_bin op3_mod (h_bin op3_add (h_bin op3_mul (hv 1) (hv 2)) (h_bin op3_mul (h_bin op3_sub h_int (hv 1)) (hv 0))) (hv 3)))) a_nil)))) a_nil)) sc__law_table.nd) (ss_one (s_ret (h_call D__law_named hr (a_cons (hv 7) (a_cons (hv 0) a_nil)))))))))))), fun ts M Q h => ?_⟩
 unfold sp__law_table at h
 split at h
 · rename_i p most
   obtain ⟨s, f, hM, h1, h7, h⟩ := h
   refine seq_cut fun K1 hK1 => ?_
   walk_at "rd"
   refine ⟨by decide, by decide, by decide, by decide, by decide, by decide, by decide, by decide, by decide, by decide, by decide, by decide, fun q hq => ?_⟩
   have hpq : p ≠ q := fun z => by rw [← z, hM] at hq; cases hq
   have hMq : (updM M q (MO.lst (someT.map ttT))) q = some (.lst (someT.map ttT)) := updM_same
   have hMp : (updM M q (MO.lst (someT.map ttT))) p = some (.lst [.int s, .int f]) := by rw [updM_ne hpq]; exact hM
   have hS : Sub (updM M p (.lst [.int s, .int f])) (updM M q (MO.lst (someT.map ttT))) := by rw [updM_self hM]; exact Sub.new hq
   show K1 _ (updM M q (MO.lst (someT.map ttT)))
   generalize updM M q (MO.lst (someT.map ttT)) = M1 at hMq hMp hS ⊢
   rw [hK1]
   clear hK1
   refine seq_cut2 fun K2 hK2 => ?_
   walk_at "rd"
   refine ⟨s, f, hMp, by decide, by decide, fun c s2 f2 c0 c5 => ?_⟩
   have hS2 : Sub (updM M p (.lst [.int s2, .int f2])) (updM M1 p (.lst [.int s2, .int f2])) := hS.set
   have hMp2 : (updM M1 p (.lst [.int s2, .int f2])) p = some (.lst [.int s2, .int f2]) := updM_same
   have hMq2 : (updM M1 p (.lst [.int s2, .int f2])) q = some (.lst (someT.map ttT)) := by rw [updM_ne hpq.symm]; exact hMq
   generalize updM M1 p (.lst [.int s2, .int f2]) = M2 at hS2 hMp2 hMq2 ⊢
   have rest : K2 [some (T.adr p), some (T.int most), some (T.adr q), some (T.int c), none, none, none, none] M2 := by
     rw [hK2]
     clear hK2
     refine seq_cut fun K3 hK3 => ?_
     walk_at "rd"
     refine ⟨s2, f2, hMp2, by lia, by lia, fun d s3 f3 d0 d1 => ?_⟩
     dsimp only
     have hm1 : 1 ≤ 1 + d := by lia
     have hm7 : 1 + d ≤ 7 := by lia
     have hmm : 1 + d ≤ most := by lia
     generalize 1 + d = m at hm1 hm7 hmm ⊢
     have hS3 : Sub (updM M p (.lst [.int s3, .int f3])) (updM M2 p (.lst [.int s3, .int f3])) := hS2.set
     have hMp3 : (updM M2 p (.lst [.int s3, .int f3])) p = some (.lst [.int s3, .int f3]) := updM_same
     generalize updM M2 p (.lst [.int s3, .int f3]) = M3 at hS3 hMp3 ⊢
     rw [hK3]
     clear hK3
     refine seq_cut fun K4 hK4 => ?_
     walk_at "rd"
     refine ⟨by lia, fun i ys M' => (∃ ks : List Int, ys = ks.map T.int ∧ ks.length ≤ i ∧ (∀ k ∈ ks, 1 ≤ k ∧ k ≤ m ∧ Int.gcd k m = 1) ∧ (1 ≤ i → ks ≠ [])) ∧ M' = M3, ⟨⟨[], rfl, Nat.le_refl _, fun _ z => absurd z List.not_mem_nil, fun z => absurd z (by decide)⟩, rfl⟩, fun _ _ _ _ => trivial, by rw [rangeT_length]; exact line_len (by lia), ?_, ?_⟩
     · rintro i x ys M' hx ⟨⟨ks, rfl, hkl, hks, hne⟩, rfl⟩
       have hi := (List.getElem?_eq_some_iff.mp hx).1
       rw [rangeT_length] at hi
       unfold rangeT at hx
       rw [List.getElem?_map, List.getElem?_range (by lia)] at hx
       obtain rfl := (Option.some.inj hx).symm
       refine ⟨by lia, by lia, by rw [pureT_int], by rw [depT_int]; decide, ?_⟩
       rw [eqT_int]
       by_cases c : ((Int.gcd (1 + (i : Nat)) m : Nat) : Int) = 1
       · rw [decide_eq_true c, if_pos rfl]
         refine ⟨⟨ks ++ [(1 : Int) + (i : Nat)], by rw [List.map_append]; rfl, by rw [List.length_append]; exact Nat.succ_le_succ hkl, fun k hk => ?_, fun _ z => by cases ks <;> cases z⟩, rfl⟩
         rcases List.mem_append.mp hk with z | z
         · exact hks k z
         · rw [List.mem_singleton.mp z]
           exact ⟨by lia, by lia, by lia⟩
       · rw [decide_eq_false c, if_neg (by decide)]
         refine ⟨⟨ks, rfl, Nat.le_succ_of_le hkl, hks, fun _ => ?_⟩, rfl⟩
         cases i with
         | zero =>
           refine absurd ?_ c
           rw [show (1 : Int) + ((0 : Nat) : Int) = 1 by lia, Int.one_gcd]; rfl
         | succ i => exact hne (by lia)
     · rintro ys M' ⟨⟨ks, rfl, hkl, hks, hne⟩, rfl⟩ r hr
       rw [rangeT_length] at hkl hne
       have hpr : p ≠ r := fun z => by rw [← z, hMp3] at hr; cases hr
       rw [hK4]
       clear hK4
       refine seq_cut fun K5 hK5 => ?_
       walk_at "rd"
       have hkn : 0 < ks.length := List.length_pos_iff.mpr (hne (by lia))
       refine ⟨s3, f3, by rw [updM_ne hpr]; exact hMp3, by lia, by lia, fun e s4 f4 e0 e1 => ?_⟩
       dsimp only
       rw [updM_ne hpr.symm, updM_same]
       dsimp only
       rw [gI_at e0 e1]
       dsimp only
       have ht := hks (gI ks e) (by
         unfold gI
         rw [List.getD_eq_getElem?_getD, List.getElem?_eq_getElem (by lia)]
         exact List.getElem_mem _)
       generalize gI ks e = t at ht ⊢
       obtain ⟨t1, tm, tg⟩ := ht
       have hS4 : Sub (updM M p (.lst [.int s4, .int f4])) (updM (updM M' r (.lst (ks.map T.int))) p (.lst [.int s4, .int f4])) := (hS3.newr hr).set
       have hMp4 : (updM (updM M' r (.lst (ks.map T.int))) p (.lst [.int s4, .int f4])) p = some (.lst [.int s4, .int f4]) := updM_same
       generalize updM (updM M' r (.lst (ks.map T.int))) p (.lst [.int s4, .int f4]) = M4 at hS4 hMp4 ⊢
       rw [hK5]
       clear hK5
       refine seq_cut fun K6 hK6 => ?_
       walk_at "rd"
       refine ⟨by lia, by lia, fun i ys M5 => ys = (((range0 m).take i).map fun a => tupT ((range0 m).map fun b => affF m t a b)) ∧ Sub M4 M5, ⟨rfl, Sub.refl⟩, fun _ _ _ _ => trivial, by rw [rangeT_length]; exact line_len (by lia), ?_, ?_⟩
       · rintro i x ys M5 hx ⟨rfl, hS5⟩
         rw [rangeT_range0] at hx ⊢
         obtain ⟨a, hx2, rfl⟩ := get_map_int hx
         refine ⟨by lia, by lia, fun j zs M6 => zs = (((range0 m).take j).map fun b => affF m t a b).map T.int ∧ M6 = M5, ⟨rfl, rfl⟩, fun _ _ _ _ => trivial, by rw [List.length_map, range0_length]; exact line_len (by lia), ?_, ?_⟩
         · rintro j y zs M6 hy ⟨rfl, rfl⟩
           obtain ⟨b, hy2, rfl⟩ := get_map_int hy
           dsimp only
           refine ⟨by unfold CMul; left; constructor <;> lia, by unfold CMul; left; constructor <;> lia, by lia, ?_, rfl⟩
           rw [← take_succ_map (fun b : Int => affF m t a b) hy2, List.map_append]; rfl
         · rintro zs M6 ⟨rfl, rfl⟩ p7 hp7
           refine ⟨?_, hS5.newr hp7⟩
           rw [List.length_map, List.take_length, ← take_succ_map (fun a : Int => tupT ((range0 m).map fun b => affF m t a b)) hx2]; rfl
       · rintro ys M5 ⟨rfl, hS5⟩ p7 hp7
         have hS7 := hS5.newr hp7 (o := MO.lst (((range0 m).take (rangeT 0 m.toNat).length).map fun a => tupT ((range0 m).map fun b => affF m t a b)))
         generalize updM M5 p7 (MO.lst (((range0 m).take (rangeT 0 m.toNat).length).map fun a => tupT ((range0 m).map fun b => affF m t a b))) = M7 at hS7 ⊢
         rw [hK6]
         clear hK6
         walk_at "rd"
         have e : ((range0 m).take (rangeT 0 m.toNat).length).map (fun a => tupT ((range0 m).map fun b => affF m t a b)) = (fnT m (affF m t)).map tupT := by
           rw [rangeT_length, show m.toNat = (range0 m).length by rw [range0_length], List.take_length]
           unfold fnT
           rw [List.map_map]; rfl
         rw [e]
         refine ⟨fnT m (affF m t), s4, f4, rfl, hS7 _ _ hMp4, aff_ok hm1 hm7 t1 tm tg, fun tab' s' f' ht' hl' => ?_⟩
         exact rt3_sub (h tab' s' f' ht' (by rw [hl', fnT_len]; lia)) (hS4.trans hS7).set
   refine ite2 (fun c3 => ?_) (fun c3 => rest)
   obtain ⟨k, rfl⟩ := Int.eq_ofNat_of_zero_le c0
   have hk : k < someT.length := by show k < 3; lia
   have hat : atI (someT.map ttT) (k : Int) = some (ttT someT[k]) := atI_nat (by rw [List.getElem?_map, List.getElem?_eq_getElem hk]; rfl)
   have hok := someT_ok _ (List.getElem_mem hk)
   dsimp only
   rw [hMq2]
   dsimp only
   rw [hat]
   unfold ttT
   dsimp only
   refine ite2 (fun c4 => ?_) (fun c4 => rest)
   rw [List.length_map] at c4
   refine ⟨someT[k], s2, f2, rfl, hMp2, hok, fun tab' s' f' ht' hl' => ?_⟩
   exact rt3_sub (h tab' s' f' ht' (by rw [hl']; exact c4)) hS2.set
 · exact h.elim
theorem ok__law_which {P : Program} {w : World} {K : PySem.W.Frag} {mg : Str → Option Value} {base : Heap} {f : Addr} {fd : FuncData} {n : Nat} {P_ z1 z2 z3 z4 z5 z6 : Addr} (F : Fun K "_law_which" "_law_which" s__law_which f fd) (hm : mg "_law_which" = some (.ref f)) (hb : Binds K fd ["e"] []) (Z : Zs K P_ z1 z2 z3 z4 z5 z6 mg) : DfM P w K mg base (n + 1) "_law_which" (xDs [("NoPlait", z1), ("NoStep", z2), ("NoRoom", z3), ("NoTable", z4), ("NoNumber", z5), ("BadNote", z6)]) := by
 refine ⟨f, fd, ?_, hm, F.kp, hb⟩
 obtain ⟨oc, od, kV, doc, pm, an, cdv, ct, osl, rfl, lk, hcd⟩ := F.ex
 exact fn_ofH lk hcd sc__law_which (fun vs H Q E ⟨a, C, φ, bs, e, _⟩ => by rw [e]; rfl) fun A outer s H vs Q E hr hsp => ⟨_, pss_cons (ps_set (i := 1) sc__law_which.nd rfl (Or.inl rfl) (pe_lst (pa_cons (pe_isx (i := 0) rfl (Or.inl rfl) Z.b_isinstance (fun pins s σ H Q E I q => ld_glob I rfl (Z.xs.mg ("NoPlait", z1) (.head _)) q) (by decide) (by decide)) (pa_cons (pe_isx (i := 0) rfl (Or.inl rfl) Z.b_isinstance (fun pins s σ H Q E I q => ld_glob I rfl (Z.xs.mg ("NoStep", z2) (.tail _ (.head _))) q) (by decide) (by decide)) (pa_cons (pe_isx (i := 0) rfl (Or.inl rfl) Z.b_isinstance (fun pins s σ H Q E I q => ld_glob I rfl (Z.xs.mg ("NoRoom", z3) (.tail _ (.tail _ (.head _)))) q) (by decide) (by decide)) (pa_cons (pe_isx (i := 0) rfl (Or.inl rfl) Z.b_isinstance (fun pins s σ H Q E I q => ld_glob I rfl (Z.xs.mg ("NoTable", z4) (.tail _ (.tail _ (.tail _ (.head _))))) q) (by decide) (by decide)) pa_nil)))))) (pss_one (ps_ret (pe_op op_cat (pe_var (i := 1) rfl (Or.inl rfl)) (pe_lst (pa_cons (pe_isx (i := 0) rfl (Or.inl rfl) Z.b_isinstance (fun pins s σ H Q E I q => ld_glob I rfl (Z.xs.mg ("NoNumber", z5) (.tail _ (.tail _ (.tail _ (.tail _ (.head _)))))) q) (by decide) (by decide)) (pa_cons (pe_isx (i := 0) rfl (Or.inl rfl) Z.b_isinstance (fun pins s σ H Q E I q => ld_glob I rfl (Z.xs.mg ("BadNote", z6) (.tail _ (.tail _ (.tail _ (.tail _ (.tail _ (.head _))))))) q) (by decide) (by decide)) (pa_cons (pe_isx (i := 0) rfl (Or.inl rfl) Z.b_isinstance (fun pins s σ H Q E I q => ld_blt I rfl Z.b_ValueError rfl q) (by decide) (by decide)) pa_nil))))))), marks_read (D1 := .ref z1) (D2 := .ref z2) (D3 := .ref z3) (D4 := .ref z4) (D5 := .ref z5) (D6 := .ref z6) (D7 := .type "ValueError") hsp⟩
noncomputable def sp__law_good : Sp3 := fun ts M Q => match ts with
 | [.tup t] => ∃ (tab : List (List Int)), t = tab.map tupT ∧ tab.length < 60 ∧ (∀ r ∈ tab, r.length < 60) ∧ Q (.bl (tabB tab)) M
 | _ => False
theorem r0get {n : Int} {i : Nat} {b : Int} (h : (range0 n)[i]? = some b) : b = (i : Int) ∧ InM n b := by
 have hl := (List.getElem?_eq_some_iff.mp h).1
 rw [range0_length] at hl
 unfold range0 at h
 rw [List.getElem?_map, List.getElem?_range hl] at h
 obtain rfl := (Option.some.inj h).symm
 exact ⟨rfl, by lia, by lia⟩
theorem ok__law_good {P : Program} {w : World} {K : PySem.W.Frag} {mg : Str → Option Value} {base : Heap} {f : Addr} {fd : FuncData} {n : Nat} {P_ z1 z2 z3 z4 z5 z6 : Addr}  (F : Fun K "_law_good" "_law_good" s__law_good f fd) (hm : mg "_law_good" = some (.ref f)) (hb : Binds K fd ["table"] []) (Z : Zs K P_ z1 z2 z3 z4 z5 z6 mg)  : Df P w K mg base (n + 1) "_law_good" ["table"] sp__law_good := by
 refine F.dfn hm hb sc__law_good (by intro ts M Q h; unfold sp__law_good at h; first | (split at h <;> first | rfl | exact h.elim) | (obtain ⟨_, _, _, _, _, rfl, _⟩ := h; rfl) | (obtain ⟨_, _, _, _, rfl, _⟩ := h; rfl) | (obtain ⟨_, _, _, rfl, _⟩ := h; rfl) | (obtain ⟨_, _, rfl, _⟩ := h; rfl) | (obtain ⟨_, rfl, _⟩ := h; rfl)) ⟨_, fun cdv A outer s H E hr => (ss_cons (s_set (i := 1) (h_callB call3_len Z.b_len PySem.boot_len (a_cons (hv 0) a_nil)) sc__law_good.nd) (ss_cons (s_if (h_not (h_tchain op3_le op3_le h_int (hv 1) h_int)) (ss_one (s_ret h_bl)) ss_nil) (ss_cons (s_for PassesOwn.never rfl (i_seq (hv 0)) (g_name (i := 2) sc__law_good.nd) (ss_one (s_if (HW.ht (w_or (h_tcmp (op3_ne hr.units) (h_callB call3_len Z.b_len PySem.boot_len (a_cons (hv 2) a_nil)) (hv 1) (nomark _)) (w_or (h_tcmp op3_lt (h_callB (call3_minT rfl) Z.b_min PyProof.Rows.boot_min (a_cons (hv 2) a_nil)) h_int (nomark _)) (w_or1 (h_tcmp op3_ge (h_callB (call3_maxT rfl) Z.b_max PyProof.Rows.boot_max (a_cons (hv 2) a_nil)) (hv 1) (nomark _)))))) (ss_one (s_ret h_bl)) ss_nil))) (ss_cons (s_set (i := 3) (h_listRange1 Z.b_list Z.b_range (a_cons (hv 1) a_nil)) sc__law_good.nd) (ss_cons (s_for PassesOwn.never rfl (i_seq (hv 3)) (g_name (i := 4) sc__law_good.nd) (ss_cons (s_if (HW.ht (w_or (h_tcmp (op3_ne hr.units) (h_ix (h_ix (hv 0) (hv 4)) (hv 4)) (hv 4) (nomark _)) (w_or1 (h_tcmp op3_lt (h_lenset rfl (h_comp rfl (i_seq (hv 3)) (blk_scope (outer := defScope s__law_good) (N := ["table", "many", "row", "some", "b", "a", "c", "left"]) (N' := ["a", "table", "b"]) (ix := [none, some 0, some 4]) (by decide +kernel) rfl rfl) bt_name (fun _ _ _ _ _ => pg_name (i := 0) (show List.Nodup (["a", "table", "b"] : List Str) by decide +kernel) rfl (Or.inl rfl) (Or.inr rfl)) (fun _ _ _ _ _ => ts_nil) (fun _ _ _ _ _ => (h_ix (h_ix (hv 1) (hv 0)) (hv 2)))) Z.b_len Z.b_set) (hv 1) (nomark _))))) (ss_one (s_ret h_bl)) ss_nil) (ss_one (s_for PassesOwn.never rfl (i_seq (hv 3)) (g_name (i := 5) sc__law_good.nd) (ss_one (s_for PassesOwn.never rfl (i_seq (hv 3)) (g_name (i := 6) sc__law_good.nd) (ss_cons (s_set (i := 7) (h_ix (h_ix (hv 0) (h_ix (h_ix (hv 0) (hv 5)) (hv 4))) (hv 6)) sc__law_good.nd) (ss_one (s_if (h_tcmp (op3_ne hr.units) (hv 7) (h_ix (h_ix (hv 0) (h_ix (h_ix (hv 0) (hv 5)) (hv 6))) (h_ix (h_ix (hv 0) (hv 4)) (hv 6))) (nomark _)) (ss_one (s_ret h_bl)) ss_nil))))))))) (ss_one (s_ret h_bl))))))), fun ts M Q h => ?_⟩
 unfold sp__law_good at h
 split at h
 · rename_i t
   obtain ⟨tab, rfl, lt, lr, h⟩ := h
   have hF : ¬ TabOK tab → ∀ M', Sub M M' → rt3 M Q (.bl false) M' := fun z M' hS => by
     have : tabB tab = false := Bool.eq_false_iff.mpr fun y => z (tabB_ok y)
     rw [this] at h
     exact rt3_sub h hS
   refine seq_cut fun K1 hK1 => ?_
   walk_at "rd"
   rw [hK1]; clear hK1
   refine seq_cut fun K2 hK2 => ?_
   walk_at "rd"
   refine ite2 (fun l1 => ite2 (fun l7 => hF (fun z => l7 (by have := z.l7; lia)) M Sub.refl) (fun l7 => ?_)) (fun l1 => hF (fun z => l1 (by have := z.l1; lia)) M Sub.refl)
   replace l7 : tab.length ≤ 7 := by lia
   replace l1 : 1 ≤ tab.length := by lia
   rw [hK2]; clear hK2
   refine seq_cut fun K3 hK3 => ?_
   refine for_cut fun B1 hB1 => ?_
   unfold tFor3
   walk_at "rd"
   refine ⟨fun i ρ M' => (∃ x1, ρ = [some (T.tup (List.map tupT tab)), some (T.int ↑tab.length), x1, none, none, none, none, none]) ∧ M' = M ∧ ∀ (j : Nat) (r : List Int), j < i → tab[j]? = some r → r.length = tab.length ∧ ∀ x ∈ r, InM tab.length x, ⟨⟨_, rfl⟩, rfl, fun j r z => absurd z (by lia)⟩, fun _ _ _ _ => trivial, ?_, ?_⟩
   · rintro i x ρ M' hx ⟨⟨x1, rfl⟩, rfl, ih⟩
     obtain ⟨r, hx2, rfl⟩ := get_tupT hx
     rw [hB1]; clear hB1
     rw [show tupT r = T.tup (r.map T.int) from rfl]
     walk_at "rd"
     have hmem := List.mem_of_getElem? hx2
     have hil := (List.getElem?_eq_some_iff.mp hx2).1
     have hin : TabOK tab → ∀ x ∈ r, InM tab.length x := fun z x hx => by
       obtain ⟨b, hb⟩ := List.getElem?_of_mem hx
       have hbl := (List.getElem?_eq_some_iff.mp hb).1
       rw [z.rows r hmem] at hbl
       have := z.rng (a := (i : Int)) (c := (b : Int)) ⟨by lia, by lia⟩ ⟨by lia, by lia⟩
       unfold g2 gI at this
       rw [Int.toNat_natCast, Int.toNat_natCast, List.getD_eq_getElem?_getD, List.getD_eq_getElem?_getD, hx2, Option.getD_some, hb] at this
       exact this
     refine ite2 (fun ne => hF (fun z => ne (by rw [z.rows r hmem])) M' Sub.refl) (fun eq => ⟨r, rfl, by lia, fun lo hlo hle => ite2 (fun c => hF (fun z => ?_) M' Sub.refl) (fun c => ⟨r, rfl, by lia, fun hi hhi hge => ite2 (fun c2 => hF (fun z => ?_) M' Sub.refl) (fun c2 => ⟨⟨_, rfl⟩, fun j r' hj hr' => ?_⟩)⟩)⟩)
     · have := (hin z lo hlo).1; lia
     · have := (hin z hi hhi).2; lia
     · by_cases e : j < i
       · exact ih j r' e hr'
       · obtain rfl : j = i := by lia
         rw [hx2] at hr'
         obtain rfl := Option.some.inj hr'
         exact ⟨by lia, fun x hx => ⟨by have := hle x hx; lia, by have := hge x hx; lia⟩⟩
   · rintro ρ M' ⟨⟨x1, rfl⟩, rfl, ih⟩
     have hrow : ∀ r ∈ tab, r.length = tab.length := fun r hr => by
       obtain ⟨j, hj⟩ := List.getElem?_of_mem hr
       exact (ih j r (List.getElem?_eq_some_iff.mp hj).1 hj).1
     have hent : ∀ {a b : Int}, InM tab.length a → InM tab.length b → InM tab.length (g2 tab a b) := by
       intro a b ha hb
       have hl : a.toNat < tab.length := by have := ha.1; have := ha.2; lia
       have hj : tab[a.toNat]? = some tab[a.toNat] := List.getElem?_eq_getElem hl
       have q := ih a.toNat _ hl hj
       have e : g2 tab a b = tab[a.toNat].getD b.toNat 0 := by
         unfold g2 gI
         rw [show tab.getD a.toNat [] = tab[a.toNat] by rw [List.getD_eq_getElem?_getD, hj]; rfl]
       rw [e]
       exact q.2 _ (getD_memI (by have := hb.1; have := hb.2; have := q.1; lia))
     clear ih hB1
     rw [hK3]; clear hK3
     refine seq_cut fun K4 hK4 => ?_
     walk_at "rd"
     refine ⟨⟨by lia, by lia⟩, fun p hp => ?_⟩
     rw [rangeT_range0]
     have hS := Sub.new hp (o := MO.lst ((range0 tab.length).map T.int))
     have hp1 : (updM M' p (MO.lst ((range0 tab.length).map T.int))) p = some (.lst ((range0 tab.length).map T.int)) := updM_same
     generalize updM M' p (MO.lst ((range0 tab.length).map T.int)) = M1 at hS hp1 ⊢
     clear hp
     have hrl : (range0 (tab.length : Int)).length = tab.length := by rw [range0_length, Int.toNat_natCast]
     rw [hK4]; clear hK4
     refine seq_cut fun K5 hK5 => ?_
     refine for_cut fun B2 hB2 => ?_
     unfold tFor3
     walk_at "rd"
     rw [hp1]
     dsimp only
     refine ⟨fun i ρ M2 => (∃ x2 x3 x4 x5, ρ = [some (T.tup (List.map tupT tab)), some (T.int ↑tab.length), x1, some (T.adr p), x2, x3, x4, x5]) ∧ Sub M1 M2 ∧ ∀ b : Int, 0 ≤ b → b < i → g2 tab b b = b ∧ (tab.map fun r => gI r b).Nodup ∧ ∀ a c, InM tab.length a → InM tab.length c → g2 tab (g2 tab a b) c = g2 tab (g2 tab a c) (g2 tab b c), ⟨⟨_, _, _, _, rfl⟩, Sub.refl, fun b h1 h2 => absurd h2 (by lia)⟩, ?_, ?_, ?_⟩
     · rintro i ρ M2 ⟨_, hS2, _⟩
       exact hS2 _ _ hp1
     · rintro i x ρ M2 hx ⟨⟨x2, x3, x4, x5, rfl⟩, hS2, ih⟩
       obtain ⟨b, hb, rfl⟩ := get_map_int hx
       obtain ⟨hbi, hbm⟩ := r0get hb
       rw [hB2]
       refine seq_cut fun K6 hK6 => ?_
       walk_at "rd"
       rw [(tab_row hrow hbm).1]
       dsimp only
       rw [tab_at hrow hbm hbm]
       dsimp only
       refine ⟨by rw [pureT_int], by rw [depT_int]; decide, ?_⟩
       rw [eqT_int]
       refine ite2 (fun ne => hF (fun z => ?_) M2 (hS.trans hS2)) (fun eq => ?_)
       · have := z.idem b hbm
         rw [decide_eq_true this] at ne; cases ne
       have eq : g2 tab b b = b := by
         by_cases e : g2 tab b b = b
         · exact e
         · exact absurd (decide_eq_false e) eq
       have hp2 := hS2 _ _ hp1
       rw [hp2]
       dsimp only
       refine ⟨fun j ys M3 => ys = ((range0 tab.length).take j).map (fun a => T.int (g2 tab a b)) ∧ M3 = M2, ⟨rfl, rfl⟩, ?_, by rw [List.length_map, hrl]; exact line_len (by lia), ?_, ?_⟩
       · rintro j ys M3 ⟨_, rfl⟩
         exact hp2
       · rintro j y ys M3 hy ⟨rfl, rfl⟩
         obtain ⟨a, ha, rfl⟩ := get_map_int hy
         obtain ⟨_, ham⟩ := r0get ha
         dsimp only
         rw [(tab_row hrow ham).1]
         dsimp only
         rw [tab_at hrow ham hbm]
         dsimp only
         refine ⟨?_, rfl⟩
         rw [← take_succ_map (fun a : Int => T.int (g2 tab a b)) ha]
       · rintro ys M3 ⟨rfl, rfl⟩ q hq
         rw [List.length_map, List.take_length]
         have hcol : (range0 (tab.length : Int)).map (fun a => g2 tab a b) = tab.map fun r => gI r b := by
           apply List.ext_getElem?
           intro i
           rw [List.getElem?_map, List.getElem?_map]
           by_cases hi : i < tab.length
           · have e : (range0 (tab.length : Int))[i]? = some (i : Int) := by
               unfold range0
               rw [List.getElem?_map, List.getElem?_range (by lia)]; rfl
             rw [e, List.getElem?_eq_getElem hi]
             show some (g2 tab (i : Int) b) = some _
             unfold g2
             rw [Int.toNat_natCast, List.getD_eq_getElem?_getD, List.getElem?_eq_getElem hi]; rfl
           · rw [List.getElem?_eq_none (by lia), List.getElem?_eq_none (by lia)]; rfl
         have e0 : (range0 (tab.length : Int)).map (fun a => T.int (g2 tab a b)) = (tab.map fun r => gI r b).map T.int := by rw [← hcol, List.map_map]; rfl
         rw [e0]
         have hX := Sub.new hq (o := MO.lst ((tab.map fun r => gI r b).map T.int))
         have hMq : (updM M3 q (MO.lst ((tab.map fun r => gI r b).map T.int))) q = some (.lst ((tab.map fun r => gI r b).map T.int)) := updM_same
         have hS3 := hS2.trans hX
         generalize updM M3 q (MO.lst ((tab.map fun r => gI r b).map T.int)) = M4 at hX hMq hS3 ⊢
         try dsimp only
         try rw [hMq]
         try dsimp only
         refine ⟨_, rfl, by rw [List.length_map]; lia, fun k hk1 hk2 => ?_⟩
         rw [List.length_map] at hk1 hk2
         refine ite2 (fun c => hF (fun z => ?_) M4 (hS.trans hS3)) (fun c => ?_)
         · have := hk2.mpr ((z.col b hbm).nodup_iff.mpr (range0_nodup _)); lia
         have hnd : (tab.map fun r => gI r b).Nodup := hk2.mp (by lia)
         rw [hK6]; clear hK6
         have hp4 := hX _ _ hp2
         have hS4 := hS.trans hS3
         refine for_cut fun B3 hB3 => ?_
         unfold tFor3
         walk_at "rd"
         rw [hp4]
         dsimp only
         refine ⟨fun i ρ M2 => (∃ x3 x4 x5, ρ = [some (T.tup (List.map tupT tab)), some (T.int ↑tab.length), x1, some (T.adr p), some (T.int b), x3, x4, x5]) ∧ M2 = M4 ∧ ∀ a : Int, 0 ≤ a → a < i → ∀ c, InM tab.length c → g2 tab (g2 tab a b) c = g2 tab (g2 tab a c) (g2 tab b c), ⟨⟨_, _, _, rfl⟩, rfl, fun b h1 h2 => absurd h2 (by lia)⟩, ?_, ?_, ?_⟩
         · rintro i ρ M2 ⟨_, rfl, _⟩
           exact hp4
         · rintro ia x ρ M5 hx ⟨⟨x3, x4, x5, rfl⟩, rfl, ih3⟩
           obtain ⟨a, ha, rfl⟩ := get_map_int hx
           obtain ⟨hai, ham⟩ := r0get ha
           rw [hB3]
           refine for_cut fun B4 hB4 => ?_
           unfold tFor3
           walk_at "rd"
           rw [hp4]
           dsimp only
           refine ⟨fun i ρ M2 => (∃ x4 x5, ρ = [some (T.tup (List.map tupT tab)), some (T.int ↑tab.length), x1, some (T.adr p), some (T.int b), some (T.int a), x4, x5]) ∧ M2 = M5 ∧ ∀ c : Int, 0 ≤ c → c < i → g2 tab (g2 tab a b) c = g2 tab (g2 tab a c) (g2 tab b c), ⟨⟨_, _, rfl⟩, rfl, fun b h1 h2 => absurd h2 (by lia)⟩, ?_, ?_, ?_⟩
           · rintro i ρ M2 ⟨_, rfl, _⟩
             exact hp4
           · rintro ic x ρ M6 hx ⟨⟨x4, x5, rfl⟩, rfl, ih4⟩
             obtain ⟨c', hc', rfl⟩ := get_map_int hx
             obtain ⟨hci, hcm⟩ := r0get hc'
             rw [hB4]
             refine seq_cut fun K7 hK7 => ?_
             walk_at "rd"
             have hab := hent ham hbm
             have hac := hent ham hcm
             have hbc := hent hbm hcm
             rw [(tab_row hrow ham).1]
             dsimp only
             rw [tab_at hrow ham hbm]
             dsimp only
             rw [(tab_row hrow hab).1]
             dsimp only
             rw [tab_at hrow hab hcm]
             dsimp only
             rw [hK7]; clear hK7
             walk_at "rd"
             rw [(tab_row hrow ham).1]
             dsimp only
             rw [tab_at hrow ham hcm]
             dsimp only
             rw [(tab_row hrow hac).1]
             dsimp only
             rw [(tab_row hrow hbm).1]
             dsimp only
             rw [tab_at hrow hbm hcm]
             dsimp only
             rw [tab_at hrow hac hbc]
             dsimp only
             refine ⟨by rw [pureT_int], ?_⟩
             rw [eqT_int]
             refine ite2 (fun ne => hF (fun z => ?_) M6 hS4) (fun eq => ⟨⟨_, _, rfl⟩, fun c2 c20 c21 => ?_⟩)
             · rw [decide_eq_true (z.third a b c' ham hbm hcm)] at ne; cases ne
             · by_cases e : c2 < ic
               · exact ih4 c2 c20 e
               · obtain rfl : c2 = c' := by lia
                 by_cases e : g2 tab (g2 tab a b) c2 = g2 tab (g2 tab a c2) (g2 tab b c2)
                 · exact e
                 · exact absurd (decide_eq_false e) eq
           · rintro ρ M6 ⟨⟨x4, x5, rfl⟩, rfl, ih4⟩
             refine ⟨⟨_, _, _, rfl⟩, rfl, fun a2 a20 a21 c2 hc2 => ?_⟩
             by_cases e : a2 < ia
             · exact ih3 a2 a20 e c2 hc2
             · obtain rfl : a2 = a := by lia
               exact ih4 c2 hc2.1 (by have := hc2.2; rw [List.length_map, hrl]; exact this)
         · rintro ρ M5 ⟨⟨x3, x4, x5, rfl⟩, rfl, ih3⟩
           refine ⟨⟨_, _, _, _, rfl⟩, hS3, fun b2 b20 b21 => ?_⟩
           by_cases e : b2 < i
           · exact ih b2 b20 e
           · obtain rfl : b2 = b := by lia
             exact ⟨eq, hnd, fun a c ha hc => ih3 a ha.1 (by have := ha.2; rw [List.length_map, hrl]; exact this) c hc⟩
     · rintro ρ M2 ⟨⟨x2, x3, x4, x5, rfl⟩, hS2, ih⟩
       rw [hK5]
       walk_at "rd"
       have : TabOK tab := by
         refine ⟨l1, l7, hrow, fun c hc => (ih c hc.1 ?_).1, fun c hc => perm_of_sub _ _ (ih c hc.1 ?_).2.1 (fun x hx => ?_) ?_, fun a b c ha hb hc => (ih b hb.1 ?_).2.2 a c ha hc⟩
         · have := hc.2; rw [List.length_map, hrl]; exact this
         · have := hc.2; rw [List.length_map, hrl]; exact this
         · obtain ⟨r, hr, rfl⟩ := List.mem_map.mp hx
           obtain ⟨j, hj⟩ := List.getElem?_of_mem hr
           have hjl := (List.getElem?_eq_some_iff.mp hj).1
           have := hent (a := (j : Int)) (b := c) ⟨by lia, by lia⟩ hc
           unfold g2 at this
           rw [Int.toNat_natCast, List.getD_eq_getElem?_getD, hj] at this
           exact range0_iff.mpr this
         · rw [List.length_map, hrl]; exact Nat.le_refl _
         · have := hb.2; rw [List.length_map, hrl]; exact this
       rw [this.b] at h
       exact rt3_sub h (hS.trans hS2)
 · exact h.elim
noncomputable def sp__law_spoiled : Sp3 := fun ts M Q => match ts with
 | [.adr p, .tup t] => ∃ (tab : List (List Int)) (s f : Int), t = tab.map tupT ∧ M p = some (.lst [.int s, .int f]) ∧ 1 ≤ tab.length ∧ tab.length ≤ 9 ∧ (∀ r ∈ tab, r.length ≤ 12) ∧ (∀ r ∈ tab, 1 ≤ r.length) ∧ ∀ (tab' : List (List Int)) s' f', tab'.length ≤ tab.length + 1 → (∀ r' ∈ tab', ∃ r ∈ tab, r'.length ≤ r.length + 1 ∧ r.length ≤ r'.length + 1) → ((∀ r' ∈ tab', 1 ≤ r'.length) ∨ tab'.length = tab.length) → Q (.tup (tab'.map tupT)) (updM M p (.lst [.int s', .int f']))
 | _ => False
theorem pow9 : CPow 10 9 := by unfold CPow; decide
theorem pow21 : CPow 10 21 := by unfold CPow; decide
theorem ok__law_spoiled {P : Program} {w : World} {K : PySem.W.Frag} {mg : Str → Option Value} {base : Heap} {f : Addr} {fd : FuncData} {n : Nat} {P_ z1 z2 z3 z4 z5 z6 : Addr}  (F : Fun K "_law_spoiled" "_law_spoiled" s__law_spoiled f fd) (hm : mg "_law_spoiled" = some (.ref f)) (hb : Binds K fd ["state", "table"] []) (Z : Zs K P_ z1 z2 z3 z4 z5 z6 mg) (D__law_take : Df P w K mg base n "_law_take" ["state", "many"] sp__law_take) : Df P w K mg base (n + 1) "_law_spoiled" ["state", "table"] sp__law_spoiled := by
 refine F.dfn hm hb sc__law_spoiled (by intro ts M Q h; unfold sp__law_spoiled at h; first | (split at h <;> first | rfl | exact h.elim) | (obtain ⟨_, _, _, _, _, rfl, _⟩ := h; rfl) | (obtain ⟨_, _, _, _, rfl, _⟩ := h; rfl) | (obtain ⟨_, _, _, rfl, _⟩ := h; rfl) | (obtain ⟨_, _, rfl, _⟩ := h; rfl) | (obtain ⟨_, rfl, _⟩ := h; rfl)) ⟨_, fun cdv A outer s H E hr => (ss_cons (s_set (i := 2) (h_call D__law_take hr (a_cons (hv 0) (a_cons (h_callB call3_len Z.b_len PySem.boot_len (a_cons (hv 1) a_nil)) a_nil))) sc__law_spoiled.nd) (ss_cons (s_set (i := 3) (h_ix (hv 1) (hv 2)) sc__law_spoiled.nd) (ss_cons (s_set (i := 4) (h_call D__law_take hr (a_cons (hv 0) (a_cons h_int a_nil))) sc__law_spoiled.nd) (ss_cons (s_set (i := 5) (h_call D__law_take hr (a_cons (hv 0) (a_cons (h_callB call3_len Z.b_len PySem.boot_len (a_cons (hv 3) a_nil)) a_nil))) sc__law_spoiled.nd) (ss_cons (s_if (h_tcmp op3_lt (hv 4) h_int (nomark _)) (ss_cons (s_set (i := 6) (h_call D__law_take hr (a_cons (hv 0) (a_cons (h_bin op3_add (h_callB call3_len Z.b_len PySem.boot_len (a_cons (hv 1) a_nil)) h_int) a_nil))) sc__law_spoiled.nd) (ss_cons (s_if (h_tcmp (op3_eq hr.units) (h_call D__law_take hr (a_cons (hv 0) (a_cons h_int a_nil))) h_int (nomark _)) (ss_one (s_set (i := 6) (h_bin op3_sub (h_un un3_neg h_int) (h_bin op3_mul (h_call D__law_take hr (a_cons (hv 0) (a_cons (h_bin op3_pow h_int h_int) a_nil))) (h_bin op3_pow h_int h_int))) sc__law_spoiled.nd)) ss_nil) (ss_one (s_ret (h_bin op3_add (h_bin op3_add (h_slice (hv 1) o_none (o_some (hv 2))) (h_tup (a_cons (h_bin op3_add (h_bin op3_add (h_slice (hv 3) o_none (o_some (hv 5))) (h_tup (a_cons (hv 6) a_nil))) (h_slice (hv 3) (o_some (h_bin op3_add (hv 5) h_int)) o_none)) a_nil))) (h_slice (hv 1) (o_some (h_bin op3_add (hv 2) h_int)) o_none)))))) ss_nil) (ss_cons (s_if (h_tcmp (op3_eq hr.units) (hv 4) h_int (nomark _)) (ss_one (s_ret (h_bin op3_add (h_slice (hv 1) o_none (o_some (hv 2))) (h_slice (hv 1) (o_some (h_bin op3_add (hv 2) h_int)) o_none)))) ss_nil) (ss_cons (s_if (h_tcmp (op3_eq hr.units) (hv 4) h_int (nomark _)) (ss_one (s_ret (h_bin op3_add (h_slice (hv 1) o_none (o_some (h_bin op3_add (hv 2) h_int))) (h_slice (hv 1) (o_some (hv 2)) o_none)))) ss_nil) (ss_cons (s_if (h_tcmp (op3_eq hr.units) (hv 4) h_int (nomark _)) (ss_one (s_ret (h_bin op3_add (h_bin op3_add (h_slice (hv 1) o_none (o_some (hv 2))) (h_tup (a_cons (h_bin op3_add (h_slice (hv 3) o_none (o_some (hv 5))) (h_slice (hv 3) (o_some (h_bin op3_add (hv 5) h_int)) o_none)) a_nil))) (h_slice (hv 1) (o_some (h_bin op3_add (hv 2) h_int)) o_none)))) ss_nil) (ss_one (s_ret (h_bin op3_add (h_bin op3_add (h_slice (hv 1) o_none (o_some (hv 2))) (h_tup (a_cons (h_bin op3_add (hv 3) (h_slice (hv 3) o_none (o_some h_int))) a_nil))) (h_slice (hv 1) (o_some (h_bin op3_add (hv 2) h_int)) o_none)))))))))))), fun ts M Q h => ?_⟩
 unfold sp__law_spoiled at h
 split at h
 · rename_i p t
   obtain ⟨tab, s, f, rfl, hM, l1, l9, lr, lr1, h⟩ := h
   refine seq_cut2 fun K1 hK1 => ?_
   walk_at "rd"
   refine ⟨s, f, hM, by lia, by lia, fun a s1 f1 a0 a1 => ?_⟩
   dsimp only
   have ha : a.toNat < tab.length := by lia
   have hrow : tab[a.toNat]? = some tab[a.toNat] := List.getElem?_eq_getElem ha
   have hmem : tab[a.toNat] ∈ tab := List.getElem_mem ha
   have hsp : tab = tab.take a.toNat ++ tab[a.toNat] :: tab.drop (a.toNat + 1) := by rw [← List.drop_eq_getElem_cons ha, List.take_append_drop]
   generalize tab[a.toNat] = row at hrow hmem hsp
   have e1 : atI (tab.map tupT) a = some (tupT row) := by
     rw [show a = ((a.toNat : Nat) : Int) by lia]; exact atI_nat (by rw [List.getElem?_map, hrow]; rfl)
   rw [e1]
   dsimp only
   have hr1 := lr1 row hmem
   have hr12 := lr row hmem
   rw [hK1]; clear hK1
   refine seq_cut3 fun K2 hK2 => ?_
   rw [show tupT row = T.tup (row.map T.int) from rfl]
   walk_at "rd"
   refine ⟨s1, f1, updM_same, by decide, by decide, fun w s2 f2 w0 w8 => ?_⟩
   simp only [updM_updM]
   refine ⟨s2, f2, updM_same, by lia, by lia, fun sp s3 f3 sp0 sp1 => ?_⟩
   simp only [updM_updM]
   rw [hK2]; clear hK2
   walk_at "rd"
   rw [cutT_to' (tab.map tupT) a a0, cutT_from' (tab.map tupT) (a + 1) (by lia), cutT_to' (tab.map tupT) (a + 1) (by lia), cutT_from' (tab.map tupT) a a0, cutT_to' (row.map T.int) sp sp0, cutT_from' (row.map T.int) (sp + 1) (by lia), cutT_to' (row.map T.int) 1 (by decide)]
   have ea : (a + 1).toNat = a.toNat + 1 := by lia
   have es : (sp + 1).toNat = sp.toNat + 1 := by lia
   rw [ea, es]
   clear e1
   have lt : tab.length = (tab.take a.toNat).length + ((tab.drop (a.toNat + 1)).length + 1) := by rw [List.length_take, List.length_drop]; lia
   have ltr : (row.take sp.toNat).length = sp.toNat := by rw [List.length_take]; lia
   have ldr : (row.drop (sp.toNat + 1)).length = row.length - (sp.toNat + 1) := List.length_drop
   have fin : ∀ (new : List Int) s' f', new.length ≤ row.length + 1 → row.length ≤ new.length + 1 → (2 ≤ row.length ∨ 1 ≤ new.length ∨ True) → rt3 M Q (.tup ((tab.map tupT).take a.toNat ++ [T.tup (new.map T.int)] ++ (tab.map tupT).drop (a.toNat + 1))) (updM M p (.lst [.int s', .int f'])) := fun new s' f' n1 n2 _ => by
     have e : (tab.map tupT).take a.toNat ++ [T.tup (new.map T.int)] ++ (tab.map tupT).drop (a.toNat + 1) = (tab.take a.toNat ++ [new] ++ tab.drop (a.toNat + 1)).map tupT := by
       rw [List.map_append, List.map_append, List.map_take, List.map_drop]; rfl
     rw [e]
     refine rt3_here (h _ s' f' (by rw [List.length_append, List.length_append, List.length_singleton]; lia) (fun r' hr' => ?_) (.inr (by rw [List.length_append, List.length_append, List.length_singleton]; lia)))
     rcases List.mem_append.mp hr' with z | z
     · rcases List.mem_append.mp z with z | z
       · exact ⟨r', List.mem_of_mem_take z, Nat.le_succ _, Nat.le_succ _⟩
       · rw [List.mem_singleton.mp z]; exact ⟨row, hmem, n1, n2⟩
     · exact ⟨r', List.mem_of_mem_drop z, Nat.le_succ _, Nat.le_succ _⟩
   have lA : ∀ n, ((tab.map tupT).take n).length ≤ 9 := fun n => by rw [List.length_take, List.length_map]; lia
   have lB : ∀ n, ((tab.map tupT).drop n).length ≤ 9 := fun n => by rw [List.length_drop, List.length_map]; lia
   have lC : ∀ n, ((row.map T.int).take n).length ≤ 12 := fun n => by rw [List.length_take, List.length_map]; lia
   have lD : ∀ n, ((row.map T.int).drop n).length ≤ 12 := fun n => by rw [List.length_drop, List.length_map]; lia
   have A0 := lA a.toNat
   have A1 := lA (a.toNat + 1)
   have B0 := lB a.toNat
   have B1 := lB (a.toNat + 1)
   have C0 := lC sp.toNat
   have D0 := lD (sp.toNat + 1)
   have put : ∀ (g : Int) s' f', rt3 M Q (.tup ((tab.map tupT).take a.toNat ++ [T.tup ((row.map T.int).take sp.toNat ++ [T.int g] ++ (row.map T.int).drop (sp.toNat + 1))] ++ (tab.map tupT).drop (a.toNat + 1))) (updM M p (.lst [.int s', .int f'])) := fun g s' f' => by
     have e : (row.map T.int).take sp.toNat ++ [T.int g] ++ (row.map T.int).drop (sp.toNat + 1) = (row.take sp.toNat ++ [g] ++ row.drop (sp.toNat + 1)).map T.int := by
       rw [List.map_append, List.map_append, List.map_take, List.map_drop]; rfl
     rw [e]
     exact fin _ s' f' (by rw [List.length_append, List.length_append, List.length_singleton]; lia) (by rw [List.length_append, List.length_append, List.length_singleton]; lia) (.inr (.inr trivial))
   refine ite2 (fun _ => ?_) (fun _ => ite2 (fun _ => ?_) (fun _ => ite2 (fun _ => ?_) (fun _ => ite2 (fun _ => ?_) (fun _ => ?_))))
   · refine ⟨s3, f3, updM_same, by lia, by lia, fun g s4 f4 _ _ => ⟨s4, f4, by rw [updM_updM, updM_same], by decide, by decide, fun c s5 f5 _ _ => ?_⟩⟩
     simp only [updM_updM]
     refine ⟨by rw [pureT_int], by rw [depT_int]; decide, ?_⟩
     refine ite2 (fun _ => ?_) (fun _ => ?_)
     · refine ⟨pow9, s5, f5, updM_same, by decide, by decide, fun far s6 f6 f0 f1 => ?_⟩
       have e9 : (10 : Int) ^ Int.toNat 9 = 1000000000 := by decide
       rw [e9] at f1
       simp only [updM_updM]
       refine ⟨pow21, .inl ⟨by lia, by lia⟩, by decide, line_len' (by lia), line_len' (by lia), by decide, line_len' (by lia), line_len' (by lia), put _ _ _⟩
     · exact ⟨by decide, line_len' (by lia), line_len' (by lia), by decide, line_len' (by lia), line_len' (by lia), put _ _ _⟩
   · refine ⟨line_len' (by lia), ?_⟩
     rw [← List.map_take, ← List.map_drop, ← List.map_append]
     refine rt3_here (h _ _ _ (by rw [List.length_append]; lia) (fun r' hr' => ?_) (.inl fun r' hr' => ?_))
     · rcases List.mem_append.mp hr' with z | z
       · exact ⟨r', List.mem_of_mem_take z, Nat.le_succ _, Nat.le_succ _⟩
       · exact ⟨r', List.mem_of_mem_drop z, Nat.le_succ _, Nat.le_succ _⟩
     · rcases List.mem_append.mp hr' with z | z
       · exact lr1 _ (List.mem_of_mem_take z)
       · exact lr1 _ (List.mem_of_mem_drop z)
   · refine ⟨line_len' (by lia), ?_⟩
     rw [← List.map_take, ← List.map_drop, ← List.map_append]
     refine rt3_here (h _ _ _ (by rw [List.length_append, List.length_take, List.length_drop]; lia) (fun r' hr' => ?_) (.inl fun r' hr' => ?_))
     · rcases List.mem_append.mp hr' with z | z
       · exact ⟨r', List.mem_of_mem_take z, Nat.le_succ _, Nat.le_succ _⟩
       · exact ⟨r', List.mem_of_mem_drop z, Nat.le_succ _, Nat.le_succ _⟩
     · rcases List.mem_append.mp hr' with z | z
       · exact lr1 _ (List.mem_of_mem_take z)
       · exact lr1 _ (List.mem_of_mem_drop z)
   · refine ⟨line_len' (by lia), by decide, line_len' (by lia), line_len' (by lia), ?_⟩
     have e : (row.map T.int).take sp.toNat ++ (row.map T.int).drop (sp.toNat + 1) = (row.take sp.toNat ++ row.drop (sp.toNat + 1)).map T.int := by
       rw [List.map_append, List.map_take, List.map_drop]
     rw [e]
     exact fin _ _ _ (by rw [List.length_append]; lia) (by rw [List.length_append]; lia) (.inr (.inr trivial))
   · have C1 := lC (1 : Int).toNat
     refine ⟨line_len' (by lia), by decide, line_len' (by lia), line_len' (by lia), ?_⟩
     have e : row.map T.int ++ (row.map T.int).take (1 : Int).toNat = (row ++ row.take (1 : Int).toNat).map T.int := by
       rw [List.map_append, List.map_take]
     rw [e]
     have t1 : (1 : Int).toNat = 1 := rfl
     exact fin _ _ _ (by rw [List.length_append, List.length_take]; lia) (by rw [List.length_append]; lia) (.inr (.inr trivial))
 · exact h.elim
noncomputable abbrev o6 : List Str := ["NoPlait", "NoStep", "NoRoom", "NoTable", "NoNumber", "BadNote"]
noncomputable def sp__law_flags : Sp3 := fun ts M Q => match ts with
 | [.int way, .tup t] => ∃ (tab : List (List Int)), t = tab.map tupT ∧ tab.length < 60 ∧ (∀ r ∈ tab, r.length < 60) ∧ (tabB tab = false → ∀ p, M p = none → Q (.adr p) (updM M p (.lst ((xMk o6 "NoTable").map .bl)))) ∧ (tabB tab = true → ∀ p, M p = none → Q (.adr p) (updM M p (.lst [])))
 | _ => False
theorem ok__law_flags {P : Program} {w : World} {K : PySem.W.Frag} {mg : Str → Option Value} {base : Heap} {f : Addr} {fd : FuncData} {n : Nat} {P_ z1 z2 z3 z4 z5 z6 : Addr}  (F : Fun K "_law_flags" "_law_flags" s__law_flags f fd) (hm : mg "_law_flags" = some (.ref f)) (hb : Binds K fd ["way", "table"] []) (Z : Zs K P_ z1 z2 z3 z4 z5 z6 mg) (D_coloured : DfX P w K mg base n "coloured" ["table", "plait", "colours"] sp_coloured) (D_colourings : DfX P w K mg base n "colourings" ["table", "plait"] sp_colourings) (D__law_which : DfM P w K mg base n "_law_which" (xDs [("NoPlait", z1), ("NoStep", z2), ("NoRoom", z3), ("NoTable", z4), ("NoNumber", z5), ("BadNote", z6)])) : Df P w K mg base (n + 1) "_law_flags" ["way", "table"] sp__law_flags := by
 refine F.dfn hm hb sc__law_flags (by intro ts M Q h; unfold sp__law_flags at h; first | (split at h <;> first | rfl | exact h.elim) | (obtain ⟨_, _, _, _, _, rfl, _⟩ := h; rfl) | (obtain ⟨_, _, _, _, rfl, _⟩ := h; rfl) | (obtain ⟨_, _, _, rfl, _⟩ := h; rfl) | (obtain ⟨_, _, rfl, _⟩ := h; rfl) | (obtain ⟨_, rfl, _⟩ := h; rfl)) ⟨_, fun cdv A outer s H E hr => (ss_cons (s_set (i := 2) (h_lst a_nil) sc__law_flags.nd) (ss_cons (s_tryM (im := 2) (ie := 3) (names := ["NoPlait", "NoStep", "NoRoom", "NoTable", "NoNumber", "BadNote"]) (mk := xMk ["NoPlait", "NoStep", "NoRoom", "NoTable", "NoNumber", "BadNote"]) rfl rfl rfl rfl (fun pn xe Ha E3 acc => (ss_oneX (s_ifX (HT.x (HT.n (h_tcmp (op3_eq hr.units) (hv 0) h_int (nomark _)))) (ss_oneX (s_exprX (h_callX acc rfl D_coloured hr (a_cons (hv 1) (@a_consT _ _ _ _ _ _ _ (h_tup (a_cons h_int (@a_consT _ _ _ _ _ _ _ (h_tup a_nil) a_nil))) (@a_consT _ _ _ _ _ _ _ (h_tup (a_cons h_int a_nil)) a_nil)))))) (ss_oneX (s_exprX (h_callX acc rfl D_colourings hr (a_cons (hv 1) (@a_consT _ _ _ _ _ _ _ (h_tup (a_cons h_int (@a_consT _ _ _ _ _ _ _ (h_tup a_nil) a_nil))) a_nil)))))))) Z.xs.pe Z.xs.p.1 Z.xs.p.2 (Z.xs.names (ns := ["NoPlait", "NoStep", "NoRoom", "NoTable", "NoNumber", "BadNote"]) rfl) D__law_which hr sc__law_flags.nd) (ss_one (s_ret (hv 2))))), fun ts M Q h => ?_⟩
 unfold sp__law_flags at h
 split at h
 · rename_i way t
   obtain ⟨tab, rfl, lt, lr, e1, h⟩ := h
   have ok1 : PlOK 1 [] := ⟨by decide, by decide, by decide, .nil⟩
   walk_at "rd"
   unfold tTryM
   walk_at "rd"
   intro p hp
   have mo3 : ("NoTable" : Str) ∈ o6 := .tail _ (.tail _ (.tail _ (.head _)))
   have noT : tabB tab = false → ("NoTable" : Str) ∈ o6 ∧ ∀ p', (updM M p (MO.lst [])) p' = none → rt3 M Q (.adr p') (updM (updM M p (MO.lst [])) p' (.lst ((xMk o6 "NoTable").map .bl))) := fun z => ⟨mo3, fun p' hp' => ⟨_, sub_over hp, e1 z p' (none_of (Sub.new hp) hp')⟩⟩
   have l1 : tabB tab = true → 1 ≤ tab.length ∧ tab.length ≤ 7 := fun z => ⟨(tabB_ok z).l1, (tabB_ok z).l7⟩
   refine ite2 (fun _ => ?_) (fun _ => ?_)
   · refine ⟨by decide, by decide, tab, [], [0], rfl, rfl, rfl, lt, lr, by decide, by decide, fun z => absurd ok1 z, fun _ z => noT z, fun _ z y => absurd ⟨rfl, fun c hc => ?_⟩ y, fun _ z _ => rt3_here (h z p hp)⟩
     rw [List.mem_singleton.mp hc]
     exact ⟨by decide, by have := (l1 z).1; lia⟩
   · refine ⟨by decide, tab, [], rfl, rfl, lt, lr, by decide, fun z => absurd ok1 z, fun _ z => noT z, fun _ z y => absurd y ?_, fun _ z _ r hr => rt3_sub (h z p hp) (Sub.new hr)⟩
     have := (l1 z).2
     have e : (1 : Int).toNat = 1 := rfl
     rw [e, Nat.pow_one]
     lia
 · exact h.elim
noncomputable def sp_law : Sp3 := fun ts M Q => match ts with
 | [.rd s] => ∃ ns : List Int, s = ns.map .int ∧ Q (.bl true) M
 | _ => False
theorem law_starts (ns : List Int) (M : MH) (Q : VK3) (_ : ns.length ≤ 63) (h : Q (.bl true) M) : sp_law [.rd (ns.map .int)] M Q := ⟨ns, rfl, h⟩
theorem eqTs_bools : ∀ (a b : List Bool), eqTs (a.map T.bl) (b.map T.bl) = decide (a = b)
 | [], [] => by simp [eqTs_nil]
 | [], u :: L' => by simp [eqTs]
 | u :: L, [] => by simp [eqTs]
 | u :: L, v :: L' => by
   rw [List.map_cons, List.map_cons, eqTs_cons, eqTs_bools L L']
   cases u <;> cases v <;> simp [eqT]
theorem pureTs_bools : ∀ a : List Bool, pureTs (a.map T.bl) = true
 | [] => rfl
 | u :: L => by rw [List.map_cons, pureTs_cons, pureTs_bools L]; rfl
theorem depTs_bools : ∀ a : List Bool, depTs (a.map T.bl) = 0
 | [] => rfl
 | u :: L => by rw [List.map_cons, depTs_cons, depTs_bools L]; rfl
theorem x3 : xMk o6 "NoTable" = [false, false, false, true, false, false, true] := by decide +kernel
theorem ok_law {P : Program} {w : World} {K : PySem.W.Frag} {mg : Str → Option Value} {base : Heap} {f : Addr} {fd : FuncData} {n : Nat} {P_ z1 z2 z3 z4 z5 z6 : Addr}  (F : Fun K "law" "law" s_law f fd) (Z : Zs K P_ z1 z2 z3 z4 z5 z6 mg) (D__law_state : Df P w K mg base n "_law_state" ["script", "k"] sp__law_state) (D__law_table : Df P w K mg base n "_law_table" ["state", "most"] sp__law_table) (D__law_take : Df P w K mg base n "_law_take" ["state", "many"] sp__law_take) (D__law_spoiled : Df P w K mg base n "_law_spoiled" ["state", "table"] sp__law_spoiled) (D__law_good : Df P w K mg base n "_law_good" ["table"] sp__law_good) (D__law_flags : Df P w K mg base n "_law_flags" ["way", "table"] sp__law_flags) : FnOk P w K mg base CX0 (n + 1) f fd ["script"] (dSp K sp_law) := by
 refine F.fnk sc_law (by intro ts M Q h; unfold sp_law at h; first | (split at h <;> first | rfl | exact h.elim) | (obtain ⟨_, _, _, _, _, rfl, _⟩ := h; rfl) | (obtain ⟨_, _, _, _, rfl, _⟩ := h; rfl) | (obtain ⟨_, _, _, rfl, _⟩ := h; rfl) | (obtain ⟨_, _, rfl, _⟩ := h; rfl) | (obtain ⟨_, rfl, _⟩ := h; rfl)) ⟨_, fun cdv A outer s H E hr => (ss_cons (s_set (i := 1) (h_call D__law_state hr (a_cons (hv 0) (a_cons h_int a_nil))) sc_law.nd) (ss_cons (s_set (i := 2) (h_call D__law_table hr (a_cons (hv 1) (a_cons h_int a_nil))) sc_law.nd) (ss_cons (s_for PassesOwn.never rfl (i_range1 Z.b_range (a_cons (h_call D__law_take hr (a_cons (hv 1) (a_cons h_int a_nil))) a_nil)) (g_name (i := 3) sc_law.nd) (ss_one (s_if (HW.ht (w_and (h_tcmp op3_gt (h_callB call3_len Z.b_len PySem.boot_len (a_cons (hv 2) a_nil)) h_int (nomark _)) (w_and (h_tcmp op3_gt (h_callB call3_len Z.b_len PySem.boot_len (a_cons (h_ix (hv 2) h_int) a_nil)) h_int (nomark _)) (w_and1 (h_tcmp op3_lt (h_callB call3_len Z.b_len PySem.boot_len (a_cons (hv 2) a_nil)) h_int (nomark _)))))) (ss_one (s_set (i := 2) (h_call D__law_spoiled hr (a_cons (hv 1) (a_cons (hv 2) a_nil))) sc_law.nd)) ss_nil))) (ss_cons (s_set (i := 4) (h_lst (a_cons h_bl (a_cons h_bl (a_cons h_bl (a_cons h_bl (a_cons h_bl (a_cons h_bl (a_cons h_bl a_nil)))))))) sc_law.nd) (ss_cons (s_if (h_truth (h_call D__law_good hr (a_cons (hv 2) a_nil))) (ss_one (s_set (i := 4) (h_lst a_nil) sc_law.nd)) ss_nil) (ss_one (s_ret (h_and (h_cmp (op3_eq hr.units) (h_call D__law_flags hr (a_cons h_int (a_cons (hv 2) a_nil))) (hv 4) (nomark _)) (h_one (h_cmp (op3_eq hr.units) (h_call D__law_flags hr (a_cons h_int (a_cons (hv 2) a_nil))) (hv 4) (nomark _))))))))))), fun ts M Q h => ?_⟩
 unfold sp_law at h
 split at h
 · rename_i s
   obtain ⟨ns, rfl, h⟩ := h
   refine seq_cut2 fun K1 hK1 => ?_
   walk_at "rd"
   refine ⟨ns, rfl, by decide, by decide, fun p c0 f0 hp => ?_⟩
   refine ⟨c0, f0, updM_same, by decide, by decide, fun tab s1 f1 ht htl => ?_⟩
   simp only [updM_updM]
   have hS0 : Sub M (updM M p (.lst [.int s1, .int f1])) := Sub.new hp
   have hMp0 : (updM M p (.lst [.int s1, .int f1])) p = some (.lst [.int s1, .int f1]) := updM_same
   generalize updM M p (.lst [.int s1, .int f1]) = M0 at hS0 hMp0 ⊢
   have tok := tabB_ok ht
   rw [hK1]; clear hK1
   refine seq_cut fun K2 hK2 => ?_
   refine for_cut fun B1 hB1 => ?_
   unfold tFor3
   walk_at "rd"
   refine ⟨s1, f1, hMp0, by decide, by decide, fun turns s2 f2 t0 t3 => ?_⟩
   have hS1 := hS0.updF hp (o := .lst [.int s2, .int f2])
   have hMp1 : (updM M0 p (.lst [.int s2, .int f2])) p = some (.lst [.int s2, .int f2]) := updM_same
   generalize updM M0 p (.lst [.int s2, .int f2]) = M1 at hS1 hMp1 ⊢
   clear hS0 hMp0
   refine ⟨by lia, by lia, fun i ρ M2 => (∃ (tab' : List (List Int)) (x1 : Option T), ρ = [some (T.rd (List.map T.int ns)), some (T.adr p), some (T.tup (List.map tupT tab')), x1, none] ∧ tab'.length ≤ 7 + i ∧ (∀ r ∈ tab', r.length ≤ 7 + i) ∧ (i = 0 → TabOK tab') ∧ (i = 1 → (∀ r ∈ tab', 1 ≤ r.length) ∨ tab'.length = 1)) ∧ (∃ s' f', M2 p = some (.lst [.int s', .int f'])) ∧ Sub M M2, ⟨⟨tab, _, rfl, by lia, fun r hr => by have := tok.rows r hr; have := tok.l7; lia, fun _ => tok, fun z => absurd z (by decide)⟩, ⟨s2, f2, hMp1⟩, hS1⟩, fun _ _ _ _ => trivial, ?_, ?_⟩
   · rintro i x ρ M2 hx ⟨⟨tab', x1, rfl, hl, hr, h0, h1⟩, ⟨s3, f3, hp3⟩, hS2⟩
     have hi := (List.getElem?_eq_some_iff.mp hx).1
     rw [rangeT_length] at hi
     rw [hB1]
     walk_at "rd"
     have keep : (∃ (tab2 : List (List Int)) (x1 : Option T), [some (T.rd (List.map T.int ns)), some (T.adr p), some (T.tup (List.map tupT tab')), some x, none] = [some (T.rd (List.map T.int ns)), some (T.adr p), some (T.tup (List.map tupT tab2)), x1, none] ∧ tab2.length ≤ 7 + (i + 1) ∧ (∀ r ∈ tab2, r.length ≤ 7 + (i + 1)) ∧ (i + 1 = 0 → TabOK tab2) ∧ (i + 1 = 1 → (∀ r ∈ tab2, 1 ≤ r.length) ∨ tab2.length = 1)) ∧ (∃ s' f', M2 p = some (.lst [.int s', .int f'])) ∧ Sub M M2 :=
       ⟨⟨tab', _, rfl, by lia, fun r hr' => by have := hr r hr'; lia, fun z => absurd z (by lia), fun z => .inl fun r hr' => by
         have tk := h0 (by lia)
         rw [tk.rows r hr']; exact tk.l1⟩, ⟨s3, f3, hp3⟩, hS2⟩
     refine ite2 (fun c1 => ?_) (fun _ => keep)
     obtain ⟨r0, rest, rfl⟩ : ∃ r0 rest, tab' = r0 :: rest := by
       cases tab' with
       | nil => exact absurd c1 (by decide)
       | cons a b => exact ⟨a, b, rfl⟩
     rw [List.map_cons, atI_0]
     rw [List.map_cons] at keep
     rw [show tupT r0 = T.tup (r0.map T.int) from rfl] at keep ⊢
     dsimp only
     refine ite2 (fun c2 => ite2 (fun c3 => ?_) (fun _ => keep)) (fun _ => keep)
     have ge1 : ∀ r ∈ r0 :: rest, 1 ≤ r.length := by
       rcases (show i = 0 ∨ i = 1 by lia) with z | z
       · have tk := h0 z
         intro r hr'
         rw [tk.rows r hr']; exact tk.l1
       · rcases h1 z with y | y
         · exact y
         · intro r hr'
           have : rest = [] := List.eq_nil_of_length_eq_zero (by rw [List.length_cons] at y; lia)
           subst this
           rw [List.mem_singleton.mp hr']
           rw [List.length_map] at c2
           lia
     refine ⟨r0 :: rest, s3, f3, rfl, hp3, by rw [List.length_cons]; lia, by lia, fun r hr' => by have := hr r hr'; lia, ge1, fun tab2 s' f' g1 g2 g3 => ⟨⟨tab2, _, rfl, by lia, fun r hr' => ?_, fun z => absurd z (by lia), fun z => ?_⟩, ⟨s', f', updM_same⟩, hS2.updF hp⟩⟩
     · obtain ⟨r2, a1, a2, a3⟩ := g2 r hr'
       have := hr r2 a1
       lia
     · have tk := h0 (by lia)
       rcases g3 with y | y
       · exact .inl y
       · by_cases o : (r0 :: rest).length = 1
         · exact .inr (by rw [y]; exact o)
         · refine .inl fun r hr' => ?_
           obtain ⟨r2, a1, a2, a3⟩ := g2 r hr'
           have b1 := tk.rows r2 a1
           have b2 := tk.l1
           lia
   · rintro ρ M2 ⟨⟨tab', x1, rfl, hl, hr, h0, h1⟩, ⟨s3, f3, hp3⟩, hS2⟩
     rw [rangeT_length] at hl hr
     rw [hK2]; clear hK2
     refine seq_cut fun K3 hK3 => ?_
     walk_at "rd"
     refine ⟨by decide, fun q hq => ?_⟩
     have hq1 : (updM M2 q (.lst ([false, false, false, true, false, false, true].map .bl))) q = some (.lst ([false, false, false, true, false, false, true].map .bl)) := updM_same
     have hS3 := hS2.newr hq (o := .lst ([false, false, false, true, false, false, true].map .bl))
     show K3 _ (updM M2 q (.lst ([false, false, false, true, false, false, true].map .bl)))
     generalize updM M2 q (.lst ([false, false, false, true, false, false, true].map .bl)) = M3 at hq1 hS3 ⊢
     clear hq hB1
     rw [hK3]; clear hK3
     refine seq_cut fun K4 hK4 => ?_
     walk_at "rd"
     have lr60 : ∀ r ∈ tab', r.length < 60 := fun r hr' => by have := hr r hr'; lia
     refine ⟨tab', rfl, by lia, lr60, ?_⟩
     dsimp only
     have fin : ∀ (d : Addr) (bs : List Bool) (M4 : MH), M4 d = some (.lst (bs.map .bl)) → Sub M M4 → (tabB tab' = false → xMk o6 "NoTable" = bs) → (tabB tab' = true → [] = bs) → K4 [some (T.rd (List.map T.int ns)), some (T.adr p), some (T.tup (List.map tupT tab')), x1, some (T.adr d)] M4 := by
       intro d bs M4 hd hS4 b0 b1
       rw [hK4]
       walk_at "rd"
       have two : ∀ (way : Int) (M5 : MH) (Qk : VK3), (∀ r, M5 r = none → Qk (.adr r) (updM M5 r (.lst (bs.map .bl)))) → sp__law_flags [.int way, .tup (tab'.map tupT)] M5 Qk := fun way M5 Qk hk => ⟨tab', rfl, by lia, lr60, fun z r hr => by rw [b0 z]; exact hk r hr, fun z r hr => by
         have := hk r hr
         rw [← b1 z] at this; exact this⟩
       refine two 0 M4 _ fun r hr => ?_
       have hX := Sub.new hr (o := MO.lst (bs.map .bl))
       have hr1 : (updM M4 r (MO.lst (bs.map .bl))) r = some (.lst (bs.map .bl)) := updM_same
       have hd1 := hX _ _ hd
       have hS5 := hS4.trans hX
       generalize updM M4 r (MO.lst (bs.map .bl)) = M5 at hr1 hd1 hS5 ⊢
       dsimp only
       rw [hr1, hd1]
       dsimp only
       refine ⟨pureTs_bools _, pureTs_bools _, by rw [depTs_bools]; decide, ?_⟩
       rw [eqTs_bools, decide_eq_true rfl, if_pos rfl]
       refine two 1 M5 _ fun r2 hr2 => ?_
       have hX2 := Sub.new hr2 (o := MO.lst (bs.map .bl))
       have hr3 : (updM M5 r2 (MO.lst (bs.map .bl))) r2 = some (.lst (bs.map .bl)) := updM_same
       have hd3 := hX2 _ _ hd1
       have hS6 := hS5.trans hX2
       generalize updM M5 r2 (MO.lst (bs.map .bl)) = M6 at hr3 hd3 hS6 ⊢
       dsimp only
       rw [hr3, hd3]
       dsimp only
       refine ⟨pureTs_bools _, pureTs_bools _, by rw [depTs_bools]; decide, ?_⟩
       rw [eqTs_bools, decide_eq_true rfl]
       exact rt3_sub h hS6
     by_cases z : tabB tab' = true
     · rw [if_pos z]
       intro r hr
       exact fin r [] _ updM_same (hS3.newr hr) (fun y => by rw [y] at z; cases z) (fun _ => rfl)
     · rw [if_neg z]
       exact fin q _ M3 hq1 hS3 (fun _ => x3) (fun y => absurd y z)
 · exact h.elim
theorem all_mk {l : PySem.W.OpenLaw} {w : World} {K : PySem.W.Frag} {h : Heap} {mg : Str → Option Value} {fa f1 f2 f3 f4 f5 f6 f7 f8 f9 f10 f11 f12 f13 f14 f15 f16 f17 f18 f19 f20 f21 f22 f23 : Addr} (X : K.In h) (G : h.Ns mainGlobals mg) (hfa : mg "law" = some (.ref fa))
   {od1 od2 od3 od4 od5 od6 od7 od8 od9 od10 od11 od12 od13 od14 od15 od16 od17 od18 od19 od20 od21 od22 od23 an1 an2 an3 an4 an5 an6 an7 an8 an9 an10 an11 an12 an13 an14 an15 an16 an17 an18 an19 an20 an21 an22 an23 : Option Addr} {sl1 sl2 sl3 sl4 sl5 sl6 sl7 sl8 sl9 sl10 sl11 sl12 sl13 sl14 sl15 sl16 sl17 sl18 sl19 sl20 sl21 sl22 sl23 : Array (Option Value)} {oc1 oc2 oc3 oc4 oc5 oc6 oc7 oc8 oc9 oc10 oc11 oc12 oc13 oc14 oc15 oc16 oc17 oc18 oc19 oc20 oc21 oc22 oc23 kV1 kV2 kV3 kV4 kV5 kV6 kV7 kV8 kV9 kV10 kV11 kV12 kV13 kV14 kV15 kV16 kV17 kV18 kV19 kV20 kV21 kV22 kV23 dc1 dc2 dc3 dc4 dc5 dc6 dc7 dc8 dc9 dc10 dc11 dc12 dc13 dc14 dc15 dc16 dc17 dc18 dc19 dc20 dc21 dc22 dc23 pm1 pm2 pm3 pm4 pm5 pm6 pm7 pm8 pm9 pm10 pm11 pm12 pm13 pm14 pm15 pm16 pm17 pm18 pm19 pm20 pm21 pm22 pm23 cd1 cd2 cd3 cd4 cd5 cd6 cd7 cd8 cd9 cd10 cd11 cd12 cd13 cd14 cd15 cd16 cd17 cd18 cd19 cd20 cd21 cd22 cd23 ct1 ct2 ct3 ct4 ct5 ct6 ct7 ct8 ct9 ct10 ct11 ct12 ct13 ct14 ct15 ct16 ct17 ct18 ct19 ct20 ct21 ct22 ct23 : Value}
   (a1 : PySem.W.nsIn K mainGlobals "is_letter" = some (some (.ref f1))) (l1 : K.lookup f1 = some ⟨oc1, od1, .func (PySem.W.fnOf "is_letter" "is_letter" (defArgs s_is_letter) (defBody s_is_letter) (defScope s_is_letter) .none kV1 dc1 pm1 an1 cd1 ct1), sl1⟩) (c1 : PySem.W.codeIn K cd1 "is_letter" = true) (k1 : PySem.W.keepIn K (.ref f1) = true)
   (a2 : PySem.W.nsIn K mainGlobals "is_word" = some (some (.ref f2))) (l2 : K.lookup f2 = some ⟨oc2, od2, .func (PySem.W.fnOf "is_word" "is_word" (defArgs s_is_word) (defBody s_is_word) (defScope s_is_word) .none kV2 dc2 pm2 an2 cd2 ct2), sl2⟩) (c2 : PySem.W.codeIn K cd2 "is_word" = true) (k2 : PySem.W.keepIn K (.ref f2) = true)
   (a3 : PySem.W.nsIn K mainGlobals "is_plait" = some (some (.ref f3))) (l3 : K.lookup f3 = some ⟨oc3, od3, .func (PySem.W.fnOf "is_plait" "is_plait" (defArgs s_is_plait) (defBody s_is_plait) (defScope s_is_plait) .none kV3 dc3 pm3 an3 cd3 ct3), sl3⟩) (c3 : PySem.W.codeIn K cd3 "is_plait" = true) (k3 : PySem.W.keepIn K (.ref f3) = true)
   (a4 : PySem.W.nsIn K mainGlobals "looked" = some (some (.ref f4))) (l4 : K.lookup f4 = some ⟨oc4, od4, .func (PySem.W.fnOf "looked" "looked" (defArgs s_looked) (defBody s_looked) (defScope s_looked) .none kV4 dc4 pm4 an4 cd4 ct4), sl4⟩) (c4 : PySem.W.codeIn K cd4 "looked" = true) (k4 : PySem.W.keepIn K (.ref f4) = true)
   (a5 : PySem.W.nsIn K mainGlobals "has_form" = some (some (.ref f5))) (l5 : K.lookup f5 = some ⟨oc5, od5, .func (PySem.W.fnOf "has_form" "has_form" (defArgs s_has_form) (defBody s_has_form) (defScope s_has_form) .none kV5 dc5 pm5 an5 cd5 ct5), sl5⟩) (c5 : PySem.W.codeIn K cd5 "has_form" = true) (k5 : PySem.W.keepIn K (.ref f5) = true)
   (a6 : PySem.W.nsIn K mainGlobals "keeps_third_rule" = some (some (.ref f6))) (l6 : K.lookup f6 = some ⟨oc6, od6, .func (PySem.W.fnOf "keeps_third_rule" "keeps_third_rule" (defArgs s_keeps_third_rule) (defBody s_keeps_third_rule) (defScope s_keeps_third_rule) .none kV6 dc6 pm6 an6 cd6 ct6), sl6⟩) (c6 : PySem.W.codeIn K cd6 "keeps_third_rule" = true) (k6 : PySem.W.keepIn K (.ref f6) = true)
   (a7 : PySem.W.nsIn K mainGlobals "is_table" = some (some (.ref f7))) (l7 : K.lookup f7 = some ⟨oc7, od7, .func (PySem.W.fnOf "is_table" "is_table" (defArgs s_is_table) (defBody s_is_table) (defScope s_is_table) .none kV7 dc7 pm7 an7 cd7 ct7), sl7⟩) (c7 : PySem.W.codeIn K cd7 "is_table" = true) (k7 : PySem.W.keepIn K (.ref f7) = true)
   (a8 : PySem.W.nsIn K mainGlobals "looked_table" = some (some (.ref f8))) (l8 : K.lookup f8 = some ⟨oc8, od8, .func (PySem.W.fnOf "looked_table" "looked_table" (defArgs s_looked_table) (defBody s_looked_table) (defScope s_looked_table) .none kV8 dc8 pm8 an8 cd8 ct8), sl8⟩) (c8 : PySem.W.codeIn K cd8 "looked_table" = true) (k8 : PySem.W.keepIn K (.ref f8) = true)
   (a9 : PySem.W.nsIn K mainGlobals "undone" = some (some (.ref f9))) (l9 : K.lookup f9 = some ⟨oc9, od9, .func (PySem.W.fnOf "undone" "undone" (defArgs s_undone) (defBody s_undone) (defScope s_undone) .none kV9 dc9 pm9 an9 cd9 ct9), sl9⟩) (c9 : PySem.W.codeIn K cd9 "undone" = true) (k9 : PySem.W.keepIn K (.ref f9) = true)
   (a10 : PySem.W.nsIn K mainGlobals "led_down" = some (some (.ref f10))) (l10 : K.lookup f10 = some ⟨oc10, od10, .func (PySem.W.fnOf "led_down" "led_down" (defArgs s_led_down) (defBody s_led_down) (defScope s_led_down) .none kV10 dc10 pm10 an10 cd10 ct10), sl10⟩) (c10 : PySem.W.codeIn K cd10 "led_down" = true) (k10 : PySem.W.keepIn K (.ref f10) = true)
   (a11 : PySem.W.nsIn K mainGlobals "coloured" = some (some (.ref f11))) (l11 : K.lookup f11 = some ⟨oc11, od11, .func (PySem.W.fnOf "coloured" "coloured" (defArgs s_coloured) (defBody s_coloured) (defScope s_coloured) .none kV11 dc11 pm11 an11 cd11 ct11), sl11⟩) (c11 : PySem.W.codeIn K cd11 "coloured" = true) (k11 : PySem.W.keepIn K (.ref f11) = true)
   (a12 : PySem.W.nsIn K mainGlobals "all_rows" = some (some (.ref f12))) (l12 : K.lookup f12 = some ⟨oc12, od12, .func (PySem.W.fnOf "all_rows" "all_rows" (defArgs s_all_rows) (defBody s_all_rows) (defScope s_all_rows) .none kV12 dc12 pm12 an12 cd12 ct12), sl12⟩) (c12 : PySem.W.codeIn K cd12 "all_rows" = true) (k12 : PySem.W.keepIn K (.ref f12) = true)
   (a13 : PySem.W.nsIn K mainGlobals "colourings" = some (some (.ref f13))) (l13 : K.lookup f13 = some ⟨oc13, od13, .func (PySem.W.fnOf "colourings" "colourings" (defArgs s_colourings) (defBody s_colourings) (defScope s_colourings) .none kV13 dc13 pm13 an13 cd13 ct13), sl13⟩) (c13 : PySem.W.codeIn K cd13 "colourings" = true) (k13 : PySem.W.keepIn K (.ref f13) = true)
   (a14 : PySem.W.nsIn K mainGlobals "_law_state" = some (some (.ref f14))) (l14 : K.lookup f14 = some ⟨oc14, od14, .func (PySem.W.fnOf "_law_state" "_law_state" (defArgs s__law_state) (defBody s__law_state) (defScope s__law_state) .none kV14 dc14 pm14 an14 cd14 ct14), sl14⟩) (c14 : PySem.W.codeIn K cd14 "_law_state" = true) (k14 : PySem.W.keepIn K (.ref f14) = true)
   (a15 : PySem.W.nsIn K mainGlobals "_law_take" = some (some (.ref f15))) (l15 : K.lookup f15 = some ⟨oc15, od15, .func (PySem.W.fnOf "_law_take" "_law_take" (defArgs s__law_take) (defBody s__law_take) (defScope s__law_take) .none kV15 dc15 pm15 an15 cd15 ct15), sl15⟩) (c15 : PySem.W.codeIn K cd15 "_law_take" = true) (k15 : PySem.W.keepIn K (.ref f15) = true)
   (a16 : PySem.W.nsIn K mainGlobals "_law_named" = some (some (.ref f16))) (l16 : K.lookup f16 = some ⟨oc16, od16, .func (PySem.W.fnOf "_law_named" "_law_named" (defArgs s__law_named) (defBody s__law_named) (defScope s__law_named) .none kV16 dc16 pm16 an16 cd16 ct16), sl16⟩) (c16 : PySem.W.codeIn K cd16 "_law_named" = true) (k16 : PySem.W.keepIn K (.ref f16) = true)
   (a17 : PySem.W.nsIn K mainGlobals "_law_common" = some (some (.ref f17))) (l17 : K.lookup f17 = some ⟨oc17, od17, .func (PySem.W.fnOf "_law_common" "_law_common" (defArgs s__law_common) (defBody s__law_common) (defScope s__law_common) .none kV17 dc17 pm17 an17 cd17 ct17), sl17⟩) (c17 : PySem.W.codeIn K cd17 "_law_common" = true) (k17 : PySem.W.keepIn K (.ref f17) = true)
   (a18 : PySem.W.nsIn K mainGlobals "_law_table" = some (some (.ref f18))) (l18 : K.lookup f18 = some ⟨oc18, od18, .func (PySem.W.fnOf "_law_table" "_law_table" (defArgs s__law_table) (defBody s__law_table) (defScope s__law_table) .none kV18 dc18 pm18 an18 cd18 ct18), sl18⟩) (c18 : PySem.W.codeIn K cd18 "_law_table" = true) (k18 : PySem.W.keepIn K (.ref f18) = true)
   (a19 : PySem.W.nsIn K mainGlobals "_law_which" = some (some (.ref f19))) (l19 : K.lookup f19 = some ⟨oc19, od19, .func (PySem.W.fnOf "_law_which" "_law_which" (defArgs s__law_which) (defBody s__law_which) (defScope s__law_which) .none kV19 dc19 pm19 an19 cd19 ct19), sl19⟩) (c19 : PySem.W.codeIn K cd19 "_law_which" = true) (k19 : PySem.W.keepIn K (.ref f19) = true)
   (a20 : PySem.W.nsIn K mainGlobals "_law_good" = some (some (.ref f20))) (l20 : K.lookup f20 = some ⟨oc20, od20, .func (PySem.W.fnOf "_law_good" "_law_good" (defArgs s__law_good) (defBody s__law_good) (defScope s__law_good) .none kV20 dc20 pm20 an20 cd20 ct20), sl20⟩) (c20 : PySem.W.codeIn K cd20 "_law_good" = true) (k20 : PySem.W.keepIn K (.ref f20) = true)
   (a21 : PySem.W.nsIn K mainGlobals "_law_spoiled" = some (some (.ref f21))) (l21 : K.lookup f21 = some ⟨oc21, od21, .func (PySem.W.fnOf "_law_spoiled" "_law_spoiled" (defArgs s__law_spoiled) (defBody s__law_spoiled) (defScope s__law_spoiled) .none kV21 dc21 pm21 an21 cd21 ct21), sl21⟩) (c21 : PySem.W.codeIn K cd21 "_law_spoiled" = true) (k21 : PySem.W.keepIn K (.ref f21) = true)
   (a22 : PySem.W.nsIn K mainGlobals "_law_flags" = some (some (.ref f22))) (l22 : K.lookup f22 = some ⟨oc22, od22, .func (PySem.W.fnOf "_law_flags" "_law_flags" (defArgs s__law_flags) (defBody s__law_flags) (defScope s__law_flags) .none kV22 dc22 pm22 an22 cd22 ct22), sl22⟩) (c22 : PySem.W.codeIn K cd22 "_law_flags" = true) (k22 : PySem.W.keepIn K (.ref f22) = true)
   (a23 : PySem.W.nsIn K mainGlobals "law" = some (some (.ref f23))) (l23 : K.lookup f23 = some ⟨oc23, od23, .func (PySem.W.fnOf "law" "law" (defArgs s_law) (defBody s_law) (defScope s_law) .none kV23 dc23 pm23 an23 cd23 ct23), sl23⟩) (c23 : PySem.W.codeIn K cd23 "law" = true) (k23 : PySem.W.keepIn K (.ref f23) = true)
   (z_ValueError : PySem.W.nsIn K mainGlobals "ValueError" = some none)
   (z_abs : PySem.W.nsIn K mainGlobals "abs" = some none)
   (z_all : PySem.W.nsIn K mainGlobals "all" = some none)
   (z_enumerate : PySem.W.nsIn K mainGlobals "enumerate" = some none)
   (z_isinstance : PySem.W.nsIn K mainGlobals "isinstance" = some none)
   (z_len : PySem.W.nsIn K mainGlobals "len" = some none)
   (z_list : PySem.W.nsIn K mainGlobals "list" = some none)
   (z_max : PySem.W.nsIn K mainGlobals "max" = some none)
   (z_min : PySem.W.nsIn K mainGlobals "min" = some none)
   (z_range : PySem.W.nsIn K mainGlobals "range" = some none)
   (z_set : PySem.W.nsIn K mainGlobals "set" = some none)
   (z_sorted : PySem.W.nsIn K mainGlobals "sorted" = some none)
   (z_tuple : PySem.W.nsIn K mainGlobals "tuple" = some none)
   {tk_MOST_COLOURS : Tok} (g_MOST_COLOURS : PySem.W.nsIn K mainGlobals "MOST_COLOURS" = some (some (.int 7 tk_MOST_COLOURS)))
   {tk_MOST_LETTERS : Tok} (g_MOST_LETTERS : PySem.W.nsIn K mainGlobals "MOST_LETTERS" = some (some (.int 16 tk_MOST_LETTERS)))
   {tk_MOST_ROWS : Tok} (g_MOST_ROWS : PySem.W.nsIn K mainGlobals "MOST_ROWS" = some (some (.int 2500 tk_MOST_ROWS)))
   {tk_MOST_STRANDS : Tok} (g_MOST_STRANDS : PySem.W.nsIn K mainGlobals "MOST_STRANDS" = some (some (.int 6 tk_MOST_STRANDS)))
   {P_ z1 z2 z3 z4 z5 z6 : Addr} (n_P : PySem.W.nsIn K mainGlobals "PlaitError" = some (some (.ref P_)))
   (n_NoPlait : PySem.W.nsIn K mainGlobals "NoPlait" = some (some (.ref z1)))
   (n_NoStep : PySem.W.nsIn K mainGlobals "NoStep" = some (some (.ref z2)))
   (n_NoRoom : PySem.W.nsIn K mainGlobals "NoRoom" = some (some (.ref z3)))
   (n_NoTable : PySem.W.nsIn K mainGlobals "NoTable" = some (some (.ref z4)))
   (n_NoNumber : PySem.W.nsIn K mainGlobals "NoNumber" = some (some (.ref z5)))
   (n_BadNote : PySem.W.nsIn K mainGlobals "BadNote" = some (some (.ref z6)))
   (x_all : xAll K P_ [("NoPlait", z1), ("NoStep", z2), ("NoRoom", z3), ("NoTable", z4), ("NoNumber", z5), ("BadNote", z6)] = true)
   : ∃ fd : FuncData, (∀ (s : Shared) (v : Value), BindsTo s fd ⟨[v], []⟩ [("script", v)]) ∧ ∀ base : Heap, K.In base → base.Ns mainGlobals mg → FnOk l.prog w K mg base CX0 7 fa fd ["script"] (dSp K sp_law) := by
 have e := hfa.symm.trans (PySem.W.mg_of X G a23)
 cases e
 have XS : Xs K mg P_ [("NoPlait", z1), ("NoStep", z2), ("NoRoom", z3), ("NoTable", z4), ("NoNumber", z5), ("BadNote", z6)] := ⟨PySem.W.mg_of X G n_P, fun c hc => by
   simp only [List.mem_cons, List.not_mem_nil, or_false] at hc
   rcases hc with rfl | rfl | rfl | rfl | rfl | rfl
   · exact PySem.W.mg_of X G n_NoPlait
   · exact PySem.W.mg_of X G n_NoStep
   · exact PySem.W.mg_of X G n_NoRoom
   · exact PySem.W.mg_of X G n_NoTable
   · exact PySem.W.mg_of X G n_NoNumber
   · exact PySem.W.mg_of X G n_BadNote
   , x_all⟩
 have Z : Zs K P_ z1 z2 z3 z4 z5 z6 mg := ⟨XS, PySem.W.mg_none_of X G z_ValueError, PySem.W.mg_none_of X G z_abs, PySem.W.mg_none_of X G z_all, PySem.W.mg_none_of X G z_enumerate, PySem.W.mg_none_of X G z_isinstance, PySem.W.mg_none_of X G z_len, PySem.W.mg_none_of X G z_list, PySem.W.mg_none_of X G z_max, PySem.W.mg_none_of X G z_min, PySem.W.mg_none_of X G z_range, PySem.W.mg_none_of X G z_set, PySem.W.mg_none_of X G z_sorted, PySem.W.mg_none_of X G z_tuple, ⟨tk_MOST_COLOURS, PySem.W.mg_of X G g_MOST_COLOURS⟩, ⟨tk_MOST_LETTERS, PySem.W.mg_of X G g_MOST_LETTERS⟩, ⟨tk_MOST_ROWS, PySem.W.mg_of X G g_MOST_ROWS⟩, ⟨tk_MOST_STRANDS, PySem.W.mg_of X G g_MOST_STRANDS⟩⟩
 have F1 := fun_mk (st := s_is_letter) l1 c1 k1
 have b1 := F1.binds (ps := ["strands", "letter"]) fun _ _ _ _ _ _ us hl => len_2 (P := fun us => bindArgs _ ⟨us, []⟩ = pure (List.zip _ us)) hl (fun _ _ => rfl)
 have F2 := fun_mk (st := s_is_word) l2 c2 k2
 have b2 := F2.binds (ps := ["strands", "word", "most"]) fun _ _ _ _ _ _ us hl => len_3 (P := fun us => bindArgs _ ⟨us, []⟩ = pure (List.zip _ us)) hl (fun _ _ _ => rfl)
 have F3 := fun_mk (st := s_is_plait) l3 c3 k3
 have b3 := F3.binds (ps := ["plait"]) fun _ _ _ _ _ _ us hl => len_1 (P := fun us => bindArgs _ ⟨us, []⟩ = pure (List.zip _ us)) hl (fun _ => rfl)
 have F4 := fun_mk (st := s_looked) l4 c4 k4
 have b4 := F4.binds (ps := ["plait"]) fun _ _ _ _ _ _ us hl => len_1 (P := fun us => bindArgs _ ⟨us, []⟩ = pure (List.zip _ us)) hl (fun _ => rfl)
 have F5 := fun_mk (st := s_has_form) l5 c5 k5
 have b5 := F5.binds (ps := ["table"]) fun _ _ _ _ _ _ us hl => len_1 (P := fun us => bindArgs _ ⟨us, []⟩ = pure (List.zip _ us)) hl (fun _ => rfl)
 have F6 := fun_mk (st := s_keeps_third_rule) l6 c6 k6
 have b6 := F6.binds (ps := ["table", "c"]) fun _ _ _ _ _ _ us hl => len_2 (P := fun us => bindArgs _ ⟨us, []⟩ = pure (List.zip _ us)) hl (fun _ _ => rfl)
 have F7 := fun_mk (st := s_is_table) l7 c7 k7
 have b7 := F7.binds (ps := ["table"]) fun _ _ _ _ _ _ us hl => len_1 (P := fun us => bindArgs _ ⟨us, []⟩ = pure (List.zip _ us)) hl (fun _ => rfl)
 have F8 := fun_mk (st := s_looked_table) l8 c8 k8
 have b8 := F8.binds (ps := ["table"]) fun _ _ _ _ _ _ us hl => len_1 (P := fun us => bindArgs _ ⟨us, []⟩ = pure (List.zip _ us)) hl (fun _ => rfl)
 have F9 := fun_mk (st := s_undone) l9 c9 k9
 have b9 := F9.binds (ps := ["table"]) fun _ _ _ _ _ _ us hl => len_1 (P := fun us => bindArgs _ ⟨us, []⟩ = pure (List.zip _ us)) hl (fun _ => rfl)
 have F10 := fun_mk (st := s_led_down) l10 c10 k10
 have b10 := F10.binds (ps := ["table", "colour_by", "word", "colours"]) fun _ _ _ _ _ _ us hl => len_4 (P := fun us => bindArgs _ ⟨us, []⟩ = pure (List.zip _ us)) hl (fun _ _ _ _ => rfl)
 have F11 := fun_mk (st := s_coloured) l11 c11 k11
 have b11 := F11.binds (ps := ["table", "plait", "colours"]) fun _ _ _ _ _ _ us hl => len_3 (P := fun us => bindArgs _ ⟨us, []⟩ = pure (List.zip _ us)) hl (fun _ _ _ => rfl)
 have F12 := fun_mk (st := s_all_rows) l12 c12 k12
 have b12 := F12.binds (ps := ["many", "places"]) fun _ _ _ _ _ _ us hl => len_2 (P := fun us => bindArgs _ ⟨us, []⟩ = pure (List.zip _ us)) hl (fun _ _ => rfl)
 have F13 := fun_mk (st := s_colourings) l13 c13 k13
 have b13 := F13.binds (ps := ["table", "plait"]) fun _ _ _ _ _ _ us hl => len_2 (P := fun us => bindArgs _ ⟨us, []⟩ = pure (List.zip _ us)) hl (fun _ _ => rfl)
 have F14 := fun_mk (st := s__law_state) l14 c14 k14
 have b14 := F14.binds (ps := ["script", "k"]) fun _ _ _ _ _ _ us hl => len_2 (P := fun us => bindArgs _ ⟨us, []⟩ = pure (List.zip _ us)) hl (fun _ _ => rfl)
 have F15 := fun_mk (st := s__law_take) l15 c15 k15
 have b15 := F15.binds (ps := ["state", "many"]) fun _ _ _ _ _ _ us hl => len_2 (P := fun us => bindArgs _ ⟨us, []⟩ = pure (List.zip _ us)) hl (fun _ _ => rfl)
 have F16 := fun_mk (st := s__law_named) l16 c16 k16
 have b16 := F16.binds (ps := ["table", "state"]) fun _ _ _ _ _ _ us hl => len_2 (P := fun us => bindArgs _ ⟨us, []⟩ = pure (List.zip _ us)) hl (fun _ _ => rfl)
 have F17 := fun_mk (st := s__law_common) l17 c17 k17
 have b17 := F17.binds (ps := ["one", "other"]) fun _ _ _ _ _ _ us hl => len_2 (P := fun us => bindArgs _ ⟨us, []⟩ = pure (List.zip _ us)) hl (fun _ _ => rfl)
 have F18 := fun_mk (st := s__law_table) l18 c18 k18
 have b18 := F18.binds (ps := ["state", "most"]) fun _ _ _ _ _ _ us hl => len_2 (P := fun us => bindArgs _ ⟨us, []⟩ = pure (List.zip _ us)) hl (fun _ _ => rfl)
 have F19 := fun_mk (st := s__law_which) l19 c19 k19
 have b19 := F19.binds (ps := ["e"]) fun _ _ _ _ _ _ us hl => len_1 (P := fun us => bindArgs _ ⟨us, []⟩ = pure (List.zip _ us)) hl (fun _ => rfl)
 have F20 := fun_mk (st := s__law_good) l20 c20 k20
 have b20 := F20.binds (ps := ["table"]) fun _ _ _ _ _ _ us hl => len_1 (P := fun us => bindArgs _ ⟨us, []⟩ = pure (List.zip _ us)) hl (fun _ => rfl)
 have F21 := fun_mk (st := s__law_spoiled) l21 c21 k21
 have b21 := F21.binds (ps := ["state", "table"]) fun _ _ _ _ _ _ us hl => len_2 (P := fun us => bindArgs _ ⟨us, []⟩ = pure (List.zip _ us)) hl (fun _ _ => rfl)
 have F22 := fun_mk (st := s__law_flags) l22 c22 k22
 have b22 := F22.binds (ps := ["way", "table"]) fun _ _ _ _ _ _ us hl => len_2 (P := fun us => bindArgs _ ⟨us, []⟩ = pure (List.zip _ us)) hl (fun _ _ => rfl)
 have F23 := fun_mk (st := s_law) l23 c23 k23
 refine ⟨PySem.W.fnOf "law" "law" (defArgs s_law) (defBody s_law) (defScope s_law) .none kV23 dc23 pm23 an23 cd23 ct23, fun s v => .of_eq rfl, fun base _ _ => ?_⟩
 have D1 := ok_is_letter (P := l.prog) (w := w) (base := base) (n := 0) F1 (PySem.W.mg_of X G a1) b1 Z 
 have D2 := ok_is_word (P := l.prog) (w := w) (base := base) (n := 1) F2 (PySem.W.mg_of X G a2) b2 Z (D1.mono (by decide))
 have D3 := ok_is_plait (P := l.prog) (w := w) (base := base) (n := 2) F3 (PySem.W.mg_of X G a3) b3 Z (D2.mono (by decide))
 have D4 := ok_looked (P := l.prog) (w := w) (base := base) (n := 3) F4 (PySem.W.mg_of X G a4) b4 Z (D3.mono (by decide))
 have D5 := ok_has_form (P := l.prog) (w := w) (base := base) (n := 0) F5 (PySem.W.mg_of X G a5) b5 Z 
 have D6 := ok_keeps_third_rule (P := l.prog) (w := w) (base := base) (n := 0) F6 (PySem.W.mg_of X G a6) b6 Z 
 have D7 := ok_is_table (P := l.prog) (w := w) (base := base) (n := 1) F7 (PySem.W.mg_of X G a7) b7 Z (D5.mono (by decide)) (D6.mono (by decide))
 have D8 := ok_looked_table (P := l.prog) (w := w) (base := base) (n := 2) F8 (PySem.W.mg_of X G a8) b8 Z (D7.mono (by decide))
 have D9 := ok_undone (P := l.prog) (w := w) (base := base) (n := 0) F9 (PySem.W.mg_of X G a9) b9 Z 
 have D10 := ok_led_down (P := l.prog) (w := w) (base := base) (n := 0) F10 (PySem.W.mg_of X G a10) b10 Z 
 have D11 := ok_coloured (P := l.prog) (w := w) (base := base) (n := 4) F11 (PySem.W.mg_of X G a11) b11 Z (D4.mono (by decide)) (D8.mono (by decide)) (D10.mono (by decide)) (D9.mono (by decide))
 have D12 := ok_all_rows (P := l.prog) (w := w) (base := base) (n := 0) F12 (PySem.W.mg_of X G a12) b12 Z 
 have D13 := ok_colourings (P := l.prog) (w := w) (base := base) (n := 4) F13 (PySem.W.mg_of X G a13) b13 Z (D4.mono (by decide)) (D8.mono (by decide)) (D9.mono (by decide)) (D12.mono (by decide)) (D10.mono (by decide))
 have D14 := ok__law_state (P := l.prog) (w := w) (base := base) (n := 0) F14 (PySem.W.mg_of X G a14) b14 Z 
 have D15 := ok__law_take (P := l.prog) (w := w) (base := base) (n := 0) F15 (PySem.W.mg_of X G a15) b15 Z 
 have D16 := ok__law_named (P := l.prog) (w := w) (base := base) (n := 1) F16 (PySem.W.mg_of X G a16) b16 Z (D15.mono (by decide))
 have D17 := ok__law_common (P := l.prog) (w := w) (base := base) (n := 0) F17 (PySem.W.mg_of X G a17) b17 Z 
 have D18 := ok__law_table (P := l.prog) (w := w) (base := base) (n := 2) F18 (PySem.W.mg_of X G a18) b18 Z (D15.mono (by decide)) (D16.mono (by decide)) (D17.mono (by decide))
 have D19 := ok__law_which (P := l.prog) (w := w) (base := base) (n := 0) F19 (PySem.W.mg_of X G a19) b19 Z 
 have D20 := ok__law_good (P := l.prog) (w := w) (base := base) (n := 0) F20 (PySem.W.mg_of X G a20) b20 Z 
 have D21 := ok__law_spoiled (P := l.prog) (w := w) (base := base) (n := 1) F21 (PySem.W.mg_of X G a21) b21 Z (D15.mono (by decide))
 have D22 := ok__law_flags (P := l.prog) (w := w) (base := base) (n := 5) F22 (PySem.W.mg_of X G a22) b22 Z (D11.mono (by decide)) (D13.mono (by decide)) (D19.mono (by decide))
 exact ok_law (n := 6) F23 Z (D14.mono (by decide)) (D18.mono (by decide)) (D15.mono (by decide)) (D21.mono (by decide)) (D20.mono (by decide)) (D22.mono (by decide))
end L2
namespace PySem.W.Fast
theorem tw9714772351939397747:True:=⟨⟩
theorem tw10146225518824136523:True:=⟨⟩
theorem tw2528732054411031224:True:=⟨⟩
theorem tw2512041018118088198:True:=⟨⟩
theorem tw11303334920095912962:True:=⟨⟩
theorem tw10919005783121216963:True:=⟨⟩
theorem tw8641922517308566528:True:=⟨⟩
theorem tw5835382187223285064:True:=⟨⟩
theorem tw7983045136906509824:True:=⟨⟩
theorem tw7333622629504075337:True:=⟨⟩
theorem tw13261343548082170473:True:=⟨⟩
theorem tw12933996919645354023:True:=⟨⟩
theorem tw8452560519275959991:True:=⟨⟩
theorem tw9014480473878166034:True:=⟨⟩
theorem tw8785467792686350267:True:=⟨⟩
theorem tw185559922459003121:True:=⟨⟩
theorem tw13827129082180509148:True:=⟨⟩
theorem tw16971569013454675415:True:=⟨⟩
theorem tw15320058105540540984:True:=⟨⟩
theorem tw574264371826363062:True:=⟨⟩
theorem tw1751698478345643800:True:=⟨⟩
theorem tw11381339938607641128:True:=⟨⟩
theorem tw5761470272500299579:True:=⟨⟩
theorem tw16552287867731853414:True:=⟨⟩
theorem tw5344000753512477383:True:=⟨⟩
theorem tw581184151967356071:True:=⟨⟩
theorem tw14209365211146631580:True:=⟨⟩
theorem tw17136993727377353549:True:=⟨⟩
theorem tw10661566400216431423:True:=⟨⟩
theorem tw3587438562369721653:True:=⟨⟩
theorem tw9426855746800719775:True:=⟨⟩
theorem tw1836951865862061352:True:=⟨⟩
theorem tw15482384913085342668:True:=⟨⟩
theorem tw5831168216459938025:True:=⟨⟩
theorem tw4205189570046225310:True:=⟨⟩
theorem tw16441577402545753231:True:=⟨⟩
theorem tw3094333089719799627:True:=⟨⟩
theorem tw17013181136860438281:True:=⟨⟩
theorem tw16277325349471102876:True:=⟨⟩
theorem tw10893694605662515562:True:=⟨⟩
theorem tw12937281804897420299:True:=⟨⟩
theorem tw2347137483679698222:True:=⟨⟩
theorem tw4529588448233751887:True:=⟨⟩
theorem tw17199508935760030366:True:=⟨⟩
theorem tw4501303515048011786:True:=⟨⟩
theorem tw6517993311842899361:True:=⟨⟩
theorem tw15604314807801187023:True:=⟨⟩
theorem tw4567758226770540042:True:=⟨⟩
theorem tw6829441453154149656:True:=⟨⟩
theorem tw12929033729715875200:True:=⟨⟩
theorem tw13752329228088110674:True:=⟨⟩
theorem tw6444875099971778505:True:=⟨⟩
theorem tw7726252293467476606:True:=⟨⟩
theorem tw13311979148416036309:True:=⟨⟩
theorem tw9984106552739378994:True:=⟨⟩
theorem tw15975116457968564212:True:=⟨⟩
theorem tw15066776663437708553:True:=⟨⟩
theorem tw6546029554300485227:True:=⟨⟩
theorem tw4902665096899363661:True:=⟨⟩
theorem tw13222234766252339736:True:=⟨⟩
theorem tw8577352063043393678:True:=⟨⟩
theorem tw3306111826901777663:True:=⟨⟩
theorem tw3360415483124959240:True:=⟨⟩
theorem tw6809447965842420225:True:=⟨⟩
theorem tw4136573776058205892:True:=⟨⟩
theorem tw2391982680864631455:True:=⟨⟩
theorem tw17666890416636910291:True:=⟨⟩
theorem tw140123690355604693:True:=⟨⟩
theorem tw11555056078428352164:True:=⟨⟩
theorem tw4121198797933644011:True:=⟨⟩
theorem tw9963793818188641571:True:=⟨⟩
theorem tw6692154478711390050:True:=⟨⟩
theorem tw16936183602916156599:True:=⟨⟩
theorem tw10286973690260745990:True:=⟨⟩
theorem tw14118071202694866540:True:=⟨⟩
theorem tw13337450499235680081:True:=⟨⟩
theorem tw6416161807081519036:True:=⟨⟩
theorem tw15234699220161227908:True:=⟨⟩
theorem tw9578598715924562584:True:=⟨⟩
theorem tw16119543061372079659:True:=⟨⟩
theorem tw15180443100805709636:True:=⟨⟩
theorem tw42460478560442057:True:=⟨⟩
theorem tw3628380152627999410:True:=⟨⟩
theorem tw5042143519291816739:True:=⟨⟩
theorem tw13036135845764427030:True:=⟨⟩
theorem tw8643208908079567169:True:=⟨⟩
theorem tw14528303817437730582:True:=⟨⟩
theorem tw17427215892575992316:True:=⟨⟩
theorem tw10290998930237141893:True:=⟨⟩
theorem tw8294206469152787904:True:=⟨⟩
theorem tw16696913401113522134:True:=⟨⟩
theorem tw13834171870296782952:True:=⟨⟩
theorem tw2100063862785391967:True:=⟨⟩
theorem tw2141098173193653444:True:=⟨⟩
theorem tw1252936413082634530:True:=⟨⟩
theorem tw10422957084043538272:True:=⟨⟩
theorem tw15907866118625355552:True:=⟨⟩
theorem tw11516556012352649611:True:=⟨⟩
theorem tw323154119314121173:True:=⟨⟩
theorem tw15543137243648090817:True:=⟨⟩
theorem tw11688903561860206053:True:=⟨⟩
theorem tw10733257984441605067:True:=⟨⟩
theorem tw6325369562512814325:True:=⟨⟩
theorem tw7069443718530899651:True:=⟨⟩
theorem tw16270908941487225328:True:=⟨⟩
theorem tw9074314204605371581:True:=⟨⟩
theorem tw17028243894227994216:True:=⟨⟩
theorem tw5281713808529926331:True:=⟨⟩
theorem tw3730809549503118059:True:=⟨⟩
theorem tw923108119317858417:True:=⟨⟩
theorem tw12776857779033013344:True:=⟨⟩
theorem tw10646096060310519601:True:=⟨⟩
theorem tw9596316657130535573:True:=⟨⟩
theorem tw9960356475818606175:True:=⟨⟩
theorem tw3941305582660568308:True:=⟨⟩
theorem tw9882264700636486436:True:=⟨⟩
theorem tw16704228353407217016:True:=⟨⟩
theorem tw1317943323626089366:True:=⟨⟩
theorem tw17603188774624421679:True:=⟨⟩
theorem tw3675764433151522803:True:=⟨⟩
theorem tw1118817450156821160:True:=⟨⟩
theorem tw18015889965848453727:True:=⟨⟩
theorem tw9492779767527503491:True:=⟨⟩
theorem tw7894647943833200769:True:=⟨⟩
theorem tw16151563499292558489:True:=⟨⟩
theorem tw9226240798493915506:True:=⟨⟩
theorem tw6533574468503093984:True:=⟨⟩
theorem tw14071990466184446824:True:=⟨⟩
theorem tw3756147199127189659:True:=⟨⟩
theorem tw11793171103445976561:True:=⟨⟩
theorem tw15608319295582354938:True:=⟨⟩
theorem tw740456084315269232:True:=⟨⟩
theorem tw1298981042225521867:True:=⟨⟩
theorem tw8927284475925975508:True:=⟨⟩
theorem tw16349362670284726752:True:=⟨⟩
theorem tw8130760856679636425:True:=⟨⟩
theorem tw13942958257382481422:True:=⟨⟩
theorem tw9677428525621234322:True:=⟨⟩
theorem tw3002024993042068180:True:=⟨⟩
theorem tw6750408928613484571:True:=⟨⟩
theorem tw7505538286134193679:True:=⟨⟩
theorem tw12972094664646655055:True:=⟨⟩
theorem tw2059556034170596204:True:=⟨⟩
theorem tw617583836118657774:True:=⟨⟩
theorem tw6806004507617631447:True:=⟨⟩
theorem tw18298478169553631087:True:=⟨⟩
theorem tw801032866358120769:True:=⟨⟩
theorem tw8853412766100578533:True:=⟨⟩
theorem tw12503772828593373378:True:=⟨⟩
theorem tw6899840122335904615:True:=⟨⟩
theorem tw10714545925848169770:True:=⟨⟩
theorem tw5281273344938883268:True:=⟨⟩
theorem tw17504352742810862250:True:=⟨⟩
theorem tw17206941197444666505:True:=⟨⟩
theorem tw5441742024018916237:True:=⟨⟩
theorem tw7633503805716523990:True:=⟨⟩
theorem tw12309252174265308177:True:=⟨⟩
theorem tw5399690045564909802:True:=⟨⟩
theorem tw9768646974762096844:True:=⟨⟩
theorem tw4909481478053547533:True:=⟨⟩
theorem tw2136207652769148220:True:=⟨⟩
theorem tw3652893581291753294:True:=⟨⟩
theorem tw13861133827152522570:True:=⟨⟩
theorem tw18131401500592660719:True:=⟨⟩
theorem tw2602165846254657370:True:=⟨⟩
theorem tw273655223068408609:True:=⟨⟩
theorem tw8524399765042586484:True:=⟨⟩
theorem tw6621723371563262863:True:=⟨⟩
theorem tw4393675606980508203:True:=⟨⟩
theorem tw17061231450674731597:True:=⟨⟩
theorem tw6452197182362982156:True:=⟨⟩
theorem tw11037594165389955893:True:=⟨⟩
theorem tw7319325813444530905:True:=⟨⟩
theorem tw9338506451634647510:True:=⟨⟩
theorem tw2555624207802197550:True:=⟨⟩
theorem tw7286998986799635562:True:=⟨⟩
theorem tw16756678555460220977:True:=⟨⟩
theorem tw16444283606825686584:True:=⟨⟩
theorem tw8788292417697117607:True:=⟨⟩
theorem tw7473667454945646136:True:=⟨⟩
theorem tw14788745312159121001:True:=⟨⟩
theorem tw6341605405980838660:True:=⟨⟩
theorem tw6564598823482145489:True:=⟨⟩
theorem tw5006834433956960968:True:=⟨⟩
theorem tw8853829557392184987:True:=⟨⟩
theorem tw9000572650876133769:True:=⟨⟩
theorem tw11231230750617213849:True:=⟨⟩
theorem tw18419279130183066832:True:=⟨⟩
theorem tw17071250925383301949:True:=⟨⟩
theorem tw561971238955304393:True:=⟨⟩
theorem tw5027888409326351082:True:=⟨⟩
theorem tw3610433365596277940:True:=⟨⟩
theorem tw3445988484566567653:True:=⟨⟩
theorem tw17400152331792223503:True:=⟨⟩
theorem tw8443156244360458257:True:=⟨⟩
theorem tw2555065823264390093:True:=⟨⟩
theorem tw15043818552943005914:True:=⟨⟩
theorem tw16220398156735511009:True:=⟨⟩
theorem tw15969352270885341574:True:=⟨⟩
theorem tw14251065429452583699:True:=⟨⟩
theorem tw13030882237523398540:True:=⟨⟩
theorem tw355327424249791779:True:=⟨⟩
theorem tw9773702707688535797:True:=⟨⟩
theorem tw2423475529318210489:True:=⟨⟩
theorem tw1112967912252178255:True:=⟨⟩
theorem tw4603287340437985032:True:=⟨⟩
theorem tw10568905005010284200:True:=⟨⟩
theorem tw14054958374133101205:True:=⟨⟩
theorem tw1514258356745511634:True:=⟨⟩
theorem tw9087174630540149237:True:=⟨⟩
theorem tw9048373093103133392:True:=⟨⟩
theorem tw10788545214684486121:True:=⟨⟩
theorem tw16663823924433216872:True:=⟨⟩
theorem tw3659177166526645943:True:=⟨⟩
theorem tw17715910602171576919:True:=⟨⟩
theorem tw4411244168637623486:True:=⟨⟩
theorem tw13885271183072168522:True:=⟨⟩
theorem tw17324783449351922456:True:=⟨⟩
theorem tw16940199950005975265:True:=⟨⟩
theorem tw13246276769067180239:True:=⟨⟩
theorem tw17036406720421122070:True:=⟨⟩
theorem tw1515543785766894880:True:=⟨⟩
theorem tw14671401891089270335:True:=⟨⟩
theorem tw11090442818639792324:True:=⟨⟩
theorem tw4546112055102944870:True:=⟨⟩
theorem tw5848597280378738393:True:=⟨⟩
theorem tw3342757836946149832:True:=⟨⟩
theorem tw10158560256296012885:True:=⟨⟩
theorem tw11593211735790101501:True:=⟨⟩
theorem tw1645723006374327433:True:=⟨⟩
theorem tw16052157589840892199:True:=⟨⟩
theorem tw5250040573669352164:True:=⟨⟩
theorem tw14043020854030227688:True:=⟨⟩
theorem tw6979478281352733780:True:=⟨⟩
theorem tw1408305922564990526:True:=⟨⟩
theorem tw15248562539797567456:True:=⟨⟩
theorem tw8469040880113346828:True:=⟨⟩
theorem tw4285579277610600254:True:=⟨⟩
theorem tw4862125122319668211:True:=⟨⟩
theorem tw3505637925282238268:True:=⟨⟩
theorem tw486608641444931024:True:=⟨⟩
theorem tw4891555959110270241:True:=⟨⟩
theorem tw6599630445877686506:True:=⟨⟩
theorem tw4615625019305986254:True:=⟨⟩
theorem tw4776907336561023215:True:=⟨⟩
theorem tw14918729907439248731:True:=⟨⟩
theorem tw7517082140127592761:True:=⟨⟩
theorem tw1187831697492685678:True:=⟨⟩
theorem tw17088263924939972063:True:=⟨⟩
theorem tw17568129715703997958:True:=⟨⟩
theorem tw16733773764051863068:True:=⟨⟩
theorem tw10440621411981699642:True:=⟨⟩
theorem tw9212238294212758034:True:=⟨⟩
theorem tw638935435004323621:True:=⟨⟩
theorem tw5952235145077464202:True:=⟨⟩
theorem tw1646276396214813630:True:=⟨⟩
theorem tw15741646493755309210:True:=⟨⟩
theorem tw10580288455217106453:True:=⟨⟩
theorem tw13245438639932637553:True:=⟨⟩
theorem tw1312315753506065449:True:=⟨⟩
theorem tw7508352893090568810:True:=⟨⟩
theorem tw16412354528622892944:True:=⟨⟩
theorem tw14663813295291515113:True:=⟨⟩
theorem tw332894120574050129:True:=⟨⟩
theorem tw15789494936948000530:True:=⟨⟩
theorem tw1730517918093668335:True:=⟨⟩
theorem tw17531763859701184741:True:=⟨⟩
theorem tw5338581427001536084:True:=⟨⟩
theorem tw2394639107131221859:True:=⟨⟩
theorem tw11156710244937110163:True:=⟨⟩
theorem tw3903050649994405338:True:=⟨⟩
theorem tw5844869950527940574:True:=⟨⟩
theorem tw7282128324432774692:True:=⟨⟩
theorem tw10589187135477368732:True:=⟨⟩
theorem tw3465377409469785399:True:=⟨⟩
theorem tw2932224620963498194:True:=⟨⟩
theorem tw2772979927522826004:True:=⟨⟩
theorem tw8543953946177518394:True:=⟨⟩
theorem tw986089822317221487:True:=⟨⟩
theorem tw14539593790100649976:True:=⟨⟩
theorem tw4571261481935866102:True:=⟨⟩
end PySem.W.Fast
open PySem PySem.W PyProof.Rows
set_option maxRecDepth 100000 in
set_option maxHeartbeats 0 in
theorem PySem.Challenge.cw_loopwright_k61_tables_looked_at_holds : PySem.Challenge.rw_loopwright_k61_tables_looked_at.Holds := by
 w_on; o_law; k_head; (case hw => w_witness2)
 k_fill
 refine L2.law_walk (l := PySem.Challenge.rw_loopwright_k61_tables_looked_at) (k := 7) (sp := L2.sp_law) rfl rfl ⟨rfl, by decide, by decide⟩ (fun w h Y => PySem.W.kIn_of Y) L2.law_starts ?F
 case F =>
   intro w mg fa h KX G hmg
   refine' L2.all_mk KX G hmg ?a1 ?l1 ?c1 ?k1 ?a2 ?l2 ?c2 ?k2 ?a3 ?l3 ?c3 ?k3 ?a4 ?l4 ?c4 ?k4 ?a5 ?l5 ?c5 ?k5 ?a6 ?l6 ?c6 ?k6 ?a7 ?l7 ?c7 ?k7 ?a8 ?l8 ?c8 ?k8 ?a9 ?l9 ?c9 ?k9 ?a10 ?l10 ?c10 ?k10 ?a11 ?l11 ?c11 ?k11 ?a12 ?l12 ?c12 ?k12 ?a13 ?l13 ?c13 ?k13 ?a14 ?l14 ?c14 ?k14 ?a15 ?l15 ?c15 ?k15 ?a16 ?l16 ?c16 ?k16 ?a17 ?l17 ?c17 ?k17 ?a18 ?l18 ?c18 ?k18 ?a19 ?l19 ?c19 ?k19 ?a20 ?l20 ?c20 ?k20 ?a21 ?l21 ?c21 ?k21 ?a22 ?l22 ?c22 ?k22 ?a23 ?l23 ?c23 ?k23 ?z_ValueError ?z_abs ?z_all ?z_enumerate ?z_isinstance ?z_len ?z_list ?z_max ?z_min ?z_range ?z_set ?z_sorted ?z_tuple ?g_MOST_COLOURS ?g_MOST_LETTERS ?g_MOST_ROWS ?g_MOST_STRANDS ?n_P ?n_NoPlait ?n_NoStep ?n_NoRoom ?n_NoTable ?n_NoNumber ?n_BadNote ?x_all
   (case a1 => k_is)
   (case l1 => k_is)
   (case c1 => k_is)
   (case k1 => k_is)
   (case a2 => k_is)
   (case l2 => k_is)
   (case c2 => k_is)
   (case k2 => k_is)
   (case a3 => k_is)
   (case l3 => k_is)
   (case c3 => k_is)
   (case k3 => k_is)
   (case a4 => k_is)
   (case l4 => k_is)
   (case c4 => k_is)
   (case k4 => k_is)
   (case a5 => k_is)
   (case l5 => k_is)
   (case c5 => k_is)
   (case k5 => k_is)
   (case a6 => k_is)
   (case l6 => k_is)
   (case c6 => k_is)
   (case k6 => k_is)
   (case a7 => k_is)
   (case l7 => k_is)
   (case c7 => k_is)
   (case k7 => k_is)
   (case a8 => k_is)
   (case l8 => k_is)
   (case c8 => k_is)
   (case k8 => k_is)
   (case a9 => k_is)
   (case l9 => k_is)
   (case c9 => k_is)
   (case k9 => k_is)
   (case a10 => k_is)
   (case l10 => k_is)
   (case c10 => k_is)
   (case k10 => k_is)
   (case a11 => k_is)
   (case l11 => k_is)
   (case c11 => k_is)
   (case k11 => k_is)
   (case a12 => k_is)
   (case l12 => k_is)
   (case c12 => k_is)
   (case k12 => k_is)
   (case a13 => k_is)
   (case l13 => k_is)
   (case c13 => k_is)
   (case k13 => k_is)
   (case a14 => k_is)
   (case l14 => k_is)
   (case c14 => k_is)
   (case k14 => k_is)
   (case a15 => k_is)
   (case l15 => k_is)
   (case c15 => k_is)
   (case k15 => k_is)
   (case a16 => k_is)
   (case l16 => k_is)
   (case c16 => k_is)
   (case k16 => k_is)
   (case a17 => k_is)
   (case l17 => k_is)
   (case c17 => k_is)
   (case k17 => k_is)
   (case a18 => k_is)
   (case l18 => k_is)
   (case c18 => k_is)
   (case k18 => k_is)
   (case a19 => k_is)
   (case l19 => k_is)
   (case c19 => k_is)
   (case k19 => k_is)
   (case a20 => k_is)
   (case l20 => k_is)
   (case c20 => k_is)
   (case k20 => k_is)
   (case a21 => k_is)
   (case l21 => k_is)
   (case c21 => k_is)
   (case k21 => k_is)
   (case a22 => k_is)
   (case l22 => k_is)
   (case c22 => k_is)
   (case k22 => k_is)
   (case a23 => k_is)
   (case l23 => k_is)
   (case c23 => k_is)
   (case k23 => k_is)
   (case z_ValueError => k_is)
   (case z_abs => k_is)
   (case z_all => k_is)
   (case z_enumerate => k_is)
   (case z_isinstance => k_is)
   (case z_len => k_is)
   (case z_list => k_is)
   (case z_max => k_is)
   (case z_min => k_is)
   (case z_range => k_is)
   (case z_set => k_is)
   (case z_sorted => k_is)
   (case z_tuple => k_is)
   (case g_MOST_COLOURS => k_is)
   (case g_MOST_LETTERS => k_is)
   (case g_MOST_ROWS => k_is)
   (case g_MOST_STRANDS => k_is)
   (case n_P => k_is)
   (case n_NoPlait => k_is)
   (case n_NoStep => k_is)
   (case n_NoRoom => k_is)
   (case n_NoTable => k_is)
   (case n_NoNumber => k_is)
   (case n_BadNote => k_is)
   (case x_all => kernel_rfl)
