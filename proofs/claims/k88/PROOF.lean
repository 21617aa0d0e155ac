import PyProof.Rows.All
import Wide.All
import OpenK.AllK
import Wide.FinOn
import Lean
import PyProof.EqAt
import PyProof.EqKinds
import PyProof.TupleCall
import PySem.Challenge.RW_loopwright_k88_whole_moves_keep_the_sum
set_option Elab.async false
set_option linter.all false
set_option maxRecDepth 100000
namespace L2
open PySem PySem.Spec PyProof.Rows
noncomputable abbrev Key := Sum Int Str
noncomputable def keyIs : Key → Value → Bool
 | .inl k, v => Value.isInt k v
 | .inr x, v => Value.isStrOf x v
noncomputable def keyH (w : World) : Key → Int
 | .inl k => hashInt k
 | .inr x => hashStr w x
theorem keyIs_shape : ∀ {k : Key} {v : Value}, keyIs k v = true → (∃ i t, k = Sum.inl i ∧ v = Value.int i t) ∨ (∃ x t, k = Sum.inr x ∧ v = Value.str x t)
 | .inl i, v, h => by
   obtain ⟨t, e⟩ := Value.isInt_shape (k := i) (v := v) h
   exact .inl ⟨i, t, rfl, e⟩
 | .inr x, v, h => by
   obtain ⟨t, e⟩ := Value.isStrOf_shape (x := x) (v := v) h
   exact .inr ⟨x, t, rfl, e⟩
theorem keyIs_int (i : Int) (t : Tok) : keyIs (.inl i) (.int i t) = true := by simp [keyIs, Value.isInt]
theorem keyIs_str (x : Str) (t : Tok) : keyIs (.inr x) (.str x t) = true := by simp [keyIs, Value.isStrOf]
theorem key_ll (a b : Int) : decide ((Sum.inl a : Key) = Sum.inl b) = (a == b) := by
 by_cases e : a = b
 · subst e; simp
 · have h : ¬ (Sum.inl a : Key) = Sum.inl b := fun q => e (Sum.inl.inj q)
   rw [decide_eq_false h]
   exact (beq_eq_false_iff_ne.mpr e).symm
theorem key_rr (a b : Str) : decide ((Sum.inr a : Key) = Sum.inr b) = decide (a = b) := by
 by_cases e : a = b
 · subst e; simp
 · have h : ¬ (Sum.inr a : Key) = Sum.inr b := fun q => e (Sum.inr.inj q)
   rw [decide_eq_false h, decide_eq_false e]
theorem key_lr (a : Int) (b : Str) : decide ((Sum.inl a : Key) = Sum.inr b) = false := decide_eq_false (fun q => nomatch q)
theorem key_rl (a : Str) (b : Int) : decide ((Sum.inr a : Key) = Sum.inl b) = false := decide_eq_false (fun q => nomatch q)
noncomputable def mixKind (prog : Program) (w : World) : PySem.KeyKind prog w Key where
 is := keyIs
 hash := keyH w
 inj := fun v a b ha hb => by
   rcases keyIs_shape ha with ⟨i, t, rfl, rfl⟩ | ⟨x, t, rfl, rfl⟩
   · rcases keyIs_shape hb with ⟨j, u, rfl, e⟩ | ⟨y, u, rfl, e⟩
     · injection e with e1 _; rw [e1]
     · exact nomatch e
   · rcases keyIs_shape hb with ⟨j, u, rfl, e⟩ | ⟨y, u, rfl, e⟩
     · exact nomatch e
     · injection e with e1 _; rw [e1]
 byValue := fun k v h => by
   rcases keyIs_shape h with ⟨i, t, rfl, rfl⟩ | ⟨x, t, rfl, rfl⟩ <;> rfl
 pyHash := fun hv h => by
   rcases keyIs_shape hv with ⟨i, t, rfl, rfl⟩ | ⟨x, t, rfl, rfl⟩
   · exact wpAny_pyHash_int h
   · exact wpAny_pyHash_str h
 eqBool := fun hu hv h => by
   rcases keyIs_shape hu with ⟨i, t, rfl, rfl⟩ | ⟨x, t, rfl, rfl⟩
   · rcases keyIs_shape hv with ⟨j, u, rfl, rfl⟩ | ⟨y, u, rfl, rfl⟩
     · rw [key_ll] at h; exact wpAny_eqBool_int h
     · rw [key_lr] at h; exact SeqAt.EqAt.int_str i t y u _ _ _ _ h
   · rcases keyIs_shape hv with ⟨j, u, rfl, rfl⟩ | ⟨y, u, rfl, rfl⟩
     · rw [key_rl] at h; exact SeqAt.EqAt.str_int x t j u _ _ _ _ h
     · rw [key_rr] at h; exact wpAny_eqBool_str h
 «strs» := fun k x t v h => by
   rcases keyIs_shape h with ⟨i, u, rfl, e⟩ | ⟨y, u, rfl, e⟩
   · exact nomatch e
   · injection e with e1 _
     subst e1
     cases v <;> rfl
theorem mixKind_is (prog : Program) (w : World) (k : Key) (v : Value) : (mixKind prog w).is k v = keyIs k v := rfl
theorem mixKind_int (prog : Program) (w : World) (i : Int) (t : Tok) : (mixKind prog w).is (.inl i) (.int i t) = true := keyIs_int i t
theorem mixKind_str (prog : Program) (w : World) (x : Str) (t : Tok) : (mixKind prog w).is (.inr x) (.str x t) = true := keyIs_str x t
end L2
namespace L2
open PySem PySem.Spec PyProof.Rows
inductive V where
 | non | bl (b : Bool) | int (i : Int) | str (x : Str) | byt (b : Array UInt8) | flt (b : UInt64) | ref (a : Addr) | ty (n : String)
 deriving DecidableEq
noncomputable def RelV : V → Value → Prop
 | .non, u => u = Value.none
 | .bl b, u => u = Value.bool b
 | .int i, u => ∃ t, u = Value.int i t
 | .str x, u => ∃ t, u = Value.str x t
 | .byt b, u => ∃ t, u = Value.bytes b t
 | .flt b, u => ∃ t, u = Value.float b t
 | .ref a, u => u = Value.ref a
 | .ty n, u => u = Value.type n
noncomputable abbrev Vals : List V → List Value → Prop := Paired RelV
theorem Vals.length {xs : List V} {us : List Value} (r : Vals xs us) : xs.length = us.length := Paired.length r
theorem Vals.get : ∀ {xs : List V} {us : List Value} {i : Nat} {x : V}, Vals xs us → xs[i]? = some x → ∃ u, us[i]? = some u ∧ RelV x u
 | _, _, _, _, .nil, e => by simp at e
 | _, _, 0, _, .cons r _, e => by simp at e; subst e; exact ⟨_, rfl, r⟩
 | _, _, i + 1, x, .cons _ t, e => by
   obtain ⟨u, h1, h2⟩ := Vals.get (i := i) (x := x) t (by simpa using e)
   exact ⟨u, by simpa using h1, h2⟩
theorem Vals.set {x : V} {u : Value} (r : RelV x u) : ∀ {xs : List V} {us : List Value} (i : Nat), Vals xs us → Vals (xs.set i x) (us.set i u)
 | _, _, _, .nil => .nil
 | _, _, 0, .cons _ t => .cons r t
 | _, _, i + 1, .cons q t => .cons q (Vals.set r i t)
theorem Vals.append : ∀ {xs ys : List V} {us ws : List Value}, Vals xs us → Vals ys ws → Vals (xs ++ ys) (us ++ ws)
 | _, _, _, _, .nil, s => s
 | _, _, _, _, .cons r t, s => .cons r (Vals.append t s)
theorem Vals.take : ∀ {xs : List V} {us : List Value} (n : Nat), Vals xs us → Vals (xs.take n) (us.take n)
 | _, _, 0, _ => .nil
 | _, _, _ + 1, .nil => .nil
 | _, _, n + 1, .cons r t => .cons r (Vals.take n t)
theorem Vals.drop : ∀ {xs : List V} {us : List Value} (n : Nat), Vals xs us → Vals (xs.drop n) (us.drop n)
 | _, _, 0, r => r
 | _, _, _ + 1, .nil => .nil
 | _, _, n + 1, .cons _ t => Vals.drop n t
noncomputable def RelO : Option V → Option Value → Prop
 | some v, some u => RelV v u
 | none, none => True
 | _, _ => False
noncomputable def KV {κ : Type} : List (κ × V) → List (κ × Value) → Prop := Paired fun (p : κ × V) (q : κ × Value) => p.1 = q.1 ∧ RelV p.2 q.2
noncomputable def kV : Key → V
 | .inl i => .int i
 | .inr x => .str x
inductive HO where
 /-- a list -/
 | lst (xs : List V)
 /-- a tuple (never changes) -/
 | tup (xs : List V)
 /-- a dict whose keys are ints and texts; one whose keys are tuples of ints and texts (the empty one is both) -/
 | dK (kvs : List (Key × V)) | dT (kvs : List (List Key × V))
 /-- a set of ints: its members, its size -/
 | set (S : Int → Bool) (n : Nat)
 /-- an instance of the class at C, its dict at dx, its attributes -/
 | ins (C dx : Addr) (fs : List (Str × V))
 /-- the dict of the instance at x -/
 | own (x : Addr)
 /-- the dict of an exception -/
 | xd (fs : List (Str × V))
 /-- a bound method, f of x -/
 | met (f x : Addr)
 /-- a range object lo, lo + 1, .. below hi -/
 | rng (lo hi : Int)
 /-- a thing that is known to the object (the script; a dict while a loop walks it): read, never written while it is so -/
 | frz (o : Obj) (u : HO)
 /-- a code object's table -/
 | tbl (ps : Array Value)
 /-- any other thing, by what is true of its one object (a def of one's own: SetO a S n := HO.ext fun h => ..) -/
 | ext (φ : Heap → Prop)
noncomputable abbrev Hp := Addr → Option HO
noncomputable def IsTup0 (h : Heap) (a : Addr) (items : Array Value) : Prop := ∃ o, h.get? a = some o ∧ o.cls = .type "tuple" ∧ o.dict = none ∧ ∃ n, o.data = .seq items n
theorem IsTup0.t {h : Heap} {a : Addr} {items : Array Value} (x : IsTup0 h a items) : IsTup h a items := let ⟨o, e, c, _, n, d⟩ := x; ⟨o, e, c, n, d⟩
theorem IsTup0.lt {h : Heap} {a : Addr} {items : Array Value} (x : IsTup0 h a items) : a < h.objs.size := x.t.lt
theorem IsTup0.new (h : Heap) (items : Array Value) : IsTup0 (h.push { cls := .type "tuple", data := .seq items }) h.objs.size items := ⟨_, Heap.get?_push_size _ rfl, rfl, rfl, 0, rfl⟩
noncomputable def upd (H : Hp) (a : Addr) (o : HO) : Hp := fun b => if b = a then some o else H b
theorem upd_same {H : Hp} {a : Addr} {o : HO} : upd H a o a = some o := by unfold upd; rw [if_pos rfl]
theorem upd_ne {H : Hp} {a b : Addr} {o : HO} (h : b ≠ a) : upd H a o b = H b := by unfold upd; rw [if_neg h]
theorem ne_of {H : Hp} {a b : Addr} {o u : HO} (h : H a = some o) (h' : H b = some u) (d : o ≠ u) : a ≠ b := by
 intro e; subst e; rw [h] at h'; exact d (Option.some.inj h')
theorem ne_of_none {H : Hp} {a b : Addr} {o : HO} (h : H a = some o) (h' : H b = none) : a ≠ b := by
 intro e; subst e; rw [h] at h'; cases h'
section
variable (P : Program) (w : World)
noncomputable def ObjOk (H : Hp) (h : Heap) (a : Addr) : HO → Prop
 | .lst xs => xs.length ≤ sizeLine ∧ ∃ (its : List Value) (n : Nat), Vals xs its ∧ h.get? a = some { cls := .type "list", data := .seq its.toArray n }
 | .tup xs => xs.length ≤ sizeLine ∧ ∃ its : List Value, Vals xs its ∧ IsTup0 h a its.toArray
 | .dK kvs => kvs.length ≤ sizeLine ∧ (a == sysModules) = false ∧ ∃ vs, KV kvs vs ∧ h.DictOf (mixKind P w) a vs
 | .dT kvs => kvs.length ≤ sizeLine ∧ (a == sysModules) = false ∧ ∃ xs : List (List Key × Addr × Value),
     Paired (fun (p : List Key × V) (q : List Key × Addr × Value) => p.1 = q.1 ∧ H q.2.1 = some (.tup (p.1.map kV)) ∧ RelV p.2 q.2.2) kvs xs ∧
     ∃ o es ep, h.get? a = some o ∧ o.ExactDict ∧ o.data = .dict es ep ∧ es.toList = xs.map (entryOfKey (tupleKind (mixKind P w))) ∧ (xs.map (·.1)).Nodup
 | .set S n => h.SetOf (intKind P w) a S n
 | .ins C dx fs => H dx = some (.own a) ∧ fs.length ≤ 1000 ∧ dx ≠ a ∧ h.get? a = some (PySem.W.instObj C dx) ∧
     ∃ mA, h.Ns1 dx mA ∧ (∀ f, RelO (fs.lookup f) (mA f)) ∧ PySem.Within mA (fs.map (·.1))
 | .own _ => ∃ o, h.get? a = some o
 | .xd fs => ∃ mA, h.Ns1 a mA ∧ ∀ f, RelO (fs.lookup f) (mA f)
 | .rng lo hi => ∃ t u v, h.get? a = some { cls := .type "range", data := .fields #[.int lo t, .int hi u, .int 1 v] }
 | .frz o u => h.get? a = some o ∧ ObjOk H h a u
 | .tbl ps => h.get? a = some { cls := .none, data := .fields ps }
 | .met f x => h.get? a = some (PySem.W.methodObj (.ref f) (.ref x))
 | .ext φ => φ h ∧ (∃ o, h.get? a = some o) ∧ ∀ h1 h2 : Heap, φ h1 → (∀ o, h1.get? a = some o → h2.get? a = some o) → φ h2
noncomputable def HOk (H : Hp) (h : Heap) : Prop := ∀ a o, H a = some o → ObjOk P w H h a o
end
section
variable {P : Program} {w : World} {H H' : Hp} {h h' : Heap} {a : Addr} {o : HO}
theorem ObjOk.lt (x : ObjOk P w H h a o) : a < h.objs.size := by
 cases o with
 | lst xs => obtain ⟨_, _, _, _, e⟩ := x; exact Heap.lt_size e
 | tup xs => obtain ⟨_, _, _, p⟩ := x; exact p.lt
 | dK kvs => obtain ⟨_, _, _, _, o, _, _, e, _⟩ := x; exact Heap.lt_size e
 | dT kvs => obtain ⟨_, _, _, _, o, _, _, e, _⟩ := x; exact Heap.lt_size e
 | set S n => obtain ⟨o, _, _, _, e, _⟩ := x; exact Heap.lt_size e
 | ins C dx fs => obtain ⟨_, _, _, e, _⟩ := x; exact Heap.lt_size e
 | own y => obtain ⟨_, e⟩ := x; exact Heap.lt_size e
 | xd fs => obtain ⟨_, ⟨_, _, _, e, _⟩, _⟩ := x; exact Heap.lt_size e
 | rng lo hi => obtain ⟨_, _, _, e⟩ := x; exact Heap.lt_size e
 | frz ob u => obtain ⟨e, _⟩ := x; exact Heap.lt_size e
 | tbl ps => exact Heap.lt_size (show h.get? a = some _ from x)
 | met f y => exact Heap.lt_size (show h.get? a = some _ from x)
 | ext φ => obtain ⟨_, ⟨_, e⟩, _⟩ := x; exact Heap.lt_size e
theorem Paired.mapP {α β : Type} {F G : α → β → Prop} : ∀ {l₁ : List α} {l₂ : List β}, Paired F l₁ l₂ → (∀ a b, F a b → G a b) → Paired G l₁ l₂
 | _, _, .nil, _ => .nil
 | _, _, .cons r t, f => .cons (f _ _ r) (Paired.mapP t f)
theorem ObjOk.stay (x : ObjOk P w H h a o) (k : ∀ b u, (b = a ∨ H b = some (.own a)) → h.get? b = some u → h'.get? b = some u)
   (ho : ∀ b, H b = some (.own a) → H' b = some (.own a)) (ht : ∀ b xs, H b = some (.tup xs) → H' b = some (.tup xs)) : ObjOk P w H' h' a o := by
 induction o with
 | lst xs => obtain ⟨z, its, n, r, e⟩ := x; exact ⟨z, its, n, r, k _ _ (.inl rfl) e⟩
 | tup xs => obtain ⟨z, its, r, ob, e, c⟩ := x; exact ⟨z, its, r, ob, k _ _ (.inl rfl) e, c⟩
 | dK kvs => obtain ⟨z, y, vs, r, ob, es, ep, e, c⟩ := x; exact ⟨z, y, vs, r, ob, es, ep, k _ _ (.inl rfl) e, c⟩
 | dT kvs =>
   obtain ⟨z, y, xs, r, ob, es, ep, e, c⟩ := x
   exact ⟨z, y, xs, Paired.mapP r fun p q z => ⟨z.1, ht _ _ z.2.1, z.2.2⟩, ob, es, ep, k _ _ (.inl rfl) e, c⟩
 | set S n => obtain ⟨ob, es, ep, t, e, c⟩ := x; exact ⟨ob, es, ep, t, k _ _ (.inl rfl) e, c⟩
 | ins C dx fs =>
   obtain ⟨d, z, ne, e, mA, ⟨od, es, ep, e2, c⟩, r⟩ := x
   exact ⟨ho _ d, z, ne, k _ _ (.inl rfl) e, mA, ⟨od, es, ep, k _ _ (.inr d) e2, c⟩, r⟩
 | own y => obtain ⟨ob, e⟩ := x; exact ⟨ob, k _ _ (.inl rfl) e⟩
 | xd fs => obtain ⟨mA, ⟨od, es, ep, e, c⟩, r⟩ := x; exact ⟨mA, ⟨od, es, ep, k _ _ (.inl rfl) e, c⟩, r⟩
 | rng lo hi => obtain ⟨t, u, v, e⟩ := x; exact ⟨t, u, v, k _ _ (.inl rfl) e⟩
 | frz ob u ih => obtain ⟨e, q⟩ := x; exact ⟨k _ _ (.inl rfl) e, ih q⟩
 | tbl ps =>
   have e : h.get? a = some { cls := .none, data := .fields ps } := x
   show h'.get? a = some { cls := .none, data := .fields ps }
   exact k a _ (.inl rfl) e
 | met f y =>
   have e : h.get? a = some (PySem.W.methodObj (.ref f) (.ref y)) := x
   show h'.get? a = some (PySem.W.methodObj (.ref f) (.ref y))
   exact k a _ (.inl rfl) e
 | ext φ => obtain ⟨p, ⟨o, e⟩, st⟩ := x; exact ⟨st _ _ p fun o q => k _ _ (.inl rfl) q, ⟨o, k _ _ (.inl rfl) e⟩, st⟩
theorem HOk.lt (x : HOk P w H h) (e : H a = some o) : a < h.objs.size := (x a o e).lt
theorem HOk.fresh (x : HOk P w H h) (e : h.objs.size ≤ a) : H a = none := by
 cases q : H a with
 | none => rfl
 | some u => exact absurd (Nat.lt_of_lt_of_le (x.lt q) e) (Nat.lt_irrefl _)
theorem HOk.kept (x : HOk P w H h) (k : ∀ b u, h.get? b = some u → h'.get? b = some u) : HOk P w H h' := fun a o e =>
 (x a o e).stay (fun b u _ q => k b u q) (fun _ q => q) fun _ _ q => q
theorem HOk.laid (x : HOk P w H h) (k : ∀ b u, h.get? b = some u → h'.get? b = some u) (hp : h.objs.size ≤ a) (new : ObjOk P w (upd H a o) h' a o) : HOk P w (upd H a o) h' := fun b u e => by
 have hn := x.fresh hp
 by_cases hb : b = a
 · subst hb; rw [upd_same] at e; cases e; exact new
 · rw [upd_ne hb] at e
   exact (x b u e).stay (fun c v _ q => k c v q) (fun c q => by rw [upd_ne (ne_of_none q hn)]; exact q) fun c xs q => by rw [upd_ne (ne_of_none q hn)]; exact q
end
noncomputable def Rd (H : Hp) (a : Addr) (u : HO) : Prop := H a = some u ∨ ∃ o, H a = some (.frz o u)
theorem Rd.of {H : Hp} {a : Addr} {u : HO} (h : H a = some u) : Rd H a u := .inl h
theorem Rd.ok {P : Program} {w : World} {H : Hp} {h : Heap} {a : Addr} {u : HO} (r : Rd H a u) (x : HOk P w H h) : ObjOk P w H h a u := by
 rcases r with r | ⟨o, r⟩
 · exact x a u r
 · obtain ⟨_, q⟩ := x a _ r
   exact q
noncomputable def Mut : Option HO → Prop
 | some (.lst _) => True
 | some (.dK _) => True
 | some (.dT _) => True
 | some (.set _ _) => True
 | some (.ins _ _ _) => True
 | some (.ext _) => True
 | _ => False
section
variable {P : Program} {w : World} {H : Hp} {h h' : Heap} {x e : Addr} {o' : HO}
theorem HOk.write (ok : HOk P w H h) (mu : Mut (H x)) (he : e = x ∨ H e = some (.own x)) (k : ∀ b u, b ≠ e → h.get? b = some u → h'.get? b = some u) (heo : ∃ u, h'.get? e = some u)
   (new : ObjOk P w (upd H x o') h' x o') : HOk P w (upd H x o') h' := fun b u q => by
 have nown : ∀ c y, H c = some (.own y) → c ≠ x := fun c y r z => by subst z; rw [r] at mu; exact mu
 have ntup : ∀ c xs, H c = some (.tup xs) → c ≠ x := fun c xs r z => by subst z; rw [r] at mu; exact mu
 by_cases hb : b = x
 · subst hb; rw [upd_same] at q; cases q; exact new
 · rw [upd_ne hb] at q
   by_cases hbe : b = e
   · have q' : H b = some (.own x) := by
       rcases he with z | z
       · exact absurd (hbe.trans z) hb
       · rw [hbe]; exact z
     rw [q] at q'; cases q'
     obtain ⟨v, hv⟩ := heo
     exact ⟨v, by rw [hbe]; exact hv⟩
   · refine (ok b u q).stay (fun c v hc r => k c v ?_ r) (fun c r => by rw [upd_ne (nown c b r)]; exact r) fun c xs r => by rw [upd_ne (ntup c xs r)]; exact r
     rcases hc with rfl | hc
     · exact hbe
     · rintro rfl
       rcases he with z | z
       · exact nown c b hc z
       · rw [hc] at z; cases z; exact hb rfl
end
structure Un (fs ex : List Addr) (H H' : Hp) (h h' : Heap) : Prop where
 keep : ∀ b o, h.get? b = some o → H b = none → b ∉ fs → b ∉ ex → h'.get? b = some o
 slot : ∀ b o, h.get? b = some o → H b = none → b ∈ fs → b ∉ ex → ∃ sl, h'.get? b = some { o with slots := sl }
 free : ∀ b o, h.get? b = some o → H b = none → b ∉ ex → H' b = none
 there : ∀ b o, h.get? b = some o → b ∉ ex → ∃ o', h'.get? b = some o'
 tups : ∀ b xs, H b = some (.tup xs) → H' b = some (.tup xs)
 frzs : ∀ b o u, H b = some (.frz o u) → H' b = some (.frz o u)
 tbls : ∀ b ps, H b = some (.tbl ps) → ∃ more, H' b = some (.tbl (ps ++ more))
section
variable {fs fs' ex ex' : List Addr} {H H1 H2 : Hp} {h h1 h2 h' : Heap} {a x e : Addr} {o : HO}
theorem Un.any (u : Un fs ex H H1 h h1) {b : Addr} {ob : Obj} (q : h.get? b = some ob) (n : H b = none) (hx : b ∉ ex) : ∃ sl, h1.get? b = some { ob with slots := sl } := by
 by_cases hb : b ∈ fs
 · exact u.slot b ob q n hb hx
 · exact ⟨ob.slots, u.keep b ob q n hb hx⟩
theorem Un.kept (k : ∀ b u, h.get? b = some u → h'.get? b = some u) : Un fs ex H H h h' :=
 ⟨fun b ob q _ _ _ => k b ob q, fun b ob q _ _ _ => ⟨ob.slots, k b ob q⟩, fun _ _ _ n _ => n, fun b ob q _ => ⟨ob, k b ob q⟩, fun _ _ q => q, fun _ _ _ q => q, fun _ ps q => ⟨#[], by rw [q]; simp⟩⟩
theorem Un.refl : Un fs ex H H h h := Un.kept fun _ _ q => q
theorem Un.laid (k : ∀ b u, h.get? b = some u → h'.get? b = some u) (hp : h.objs.size ≤ a) (hn : H a = none) : Un fs ex H (upd H a o) h h' where
 keep := fun b u q _ _ _ => k b u q
 slot := fun b u q _ _ _ => ⟨u.slots, k b u q⟩
 free := fun b u q n _ => by rw [upd_ne (Nat.ne_of_lt (Nat.lt_of_lt_of_le (Heap.lt_size q) hp))]; exact n
 there := fun b u q _ => ⟨u, k b u q⟩
 tups := fun b xs q => by rw [upd_ne (ne_of_none q hn)]; exact q
 frzs := fun b u xs q => by rw [upd_ne (ne_of_none q hn)]; exact q
 tbls := fun b ps q => ⟨#[], by rw [upd_ne (ne_of_none q hn), q]; simp⟩
theorem Un.write (mu : Mut (H x)) (he : e = x ∨ H e = some (.own x)) (k : ∀ b u, b ≠ e → h.get? b = some u → h'.get? b = some u) (heo : ∃ u, h'.get? e = some u) : Un fs ex H (upd H x o) h h' := by
 have hx : ∀ b, H b = none → b ≠ x := fun b n z => by subst z; rw [n] at mu; exact mu
 have hb : ∀ b, H b = none → b ≠ e := fun b n z => by
   subst z
   rcases he with r | r
   · exact hx b n r
   · rw [n] at r; cases r
 have hm : ∀ b u, H b = some u → ¬ Mut (some u) → b ≠ x := fun b u q nm z => by subst z; rw [q] at mu; exact nm mu
 refine ⟨fun b u q n _ _ => k b u (hb b n) q, fun b u q n _ _ => ⟨u.slots, k b u (hb b n) q⟩, fun b u q n _ => by rw [upd_ne (hx b n)]; exact n, fun b u q _ => ?_,
   fun b xs q => by rw [upd_ne (hm b _ q fun z => z)]; exact q, fun b u xs q => by rw [upd_ne (hm b _ q fun z => z)]; exact q, fun b ps q => ⟨#[], by rw [upd_ne (hm b _ q fun z => z), q]; simp⟩⟩
 by_cases hbe : b = e
 · subst hbe; exact heo
 · exact ⟨u, k b u hbe q⟩
end
noncomputable def trk (h : Heap) (H : Hp) : List Addr := (List.range h.objs.size).filter fun a => (H a).isSome
noncomputable def hidT (h : Heap) (H : Hp) : Heap := PySem.W.hideAll h (trk h H)
theorem hidT_size (h : Heap) (H : Hp) : (hidT h H).objs.size = h.objs.size := PySem.W.hideAll_size _ _
theorem hidT_get {h : Heap} {H : Hp} {b : Addr} {o : Obj} (e : h.get? b = some o) (n : H b = none) : (hidT h H).get? b = some o :=
 PySem.W.hideAll_get _ e fun hm => by
   have q : (H b).isSome = true := (List.mem_filter.mp hm).2
   rw [n] at q; simp at q
theorem of_hidT {h : Heap} {H : Hp} {b : Addr} {o : Obj} (e : (hidT h H).get? b = some o) : h.get? b = some o ∧ H b = none := by
 have e' : h.get? b = some o := PySem.W.of_hideAll (trk h H) e
 refine ⟨e', ?_⟩
 cases q : H b with
 | none => rfl
 | some x =>
   have hm : b ∈ trk h H := List.mem_filter.mpr ⟨List.mem_range.mpr (Heap.lt_size e'), by simp [q]⟩
   have z : (hidT h H).get? b = none := PySem.W.hideAll_none (trk h H) hm
   rw [z] at e; cases e
end L2
namespace L2
open PySem PySem.Spec PyProof.Rows
structure Mod (K : PySem.W.Frag) (mg : Str → Option Value) (base : Heap) : Prop where
 kin : K.In base
 glob : base.Ns mainGlobals mg
 blt : ∃ mb, base.Ns builtinsNs mb ∧ ∀ x : Str, x ≠ "__name__" → mb x = bootBuiltins x
 nolimit : base.NoLimit
structure Cx where
 prog : Program
 w : World
 K : PySem.W.Frag
 mg : Str → Option Value
 base : Heap
 A : Around
 N : List Str
 s₀ : Shared
 H₀ : Hp
 env : Env
 outer : List Env
 stack : List Env
 ex : List Addr
 fn : Str → Bool
 calm : Bool
 pn : List (Addr × Obj)
 xe : Value → Shared → Prop
noncomputable def frs (l : List Env) : List Addr := l.filterMap (·.frame)
noncomputable abbrev Cx.fs (X : Cx) : List Addr := frs X.outer
noncomputable def Vis (sc : Scope) (x : Str) : Prop := sc.names.lookup x = some .local ∨ sc.names.lookup x = some .cell ∨ sc.names.lookup x = some .free
noncomputable def Loc (sc : Scope) (x : Str) : Prop := sc.names.lookup x = some .local ∨ sc.names.lookup x = some .cell
noncomputable def Look (env : Env) (h : Heap) (m : Str → Option Value) (x : Str) (u : Value) : Prop :=
 (env.kindOf x = some .local ∧ m x = some u) ∨ ((env.kindOf x = some .cell ∨ env.kindOf x = some .free) ∧ ∃ c, env.cells.lookup x = some c ∧ h.IsCell c (some u))
structure Cx.Ok (X : Cx) : Prop where
 mod : Mod X.K X.mg X.base
 kind : X.env.scope.kind = .function
 glob : X.env.globals = mainGlobals
 blt : X.env.builtins = builtinsNs
 above : X.s₀.heap.objs.size ≤ X.env.locals
 inj : ∀ x y c, X.env.cells.lookup x = some c → X.env.cells.lookup y = some c → x = y
 has : ∀ x, (X.env.kindOf x = some .cell ∨ X.env.kindOf x = some .free) → ∃ c, X.env.cells.lookup x = some c
 cab : ∀ x c, X.fn x = true → X.env.cells.lookup x = some c → X.s₀.heap.objs.size ≤ c
 hd : X.calm = true → X.A.handled = none
 frames : X.A.frames = some X.stack
 stk : X.stack = X.outer ∨ (X.stack = X.env :: X.outer ∧ X.env.frame = some X.env.locals)
 exf : ∀ b ∈ X.ex, b ≠ X.env.locals ∧ ∀ x c, X.env.cells.lookup x = some c → c ≠ b
 bs : ∀ b o, X.base.get? b = some o → X.s₀.heap.get? b = some o ∧ X.H₀ b = none
 bsz : X.base.objs.size ≤ X.s₀.heap.objs.size
 noex : ∀ b o, X.base.get? b = some o → b ∉ X.ex
 exfs : ∀ b ∈ X.ex, b ∉ X.fs
 funs : X.s₀.heap.FunFrames X.base X.outer
 frf : ∀ b ∈ X.fs, X.H₀ b = none
structure Inv (X : Cx) (pins : List (Addr × Obj)) (σ : List (Option V)) (H : Hp) (s : Shared) : Prop where
 ok : X.Ok
 os : s.os = X.s₀.os
 bare : AllBare s.gens
 base : Un X.fs X.ex X.H₀ H X.s₀.heap s.heap
 loc : ∃ m, s.heap.Ns X.env.locals m ∧ ∀ (i : Nat) (x : Str) (v : V), X.N[i]? = some x → σ[i]? = some (some v) → Vis X.env.scope x → ∃ u, RelV v u ∧ Look X.env s.heap m x u
 cell : ∀ x c, X.env.cells.lookup x = some c → ∃ v, s.heap.IsCell c v
 free : H X.env.locals = none
 freeC : ∀ x c, X.env.cells.lookup x = some c → H c = none
 pin : ∀ p ∈ X.pn ++ pins, s.heap.get? p.1 = some p.2 ∧ H p.1 = none ∧ p.1 ≠ X.env.locals ∧ p.1 ∉ X.fs ∧ ∀ v, p.2.data ≠ .cell v
 hok : HOk X.prog X.w H s.heap
 len : σ.length = X.N.length
section
variable {X : Cx} {pins : List (Addr × Obj)} {σ : List (Option V)} {H H' : Hp} {s : Shared} {h' : Heap}
theorem Cx.Ok.nofr (ok : X.Ok) {b : Addr} {o : Obj} (e : X.base.get? b = some o) : b ∉ X.fs := fun hb => by
 have := (ok.funs.mem hb).1
 rw [e] at this; cases this
theorem Inv.bs (I : Inv X pins σ H s) : ∀ b o, X.base.get? b = some o → s.heap.get? b = some o ∧ H b = none := fun b o e =>
 ⟨I.base.keep b o (I.ok.bs b o e).1 (I.ok.bs b o e).2 (I.ok.nofr e) (I.ok.noex b o e), I.base.free b o (I.ok.bs b o e).1 (I.ok.bs b o e).2 (I.ok.noex b o e)⟩
theorem Inv.bk (I : Inv X pins σ H s) : ∀ b o, X.base.get? b = some o → s.heap.get? b = some o := fun b o e => (I.bs b o e).1
theorem Inv.mod (I : Inv X pins σ H s) : Mod X.K X.mg X.base := I.ok.mod
theorem Inv.kIn (I : Inv X pins σ H s) : X.K.In s.heap := I.ok.mod.kin.keeps I.bk
theorem Inv.lt (I : Inv X pins σ H s) : X.env.locals < s.heap.objs.size := let ⟨_, hn, _⟩ := I.loc; hn.lt
theorem Inv.sz (I : Inv X pins σ H s) : X.s₀.heap.objs.size ≤ s.heap.objs.size := Nat.le_trans I.ok.above (Nat.le_of_lt I.lt)
theorem Inv.nofs (I : Inv X pins σ H s) {a : Addr} (h : s.heap.objs.size ≤ a) : a ∉ X.fs := fun hb => by
 obtain ⟨_, o, ho, _⟩ := I.ok.funs.mem hb
 exact absurd (Nat.lt_of_lt_of_le (Heap.lt_size ho) (Nat.le_trans I.sz h)) (Nat.lt_irrefl _)
theorem Inv.cne (I : Inv X pins σ H s) : ∀ x c, X.env.cells.lookup x = some c → c ≠ X.env.locals := fun x c e z => by
 obtain ⟨v, o, ho, hd⟩ := I.cell x c e
 obtain ⟨m, ⟨o', es, ep, ho', hd', _⟩, _⟩ := I.loc
 rw [z, ho'] at ho; cases ho; rw [hd'] at hd; cases hd
theorem Inv.funs (I : Inv X pins σ H s) : s.heap.FunFrames X.base X.outer := by
 have all : ∀ (l : List Env), (∀ b ∈ frs l, b ∈ X.fs) → X.s₀.heap.FunFrames X.base l → s.heap.FunFrames X.base l := by
   intro l
   induction l with
   | nil => intro _ _; trivial
   | cons env r ih =>
     intro hs hl
     obtain ⟨hk, ⟨L, o, hf, hn, ho, hd⟩, hr⟩ := hl
     have hL : L ∈ X.fs := hs L (by unfold frs; rw [List.filterMap_cons, hf]; exact List.mem_cons_self)
     obtain ⟨sl, e⟩ := I.base.slot L o ho (I.ok.frf L hL) hL fun z => I.ok.exfs L z hL
     exact ⟨hk, ⟨L, _, hf, hn, e, hd⟩, ih (fun b hb => hs b (by unfold frs; rw [List.filterMap_cons, hf]; exact List.mem_cons_of_mem _ hb)) hr⟩
 exact all X.outer (fun _ hb => hb) I.ok.funs
theorem Inv.stack (I : Inv X pins σ H s) : s.heap.FunFrames X.base X.stack := by
 rcases I.ok.stk with e | ⟨e, hf⟩
 · rw [e]; exact I.funs
 · rw [e]
   obtain ⟨m, hn, _⟩ := I.loc
   refine .cons (by rw [I.ok.kind]; decide) hf hn ?_ I.funs
   exact Heap.get?_none_of_le (Nat.le_trans I.ok.bsz I.ok.above)
theorem Inv.stkSub (I : Inv X pins σ H s) : ∀ b ∈ frs X.stack, b ∈ X.env.locals :: X.fs := fun b hb => by
 rcases I.ok.stk with e | ⟨e, hf⟩
 · rw [e] at hb; exact List.mem_cons_of_mem _ hb
 · rw [e] at hb
   unfold frs at hb
   rw [List.filterMap_cons, hf] at hb
   exact hb
theorem Inv.stkFree (I : Inv X pins σ H s) : ∀ b ∈ frs X.stack, H b = none := fun b hb => by
 rcases List.mem_cons.mp (I.stkSub b hb) with e | hb
 · rw [e]; exact I.free
 · obtain ⟨_, o, ho, _⟩ := I.ok.funs.mem hb
   exact I.base.free b o ho (I.ok.frf b hb) fun z => I.ok.exfs b z hb
theorem Inv.step {g' : Array GenState} {t' : Nat} {d' : Drawn} {ch : List Addr} (I : Inv X pins σ H s)
   (hch : ∀ b ∈ ch, (b ∈ X.ex ∨ X.s₀.heap.objs.size ≤ b) ∧ b ≠ X.env.locals ∧ (∀ x c, X.env.cells.lookup x = some c → c ≠ b) ∧ ∀ p ∈ X.pn ++ pins, p.1 ≠ b)
   (keep : ∀ b o, b ≠ X.env.locals → b ∉ X.fs → b ∉ ch → s.heap.get? b = some o → H b = none → h'.get? b = some o)
   (slot : ∀ b o, b ≠ X.env.locals → b ∈ X.fs → b ∉ ch → s.heap.get? b = some o → H b = none → ∃ sl, h'.get? b = some { o with slots := sl }) (free : ∀ b o, b ∉ ch → s.heap.get? b = some o → H b = none → H' b = none)
   (there : ∀ b o, b ∉ ch → s.heap.get? b = some o → ∃ o', h'.get? b = some o')
   (tups : ∀ b xs, H b = some (.tup xs) → H' b = some (.tup xs)) (frzs : ∀ b o u, H b = some (.frz o u) → H' b = some (.frz o u)) (tbls : ∀ b ps, H b = some (.tbl ps) → ∃ more, H' b = some (.tbl (ps ++ more)))
   (ns : ∀ m, s.heap.Ns X.env.locals m → h'.Ns X.env.locals m) (hok : HOk X.prog X.w H' h') (hg : AllBare g') :
   Inv X pins σ H' { s with heap := h', gens := g', drawn := d', toks := t' } := by
 have neL : ∀ b o, X.s₀.heap.get? b = some o → b ≠ X.env.locals := fun b o e => Nat.ne_of_lt (Nat.lt_of_lt_of_le (Heap.lt_size e) I.ok.above)
 have neC : ∀ b o, X.s₀.heap.get? b = some o → b ∉ X.ex → b ∉ ch := fun b o e hx hb => by
   rcases (hch b hb).1 with z | z
   · exact hx z
   · exact absurd (Nat.lt_of_lt_of_le (Heap.lt_size e) z) (Nat.lt_irrefl _)
 have cellK : ∀ x c, X.env.cells.lookup x = some c → ∀ v, s.heap.IsCell c v → h'.IsCell c v := fun x c e v ⟨o, ho, hd⟩ => by
   have nch : c ∉ ch := fun z => (hch c z).2.2.1 x c e rfl
   by_cases hc : c ∈ X.fs
   · obtain ⟨sl, q⟩ := slot c o (I.cne x c e) hc nch ho (I.freeC x c e)
     exact ⟨_, q, hd⟩
   · exact ⟨o, keep c o (I.cne x c e) hc nch ho (I.freeC x c e), hd⟩
 refine ⟨I.ok, I.os, hg, ⟨fun b o e n hb hx => ?_, fun b o e n hb hx => ?_, fun b o e n hx => ?_, fun b o e hx => ?_, fun b xs e => tups b xs (I.base.tups b xs e), fun b o xs e => frzs b o xs (I.base.frzs b o xs e), fun b ps e => ?_⟩, ?_, fun x c e => ?_, ?_, fun x c e => ?_, fun p hp => ?_, hok, I.len⟩
 · exact keep b o (neL b o e) hb (neC b o e hx) (I.base.keep b o e n hb hx) (I.base.free b o e n hx)
 · obtain ⟨sl, e1⟩ := I.base.slot b o e n hb hx
   obtain ⟨sl', e2⟩ := slot b _ (neL b o e) hb (neC b o e hx) e1 (I.base.free b o e n hx)
   exact ⟨sl', e2⟩
 · obtain ⟨o', e1⟩ := I.base.there b o e hx
   exact free b o' (neC b o e hx) e1 (I.base.free b o e n hx)
 · obtain ⟨o', e1⟩ := I.base.there b o e hx
   exact there b o' (neC b o e hx) e1
 · obtain ⟨m1, e1⟩ := I.base.tbls b ps e
   obtain ⟨m2, e2⟩ := tbls b _ e1
   exact ⟨m1 ++ m2, by rw [e2, Array.append_assoc]⟩
 · obtain ⟨m, hn, hl⟩ := I.loc
   refine ⟨m, ns m hn, fun i x v e1 e2 e3 => ?_⟩
   obtain ⟨u, r, l⟩ := hl i x v e1 e2 e3
   refine ⟨u, r, ?_⟩
   rcases l with l | ⟨k, c, e, z⟩
   · exact .inl l
   · exact .inr ⟨k, c, e, cellK x c e _ z⟩
 · obtain ⟨v, z⟩ := I.cell x c e
   exact ⟨v, cellK x c e v z⟩
 · obtain ⟨m, ⟨o, _, _, ho, _⟩, _⟩ := I.loc
   exact free _ o (fun z => (hch _ z).2.1 rfl) ho I.free
 · obtain ⟨v, o, ho, hd⟩ := I.cell x c e
   exact free c o (fun z => (hch c z).2.2.1 x c e rfl) ho (I.freeC x c e)
 · obtain ⟨e, n, ne, nf, d⟩ := I.pin p hp
   have nch : p.1 ∉ ch := fun z => (hch p.1 z).2.2.2 p hp rfl
   exact ⟨keep p.1 p.2 ne nf nch e n, free p.1 p.2 nch e n, ne, nf, d⟩
theorem Inv.un {t' : Nat} (I : Inv X pins σ H s) (u : Un X.fs [] H H' s.heap h') (hok : HOk X.prog X.w H' h') : Inv X pins σ H' { s with heap := h', toks := t' } := by
 obtain ⟨m, ⟨o, es, ep, ho, r⟩, _⟩ := id I.loc
 obtain ⟨sl, hL⟩ := u.any ho I.free (by simp)
 exact I.step (g' := s.gens) (d' := s.drawn) (ch := []) (fun _ z => nomatch z) (fun b o _ hb _ e n => u.keep b o e n hb (by simp)) (fun b o _ hb _ e n => u.slot b o e n hb (by simp)) (fun b o _ e n => u.free b o e n (by simp)) (fun b o _ e => u.there b o e (by simp)) u.tups u.frzs u.tbls (fun m' hm => by
   obtain ⟨o', es', ep', ho', r'⟩ := hm
   rw [ho] at ho'; cases ho'
   exact ⟨_, es', ep', hL, r'⟩) hok I.bare
theorem Inv.call {g' : Array GenState} {t' : Nat} {d' : Drawn} {ch : List Addr} (I : Inv X pins σ H s) (u : Un (frs X.stack) ch H H' s.heap h') (hok : HOk X.prog X.w H' h') (hg : AllBare g')
   (hch : ∀ b ∈ ch, (b ∈ X.ex ∨ X.s₀.heap.objs.size ≤ b) ∧ b ≠ X.env.locals ∧ (∀ x c, X.env.cells.lookup x = some c → c ≠ b) ∧ ∀ p ∈ X.pn ++ pins, p.1 ≠ b) :
   Inv X pins σ H' { s with heap := h', gens := g', drawn := d', toks := t' } := by
 obtain ⟨m, ⟨o, es, ep, ho, r⟩, _⟩ := id I.loc
 obtain ⟨sl, hL⟩ := u.any ho I.free fun z => (hch _ z).2.1 rfl
 exact I.step (ch := ch) hch (fun b o hL hb hc e n => u.keep b o e n (fun z => (List.mem_cons.mp (I.stkSub b z)).elim hL hb) hc) (fun b o _ _ hc e n => u.any e n hc) (fun b o hc e n => u.free b o e n hc) (fun b o hc e => u.there b o e hc) u.tups u.frzs u.tbls (fun m' hm => by
   obtain ⟨o', es', ep', ho', r'⟩ := hm
   rw [ho] at ho'; cases ho'
   exact ⟨_, es', ep', hL, r'⟩) hok hg
theorem Inv.turned {t' : Nat} {it : Addr} (I : Inv X pins σ H s) (k : ∀ b o, b ≠ it → s.heap.get? b = some o → h'.get? b = some o) (hn : H it = none) (hL : it ≠ X.env.locals)
   (h1 : it ∈ X.ex ∨ X.s₀.heap.objs.size ≤ it) (h2 : ∀ x c, X.env.cells.lookup x = some c → c ≠ it) (h3 : ∀ p ∈ X.pn ++ pins, p.1 ≠ it) : Inv X pins σ H { s with heap := h', toks := t' } := by
 have nit : ∀ b u, H b = some u → b ≠ it := fun b u e z => by rw [z, hn] at e; cases e
 refine I.step (g' := s.gens) (d' := s.drawn) (ch := [it]) (fun b hb => ?_) (fun b o _ _ hc e _ => k b o (fun z => hc (by simp [z])) e) (fun b o _ _ hc e _ => ⟨o.slots, k b o (fun z => hc (by simp [z])) e⟩) (fun _ _ _ _ n => n)
   (fun b o hc e => ⟨o, k b o (fun z => hc (by simp [z])) e⟩) (fun _ _ e => e) (fun _ _ _ e => e) (fun b ps e => ⟨#[], by rw [e]; simp⟩) (fun m hm => ?_) (fun b u e => ?_) I.bare
 · have e : b = it := by simpa using hb
   subst e
   exact ⟨h1, hL, h2, h3⟩
 · obtain ⟨o, es, ep, ho, r⟩ := hm
   exact ⟨o, es, ep, k _ o (Ne.symm hL) ho, r⟩
 · refine (I.hok b u e).stay (fun c v hc q => k c v ?_ q) (fun _ q => q) fun _ _ q => q
   rcases hc with z | z
   · rw [z]; exact nit b u e
   · exact nit c _ z
theorem Inv.tok (I : Inv X pins σ H s) (t : Nat) : Inv X pins σ H { s with toks := t } := I.un (h' := s.heap) (t' := t) Un.refl I.hok
theorem Inv.kept {t' : Nat} (I : Inv X pins σ H s) (k : ∀ b u, s.heap.get? b = some u → h'.get? b = some u) : Inv X pins σ H { s with heap := h', toks := t' } := I.un (Un.kept k) (I.hok.kept k)
theorem Inv.laid {a : Addr} {o : HO} {t' : Nat} (I : Inv X pins σ H s) (k : ∀ b u, s.heap.get? b = some u → h'.get? b = some u) (hp : s.heap.objs.size ≤ a) (new : ObjOk X.prog X.w (upd H a o) h' a o) :
   Inv X pins σ (upd H a o) { s with heap := h', toks := t' } := I.un (Un.laid k hp (I.hok.fresh hp)) (I.hok.laid k hp new)
theorem Inv.write {x e : Addr} {o : HO} {t' : Nat} (I : Inv X pins σ H s) (mu : Mut (H x)) (he : e = x ∨ H e = some (.own x)) (k : ∀ b u, b ≠ e → s.heap.get? b = some u → h'.get? b = some u) (heo : ∃ u, h'.get? e = some u)
   (new : ObjOk X.prog X.w (upd H x o) h' x o) : Inv X pins σ (upd H x o) { s with heap := h', toks := t' } := I.un (Un.write mu he k heo) (I.hok.write mu he k heo new)
theorem Inv.weak {σ' : List (Option V)} (I : Inv X pins σ H s) (hl : σ'.length = σ.length) (w : ∀ (i : Nat) v, σ'[i]? = some (some v) → σ[i]? = some (some v)) : Inv X pins σ' H s :=
 ⟨I.ok, I.os, I.bare, I.base, let ⟨m, hn, hl'⟩ := I.loc; ⟨m, hn, fun i x v e1 e2 e3 => hl' i x v e1 (w i v e2) e3⟩, I.cell, I.free, I.freeC, I.pin, I.hok, hl.trans I.len⟩
theorem Inv.pins_of {pins' : List (Addr × Obj)} (I : Inv X pins σ H s) (h : ∀ p ∈ pins', s.heap.get? p.1 = some p.2 ∧ H p.1 = none ∧ p.1 ≠ X.env.locals ∧ p.1 ∉ X.fs ∧ ∀ v, p.2.data ≠ .cell v) : Inv X pins' σ H s :=
 ⟨I.ok, I.os, I.bare, I.base, I.loc, I.cell, I.free, I.freeC, fun p hp => (List.mem_append.mp hp).elim (fun z => I.pin p (List.mem_append_left _ z)) (h p), I.hok, I.len⟩
theorem nodup_ix {N : List Str} (hN : N.Nodup) {i j : Nat} {x : Str} (a : N[i]? = some x) (b : N[j]? = some x) : i = j := by
 obtain ⟨h1, e1⟩ := List.getElem?_eq_some_iff.mp a
 obtain ⟨h2, e2⟩ := List.getElem?_eq_some_iff.mp b
 exact (List.getElem_inj hN).mp (e1.trans e2.symm)
theorem store_ok2 {M : Model} {A : Around} {E : Value → Shared → Prop} {i : Nat} {x : Str} {v : V} {u : Value} {Q : Unit → Shared → Prop} (I : Inv X pins σ H s) (hN : X.N.Nodup) (hi : X.N[i]? = some x) (hx : Loc X.env.scope x) (r : RelV v u)
   (h : ∀ s', Inv X pins (σ.set i (some v)) H s' → (∃ a, Heap.SameBut a s.heap s'.heap ∧ (a = X.env.locals ∨ X.env.cells.lookup x = some a)) → Q () s') (hf : X.fn x = true ∨ X.env.scope.names.lookup x = some .local := by first | exact .inl rfl | exact .inr rfl | assumption) : wpAny M A (storeName X.env x u) Q E s := by
 obtain ⟨m, hn, hl⟩ := id I.loc
 have hcls : (X.env.scope.kind == .class || (X.env.scope.kind == .module && X.env.locals != X.env.globals)) = false := by rw [I.ok.kind]; rfl
 have hiσ : i < σ.length := by rw [I.len]; exact (List.getElem?_eq_some_iff.mp hi).1
 have cne := I.cne
 have tracked : ∀ {a : Addr} {h' : Heap}, (∃ o, s.heap.get? a = some o ∧ H a = none) → Heap.SameBut a s.heap h' → HOk X.prog X.w H h' := fun {a h'} ha hs b ob e => by
   obtain ⟨_, _, hfree⟩ := ha
   refine (I.hok b ob e).stay (fun c w' hc q => (hs.2 c ?_).trans q) (fun _ q => q) fun _ _ q => q
   rintro rfl
   rcases hc with rfl | hc
   · rw [hfree] at e; cases e
   · rw [hfree] at hc; cases hc
 rcases hx with hk | hk
 · refine wpAny_storeName_local hk hn (fun h' hn' hs => ?_) hcls
   obtain ⟨oL, _, _, hoL, _⟩ := id hn
   refine h _ ⟨I.ok, I.os, I.bare, ⟨fun b o e n hb hx => ?_, fun b o e n hb hx => ?_, I.base.free, fun b o e hx => ?_, I.base.tups, I.base.frzs, I.base.tbls⟩, ⟨_, hn', fun j y v' e1 e2 e3 => ?_⟩, fun y c e => ?_, I.free, I.freeC, fun p hp => ?_, tracked ⟨oL, hoL, I.free⟩ hs, by simpa using I.len⟩ ⟨_, hs, .inl rfl⟩
   · exact (hs.2 b (Nat.ne_of_lt (Nat.lt_of_lt_of_le (Heap.lt_size e) I.ok.above))).trans (I.base.keep b o e n hb hx)
   · obtain ⟨sl, e1⟩ := I.base.slot b o e n hb hx
     exact ⟨sl, (hs.2 b (Nat.ne_of_lt (Nat.lt_of_lt_of_le (Heap.lt_size e) I.ok.above))).trans e1⟩
   · obtain ⟨o', e1⟩ := I.base.there b o e hx
     exact ⟨o', (hs.2 b (Nat.ne_of_lt (Nat.lt_of_lt_of_le (Heap.lt_size e) I.ok.above))).trans e1⟩
   · by_cases hj : j = i
     · subst hj
       rw [hi] at e1; cases e1
       rw [List.getElem?_set_self hiσ] at e2
       cases e2
       exact ⟨u, r, .inl ⟨hk, by simp⟩⟩
     · rw [List.getElem?_set_ne (Ne.symm hj)] at e2
       obtain ⟨u', r', q⟩ := hl j y v' e1 e2 e3
       refine ⟨u', r', ?_⟩
       rcases q with ⟨k, e⟩ | ⟨k, c, e, z⟩
       · refine .inl ⟨k, ?_⟩
         have : y ≠ x := fun e => hj (nodup_ix hN e1 (e ▸ hi))
         simp [this, e]
       · exact .inr ⟨k, c, e, z.sameBut hs (cne y c e)⟩
   · obtain ⟨w', z⟩ := I.cell y c e
     exact ⟨w', z.sameBut hs (cne y c e)⟩
   · obtain ⟨e, n, ne, nf, d⟩ := I.pin p hp
     exact ⟨(hs.2 p.1 ne).trans e, n, ne, nf, d⟩
 · have hfn : X.fn x = true := by
     rcases hf with z | z
     · exact z
     · rw [z] at hk; cases hk
   obtain ⟨c, hc⟩ := I.ok.has x (.inl hk)
   obtain ⟨w', z⟩ := I.cell x c hc
   refine wpAny_storeName_cell I.ok.kind hk hc z (fun h' hc' hs => ?_)
   obtain ⟨oc, hoc, hocd⟩ := id z
   refine h { s with heap := h' } ⟨I.ok, I.os, I.bare, ⟨fun b o e n hb hx => ?_, fun b o e n hb hx => ?_, I.base.free, fun b o e hx => ?_, I.base.tups, I.base.frzs, I.base.tbls⟩, ⟨m, hn.sameBut hs (Ne.symm (cne x c hc)), fun j y v' e1 e2 e3 => ?_⟩, fun y c' e => ?_, I.free, I.freeC, fun p hp => ?_, tracked ⟨oc, hoc, I.freeC x c hc⟩ hs, by simpa using I.len⟩ ⟨c, hs, .inr hc⟩
   · exact (hs.2 b (Nat.ne_of_lt (Nat.lt_of_lt_of_le (Heap.lt_size e) (I.ok.cab x c hfn hc)))).trans (I.base.keep b o e n hb hx)
   · obtain ⟨sl, e1⟩ := I.base.slot b o e n hb hx
     exact ⟨sl, (hs.2 b (Nat.ne_of_lt (Nat.lt_of_lt_of_le (Heap.lt_size e) (I.ok.cab x c hfn hc)))).trans e1⟩
   · obtain ⟨o', e1⟩ := I.base.there b o e hx
     exact ⟨o', (hs.2 b (Nat.ne_of_lt (Nat.lt_of_lt_of_le (Heap.lt_size e) (I.ok.cab x c hfn hc)))).trans e1⟩
   · by_cases hj : j = i
     · subst hj
       rw [hi] at e1; cases e1
       rw [List.getElem?_set_self hiσ] at e2
       cases e2
       exact ⟨u, r, .inr ⟨.inl hk, c, hc, hc'⟩⟩
     · rw [List.getElem?_set_ne (Ne.symm hj)] at e2
       obtain ⟨u', r', q⟩ := hl j y v' e1 e2 e3
       refine ⟨u', r', ?_⟩
       rcases q with q | ⟨k, c', e, z'⟩
       · exact .inl q
       · refine .inr ⟨k, c', e, z'.sameBut hs ?_⟩
         rintro rfl
         exact hj (nodup_ix hN e1 (I.ok.inj _ _ _ e hc ▸ hi))
   · by_cases hcc : c' = c
     · subst hcc; exact ⟨_, hc'⟩
     · obtain ⟨w2, z2⟩ := I.cell y c' e
       exact ⟨w2, z2.sameBut hs hcc⟩
   · obtain ⟨e, n, ne, nf, d⟩ := I.pin p hp
     refine ⟨(hs.2 p.1 ?_).trans e, n, ne, nf, d⟩
     intro q
     rw [q, hoc] at e
     have q' : oc = p.2 := Option.some.inj e
     exact d w' (by rw [← q']; exact hocd)
theorem store_ok {M : Model} {A : Around} {E : Value → Shared → Prop} {i : Nat} {x : Str} {v : V} {u : Value} {Q : Unit → Shared → Prop} (I : Inv X pins σ H s) (hN : X.N.Nodup) (hi : X.N[i]? = some x) (hx : Loc X.env.scope x) (r : RelV v u)
   (h : ∀ s', Inv X pins (σ.set i (some v)) H s' → Q () s') (hf : X.fn x = true ∨ X.env.scope.names.lookup x = some .local := by first | exact .inl rfl | exact .inr rfl | assumption) : wpAny M A (storeName X.env x u) Q E s :=
 store_ok2 I hN hi hx r (fun s' I' _ => h s' I') hf
theorem Inv.call' {s' : Shared} {ch : List Addr} (I : Inv X pins σ H s) (ho : s'.os = s.os) (u : Un (frs X.stack) ch H H' s.heap s'.heap) (hok : HOk X.prog X.w H' s'.heap) (hg : AllBare s'.gens)
   (hch : ∀ b ∈ ch, (b ∈ X.ex ∨ X.s₀.heap.objs.size ≤ b) ∧ b ≠ X.env.locals ∧ (∀ x c, X.env.cells.lookup x = some c → c ≠ b) ∧ ∀ p ∈ X.pn ++ pins, p.1 ≠ b) : Inv X pins σ H' s' := by
 obtain ⟨h', g', d', t', o'⟩ := s'
 have e : o' = s.os := ho
 subst e
 exact I.call (g' := g') (t' := t') (d' := d') u hok hg hch
end
noncomputable abbrev XK := Value → Option Addr → Hp → Prop
noncomputable abbrev St := List (Option V)
noncomputable abbrev VK := V → Hp → Prop
noncomputable abbrev TE := St → Hp → VK → Prop
noncomputable abbrev TT := St → Hp → (Bool → Hp → Prop) → Prop
noncomputable abbrev TA := St → Hp → (List V → Hp → Prop) → Prop
structure Ends where
 nx : St → Hp → Prop
 rt : VK
 bk : St → Hp → Prop := fun _ _ => False
 ct : St → Hp → Prop := fun _ _ => False
noncomputable abbrev TS := Ends → St → Hp → Prop
noncomputable def EP (X : Cx) (pins : List (Addr × Obj)) (σ : St) (Q : VK) (u : Value) (s' : Shared) : Prop := ∃ v H', Inv X pins σ H' s' ∧ RelV v u ∧ Q v H'
noncomputable def TP (X : Cx) (pins : List (Addr × Obj)) (σ : St) (Q : Bool → Hp → Prop) (b : Bool) (s' : Shared) : Prop := ∃ H', Inv X pins σ H' s' ∧ Q b H'
noncomputable def AP (X : Cx) (pins : List (Addr × Obj)) (σ : St) (Q : List V → Hp → Prop) (us : List Value) (s' : Shared) : Prop := ∃ vs H', Inv X pins σ H' s' ∧ Vals vs us ∧ Q vs H'
noncomputable def SP (X : Cx) (pins : List (Addr × Obj)) (D : Ends) (f : Flow) (s' : Shared) : Prop :=
 match f with
 | .next => ∃ σ' H', Inv X pins σ' H' s' ∧ D.nx σ' H'
 | .brk => ∃ σ' H', Inv X pins σ' H' s' ∧ D.bk σ' H'
 | .cont => ∃ σ' H', Inv X pins σ' H' s' ∧ D.ct σ' H'
 | .ret u => ∃ v σ' H', Inv X pins σ' H' s' ∧ RelV v u ∧ D.rt v H'
noncomputable def PE (X : Cx) (e : Expr) (t : TE) : Prop :=
 ∀ (pins : List (Addr × Obj)) (s : Shared) (σ : St) (H : Hp) (Q : VK), Inv X pins σ H s → t σ H Q → wpAny (model X.prog X.w) X.A (eval e X.env) (EP X pins σ Q) X.xe s
noncomputable def PT (X : Cx) (e : Expr) (t : TT) : Prop :=
 ∀ (pins : List (Addr × Obj)) (s : Shared) (σ : St) (H : Hp) (Q : Bool → Hp → Prop), Inv X pins σ H s → t σ H Q → wpAny (model X.prog X.w) X.A (isTrue e X.env (eval e X.env)) (TP X pins σ Q) X.xe s
noncomputable def PW (X : Cx) (e : Expr) (t : TT) : Prop :=
 ∀ (whole : Sem Value) (pins : List (Addr × Obj)) (s : Shared) (σ : St) (H : Hp) (Q : Bool → Hp → Prop), Inv X pins σ H s → t σ H Q → wpAny (model X.prog X.w) X.A (isTrue e X.env whole) (TP X pins σ Q) X.xe s
theorem PW.pt {X : Cx} {e : Expr} {t : TT} (h : PW X e t) : PT X e t := h _
noncomputable def PA (X : Cx) (es : List Expr) (t : TA) : Prop :=
 ∀ (pos : Pos) (pins : List (Addr × Obj)) (s : Shared) (σ : St) (H : Hp) (Q : List V → Hp → Prop), Inv X pins σ H s → t σ H Q → wpAny (model X.prog X.w) X.A (spliced (backTo pos (starEach es X.env))) (AP X pins σ Q) X.xe s
noncomputable def PS (X : Cx) (st : Stmt) (t : TS) : Prop :=
 ∀ (pins : List (Addr × Obj)) (s : Shared) (σ : St) (H : Hp) (D : Ends), Inv X pins σ H s → t D σ H → wpAny (model X.prog X.w) X.A (exec st X.env) (SP X pins D) X.xe s
noncomputable def PSs (X : Cx) (st : List Stmt) (t : TS) : Prop :=
 ∀ (pins : List (Addr × Obj)) (s : Shared) (σ : St) (H : Hp) (D : Ends), Inv X pins σ H s → t D σ H → wpAny (model X.prog X.w) X.A (execs st X.env) (SP X pins D) X.xe s
theorem thn {α : Type} {t : Sem α} {Q Q' : α → Shared → Prop} {M : Model} {A : Around} {E : Value → Shared → Prop} {s : Shared} (h : wpAny M A t Q E s) (hQ : ∀ a s, Q a s → Q' a s) : wpAny M A t Q' E s := wpAny_mono h hQ fun _ _ x => x
end L2
namespace L2
open PySem PySem.Spec PyProof.Rows
section
variable {X : Cx}
noncomputable def tVar (i : Nat) : TE := fun σ H Q => ∃ v, σ[i]? = some (some v) ∧ Q v H
noncomputable def tC (v : V) : TE := fun _ H Q => Q v H
theorem pe_var {i : Nat} {x : Str} {pos : Pos} (hN : X.N[i]? = some x) (hv : Vis X.env.scope x) (hd : (x == ("__debug__" : Str)) = false := by decide) (hcd : (x == ("__classdict__" : Str)) = false := by decide) : PE X (.Name x pos) (tVar i) := by
 intro pins s σ H Q I h
 obtain ⟨v, e, h⟩ := h
 obtain ⟨m, hn, hl⟩ := I.loc
 obtain ⟨u, r, l⟩ := hl i x v hN e hv
 have fin : EP X pins σ Q u s := ⟨v, H, I, r, h⟩
 rcases l with ⟨hk, hm⟩ | ⟨hk, c, hc, hcell⟩
 · exact wpAny_Name (wpAny_loadName_local I.ok.kind hk hn hm fin) hd
 · rcases hk with hk | hk
   · exact wpAny_Name (wpAny_loadName_cell I.ok.kind hk hc hcell fin) hd
   · exact wpAny_Name (wpAny_loadName_free I.ok.kind hk hc hcell fin hcd) hd
theorem pe_int {i j pos} : PE X (.Constant (.int i) j pos) (tC (.int i)) := fun _ _ _ H _ I h => wpAny_Constant_int ⟨.int i, H, I.tok _, ⟨_, rfl⟩, h⟩
theorem pe_bl {b j pos} : PE X (.Constant (.bool b) j pos) (tC (.bl b)) := fun _ _ _ H _ I h => Constant_bool ⟨.bl b, H, I, rfl, h⟩
noncomputable def Gl (X : Cx) (x : Str) : Prop := X.env.kindOf x = some .globalImplicit
theorem ld_glob {E : Value → Shared → Prop} {pins : List (Addr × Obj)} {s : Shared} {σ : St} {H : Hp} {x : Str} {u : Value} {pos : Pos} {Q : Value → Shared → Prop} (I : Inv X pins σ H s) (hg : Gl X x) (hm : X.mg x = some u) (h : Q u s)
   (hd : (x == ("__debug__" : Str)) = false := by decide) : wpAny (model X.prog X.w) X.A (eval (.Name x pos) X.env) Q E s :=
 Calls.Name_function_global I.ok.kind hg (Calls.loadGlobal_global (by rw [I.ok.glob]; exact I.mod.glob.keeps I.bk) hm h) hd
theorem ld_blt {E : Value → Shared → Prop} {pins : List (Addr × Obj)} {s : Shared} {σ : St} {H : Hp} {x : Str} {u : Value} {pos : Pos} {Q : Value → Shared → Prop} (I : Inv X pins σ H s) (hg : Gl X x) (hm : X.mg x = none) (hv : bootBuiltins x = some u) (h : Q u s)
   (hn : x ≠ "__name__" := by decide) (hd : (x == ("__debug__" : Str)) = false := by decide) : wpAny (model X.prog X.w) X.A (eval (.Name x pos) X.env) Q E s := by
 obtain ⟨mb, h1, h2⟩ := I.mod.blt
 exact Calls.Name_function_global I.ok.kind hg (Calls.loadGlobal_builtin (by rw [I.ok.glob]; exact I.mod.glob.keeps I.bk) hm (by rw [I.ok.blt]; exact h1.keeps I.bk) ((h2 x hn).trans hv) h) hd
theorem pe_glob {x : Str} {v : V} {u : Value} {pos : Pos} (hg : Gl X x) (hm : X.mg x = some u) (r : RelV v u) (hd : (x == ("__debug__" : Str)) = false := by decide) : PE X (.Name x pos) (tC v) :=
 fun _ _ _ H _ I h => ld_glob I hg hm ⟨v, H, I, r, h⟩ hd
variable {a b : Expr} {ta tb : TE} {pos : Pos}
variable {tA tB' : TT} {rest : List Expr}
noncomputable def tAnd (t u : TT) : TT := fun σ H Q => t σ H fun c H1 => if c = true then u σ H1 Q else Q false H1
noncomputable def tOr (t u : TT) : TT := fun σ H Q => t σ H fun c H1 => if c = true then Q true H1 else u σ H1 Q
noncomputable def tNot (t : TT) : TT := fun σ H Q => t σ H fun c H1 => Q (!c) H1
theorem pw_and1 (ha : PT X a tA) : PW X (.BoolOp .And [a] pos) tA := by
 intro wh pins s σ H Q I h
 refine isTrue_and (thn (ha pins s σ H Q I h) fun c s1 e => ?_)
 cases c with
 | true => exact isTrue_and_nil e
 | false => exact e
theorem pw_or1 (ha : PT X a tA) : PW X (.BoolOp .Or [a] pos) tA := by
 intro wh pins s σ H Q I h
 refine isTrue_or (thn (ha pins s σ H Q I h) fun c s1 e => ?_)
 cases c with
 | false => exact isTrue_or_nil e
 | true => exact e
theorem pw_and (ha : PT X a tA) (hb : PW X (.BoolOp .And (b :: rest) pos) tB') : PW X (.BoolOp .And (a :: b :: rest) pos) (tAnd tA tB') := by
 intro wh pins s σ H Q I h
 refine isTrue_and (thn (ha pins s σ H _ I h) fun c s1 ⟨H1, I1, q1⟩ => ?_)
 cases c with
 | true => exact hb wh pins s1 σ H1 Q I1 q1
 | false => exact ⟨H1, I1, q1⟩
theorem pw_or (ha : PT X a tA) (hb : PW X (.BoolOp .Or (b :: rest) pos) tB') : PW X (.BoolOp .Or (a :: b :: rest) pos) (tOr tA tB') := by
 intro wh pins s σ H Q I h
 refine isTrue_or (thn (ha pins s σ H _ I h) fun c s1 ⟨H1, I1, q1⟩ => ?_)
 cases c with
 | true => exact ⟨H1, I1, q1⟩
 | false => exact hb wh pins s1 σ H1 Q I1 q1
theorem pt_not (ha : PT X a tA) : PT X (.UnaryOp .Not a pos) (tNot tA) := by
 intro pins s σ H Q I h
 exact isTrue_not (ha pins s σ H (fun c H1 => Q (!c) H1) I h)
noncomputable def tIf (t : TT) (ta tb : TE) : TE := fun σ H Q => t σ H fun c H1 => if c = true then ta σ H1 Q else tb σ H1 Q
theorem pe_ifExp {c : Expr} (hc : PT X c tA) (ha : PE X a ta) (hb : PE X b tb) : PE X (.IfExp c a b pos) (tIf tA ta tb) := by
 intro pins s σ H Q I h
 refine wpAny_IfExp (thn (hc pins s σ H _ I h) fun d s1 ⟨H1, I1, q1⟩ => ?_)
 cases d with
 | true => exact ha pins s1 σ H1 Q I1 q1
 | false => exact hb pins s1 σ H1 Q I1 q1
end
end L2
namespace L2
open PySem PySem.Spec PyProof.Rows
noncomputable def SqL (K : PySem.W.Frag) (H : Hp) (a : Addr) (xs : List V) : Prop :=
 Rd H a (.lst xs) ∨
   ∃ (o : Obj) (its : Array Value) (n : Nat), K.lookup a = some o ∧ o.cls = .type "list" ∧ o.dict = none ∧ o.data = .seq its n ∧ its.size ≤ sizeLine ∧ Vals xs its.toList
noncomputable def SqT (K : PySem.W.Frag) (H : Hp) (a : Addr) (xs : List V) : Prop :=
 Rd H a (.tup xs) ∨
   ∃ (o : Obj) (its : Array Value) (n : Nat), K.lookup a = some o ∧ o.cls = .type "tuple" ∧ o.dict = none ∧ o.data = .seq its n ∧ its.size ≤ sizeLine ∧ Vals xs its.toList
noncomputable def absV : Value → Option V
 | .none => some .non
 | .bool b => some (.bl b)
 | .int i _ => some (.int i)
 | .str x _ => some (.str x)
 | .bytes b _ => some (.byt b)
 | .float b _ => some (.flt b)
 | .ref a => some (.ref a)
 | .type n => some (.ty n)
 | _ => none
theorem RelV.abs {x : V} {u : Value} (r : RelV x u) : absV u = some x := by
 cases x with
 | non => cases r; rfl
 | bl _ => cases r; rfl
 | int _ => obtain ⟨t, rfl⟩ := r; rfl
 | str _ => obtain ⟨t, rfl⟩ := r; rfl
 | byt _ => obtain ⟨t, rfl⟩ := r; rfl
 | flt _ => obtain ⟨t, rfl⟩ := r; rfl
 | ref _ => cases r; rfl
 | ty _ => cases r; rfl
theorem RelV.inj {x y : V} {u : Value} (r : RelV x u) (q : RelV y u) : x = y := Option.some.inj (r.abs.symm.trans q.abs)
theorem Vals.inj : ∀ {xs ys : List V} {us : List Value}, Vals xs us → Vals ys us → xs = ys
 | _, _, _, .nil, .nil => rfl
 | _, _, _, .cons r t, .cons r' t' => by rw [r.inj r', Vals.inj t t']
section
variable {X : Cx} {pins : List (Addr × Obj)} {σ : St} {H : Hp} {s : Shared} {a : Addr} {xs ys : List V}
theorem SqL.of {K : PySem.W.Frag} (h : H a = some (.lst xs)) : SqL K H a xs := .inl (.inl h)
theorem SqT.of {K : PySem.W.Frag} (h : H a = some (.tup xs)) : SqT K H a xs := .inl (.inl h)
theorem Inv.list (I : Inv X pins σ H s) (h : SqL X.K H a xs) : ∃ its : List Value, Vals xs its ∧ PlainL s.heap a its.toArray ∧ xs.length ≤ sizeLine := by
 rcases h with h | ⟨o, its, n, hk, hc, hd, hs, hz, r⟩
 · obtain ⟨z, its, n, r, e⟩ := h.ok I.hok
   exact ⟨its, r, ⟨_, n, e, rfl, rfl, rfl⟩, z⟩
 · refine ⟨its.toList, r, ⟨o, n, I.kIn a o hk, hc, hd, by simpa using hs⟩, ?_⟩
   have e := r.length
   simp only [Array.length_toList] at e
   lia
theorem Inv.tuple (I : Inv X pins σ H s) (h : SqT X.K H a xs) : ∃ its : List Value, Vals xs its ∧ IsTup s.heap a its.toArray ∧ xs.length ≤ sizeLine := by
 rcases h with h | ⟨o, its, n, hk, hc, hd, hs, hz, r⟩
 · obtain ⟨z, its, r, p⟩ := h.ok I.hok
   exact ⟨its, r, p.t, z⟩
 · refine ⟨its.toList, r, ⟨o, I.kIn a o hk, hc, n, by simpa using hs⟩, ?_⟩
   have e := r.length
   simp only [Array.length_toList] at e
   lia
theorem Inv.tuple0 (I : Inv X pins σ H s) (h : SqT X.K H a xs) : ∃ its : List Value, Vals xs its ∧ IsTup0 s.heap a its.toArray ∧ xs.length ≤ sizeLine := by
 rcases h with h | ⟨o, its, n, hk, hc, hd, hs, hz, r⟩
 · obtain ⟨z, its, r, p⟩ := h.ok I.hok
   exact ⟨its, r, p, z⟩
 · refine ⟨its.toList, r, ⟨o, I.kIn a o hk, hc, hd, n, by simpa using hs⟩, ?_⟩
   have e := r.length
   simp only [Array.length_toList] at e
   lia
theorem Inv.list_inj (I : Inv X pins σ H s) (h : SqL X.K H a xs) (h' : SqL X.K H a ys) : xs = ys := by
 obtain ⟨its, r, ⟨o, n, e, _, _, d⟩, _⟩ := I.list h
 obtain ⟨its', r', ⟨o', n', e', _, _, d'⟩, _⟩ := I.list h'
 rw [e] at e'; cases e'
 rw [d] at d'
 injection d' with d1 _
 have : its = its' := by simpa using congrArg Array.toList d1
 subst this
 exact r.inj r'
theorem Inv.tuple_inj (I : Inv X pins σ H s) (h : SqT X.K H a xs) (h' : SqT X.K H a ys) : xs = ys := by
 obtain ⟨its, r, ⟨o, e, _, n, d⟩, _⟩ := I.tuple h
 obtain ⟨its', r', ⟨o', e', _, n', d'⟩, _⟩ := I.tuple h'
 rw [e] at e'; cases e'
 rw [d] at d'
 injection d' with d1 _
 have : its = its' := by simpa using congrArg Array.toList d1
 subst this
 exact r.inj r'
end
noncomputable abbrev Cx.wish (X : Cx) (E : Value → Shared → Prop) : Cx := { X with xe := E }
noncomputable abbrev Cx.nox (X : Cx) : Cx := X.wish fun _ _ => False
theorem Cx.Ok.wish {X : Cx} (ok : X.Ok) (E : Value → Shared → Prop) : (X.wish E).Ok :=
 ⟨ok.mod, ok.kind, ok.glob, ok.blt, ok.above, ok.inj, ok.has, ok.cab, ok.hd, ok.frames, ok.stk, ok.exf, ok.bs, ok.bsz, ok.noex, ok.exfs, ok.funs, ok.frf⟩
theorem Cx.Ok.unwish {X : Cx} {E : Value → Shared → Prop} (ok : (X.wish E).Ok) : X.Ok :=
 ⟨ok.mod, ok.kind, ok.glob, ok.blt, ok.above, ok.inj, ok.has, ok.cab, ok.hd, ok.frames, ok.stk, ok.exf, ok.bs, ok.bsz, ok.noex, ok.exfs, ok.funs, ok.frf⟩
section
variable {X : Cx} {pins : List (Addr × Obj)} {σ : St} {H : Hp} {s : Shared} {E : Value → Shared → Prop}
theorem Inv.wish (I : Inv X pins σ H s) (E : Value → Shared → Prop) : Inv (X.wish E) pins σ H s := ⟨I.ok.wish E, I.os, I.bare, I.base, I.loc, I.cell, I.free, I.freeC, I.pin, I.hok, I.len⟩
theorem Inv.unwish (I : Inv (X.wish E) pins σ H s) : Inv X pins σ H s := ⟨I.ok.unwish, I.os, I.bare, I.base, I.loc, I.cell, I.free, I.freeC, I.pin, I.hok, I.len⟩
theorem SP.unwish {D : Ends} {f : Flow} {s' : Shared} (h : SP (X.wish E) pins D f s') : SP X pins D f s' := by
 cases f with
 | next => obtain ⟨σ', H', I, q⟩ := h; exact ⟨σ', H', I.unwish, q⟩
 | brk => obtain ⟨σ', H', I, q⟩ := h; exact ⟨σ', H', I.unwish, q⟩
 | cont => obtain ⟨σ', H', I, q⟩ := h; exact ⟨σ', H', I.unwish, q⟩
 | ret u => obtain ⟨v, σ', H', I, r, q⟩ := h; exact ⟨v, σ', H', I.unwish, r, q⟩
theorem PSs.nox {st : List Stmt} {t : TS} (h : PSs X.nox st t) : PSs X st t := fun pins s σ H D I hw =>
 wpAny_mono (h pins s σ H D (I.wish _) hw) (fun _ _ q => q.unwish) fun _ _ z => False.elim z
end
section
variable {X : Cx} {st : Stmt} {rest : List Stmt} {t u : TS} {e : Expr} {te : TE} {pos : Pos}
noncomputable def tNext : TS := fun D σ H => D.nx σ H
noncomputable def tSeq (t u : TS) : TS := fun D σ H => t { D with nx := u D } σ H
theorem pss_nil : PSs X [] tNext := fun _ _ σ H _ I h => wpAny_execs_nil ⟨σ, H, I, h⟩
theorem pss_cons (h1 : PS X st t) (h2 : PSs X rest u) : PSs X (st :: rest) (tSeq t u) := by
 intro pins s σ H D I h
 refine wpAny_execs_cons (thn (h1 pins s σ H { D with nx := u D } I h) fun f s1 q => ?_)
 cases f with
 | next =>
   obtain ⟨σ', H', I', q⟩ := q
   exact h2 pins s1 σ' H' D I' q
 | ret v => exact q
 | brk => exact q
 | cont => exact q
theorem pss_one (h1 : PS X st t) : PSs X [st] t := by
 intro pins s σ H D I h
 refine wpAny_execs_cons (thn (h1 pins s σ H D I h) fun f s1 q => ?_)
 cases f with
 | next => exact wpAny_execs_nil q
 | ret v => exact q
 | brk => exact q
 | cont => exact q
theorem Inv.quiet {pins : List (Addr × Obj)} {σ : St} {H : Hp} {s : Shared} (I : Inv X pins σ H s) : interactive X.env = false := by simp [interactive, I.ok.kind]
noncomputable def tDrop (te : TE) : TS := fun D σ H => te σ H fun _ H1 => D.nx σ H1
theorem ps_expr (he : PE X e te) (hs : swapsWith e none pos.line X.env = pure false := by rfl) : PS X (.Expr e pos) (tDrop te) := by
 intro pins s σ H D I h
 exact wpAny_Expr_any (thn (he pins s σ H _ I h) fun v s1 ⟨x, H1, I1, r1, q1⟩ => ⟨σ, H1, I1, q1⟩) I.quiet hs
noncomputable def tRet (te : TE) : TS := fun D σ H => te σ H D.rt
theorem ps_ret (he : PE X e te) : PS X (.Return (some e) pos) (tRet te) := by
 intro pins s σ H D I h
 exact wpAny_Return_some (thn (he pins s σ H _ I h) fun v s1 ⟨x, H1, I1, r1, q1⟩ => ⟨x, σ, H1, I1, r1, q1⟩)
noncomputable def tIfS (c : TT) (t u : TS) : TS := fun D σ H => c σ H fun b H1 => if b = true then t D σ H1 else u D σ H1
theorem ps_if {c : Expr} {a b : List Stmt} {tc : TT} (hc : PT X c tc) (ha : PSs X a t) (hb : PSs X b u) : PS X (.If c a b pos) (tIfS tc t u) := by
 intro pins s σ H D I h
 refine wpAny_If (thn (hc pins s σ H _ I h) fun d s1 ⟨H1, I1, q1⟩ => ?_)
 cases d with
 | true => exact ha pins s1 σ H1 D I1 q1
 | false => exact hb pins s1 σ H1 D I1 q1
end
noncomputable abbrev TG := V → St → Hp → (St → Hp → Prop) → Prop
noncomputable abbrev TGs := List V → St → Hp → (St → Hp → Prop) → Prop
noncomputable def PG (X : Cx) (target : Expr) (t : TG) : Prop :=
 ∀ (pins : List (Addr × Obj)) (s : Shared) (σ : St) (H : Hp) (v : V) (u : Value) (Q : St → Hp → Prop), Inv X pins σ H s → RelV v u → t v σ H Q →
   wpAny (model X.prog X.w) X.A (assign target X.env u) (fun _ s' => ∃ σ' H', Inv X pins σ' H' s' ∧ Q σ' H') X.xe s
noncomputable def PGs (X : Cx) (ts : List Expr) (t : TGs) : Prop :=
 ∀ (pins : List (Addr × Obj)) (s : Shared) (σ : St) (H : Hp) (vs : List V) (us : List Value) (Q : St → Hp → Prop), Inv X pins σ H s → Vals vs us → t vs σ H Q →
   wpAny (model X.prog X.w) X.A (assignInOrder ((assignEach ts X.env).map (·.2)) us) (fun _ s' => ∃ σ' H', Inv X pins σ' H' s' ∧ Q σ' H') X.xe s
noncomputable abbrev TSet := V → V → V → Hp → (Hp → Prop) → Prop
noncomputable def PSet (X : Cx) (t : TSet) : Prop :=
 ∀ (pins : List (Addr × Obj)) (s : Shared) (σ : St) (H : Hp) (o i v : V) (ov iv u : Value) (Q : Hp → Prop), Inv X pins σ H s → RelV o ov → RelV i iv → RelV v u → t o i v H Q →
   wpAny (model X.prog X.w) X.A (setItem ov iv u) (fun _ s' => ∃ H', Inv X pins σ H' s' ∧ Q H') X.xe s
section
variable {X : Cx} {pos : Pos}
noncomputable def gName (i : Nat) : TG := fun v σ H Q => Q (σ.set i (some v)) H
theorem pg_name {i : Nat} {x : Str} (hN : X.N.Nodup) (hi : X.N[i]? = some x) (hx : Loc X.env.scope x) (hf : X.fn x = true ∨ X.env.scope.names.lookup x = some .local := by first | exact .inl rfl | exact .inr rfl | assumption) : PG X (.Name x pos) (gName i) := by
 intro pins s σ H v u Q I r h
 exact wpAny_assign_Name (store_ok I hN hi hx r (fun s' I' => ⟨_, H, I', h⟩) hf)
noncomputable def gNil : TGs := fun vs σ H Q => vs = [] ∧ Q σ H
noncomputable def gCons (t : TG) (u : TGs) : TGs := fun vs σ H Q => ∃ v r, vs = v :: r ∧ t v σ H fun σ' H' => u r σ' H' Q
theorem pgs_nil : PGs X [] gNil := by
 intro pins s σ H vs us Q I r h
 obtain ⟨e, h⟩ := h
 subst e
 cases r
 exact assignInOrder_nil ⟨σ, H, I, h⟩
theorem pgs_cons {e : Expr} {es : List Expr} {t : TG} {u : TGs} (h1 : PG X e t) (h2 : PGs X es u)
   (hs : (assignEach (e :: es) X.env).map (·.2) = assign e X.env :: (assignEach es X.env).map (·.2) := by rfl) : PGs X (e :: es) (gCons t u) := by
 intro pins s σ H vs us Q I r h
 obtain ⟨v, vr, e1, h⟩ := h
 subst e1
 cases r with
 | cons r rr =>
   rw [hs]
   refine assignInOrder_cons (thn (h1 pins s σ H _ _ _ I r h) fun _ s1 ⟨σ1, H1, I1, q1⟩ => ?_)
   exact h2 pins s1 σ1 H1 _ _ Q I1 rr q1
noncomputable def gTup (K : PySem.W.Frag) (n : Nat) (t : TGs) : TG := fun v σ H Q => ∃ a xs, v = .ref a ∧ SqT K H a xs ∧ xs.length = n ∧ t xs σ H Q
theorem pg_tup {es : List Expr} {k : Nat} {t : TGs} {n : Nat} (hc : X.calm = true) (h : PGs X es t)
   (hn : (assignEach es X.env).length = n := by rfl) (hst : (assignEach es X.env).findIdx? (·.1) = none := by rfl) : PG X (.Tuple es k pos) (gTup X.K n t) := by
 intro pins s σ H v u Q I r hw
 obtain ⟨a, xs, e1, hq, hl, hw⟩ := hw
 subst e1
 cases r
 obtain ⟨its, rv, ht, hz⟩ := I.tuple hq
 refine assign_Tuple_tuple (I.ok.hd hc) ht (by simp [hn, ← hl, rv.length]) hst fun h' hx => ?_
 have I1 : Inv X pins σ H { s with heap := h' } := I.kept (t' := s.toks) fun b o e => hx b o (Nat.ne_of_lt (Heap.lt_size e)) e
 exact h pins _ σ H xs _ Q I1 (by simpa using rv) hw
noncomputable def gSub (to ti : TE) (t : TSet) : TG := fun v σ H Q => to σ H fun o H1 => ti σ H1 fun i H2 => t o i v H2 fun H3 => Q σ H3
theorem pg_sub {o i : Expr} {to ti : TE} {t : TSet} (ho : PE X o to) (hi : PE X i ti) (hs : PSet X t)
   (ha : ∀ v, assign (.Subscript o i pos) X.env v = (do
     let ov ← holding [v] (eval o X.env)
     let iv ← holding [v, ov] (eval i X.env)
     standAt pos
     holding [v, ov, iv] (setItem ov iv v)
     release [v, ov, iv] []) := by intro _; rfl) : PG X (.Subscript o i pos) (gSub to ti t) := by
 intro pins s σ H v u Q I r h
 rw [ha]
 refine wpAny_bind (wpAny_holding (thn (ho pins s σ H _ I h) fun ov s1 ⟨x, H1, I1, r1, q1⟩ => ?_))
 refine wpAny_bind (wpAny_holding (thn (hi pins s1 σ H1 _ I1 q1) fun iv s2 ⟨y, H2, I2, r2, q2⟩ => ?_))
 refine wpAny_bind (wpAny_standAt (wpAny_bind (wpAny_holding (thn (hs pins s2 σ H2 x y v ov iv u _ I2 r1 r2 r q2) fun _ s3 ⟨H3, I3, q3⟩ => ?_))))
 exact wpAny_release ⟨σ, H3, I3, q3⟩
noncomputable def tAsg (te : TE) (g : TG) : TS := fun D σ H => te σ H fun x H1 => g x σ H1 D.nx
theorem ps_asg {tg e : Expr} {te : TE} {g : TG} (he : PE X e te) (hg : PG X tg g) (hs : swapsWithSole [tg] e pos.line X.env = pure false := by rfl) (hw : swappedStores [tg] e X.env = pure none := by rfl)
   (h1 : (assignEach [tg] X.env).map (·.2) = [assign tg X.env] := by rfl) : PS X (.Assign [tg] e pos) (tAsg te g) := by
 intro pins s σ H D I h
 refine wpAny_Assign_stores (thn (he pins s σ H _ I h) fun v s1 ⟨x, H1, I1, r1, q1⟩ => ?_) hs hw
 rw [h1]
 exact thn (hg pins s1 σ H1 x v _ I1 r1 q1) fun _ s2 q => q
theorem ps_set {i : Nat} {x : Str} {e : Expr} {te : TE} {pos' : Pos} (hN : X.N.Nodup) (hi : X.N[i]? = some x) (hx : Loc X.env.scope x) (he : PE X e te) (hs : swapsWith e (some (.Name x pos')) pos.line X.env = pure false := by rfl) (hf : X.fn x = true ∨ X.env.scope.names.lookup x = some .local := by first | exact .inl rfl | exact .inr rfl | assumption) :
   PS X (.Assign [.Name x pos'] e pos) (tAsg te (gName i)) := by
 intro pins s σ H D I h
 refine wpAny_Assign_Name (thn (he pins s σ H _ I h) fun v s1 ⟨y, H1, I1, r1, q1⟩ => ?_) hs
 exact store_ok I1 hN hi hx r1 (fun s2 I2 => ⟨_, H1, I2, q1⟩) hf
end
section
variable {X : Cx} {pos : Pos}
end
structure It where
 go : Nat → Hp → Prop
 yld : Nat → Hp → V → Hp → Prop
 stop : Nat → Hp → Prop
noncomputable def FpOk (X : Cx) (pins : List (Addr × Obj)) (H : Hp) (b : Addr) : Prop :=
 H b = none ∧ b ≠ X.env.locals ∧ b ∉ X.fs ∧ (b ∈ X.ex ∨ X.s₀.heap.objs.size ≤ b) ∧ (∀ x c, X.env.cells.lookup x = some c → c ≠ b) ∧ ∀ p ∈ X.pn ++ pins, p.1 ≠ b
theorem Inv.fpOk {X : Cx} {pins : List (Addr × Obj)} {σ : St} {H H' : Hp} {s : Shared} {b : Addr} (I : Inv X pins σ H s) (hb : s.heap.objs.size ≤ b) (hn : H' b = none) : FpOk X pins H' b := by
 refine ⟨hn, Nat.ne_of_gt (Nat.lt_of_lt_of_le I.lt hb), I.nofs hb, .inr (Nat.le_trans I.sz hb), fun x c e z => ?_, fun p hp z => ?_⟩
 · obtain ⟨v, q⟩ := I.cell x c e
   exact absurd (Nat.lt_of_lt_of_le q.lt (by rw [z]; exact hb)) (Nat.lt_irrefl _)
 · exact absurd (Nat.lt_of_lt_of_le (Heap.lt_size (I.pin p hp).1) (by rw [z]; exact hb)) (Nat.lt_irrefl _)
structure Turn (P : Program) (w : World) (K : PySem.W.Frag) (tg : Expr) (J : It) (fp : List Addr) (it : Addr) (tn : Nat → Heap → Prop) : Prop where
 mem : it ∈ fp
 obj : ∀ i h, tn i h → ∀ b ∈ fp, ∃ o, h.get? b = some o ∧ ∀ v, o.data ≠ .cell v
 keep : ∀ i h h', tn i h → (∀ b ∈ fp, ∀ o, h.get? b = some o → h'.get? b = some o) → tn i h'
 item : ∀ (X : Cx), X.prog = P → X.w = w → X.K = K → X.calm = true → ∀ (i : Nat) (pins : List (Addr × Obj)) (s : Shared) (σ : St) (H : Hp) (E : Value → Shared → Prop), Inv X pins σ H s → (∀ b ∈ fp, FpOk X pins H b) → tn i s.heap → J.go i H →
   wpAny (model P w) X.A (pyNext (.ref it)) (fun r s1 => ∃ u, r = some u ∧
     wpAny (model P w) X.A (letOwnedTupleGo tg (.ref it) u) (fun _ s2 => ∃ x H', Inv X pins σ H' s2 ∧ RelV x u ∧ J.yld i H x H' ∧ tn (i + 1) s2.heap ∧ ∀ b ∈ fp, H' b = none) E s1) E s
 done : ∀ (X : Cx), X.prog = P → X.w = w → X.K = K → X.calm = true → ∀ (i : Nat) (pins : List (Addr × Obj)) (s : Shared) (σ : St) (H : Hp) (E : Value → Shared → Prop), Inv X pins σ H s → (∀ b ∈ fp, FpOk X pins H b) → tn i s.heap → J.stop i H →
   wpAny (model P w) X.A (pyNext (.ref it)) (fun r s1 => r = none ∧ Inv X pins σ H s1) E s
 self : ∀ (A : Around) (i : Nat) (s : Shared) (Q : Value → Shared → Prop) (E : Value → Shared → Prop), tn i s.heap → Q (.ref it) s → wpAny (model P w) A (pyIter (.ref it)) Q E s
noncomputable abbrev TI := St → Hp → (It → Hp → Prop) → Prop
noncomputable def PIE (X : Cx) (pins : List (Addr × Obj)) (σ : St) (tg : Expr) (R : It → Hp → Prop) (itv : Value) (s2 : Shared) : Prop :=
 ∃ (it : Addr) (fp : List Addr) (tn : Nat → Heap → Prop) (J : It) (H' : Hp), itv = .ref it ∧ Inv X pins σ H' s2 ∧ Turn X.prog X.w X.K tg J fp it tn ∧ tn 0 s2.heap ∧ (∀ b ∈ fp, FpOk X pins H' b) ∧ R J H'
noncomputable def PI (X : Cx) (tg iter : Expr) (wi : TI) : Prop :=
 ∀ (pins : List (Addr × Obj)) (s : Shared) (σ : St) (H : Hp) (R : It → Hp → Prop), Inv X pins σ H s → wi σ H R →
   wpAny (model X.prog X.w) X.A (eval iter X.env) (fun v s1 => wpAny (model X.prog X.w) X.A (pyIter v) (PIE X pins σ tg R) X.xe s1) X.xe s
theorem go_of {M : Model} {A : Around} {E : Value → Shared → Prop} {s : Shared} {tg : Expr} {it : Addr} {u : Value} {o : Obj} {n : String} {vs : Array Value} {Q : Unit → Shared → Prop} (ho : s.heap.get? it = some o) (hc : o.cls = .type n) (hd : o.data = .fields vs)
   (hn : ["enumerate", "zip", "dict_itemiterator", "dict_reverseitemiterator", "odict_iterator", "itertools.zip_longest", "itertools.pairwise"].contains n = false) (hQ : Q () s) : wpAny M A (letOwnedTupleGo tg (.ref it) u) Q E s := by
 unfold letOwnedTupleGo
 cases tg <;> first
   | exact wpAny_pure hQ
   | (cases u <;> first
       | exact wpAny_pure hQ
       | (refine wpAny_bind (wpAny_load ho ?_)
          rw [hc, hd]
          show wpAny M A (if (["enumerate", "zip", "dict_itemiterator", "dict_reverseitemiterator", "odict_iterator", "itertools.zip_longest", "itertools.pairwise"].contains n && vs[0]? == some (rawInt _)) = true then _ else _) Q E s
          rw [if_neg (by intro h; rw [hn, Bool.false_and] at h; cases h)]
          exact wpAny_pure hQ))
noncomputable def Itl (K : PySem.W.Frag) (a : Addr) : It :=
 ⟨fun i H => ∃ xs x, SqL K H a xs ∧ xs[i]? = some x, fun i H x H' => H' = H ∧ ∀ xs, SqL K H a xs → xs[i]? = some x, fun i H => ∃ xs, SqL K H a xs ∧ xs.length ≤ i⟩
noncomputable def Itt (K : PySem.W.Frag) (a : Addr) : It :=
 ⟨fun i H => ∃ xs x, SqT K H a xs ∧ xs[i]? = some x, fun i H x H' => H' = H ∧ ∀ xs, SqT K H a xs → xs[i]? = some x, fun i H => ∃ xs, SqT K H a xs ∧ xs.length ≤ i⟩
noncomputable def Itr (lo : Int) (n : Nat) : It := ⟨fun i _ => i < n, fun i H x H' => H' = H ∧ x = .int (lo + i), fun i _ => n ≤ i⟩
theorem turn_list {P : Program} {w : World} {K : PySem.W.Frag} {tg : Expr} (a it : Addr) : Turn P w K tg (Itl K a) [it] it (fun i h => h.IsListIter it a i) where
 mem := by simp
 obj := fun i h st b hb => by
   have e : b = it := by simpa using hb
   subst e
   obtain ⟨o, e, c, d⟩ := st
   exact ⟨o, e, fun v z => by rw [d] at z; cases z⟩
 keep := fun i h h' st k => st.at fun o e => k it (by simp) o e
 item := by
   intro X hP hw hK hc i pins s σ H E I hf st hg
   subst hP hw hK
   obtain ⟨xs, x, hq, hx⟩ := hg
   obtain ⟨its, rv, p, hz⟩ := I.list hq
   obtain ⟨u, hu, ru⟩ := rv.get hx
   obtain ⟨f0, f1, f2, f3, f4, f5⟩ := hf it (by simp)
   refine wpAny_pyNext_list_item st p.isList (x := u) (by simpa using hu) fun h' st' sb => ?_
   have I1 : Inv X pins σ H { s with heap := h' } := I.turned (t' := s.toks) (fun b o hb e => (sb.2 b hb).trans e) f0 f1 f3 f4 f5
   obtain ⟨o, e, c, d⟩ := id st'
   exact ⟨u, rfl, go_of (s := { s with heap := h' }) e c d (by decide) ⟨x, H, I1, ru, ⟨rfl, fun ys hy => by rw [I.list_inj hy hq]; exact hx⟩, st', fun b hb => (hf b hb).1⟩⟩
 done := by
   intro X hP hw hK hc i pins s σ H E I hf st hg
   subst hP hw hK
   obtain ⟨xs, hq, hx⟩ := hg
   obtain ⟨its, rv, p, hz⟩ := I.list hq
   obtain ⟨f0, f1, f2, f3, f4, f5⟩ := hf it (by simp)
   have hl := rv.length
   exact wpAny_pyNext_list_end (I.ok.hd hc) st p.isList (by simp; lia) fun h' eb => ⟨rfl, I.turned (t' := s.toks) (fun b o hb e => eb b o hb e) f0 f1 f3 f4 f5⟩
 self := fun _ _ _ _ _ st h => wpAny_pyIter_listiter st h
theorem turn_tuple {P : Program} {w : World} {K : PySem.W.Frag} {tg : Expr} (a it : Addr) : Turn P w K tg (Itt K a) [it] it (fun i h => h.IsTupleIter it a i) where
 mem := by simp
 obj := fun i h st b hb => by
   have e : b = it := by simpa using hb
   subst e
   obtain ⟨o, e, c, d⟩ := st
   exact ⟨o, e, fun v z => by rw [d] at z; cases z⟩
 keep := fun i h h' st k => st.at fun o e => k it (by simp) o e
 item := by
   intro X hP hw hK hc i pins s σ H E I hf st hg
   subst hP hw hK
   obtain ⟨xs, x, hq, hx⟩ := hg
   obtain ⟨its, rv, p, hz⟩ := I.tuple hq
   obtain ⟨u, hu, ru⟩ := rv.get hx
   obtain ⟨f0, f1, f2, f3, f4, f5⟩ := hf it (by simp)
   refine wpAny_pyNext_tuple_item st (show s.heap.IsTuple a its.toArray from p) (x := u) (by simpa using hu) fun h' st' sb => ?_
   have I1 : Inv X pins σ H { s with heap := h' } := I.turned (t' := s.toks) (fun b o hb e => (sb.2 b hb).trans e) f0 f1 f3 f4 f5
   obtain ⟨o, e, c, d⟩ := id st'
   exact ⟨u, rfl, go_of (s := { s with heap := h' }) e c d (by decide) ⟨x, H, I1, ru, ⟨rfl, fun ys hy => by rw [I.tuple_inj hy hq]; exact hx⟩, st', fun b hb => (hf b hb).1⟩⟩
 done := by
   intro X hP hw hK hc i pins s σ H E I hf st hg
   subst hP hw hK
   obtain ⟨xs, hq, hx⟩ := hg
   obtain ⟨its, rv, p, hz⟩ := I.tuple hq
   obtain ⟨f0, f1, f2, f3, f4, f5⟩ := hf it (by simp)
   have hl := rv.length
   exact wpAny_pyNext_tuple_end (I.ok.hd hc) st (show s.heap.IsTuple a its.toArray from p) (by simp; lia) fun h' eb => ⟨rfl, I.turned (t' := s.toks) (fun b o hb e => eb b o hb e) f0 f1 f3 f4 f5⟩
 self := fun _ _ _ _ _ st h => wpAny_pyIter_tupleiter st h
theorem turn_range {P : Program} {w : World} {K : PySem.W.Frag} {tg : Expr} (it : Addr) (lo : Int) (n : Nat) : Turn P w K tg (Itr lo n) [it] it (fun i h => IsRangeIter h it (lo + (i : Nat) * 1) ((n : Int) - (i : Nat)) 1) where
 mem := by simp
 obj := fun i h st b hb => by
   have e : b = it := by simpa using hb
   subst e
   exact ⟨_, st, fun v z => by
     have z' : Data.fields _ = Data.cell v := z
     cases z'⟩
 keep := fun i h h' st k => k it (by simp) _ st
 item := by
   intro X hP hw hK hc i pins s σ H E I hf st hg
   subst hP hw hK
   obtain ⟨f0, f1, f2, f3, f4, f5⟩ := hf it (by simp)
   have W := Walks.range (prog := X.prog) (w := X.w) (I.ok.hd hc) it lo 1 n
   refine W.item i s _ _ hg st fun v h' tk hv st' kk => ?_
   obtain ⟨t, rfl⟩ := hv
   have I1 : Inv X pins σ H { s with heap := h', toks := tk } := I.turned (fun b o hb e => kk b o (by simpa using hb) e) f0 f1 f3 f4 f5
   refine ⟨_, rfl, go_of (s := { s with heap := h', toks := tk }) (n := "range_iterator") st' rfl rfl (by decide) ⟨.int (lo + i), H, I1, ⟨t, ?_⟩, ⟨rfl, rfl⟩, st', fun b hb => (hf b hb).1⟩⟩
   rw [Int.mul_one]
 done := by
   intro X hP hw hK hc i pins s σ H E I hf st hg
   subst hP hw hK
   obtain ⟨f0, f1, f2, f3, f4, f5⟩ := hf it (by simp)
   exact wpAny_pyNext_range_end (I.ok.hd hc) st (by have : n ≤ i := hg; lia) fun h' eb => ⟨rfl, I.turned (t' := s.toks) (fun b o hb e => eb b o hb e) f0 f1 f3 f4 f5⟩
 self := fun _ _ _ _ _ st h => wpAny_pyIter_rangeiter st h
end L2
namespace L2
open PySem PySem.Spec PyProof.Rows
section
variable {X : Cx} {tg : Expr}
theorem range_it {pins : List (Addr × Obj)} {σ : St} {H : Hp} {s : Shared} {R : It → Hp → Prop} {E : Value → Shared → Prop} {lo hi : Int} {t u v : Tok} {tk : Nat} (I : Inv X pins σ H s) (h1 : -(2 ^ 62) ≤ lo) (h2 : lo < 2 ^ 62) (h3 : -(2 ^ 62) ≤ hi) (h4 : hi < 2 ^ 62)
   (q : R (Itr lo (hi - lo).toNat) H) : wpAny (model X.prog X.w) X.A (pyIter (.ref s.heap.objs.size)) (PIE X pins σ tg R) E { s with heap := s.heap.push { cls := .type "range", data := .fields #[.int lo t, .int hi u, .int 1 v] }, toks := tk } := by
 refine wpAny_pyIter_range (IsRange.new ..) (small_one h1 h2 h3 h4) ?_
 have I1 : Inv X pins σ H { s with heap := s.heap.push { cls := .type "range", data := .fields #[.int lo t, .int hi u, .int 1 v] }, toks := tk } := I.kept fun b o e => Heap.get?_push_of_some _ e
 refine ⟨(s.heap.push { cls := .type "range", data := .fields #[.int lo t, .int hi u, .int 1 v] }).objs.size, [(s.heap.push { cls := .type "range", data := .fields #[.int lo t, .int hi u, .int 1 v] }).objs.size], _, _, H, rfl,
   I1.kept (t' := tk) fun b o e => Heap.get?_push_of_some _ e, turn_range _ lo (hi - lo).toNat, ?_, fun b hb => ?_, q⟩
 · have e1 : lo + ((0 : Nat) : Int) * 1 = lo := by simp
   have e2 : (((hi - lo).toNat : Nat) : Int) - ((0 : Nat) : Int) = Builtin.Range.rangeSize lo hi 1 := by rw [rangeSize_one]; split <;> lia
   show IsRangeIter _ _ (lo + ((0 : Nat) : Int) * 1) ((((hi - lo).toNat : Nat) : Int) - ((0 : Nat) : Int)) 1
   rw [e1, e2]
   exact Heap.get?_push_size _ rfl
 · have e : b = (s.heap.push { cls := .type "range", data := .fields #[.int lo t, .int hi u, .int 1 v] }).objs.size := by simpa using hb
   subst e
   exact I1.fpOk (Nat.le_refl _) (I1.hok.fresh (Nat.le_refl _))
noncomputable def iRng1 (ta : TA) : TI := fun σ H R => ta σ H fun vs H1 => ∃ j : Int, vs = [.int j] ∧ -(2 ^ 62) ≤ j ∧ j < 2 ^ 62 ∧ R (Itr 0 j.toNat) H1
theorem pi_range1 {a : Expr} {ta : TA} {p pos : Pos} (hg : Gl X "range") (hm : X.mg "range" = none) (ha : PA X [a] ta) (hs : starEach [a] X.env = [(false, eval a X.env)] := by rfl) : PI X tg (.Call (.Name "range" p) [a] [] pos) (iRng1 ta) := by
 intro pins s σ H R I h
 refine Call_ (ld_blt I hg hm boot_range (PyProof.Rows.callWith_type1 (thn (ha pos pins s σ H _ I h) fun us s1 ⟨vs, H1, I1, r1, q1⟩ => ?_) hs rfl))
 obtain ⟨j, e, q1, q2, q⟩ := q1
 subst e
 cases r1 with
 | cons r rr =>
   cases rr
   obtain ⟨t, rfl⟩ := r
   exact call_range_1 (range_it I1 (by lia) (by lia) q1 q2 (by simpa using q))
noncomputable def tFor (wi : TI) (g : TG) (tb : TS) : TS := fun D σ H => wi σ H fun J H1 => ∃ W : Nat → Nat → St → Hp → Prop, (∃ m, W 0 m σ H1) ∧ ∀ i m σ H, W i m σ H →
 (J.stop i H ∧ D.nx σ H) ∨ (J.go i H ∧ ∃ N : St → Hp → Prop, (∀ σ' H', N σ' H' → ∃ m', m' < m ∧ W (i + 1) m' σ' H') ∧ ∀ x H', J.yld i H x H' → g x σ H' fun σ2 H2 => tb { D with nx := N, ct := N, bk := D.nx } σ2 H2)
noncomputable def pinsAt (fp : List Addr) (h : Heap) : List (Addr × Obj) := fp.filterMap fun b => (h.get? b).map fun o => (b, o)
theorem mem_pinsAt {fp : List Addr} {h : Heap} {b : Addr} {o : Obj} (hb : b ∈ fp) (e : h.get? b = some o) : (b, o) ∈ pinsAt fp h := List.mem_filterMap.mpr ⟨b, hb, by rw [e]; rfl⟩
theorem of_pinsAt {fp : List Addr} {h : Heap} {p : Addr × Obj} (hp : p ∈ pinsAt fp h) : p.1 ∈ fp ∧ h.get? p.1 = some p.2 := by
 obtain ⟨b, hb, e⟩ := List.mem_filterMap.mp hp
 cases q : h.get? b with
 | none => rw [q] at e; cases e
 | some o =>
   rw [q] at e
   have e' : (b, o) = p := Option.some.inj e
   subst e'
   exact ⟨hb, q⟩
theorem Inv.pinned {pins : List (Addr × Obj)} {σ : St} {H : Hp} {s : Shared} {fp : List Addr} (I : Inv X pins σ H s) (hf : ∀ b ∈ fp, FpOk X pins H b) (ho : ∀ b ∈ fp, ∃ o, s.heap.get? b = some o ∧ ∀ v, o.data ≠ .cell v) : Inv X (pins ++ pinsAt fp s.heap) σ H s :=
 I.pins_of fun p hp => (List.mem_append.mp hp).elim (fun z => I.pin p (List.mem_append_right _ z)) fun z => by
   obtain ⟨hb, e⟩ := of_pinsAt z
   obtain ⟨f0, f1, f2, _⟩ := hf p.1 hb
   obtain ⟨o, e', d⟩ := ho p.1 hb
   rw [e] at e'; cases e'
   exact ⟨e, f0, f1, f2, d⟩
theorem Inv.unpinned {pins pl : List (Addr × Obj)} {σ : St} {H : Hp} {s : Shared} (I : Inv X (pins ++ pl) σ H s) : Inv X pins σ H s := I.pins_of fun p hp => I.pin p (List.mem_append_right _ (List.mem_append_left _ hp))
theorem ps_for {iter : Expr} {body : List Stmt} {wi : TI} {g : TG} {tb : TS} {pos : Pos} (hp : PassesOwn (model X.prog X.w) X.A X.env X.xe) (hc : X.calm = true) (hi : PI X tg iter wi) (hg : PG X tg g) (hb : PSs X body tb)
   (hs : ∀ x, foldedSetIterable iter X.env x = pure x := by intro _; rfl) : PS X (.For tg iter body [] pos) (tFor wi g tb) := by
 intro pins s σ H D I h
 refine wpAny_For (thn (hi pins s σ H _ I h) fun v s1 h1 => thn h1 fun itv s2 h2 => ?_) hs
 obtain ⟨it, fp, tn, J, H2, e, I2, T, st2, f2, W, ⟨m0, w0⟩, turn⟩ := h2
 subst e
 -- what stays true of the iterator's objects through the loop
 have stat : ∀ {H' : Hp}, (∀ b ∈ fp, H' b = none) → ∀ b ∈ fp, FpOk X pins H' b := fun hn b hb => ⟨hn b hb, (f2 b hb).2⟩
 refine codeAny_forLoop_any (fun n s' => ∃ i σ' H', Inv X pins σ' H' s' ∧ tn i s'.heap ∧ (∀ b ∈ fp, H' b = none) ∧ W i n σ' H') ?_ m0 ⟨0, σ, H2, I2, st2, fun b hb => (f2 b hb).1, w0⟩
 rintro n s3 ⟨i, σ3, H3, I3, st3, fr3, w3⟩
 rcases turn i n σ3 H3 w3 with ⟨stop, qn⟩ | ⟨go, N, hN, step⟩
 · refine wpAny_passesOwn hp (thn (T.done X rfl rfl rfl hc i pins s3 σ3 H3 X.xe I3 (stat fr3) st3 stop) fun r s4 ⟨hr, I4⟩ => ?_)
   subst hr
   exact wpAny_execs_nil ⟨σ3, H3, I4, qn⟩
 · refine wpAny_passesOwn hp (thn (T.item X rfl rfl rfl hc i pins s3 σ3 H3 X.xe I3 (stat fr3) st3 go) fun r s4 ⟨u, hr, h4⟩ => ?_)
   subst hr
   refine wpAny_passesOwn hp (thn h4 fun _ s5 ⟨x, H5, I5, r5, y5, st5, fr5⟩ => ?_)
   have I5' := I5.pinned (stat fr5) (T.obj _ _ st5)
   refine wpAny_passesOwn hp (thn (hg _ s5 σ3 H5 x u _ I5' r5 (step x H5 y5)) fun _ s6 ⟨σ6, H6, I6, q6⟩ => ?_)
   refine wpAny_passesOwn hp (thn (hb _ s6 σ6 H6 _ I6 q6) fun f s7 q7 => ?_)
   have again : ∀ {σ7 : St} {H7 : Hp}, Inv X (pins ++ pinsAt fp s5.heap) σ7 H7 s7 → N σ7 H7 → ∃ m, m < n ∧ ∃ i σ' H', Inv X pins σ' H' s7 ∧ tn i s7.heap ∧ (∀ b ∈ fp, H' b = none) ∧ W i m σ' H' := fun {σ7 H7} I7 n7 => by
     obtain ⟨m', hm, w7⟩ := hN σ7 H7 n7
     refine ⟨m', hm, i + 1, σ7, H7, I7.unpinned, T.keep _ _ _ st5 fun b hb o e => (I7.pin (b, o) (List.mem_append_right _ (List.mem_append_right _ (mem_pinsAt hb e)))).1, fun b hb => ?_, w7⟩
     obtain ⟨o, e, d⟩ := T.obj _ _ st5 b hb
     exact (I7.pin (b, o) (List.mem_append_right _ (List.mem_append_right _ (mem_pinsAt hb e)))).2.1
   cases f with
   | next => obtain ⟨σ7, H7, I7, n7⟩ := q7; exact again I7 n7
   | cont => obtain ⟨σ7, H7, I7, n7⟩ := q7; exact again I7 n7
   | brk => obtain ⟨σ7, H7, I7, q7⟩ := q7; exact ⟨σ7, H7, I7.unpinned, q7⟩
   | ret v => obtain ⟨x7, σ7, H7, I7, r7, q7⟩ := q7; exact ⟨x7, σ7, H7, I7.unpinned, r7, q7⟩
end
end L2
namespace L2
open PySem PySem.Spec PyProof.Rows
noncomputable abbrev R2 := V → V → Hp → VK → Prop
noncomputable def OpR (X : Cx) (f : Value → Value → Sem Value) (r : R2) : Prop :=
 ∀ (pins : List (Addr × Obj)) (s : Shared) (σ : St) (H : Hp) (x y : V) (v u : Value) (Q : VK), Inv X pins σ H s → RelV x v → RelV y u → r x y H Q →
   wpAny (model X.prog X.w) X.A (f v u) (EP X pins σ Q) X.xe s
noncomputable def UnR (X : Cx) (f : Value → Sem Value) (r : V → Hp → VK → Prop) : Prop :=
 ∀ (pins : List (Addr × Obj)) (s : Shared) (σ : St) (H : Hp) (x : V) (v : Value) (Q : VK), Inv X pins σ H s → RelV x v → r x H Q →
   wpAny (model X.prog X.w) X.A (f v) (EP X pins σ Q) X.xe s
noncomputable def CallR (X : Cx) (f : Value) (r : List V → Hp → VK → Prop) : Prop :=
 ∀ (pins : List (Addr × Obj)) (s : Shared) (σ : St) (H : Hp) (xs : List V) (us : List Value) (Q : VK), Inv X pins σ H s → Vals xs us → r xs H Q →
   wpAny (model X.prog X.w) X.A (call f us) (EP X pins σ Q) X.xe s
noncomputable def TruR (X : Cx) (r : V → Hp → (Bool → Hp → Prop) → Prop) : Prop :=
 ∀ (pins : List (Addr × Obj)) (s : Shared) (σ : St) (H : Hp) (x : V) (v : Value) (Q : Bool → Hp → Prop), Inv X pins σ H s → RelV x v → r x H Q →
   wpAny (model X.prog X.w) X.A (truthy v) (TP X pins σ Q) X.xe s
noncomputable def tOp (r : R2) (ta tb : TE) : TE := fun σ H Q => ta σ H fun x H1 => tb σ H1 fun y H2 => r x y H2 Q
noncomputable def tUn (r : V → Hp → VK → Prop) (ta : TE) : TE := fun σ H Q => ta σ H fun x H1 => r x H1 Q
noncomputable def rI (C : Int → Int → Prop) (g : Int → Int → V) : R2 := fun x y H Q => ∃ i j, x = .int i ∧ y = .int j ∧ C i j ∧ Q (g i j) H
noncomputable def rI0 (g : Int → Int → V) : R2 := fun x y H Q => ∃ i j, x = .int i ∧ y = .int j ∧ Q (g i j) H
noncomputable def rU (g : Int → V) : V → Hp → VK → Prop := fun x H Q => ∃ i, x = .int i ∧ Q (g i) H
section
variable {X : Cx} {a b c : Expr} {ta tb tc : TE} {pos : Pos}
theorem binT (ha : PE X a ta) (hb : PE X b tb) {pins : List (Addr × Obj)} {s : Shared} {σ : St} {H : Hp} {R : V → V → Hp → Prop} (I : Inv X pins σ H s)
   (h : ta σ H fun x H1 => tb σ H1 fun y H2 => R x y H2) {Q : Value → Shared → Prop} {f : Value → Value → Sem Value}
   (hf : ∀ v u s2 x y H2, Inv X pins σ H2 s2 → RelV x v → RelV y u → R x y H2 → wpAny (model X.prog X.w) X.A (f v u) Q X.xe s2) :
   wpAny (model X.prog X.w) X.A (eval a X.env) (fun v s₁ => wpAny (model X.prog X.w) X.A (eval b X.env) (fun u s₂ => wpAny (model X.prog X.w) X.A (f v u) Q X.xe s₂) X.xe s₁) X.xe s := by
 refine thn (ha pins s σ H _ I h) fun v s1 ⟨x, H1, I1, r1, q1⟩ => ?_
 refine thn (hb pins s1 σ H1 _ I1 q1) fun u s2 ⟨y, H2, I2, r2, q2⟩ => ?_
 exact hf v u s2 x y H2 I2 r1 r2 q2
theorem pe_op {op : Operator} {r : R2} (ho : OpR X (binaryOp op) r) (ha : PE X a ta) (hb : PE X b tb) : PE X (.BinOp a op b pos) (tOp r ta tb) := by
 intro pins s σ H Q I h
 exact wpAny_BinOp (binT ha hb I h fun v u s2 x y H2 I2 rx ry q => ho pins s2 σ H2 x y v u Q I2 rx ry q)
theorem pe_un {op : UnaryOp} {r : V → Hp → VK → Prop} (ho : UnR X (unaryOp op) r) (ha : PE X a ta) : PE X (.UnaryOp op a pos) (tUn r ta) := by
 intro pins s σ H Q I h
 exact UnaryOp_ (thn (ha pins s σ H _ I h) fun v s1 ⟨x, H1, I1, r1, q1⟩ => ho pins s1 σ H1 x v Q I1 r1 q1)
theorem opI {f : Value → Value → Sem Value} {C : Int → Int → Prop} {g : Int → Int → Int}
   (rule : ∀ (i j : Int) (t u : Tok) (s : Shared) (Q : Value → Shared → Prop) (E : Value → Shared → Prop), C i j → Q (.int (g i j) s.toks) { s with toks := s.toks + 1 } → wpAny (model X.prog X.w) X.A (f (.int i t) (.int j u)) Q E s) :
   OpR X f (rI C fun i j => .int (g i j)) := by
 intro pins s σ H x y v u Q I rx ry h
 obtain ⟨i, j, rfl, rfl, hc, q⟩ := h
 obtain ⟨t, rfl⟩ := rx
 obtain ⟨t', rfl⟩ := ry
 exact rule i j t t' s _ _ hc ⟨.int (g i j), H, I.tok _, ⟨_, rfl⟩, q⟩
theorem opI0 {f : Value → Value → Sem Value} {g : Int → Int → Int}
   (rule : ∀ (i j : Int) (t u : Tok) (s : Shared) (Q : Value → Shared → Prop) (E : Value → Shared → Prop), Q (.int (g i j) s.toks) { s with toks := s.toks + 1 } → wpAny (model X.prog X.w) X.A (f (.int i t) (.int j u)) Q E s) :
   OpR X f (rI0 fun i j => .int (g i j)) := by
 intro pins s σ H x y v u Q I rx ry h
 obtain ⟨i, j, rfl, rfl, q⟩ := h
 obtain ⟨t, rfl⟩ := rx
 obtain ⟨t', rfl⟩ := ry
 exact rule i j t t' s _ _ ⟨.int (g i j), H, I.tok _, ⟨_, rfl⟩, q⟩
theorem opB0 {f : Value → Value → Sem Value} {g : Int → Int → Bool}
   (rule : ∀ (i j : Int) (t u : Tok) (s : Shared) (Q : Value → Shared → Prop) (E : Value → Shared → Prop), Q (.bool (g i j)) s → wpAny (model X.prog X.w) X.A (f (.int i t) (.int j u)) Q E s) :
   OpR X f (rI0 fun i j => .bl (g i j)) := by
 intro pins s σ H x y v u Q I rx ry h
 obtain ⟨i, j, rfl, rfl, q⟩ := h
 obtain ⟨t, rfl⟩ := rx
 obtain ⟨t', rfl⟩ := ry
 exact rule i j t t' s _ _ ⟨.bl (g i j), H, I, rfl, q⟩
noncomputable def CPow (i j : Int) : Prop := 0 ≤ j ∧ j ≤ 1000000 ∧ i.natAbs < 2 ^ 64
noncomputable def CMul (i j : Int) : Prop := (-(2 ^ 64) < i ∧ i < 2 ^ 64) ∨ (-(2 ^ 64) < j ∧ j < 2 ^ 64)
theorem CMul.ok {i j : Int} (h : CMul i j) : IntMulOk i j := by
 rcases h with ⟨h1, h2⟩ | ⟨h1, h2⟩
 · exact .of_left (intBits_le_64 h1 h2)
 · exact .of_right (intBits_le_64 h1 h2)
theorem op_add : OpR X (binaryOp .Add) (rI0 fun i j => .int (i + j)) := opI0 fun _ _ _ _ _ _ _ q => add_int q
theorem op_sub : OpR X (binaryOp .Sub) (rI0 fun i j => .int (i - j)) := opI0 fun _ _ _ _ _ _ _ q => sub_int q
theorem op_mul : OpR X (binaryOp .Mult) (rI CMul fun i j => .int (i * j)) := opI fun _ _ _ _ _ _ _ hc q => mul_int q hc.ok
theorem op_mod : OpR X (binaryOp .Mod) (rI (fun _ j => 0 < j) fun i j => .int (i % j)) := opI fun i j _ _ _ _ _ hc q => by
 have h1 : (0 : Int) < j := hc
 exact mod_int' (by lia) (by rw [Int.fmod_eq_emod_of_nonneg i (by lia)]; exact q)
theorem op_pow : OpR X (binaryOp .Pow) (rI CPow fun i j => .int (i ^ j.toNat)) := opI fun _ _ _ _ _ _ _ hc q => pow_int_small hc.1 hc.2.1 hc.2.2 q
theorem unI {f : Value → Sem Value} {g : Int → Int}
   (rule : ∀ (i : Int) (t : Tok) (s : Shared) (Q : Value → Shared → Prop) (E : Value → Shared → Prop), Q (.int (g i) s.toks) { s with toks := s.toks + 1 } → wpAny (model X.prog X.w) X.A (f (.int i t)) Q E s) :
   UnR X f (rU fun i => .int (g i)) := by
 intro pins s σ H x v Q I rx h
 obtain ⟨i, rfl, q⟩ := h
 obtain ⟨t, rfl⟩ := rx
 exact rule i t s _ _ ⟨.int (g i), H, I.tok _, ⟨_, rfl⟩, q⟩
theorem un_neg : UnR X (unaryOp .USub) (rU fun i => .int (-i)) := unI fun _ _ _ _ _ q => neg_int q
end
section
variable {X : Cx} {a b c : Expr} {ta tb tc : TE} {pos : Pos}
theorem op_lt : OpR X (compareOp .Lt) (rI0 fun i j => .bl (decide (i < j))) := opB0 fun _ _ _ _ _ _ _ q => lt_int q
theorem op_le : OpR X (compareOp .LtE) (rI0 fun i j => .bl (decide (i ≤ j))) := opB0 fun _ _ _ _ _ _ _ q => le_int q
theorem op_gt : OpR X (compareOp .Gt) (rI0 fun i j => .bl (decide (j < i))) := opB0 fun _ _ _ _ _ _ _ q => gt_int q
theorem op_ge : OpR X (compareOp .GtE) (rI0 fun i j => .bl (decide (j ≤ i))) := opB0 fun _ _ _ _ _ _ _ q => ge_int q
theorem nomark (b : Expr) {op : CmpOp} (h : op ≠ .In := by decide) (h2 : op ≠ .NotIn := by decide) : behindInMarks op b = false := by
 have e1 : (op == CmpOp.In) = false := by cases op <;> first | rfl | exact absurd rfl h
 have e2 : (op == CmpOp.NotIn) = false := by cases op <;> first | rfl | exact absurd rfl h2
 cases b <;> simp [behindInMarks, e1, e2]
noncomputable def tTest (t : TE) : TT := fun σ H Q => t σ H fun x H' => ∃ k, x = .bl k ∧ Q k H'
theorem pt_cmpR {op : CmpOp} {r : R2} (ho : OpR X (compareOp op) r) (ha : PE X a ta) (hb : PE X b tb) (hm : behindInMarks op b = false) : PT X (.Compare a [op] [b] pos) (tTest (tOp r ta tb)) := by
 intro pins s σ H Q I h
 refine wpAny_isTrue_Compare1 (thn (ha pins s σ H _ I h) fun v s1 ⟨x, H1, I1, r1, q1⟩ => thn (hb pins s1 σ H1 _ I1 q1) fun u s2 ⟨y, H2, I2, r2, q2⟩ =>
   thn (ho pins s2 σ H2 x y v u _ I2 r1 r2 q2) fun c s3 ⟨z, H3, I3, r3, k, e, q3⟩ => ?_) hm
 subst e
 cases r3
 exact wpAny_truthy_bool ⟨H3, I3, q3⟩
noncomputable def tChain (r r' : R2) (ta tb tc : TE) : TE := fun σ H Q => ta σ H fun x H1 => tb σ H1 fun y H2 => r x y H2 fun z H3 => ∃ k, z = .bl k ∧
 (if k = true then tc σ H3 fun w' H4 => r' y w' H4 Q else Q (.bl false) H3)
theorem pe_chain {op op' : CmpOp} {r r' : R2} (ho : OpR X (compareOp op) r) (ho' : OpR X (compareOp op') r') (ha : PE X a ta) (hb : PE X b tb) (hc : PE X c tc)
   (hm : lastMarks [op, op'] [b, c] = false := by with_unfolding_all rfl) : PE X (.Compare a [op, op'] [b, c] pos) (tChain r r' ta tb tc) := by
 intro pins s σ H Q I h
 refine Compare_chain (thn (ha pins s σ H _ I h) fun v s1 ⟨x, H1, I1, r1, q1⟩ => chain_link (thn (hb pins s1 σ H1 _ I1 q1) fun u s2 ⟨y, H2, I2, r2, q2⟩ =>
   thn (ho pins s2 σ H2 x y v u _ I2 r1 r2 q2) fun d s3 ⟨z, H3, I3, r3, k, e, q3⟩ => ?_)) hm
 subst e
 cases r3
 refine wpAny_truthy_bool ?_
 cases k with
 | false => exact ite_ff ⟨.bl false, H3, I3, rfl, q3⟩
 | true => exact ite_tt (chain_last (thn (hc pins s3 σ H3 _ I3 q3) fun w' s4 ⟨z', H4, I4, r4, q4⟩ => ho' pins s4 σ H4 y z' u w' Q I4 r2 r4 q4))
theorem pt_chain {op op' : CmpOp} {r r' : R2} (ho : OpR X (compareOp op) r) (ho' : OpR X (compareOp op') r') (ha : PE X a ta) (hb : PE X b tb) (hc : PE X c tc)
   (hm : lastMarks [op, op'] [b, c] = false := by with_unfolding_all rfl) : PT X (.Compare a [op, op'] [b, c] pos) (tTest (tChain r r' ta tb tc)) := by
 intro pins s σ H Q I h
 refine isTrue_chain (thn (ha pins s σ H _ I h) fun v s1 ⟨x, H1, I1, r1, q1⟩ => test_link (thn (hb pins s1 σ H1 _ I1 q1) fun u s2 ⟨y, H2, I2, r2, q2⟩ =>
   thn (ho pins s2 σ H2 x y v u _ I2 r1 r2 q2) fun d s3 ⟨z, H3, I3, r3, k, e, q3⟩ => ?_)) hm
 subst e
 cases r3
 refine wpAny_truthy_bool ?_
 cases k with
 | false =>
   obtain ⟨k', e', q'⟩ := q3
   cases e'
   exact ite_ff ⟨H3, I3, q'⟩
 | true =>
   refine ite_tt (test_last (thn (hc pins s3 σ H3 _ I3 q3) fun w' s4 ⟨z', H4, I4, r4, q4⟩ => thn (ho' pins s4 σ H4 y z' u w' _ I4 r2 r4 q4) fun d' s5 ⟨z2, H5, I5, r5, k2, e2, q5⟩ => ?_))
   subst e2
   cases r5
   exact wpAny_truthy_bool ⟨H5, I5, q5⟩
noncomputable def TruV (K : PySem.W.Frag) (x : V) (H : Hp) (k : Bool) : Prop :=
 match x with
 | .non => k = false
 | .bl b => k = b
 | .int i => k = (i != 0)
 | .str y => y.length ≤ sizeLine ∧ k = ((y.length : Int) != 0)
 | .byt y => y.size ≤ sizeLine ∧ k = ((y.size : Int) != 0)
 | .ref p => (∃ xs, SqL K H p xs ∧ k = !xs.isEmpty) ∨ (∃ xs, SqT K H p xs ∧ k = !xs.isEmpty) ∨ ∃ kvs, H p = some (.dK kvs) ∧ k = !kvs.isEmpty
 | _ => False
theorem isEmpty_kv {κ : Type} {kvs : List (κ × V)} {vs : List (κ × Value)} (r : KV kvs vs) : (!vs.isEmpty) = !kvs.isEmpty := by
 cases r <;> rfl
theorem isEmpty_of {xs : List V} {its : List Value} (r : Vals xs its) : (!its.toArray.isEmpty) = !xs.isEmpty := by
 cases r <;> simp
theorem line63 : (sizeLine : Nat) < 2 ^ 63 := by rw [sizeLine_eq]; decide
theorem tru_ok : TruR X (fun x H Q => ∃ k, TruV X.K x H k ∧ Q k H) := by
 intro pins s σ H x v Q I rx h
 obtain ⟨k, e, q⟩ := h
 have hl := line63
 have hs : sizeLine = 16777216 := sizeLine_eq
 cases x with
 | non =>
   cases rx
   have e' : k = false := e
   subst e'
   exact truthy_none ⟨H, I, q⟩
 | bl b =>
   cases rx
   have e' : k = b := e
   subst e'
   exact wpAny_truthy_bool ⟨H, I, q⟩
 | int i =>
   obtain ⟨t, rfl⟩ := rx
   have e' : k = (i != 0) := e
   subst e'
   exact PySem.P.truthy_int ⟨H, I, q⟩
 | str y =>
   obtain ⟨t, rfl⟩ := rx
   obtain ⟨hy, e'⟩ : y.length ≤ sizeLine ∧ k = ((y.length : Int) != 0) := e
   subst e'
   exact PySem.P.truthy_str (by lia) ⟨H, I.tok _, q⟩
 | byt y =>
   obtain ⟨t, rfl⟩ := rx
   obtain ⟨hy, e'⟩ : y.size ≤ sizeLine ∧ k = ((y.size : Int) != 0) := e
   subst e'
   exact PySem.W.truthy_bytes (by lia) ⟨H, I.tok _, q⟩
 | ref p =>
   cases rx
   have e' : (∃ xs, SqL X.K H p xs ∧ k = !xs.isEmpty) ∨ (∃ xs, SqT X.K H p xs ∧ k = !xs.isEmpty) ∨ ∃ kvs, H p = some (.dK kvs) ∧ k = !kvs.isEmpty := e
   rcases e' with ⟨xs, hx, e'⟩ | ⟨xs, hx, e'⟩ | ⟨kvs, hx, e'⟩
   · subst e'
     obtain ⟨its, r, pl, hz⟩ := I.list hx
     have hlen := r.length
     exact wpAny_truthy_list pl.isList (by simp only [List.size_toArray]; lia) ⟨H, I.tok _, by rw [isEmpty_of r]; exact q⟩
   · subst e'
     obtain ⟨its, r, pl, hz⟩ := I.tuple hx
     have hlen := r.length
     exact truthy_tuple pl (by simp only [List.size_toArray]; lia) ⟨H, I.tok _, by rw [isEmpty_of r]; exact q⟩
   · subst e'
     obtain ⟨hz, hS, vs, r, m⟩ : kvs.length ≤ sizeLine ∧ (p == sysModules) = false ∧ ∃ vs, KV kvs vs ∧ s.heap.DictOf (mixKind X.prog X.w) p vs := I.hok p _ hx
     have hlen : kvs.length = vs.length := Paired.length r
     exact wpAny_truthy_dict hS m (by lia) ⟨H, I.tok _, by rw [isEmpty_kv r]; exact q⟩
 | _ => exact (show False from e).elim
theorem pt_truth (ha : PE X a ta) (he : ∀ whole, isTrue a X.env whole = (do let v ← whole; standAt a.pos; holding [v] (truthy v))) :
   PT X a (fun σ H Q => ta σ H fun x H' => ∃ k, TruV X.K x H' k ∧ Q k H') := by
 intro pins s σ H Q I h
 exact isTrue_plain (thn (ha pins s σ H _ I h) fun v s1 ⟨x, H1, I1, r1, q1⟩ => tru_ok pins s1 σ H1 x v Q I1 r1 q1) (he _)
theorem op_add_str : OpR X (binaryOp .Add) (fun x y H Q => ∃ i j, x = .str i ∧ y = .str j ∧ i.length + j.length ≤ sizeLine ∧ Q (.str (i ++ j)) H) := by
 intro pins s σ H x y v u Q I rx ry h
 obtain ⟨i, j, rfl, rfl, hz, q⟩ := h
 obtain ⟨t, rfl⟩ := rx
 obtain ⟨t', rfl⟩ := ry
 exact add_str (fun t' tk => ⟨.str (i ++ j), H, I.tok _, ⟨_, rfl⟩, q⟩) hz
theorem vals1 {x : V} {us : List Value} (r : Vals [x] us) : ∃ u, us = [u] ∧ RelV x u := by
 cases r with
 | cons r1 r2 => cases r2; exact ⟨_, rfl, r1⟩
theorem call_abs : CallR X (.builtin "abs") (fun xs H Q => ∃ i, xs = [.int i] ∧ Q (.int (if i < 0 then -i else i)) H) := by
 intro pins s σ H xs us Q I r h
 obtain ⟨i, rfl, q⟩ := h
 obtain ⟨u, rfl, t, rfl⟩ := vals1 r
 exact call_abs_int fun u tk => ⟨.int (if i < 0 then -i else i), H, I.tok _, ⟨_, rfl⟩, q⟩
end
end L2
namespace L2
open PySem PySem.Spec PyProof.Rows
section
variable {prog : Program} {w : World} {A : Around} {E : Value → Shared → Prop} {s : Shared} {K : PySem.W.Frag} {x dx C f : Addr} {mA : Str → Option Value} {name : Str} {v : Value}
end
theorem RelO.some_of {v : V} {o : Option Value} (r : RelO (some v) o) : ∃ u, o = some u ∧ RelV v u := by
 cases o with
 | none => exact (show False from r).elim
 | some u => exact ⟨u, rfl, r⟩
section
variable {P : Program} {w : World} {H H' : Hp} {h h' : Heap} {a C dx : Addr} {fs fs' : List (Str × V)}
end
section
variable {X : Cx} {pins : List (Addr × Obj)} {σ : St} {H : Hp} {s : Shared} {a C dx : Addr} {fs : List (Str × V)} {f : Str} {v : V} {A : Around} {E : Value → Shared → Prop}
end
section
variable {X : Cx} {o e value : Expr} {f : Str} {pos pos' tpos : Pos} {ta tv : TE}
end
section
variable {X : Cx} {pins : List (Addr × Obj)} {σ : St} {H : Hp} {s : Shared} {A : Around} {E : Value → Shared → Prop} {Q : Value → Shared → Prop} {c : Value} {b : Bool}
end
end L2
namespace L2
open PySem PySem.Spec PyProof.Rows
structure Room (k : Nat) (A : Around) : Prop where
 hd : A.handled = none
 dp : A.depth + 3 * k + 5 < recursionLimit
 un : A.units + 16 * k + 200 < cLine
theorem Room.mono {j k : Nat} {A : Around} (r : Room k A) (h : j ≤ k) : Room j A := ⟨r.hd, by have := r.dp; lia, by have := r.un; lia⟩
theorem Room.deeper {k : Nat} {A : Around} (r : Room (k + 1) A) (env : Env) : Room k (A.deeper env) :=
 ⟨r.hd, by have := r.dp; show A.depth + 1 + 3 * k + 5 < _; lia, by have := r.un; show A.units + 3 + 16 * k + 200 < _; lia⟩
theorem Room.depth {k : Nat} {A : Around} (r : Room k A) : A.depth < recursionLimit := by have := r.dp; lia
theorem Room.units {k : Nat} {A : Around} (r : Room k A) : A.units + 64 < cLine := by have := r.un; lia
noncomputable def tNil : TA := fun _ H Q => Q [] H
noncomputable def tCons (ta : TE) (tr : TA) : TA := fun σ H Q => ta σ H fun x H1 => tr σ H1 fun xs H2 => Q (x :: xs) H2
section
variable {X : Cx} {e : Expr} {es : List Expr} {te : TE} {t : TA} {pos : Pos}
theorem pa_nil : PA X [] tNil := fun _ _ _ _ H Q I h => Calls.spliced_nil ⟨[], H, I, .nil, h⟩
theorem pa_cons (ha : PE X e te) (hr : PA X es t) (hs : starEach (e :: es) X.env = (false, eval e X.env) :: starEach es X.env := by rfl) : PA X (e :: es) (tCons te t) := by
 intro pos pins s σ H Q I h
 rw [hs]
 show wpAny _ _ (spliced ((false, eval e X.env) :: backTo pos (starEach es X.env))) _ _ s
 refine Calls.spliced_cons (thn (ha pins s σ H _ I h) fun u s1 ⟨x, H1, I1, r1, q1⟩ => ?_)
 exact thn (hr pos pins s1 σ H1 _ I1 q1) fun us s2 ⟨xs, H2, I2, r2, q2⟩ => ⟨x :: xs, H2, I2, .cons r1 r2, q2⟩
noncomputable def tTup (t : TA) : TE := fun σ H Q => t σ H fun xs H1 => xs.length ≤ sizeLine ∧ ∀ p, H1 p = none → Q (.ref p) (upd H1 p (.tup xs))
noncomputable def tLst (t : TA) : TE := fun σ H Q => t σ H fun xs H1 => xs.length ≤ sizeLine ∧ ∀ p, H1 p = none → Q (.ref p) (upd H1 p (.lst xs))
theorem pe_tup {x1} (h : PA X es t) : PE X (.Tuple es x1 pos) (tTup t) := by
 intro pins s σ H Q I hq
 refine wpAny_Tuple_spliced (thn (h pos pins s σ H _ I hq) fun us s1 ⟨xs, H1, I1, r, z, q⟩ => ⟨by rw [← r.length]; exact z, ?_⟩)
 have hf : H1 s1.heap.objs.size = none := I1.hok.fresh (Nat.le_refl _)
 refine ⟨.ref s1.heap.objs.size, upd H1 s1.heap.objs.size (.tup xs), I1.laid (t' := s1.toks) (fun b u e => Heap.get?_push_of_some _ e) (Nat.le_refl _) ?_, rfl, q _ hf⟩
 exact ⟨z, us, r, ⟨_, Heap.get?_push_size _ rfl, rfl, rfl, _, rfl⟩⟩
theorem pe_lst (h : PA X es t) : PE X (.List es pos) (tLst t) := by
 intro pins s σ H Q I hq
 refine wpAny_List_spliced (thn (h pos pins s σ H _ I hq) fun us s1 ⟨xs, H1, I1, r, z, q⟩ => ⟨by rw [← r.length]; exact z, ?_⟩)
 have hf : H1 s1.heap.objs.size = none := I1.hok.fresh (Nat.le_refl _)
 refine ⟨.ref s1.heap.objs.size, upd H1 s1.heap.objs.size (.lst xs), I1.laid (t' := s1.toks) (fun b u e => Heap.get?_push_of_some _ e) (Nat.le_refl _) ?_, rfl, q _ hf⟩
 exact ⟨z, us, 0, r, Heap.get?_push_size _ rfl⟩
end
noncomputable abbrev Sp := List V → Hp → VK → XK → Prop
noncomputable abbrev CXT := List Env → Hp → Shared → XK → Value → Shared → Prop
structure Env0 (P : Program) (w : World) (K : PySem.W.Frag) (mg : Str → Option Value) (base : Heap) (A : Around) (outer : List Env) (s : Shared) (H : Hp) : Prop where
 frames : A.frames = some outer
 mod : Mod K mg base
 bs : ∀ b o, base.get? b = some o → s.heap.get? b = some o ∧ H b = none
 bsz : base.objs.size ≤ s.heap.objs.size
 funs : s.heap.FunFrames base outer
 frf : ∀ b ∈ frs outer, H b = none
 hok : HOk P w H s.heap
 bare : AllBare s.gens
noncomputable def CE (outer : List Env) (P : Program) (w : World) (H : Hp) (s : Shared) (Q : VK) (u : Value) (s' : Shared) : Prop :=
 ∃ v H', s'.os = s.os ∧ AllBare s'.gens ∧ Un (frs outer) [] H H' s.heap s'.heap ∧ HOk P w H' s'.heap ∧ RelV v u ∧ Q v H'
noncomputable def CR (CX : CXT) (outer : List Env) (P : Program) (w : World) (H : Hp) (s : Shared) (Q : VK) (E : XK) (r : Result) (s' : Shared) : Prop :=
 match r with
 | .ok (.ret u) => CE outer P w H s Q u s'
 | .ok _ => False
 | .error e => CX outer H s E e s'
structure FnOk (P : Program) (w : World) (K : PySem.W.Frag) (mg : Str → Option Value) (base : Heap) (CX : CXT) (k : Nat) (f : Addr) (fd : FuncData) (ps : List Str) (sp : Sp) : Prop where
 len : ∀ vs H Q E, sp vs H Q E → vs.length = ps.length
 run : ∀ (A : Around) (outer : List Env) (s : Shared) (H : Hp) (args : Args) (us : List Value) (vs : List V) (Q : VK) (E : XK), Room k A → Env0 P w K mg base A outer s H → BindsTo s fd args (ps.zip us) → Vals vs us → sp vs H Q E →
   codeAny (model P w) A (.call (.ref f) args) (CR CX outer P w H s Q E) s
theorem FnOk.mono {P : Program} {w : World} {K : PySem.W.Frag} {mg : Str → Option Value} {base : Heap} {CX : CXT} {j k : Nat} {f : Addr} {fd : FuncData} {ps : List Str} {sp : Sp} (F : FnOk P w K mg base CX j f fd ps sp) (h : j ≤ k) :
   FnOk P w K mg base CX k f fd ps sp := ⟨F.len, fun A outer s H args us vs Q E hr => F.run A outer s H args us vs Q E (hr.mono h)⟩
section
variable {X : Cx} {pins : List (Addr × Obj)} {σ : St} {H : Hp} {s s' : Shared}
theorem Inv.env0 (I : Inv X pins σ H s) : Env0 X.prog X.w X.K X.mg X.base X.A X.stack s H :=
 ⟨I.ok.frames, I.ok.mod, I.bs, Nat.le_trans I.ok.bsz I.sz, I.stack, I.stkFree, I.hok, I.bare⟩
theorem Inv.after {Q : VK} {u : Value} (I : Inv X pins σ H s) (h : CE X.stack X.prog X.w H s Q u s') : EP X pins σ Q u s' := by
 obtain ⟨v, H', os, bare, un, hok, r, q⟩ := h
 obtain ⟨hh, g, d, t, os'⟩ := s'
 obtain rfl : os' = s.os := os
 exact ⟨v, H', I.call (h' := hh) (g' := g) (d' := d) (t' := t) (ch := []) un hok bare (fun b z => absurd z (by simp)), r, q⟩
end
noncomputable def tCall (sp : Sp) (dvs : List V) (E : XK) (t : TA) : TE := fun σ H Q => t σ H fun vs H1 => sp (vs ++ dvs) H1 Q E
noncomputable def Binds (K : PySem.W.Frag) (fd : FuncData) (ps : List Str) (ds : List Value) : Prop :=
 ∀ (s : Shared) (us : List Value), K.In s.heap → (us ++ ds).length = ps.length → BindsTo s fd ⟨us, []⟩ (ps.zip (us ++ ds))
theorem Binds.all {K : PySem.W.Frag} {fd : FuncData} {ps : List Str} (h : ∀ us : List Value, us.length = ps.length → bindArgs fd ⟨us, []⟩ = pure (ps.zip us)) : Binds K fd ps [] := fun s us _ hl => by
 rw [List.append_nil] at hl ⊢
 exact .of_eq (h us hl)
noncomputable def Passes (CX : CXT) (X : Cx) (E : XK) : Prop := ∀ (pins : List (Addr × Obj)) (σ : St) (H : Hp) (s : Shared) (e : Value) (s' : Shared), Inv X pins σ H s → CX X.stack H s E e s' → X.xe e s'
section
variable {X : Cx} {CX : CXT} {k : Nat} {f C : Addr} {fd : FuncData} {ps : List Str} {sp : Sp} {dvs : List V} {ds : List Value} {E : XK} {x m : Str} {p pos apos : Pos} {e o : Expr} {es : List Expr} {ta : TE} {t : TA}
theorem run_fn {pins : List (Addr × Obj)} {σ : St} {H : Hp} {s : Shared} {Q : VK} {us : List Value} {vs : List V} (F : FnOk X.prog X.w X.K X.mg X.base CX k f fd ps sp) (hr : Room k X.A) (hb : Binds X.K fd ps ds) (hd : Vals dvs ds) (hx : Passes CX X E)
   (I : Inv X pins σ H s) (r : Vals vs us) (h : sp (vs ++ dvs) H Q E) : wpAny (model X.prog X.w) X.A (call (.ref f) us) (EP X pins σ Q) X.xe s := by
 have r2 : Vals (vs ++ dvs) (us ++ ds) := r.append hd
 have hl : (us ++ ds).length = ps.length := by rw [← r2.length]; exact F.len _ _ _ _ h
 refine wpAny_call (codeAny_mono (F.run X.A X.stack s H ⟨us, []⟩ (us ++ ds) (vs ++ dvs) Q E hr I.env0 (hb s us I.kIn hl) r2 h) fun r s' hq => ?_)
 cases r with
 | error e => exact hx pins σ H s e s' I hq
 | ok fl =>
   cases fl with
   | ret u => exact I.after hq
   | next => exact False.elim hq
   | brk => exact False.elim hq
   | cont => exact False.elim hq
theorem pe_call (F : FnOk X.prog X.w X.K X.mg X.base CX k f fd ps sp) (hr : Room k X.A) (hg : Gl X x) (hm : X.mg x = some (.ref f)) (hk : PySem.W.keepIn X.K (.ref f) = true) (hb : Binds X.K fd ps ds) (hd : Vals dvs ds) (hx : Passes CX X E)
   (ha : PA X (e :: es) t) (hdb : (x == ("__debug__" : Str)) = false := by decide) (he : starEach (e :: es) X.env = (false, eval e X.env) :: starEach es X.env := by rfl) (hpl : (backTo pos (starEach es X.env)).any (·.1) = false := by rfl) :
   PE X (.Call (.Name x p) (e :: es) [] pos) (tCall sp dvs E t) := by
 intro pins s σ H Q I h
 refine wpAny_Call_Name_kw (ld_glob I hg hm ?_ hdb)
 refine PySem.W.callWith_K (h₀ := X.base) I.ok.mod.kin hk (thn (ha pos pins s σ H _ I h) fun us s1 ⟨vs, H1, I1, r, q⟩ => ⟨I1.kIn, ?_⟩) he hpl
 exact run_fn F hr hb hd hx I1 r q
end
section
variable {X : Cx} {CX : CXT} {k : Nat} {f C : Addr} {fd : FuncData} {ps ks : List Str} {sp : Sp} {E : XK} {x m : Str} {p pos apos kpos : Pos} {e o : Expr} {es : List Expr} {kws : List Keyword} {te ta : TE} {t tk : TA} {nm : Option Str}
variable {g : List Value → List Value → List Value} {gV : List V → List V → List V}
end
structure FnScope (N P : List Str) (sc : Scope) : Prop where
 kind : sc.kind = .function
 co : sc.isCoroutine = false
 gen : sc.isGenerator = false
 nd : N.Nodup
 pre : N.take P.length = P
 par : ∀ x ∈ P, sc.names.lookup x = some .local ∨ sc.names.lookup x = some .cell
 nofree : ∀ y ∈ sc.names, y.2 ≠ .free
theorem bindL_out {kindOf : Str → Option NameKind} {x : Str} : ∀ {binds : List (Str × Value)} {m : Str → Option Value}, (∀ v, (x, v) ∉ binds) → bindL kindOf binds m x = m x
 | [], _, _ => rfl
 | (n, v) :: r, m, h => by
   unfold bindL
   rw [bindL_out fun w hw => h w (List.mem_cons_of_mem _ hw)]
   split
   · have : x ≠ n := by rintro rfl; exact h v List.mem_cons_self
     simp [this]
   · rfl
theorem bindC_out {kindOf : Str → Option NameKind} {x : Str} : ∀ {binds : List (Str × Value)} {m : Str → Option Value}, (∀ v, (x, v) ∉ binds) → bindC kindOf binds m x = m x
 | [], _, _ => rfl
 | (n, v) :: r, m, h => by
   unfold bindC
   rw [bindC_out fun w hw => h w (List.mem_cons_of_mem _ hw)]
   split
   · rfl
   · have : x ≠ n := by rintro rfl; exact h v List.mem_cons_self
     simp [this]
theorem bindL_get {kindOf : Str → Option NameKind} {x : Str} {v : Value} : ∀ {P : List Str} {vs : List Value} {i : Nat} {m : Str → Option Value}, P.Nodup → P[i]? = some x → vs[i]? = some v → kindOf x = some .local →
   bindL kindOf (P.zip vs) m x = some v
 | [], _, _, _, _, h, _, _ => by simp at h
 | _ :: _, [], _, _, _, _, h, _ => by simp at h
 | p :: P, w :: vs, 0, m, nd, h1, h2, hk => by
   simp at h1 h2; subst h1; subst h2
   show bindL kindOf ((p, w) :: P.zip vs) m p = _
   unfold bindL
   rw [bindL_out fun v hv => (List.nodup_cons.mp nd).1 (List.of_mem_zip hv).1, if_pos hk]
   simp
 | p :: P, w :: vs, i + 1, m, nd, h1, h2, hk => by
   show bindL kindOf ((p, w) :: P.zip vs) m x = _
   unfold bindL
   exact bindL_get (i := i) (List.nodup_cons.mp nd).2 (by simpa using h1) (by simpa using h2) hk
theorem bindC_get {kindOf : Str → Option NameKind} {x : Str} {v : Value} : ∀ {P : List Str} {vs : List Value} {i : Nat} {m : Str → Option Value}, P.Nodup → P[i]? = some x → vs[i]? = some v → kindOf x ≠ some .local →
   bindC kindOf (P.zip vs) m x = some v
 | [], _, _, _, _, h, _, _ => by simp at h
 | _ :: _, [], _, _, _, _, h, _ => by simp at h
 | p :: P, w :: vs, 0, m, nd, h1, h2, hk => by
   simp at h1 h2; subst h1; subst h2
   show bindC kindOf ((p, w) :: P.zip vs) m p = _
   unfold bindC
   rw [bindC_out fun v hv => (List.nodup_cons.mp nd).1 (List.of_mem_zip hv).1, if_neg hk]
   simp
 | p :: P, w :: vs, i + 1, m, nd, h1, h2, hk => by
   show bindC kindOf ((p, w) :: P.zip vs) m x = _
   unfold bindC
   exact bindC_get (i := i) (List.nodup_cons.mp nd).2 (by simpa using h1) (by simpa using h2) hk
noncomputable def start (N : List Str) (vs : List V) : St := vs.map some ++ List.replicate (N.length - vs.length) none
noncomputable def cxOf (CX : CXT) (P : Program) (w : World) (K : PySem.W.Frag) (mg : Str → Option Value) (base : Heap) (N : List Str) (qual : Str) (scope : Scope) (f : Addr) (cd : Value) (A : Around) (outer : List Env) (s : Shared) (H : Hp) (E : XK) : Cx where
 prog := P
 w := w
 K := K
 mg := mg
 base := base
 A := A.deeper (envOfC qual scope s.heap.objs.size f cd)
 N := N
 s₀ := s
 H₀ := H
 env := envOfC qual scope s.heap.objs.size f cd
 outer := outer
 stack := envOfC qual scope s.heap.objs.size f cd :: outer
 ex := []
 calm := true
 fn := fun _ => true
 pn := []
 xe := fun e s' => wpAny (model P w) (A.deeper (envOfC qual scope s.heap.objs.size f cd)) (leaving (envOfC qual scope s.heap.objs.size f cd) e) (fun _ s'' => CX outer H s E e s'') (fun e' s'' => CX outer H s E e' s'') s'
theorem cell_has {sc : Scope} {n : Nat} {x : Str} (h : sc.names.lookup x = some .cell) : ∃ c, (cellsFrom n sc.names []).lookup x = some c := by
 have q := PySem.W.cellsFrom_some sc.names n [] (.inl h)
 exact Option.isSome_iff_exists.mp q
theorem inv_start {CX : CXT} {P : Program} {w : World} {K : PySem.W.Frag} {mg : Str → Option Value} {base : Heap} {N ps : List Str} {qual : Str} {scope : Scope} {f : Addr} {cd : Value} {A : Around} {outer : List Env} {s s1 : Shared} {H : Hp} {E : XK} {us : List Value} {vs : List V}
   (S : FnScope N ps scope) (hd : A.handled = none) (e0 : Env0 P w K mg base A outer s H) (hl : vs.length = ps.length) (r : Vals vs us)
   (x : InCallC s s.heap.objs.size (bindL (envOfC qual scope s.heap.objs.size f cd).kindOf (ps.zip us) fun _ => none) (cellsFrom (s.heap.objs.size + 1) scope.names []) (bindC (envOfC qual scope s.heap.objs.size f cd).kindOf (ps.zip us) fun _ => none) s1) :
   Inv (cxOf CX P w K mg base N qual scope f cd A outer s H E) [] (start N vs) H s1 := by
 have hpl : ps.length ≤ N.length := by have := congrArg List.length S.pre; rw [List.length_take] at this; lia
 obtain ⟨h1, tk, rfl, hk⟩ := x.done
 have noA : ∀ b : Addr, b ∉ (cxOf CX P w K mg base N qual scope f cd A outer s H E).ex := fun b z => absurd (show b ∈ ([] : List Addr) from z) (by simp)
 refine ⟨⟨e0.mod, S.kind, rfl, rfl, Nat.le_refl _, fun y z c h1 h2 => ?_, fun y hy => ?_, fun y c _ h => ?_, fun _ => hd, Around.frames_deeper e0.frames, .inr ⟨rfl, rfl⟩, fun b z => absurd z (noA b), e0.bs, e0.bsz, fun b _ _ => noA b, fun b z => absurd z (noA b), e0.funs, e0.frf⟩,
   rfl, e0.bare, Un.kept hk, ⟨_, x.toInCall.ns, fun i y v h1 h2 h3 => ?_⟩, fun y c h => ⟨_, x.cell y c h⟩, e0.hok.fresh (Nat.le_refl _), fun y c h => ?_, fun p hp => absurd (show p ∈ ([] : List (Addr × Obj)) from hp) (by simp), e0.hok.kept hk, ?_⟩
 · exact name_of_addr x.apart (PySem.mem_of_lookup h1) (PySem.mem_of_lookup h2)
 · have hy : scope.names.lookup y = some .cell ∨ scope.names.lookup y = some .free := hy
   rcases hy with hy | hy
   · exact cell_has hy
   · exact absurd rfl (S.nofree _ (PySem.mem_of_lookup hy))
 · exact Nat.le_of_lt (x.above y c (PySem.mem_of_lookup h))
 · have hi : i < vs.length := by
     unfold start at h2
     by_cases hi : i < vs.length
     · exact hi
     · rw [List.getElem?_append_right (by simpa using hi)] at h2
       rw [List.getElem?_replicate] at h2
       split at h2 <;> cases h2
   have ha : vs[i]? = some v := by
     unfold start at h2
     rw [List.getElem?_append_left (by simpa using hi), List.getElem?_map] at h2
     cases e : vs[i]? with
     | none => rw [e] at h2; cases h2
     | some a => rw [e] at h2; cases h2; rfl
   obtain ⟨u, hu, rv⟩ := r.get ha
   have hp : ps[i]? = some y := by
     rw [← S.pre, List.getElem?_take_of_lt (by lia)]; exact h1
   have ndP : ps.Nodup := by rw [← S.pre]; exact S.nd.sublist (List.take_sublist _ _)
   refine ⟨u, rv, ?_⟩
   rcases S.par y (List.mem_of_getElem? hp) with k | k
   · exact .inl ⟨k, bindL_get ndP hp hu k⟩
   · obtain ⟨c, e⟩ := cell_has (n := s.heap.objs.size + 1) k
     refine .inr ⟨.inl k, c, e, ?_⟩
     have q := x.cell y c e
     rw [bindC_get ndP hp hu (by show scope.names.lookup y ≠ _; rw [k]; decide)] at q
     exact q
 · exact e0.hok.fresh (Nat.le_of_lt (x.above y c (PySem.mem_of_lookup h)))
 · unfold start
   show _ = N.length
   rw [List.length_append, List.length_map, List.length_replicate]
   lia
theorem fn_of {CX : CXT} {P : Program} {w : World} {K : PySem.W.Frag} {mg : Str → Option Value} {base : Heap} {k : Nat} {f : Addr} {name qual : Str} {params : Arguments} {body : List Stmt} {scope : Scope} {dV kV doc pm cdv ct oc : Value} {an od : Option Addr}
   {osl : Array (Option Value)} {N ps : List Str} {sp : Sp} (lk : K.lookup f = some ⟨oc, od, .func (PySem.W.fnOf name qual params body scope dV kV doc pm an cdv ct), osl⟩) (hcd : PySem.W.codeIn K cdv qual = true) (S : FnScope N ps scope)
   (len : ∀ vs H Q E, sp vs H Q E → vs.length = ps.length)
   (hbody : ∀ (A : Around) (outer : List Env) (s : Shared) (H : Hp) (vs : List V) (Q : VK) (E : XK), Room k (A.deeper (envOfC qual scope s.heap.objs.size f cdv)) → sp vs H Q E →
     ∃ t, PSs (cxOf CX P w K mg base N qual scope f cdv A outer s H E) body t ∧ t { nx := fun _ H' => Q .non H', rt := Q } (start N vs) H) :
   FnOk P w K mg base CX (k + 1) f (PySem.W.fnOf name qual params body scope dV kV doc pm an cdv ct) ps sp := by
 refine ⟨len, fun A outer s H args us vs Q E hr e0 hb r hsp => ?_⟩
 have hl := len _ _ _ _ hsp
 have KX : K.In s.heap := e0.mod.kin.keeps fun b o e => (e0.bs b o e).1
 have lim : s.heap.NoLimit := e0.mod.nolimit.keeps fun b o e => (e0.bs b o e).1
 have hkind : ∀ y ∈ ps.zip us, scope.names.lookup y.1 = some .local ∨ (scope.names.lookup y.1 = some .cell ∧ ((cellsFrom (s.heap.objs.size + 1) scope.names []).lookup y.1).isSome = true) := fun ⟨n, v⟩ hy => by
   rcases S.par n (List.of_mem_zip hy).1 with q | q
   · exact .inl q
   · exact .inr ⟨q, PySem.W.cellsFrom_some _ _ _ (.inl q)⟩
 refine codeAny_call_function hr.depth (KX _ _ lk) rfl S.co S.gen rfl (PySem.W.codeRec_of KX hcd) (hb _ _ _ _ ?_)
 refine wpAny_newFunctionEnv_cells S.kind hkind fun env he s1 x => ?_
 subst he
 refine ⟨lim.keeps x.toInCall.keep, codeAny_func ?_⟩
 obtain ⟨t, ht, hq⟩ := hbody A outer s H vs Q E (hr.deeper _) hsp
 have I : Inv (cxOf CX P w K mg base N qual scope f cdv A outer s H E) [] (start N vs) H s1 := inv_start S hr.hd e0 hl r x
 refine wpAny_mono (ht [] s1 (start N vs) H _ I hq) (fun fl s' hs => ?_) fun e s' hs => hs
 have fin : ∀ {σ' : St} {H' : Hp} {v : V} {u : Value}, Inv (cxOf CX P w K mg base N qual scope f cdv A outer s H E) [] σ' H' s' → RelV v u → Q v H' → CE outer P w H s Q u s' :=
   fun {σ' H' v u} J rv q => ⟨v, H', J.os, J.bare, J.base, J.hok, rv, q⟩
 cases fl with
 | ret u =>
   obtain ⟨v, σ', H', J, rv, q⟩ := hs
   exact fin J rv q
 | next =>
   obtain ⟨σ', H', J, q⟩ := hs
   exact fin (v := V.non) (u := Value.none) J rfl q
 | brk =>
   obtain ⟨_, _, _, q⟩ := hs
   exact False.elim q
 | cont =>
   obtain ⟨_, _, _, q⟩ := hs
   exact False.elim q
end L2
namespace L2
open PySem PySem.Spec PyProof.Rows
section
variable {X : Cx} {x : Str} {p pos : Pos} {e : Expr} {es : List Expr} {t : TA} {id T : String} {r : List V → Hp → VK → Prop}
noncomputable def tCB (r : List V → Hp → VK → Prop) (t : TA) : TE := fun σ H Q => t σ H fun vs H1 => r vs H1 Q
theorem pe_callB (hc : CallR X (.builtin id) r) (hg : Gl X x) (hm : X.mg x = none) (hv : bootBuiltins x = some (.builtin id)) (ha : PA X (e :: es) t) (hn : x ≠ "__name__" := by decide) (hdb : (x == ("__debug__" : Str)) = false := by decide)
   (he : starEach (e :: es) X.env = (false, eval e X.env) :: starEach es X.env := by rfl) (hpl : (backTo pos (starEach es X.env)).any (·.1) = false := by rfl) : PE X (.Call (.Name x p) (e :: es) [] pos) (tCB r t) := by
 intro pins s σ H Q I h
 refine wpAny_Call_Name_kw (ld_blt I hg hm hv ?_ hn hdb)
 exact PyProof.Rows.callWith_builtin1 (thn (ha pos pins s σ H _ I h) fun us s1 ⟨vs, H1, I1, r1, q1⟩ => hc pins s1 σ H1 vs us Q I1 r1 q1) he hpl
theorem pe_callTy (hc : CallR X (.type T) r) (hg : Gl X x) (hm : X.mg x = none) (hv : bootBuiltins x = some (.type T)) (ha : PA X (e :: es) t) (hn : x ≠ "__name__" := by decide) (hdb : (x == ("__debug__" : Str)) = false := by decide)
   (he : starEach (e :: es) X.env = (false, eval e X.env) :: starEach es X.env := by rfl) (hpl : (backTo pos (starEach es X.env)).any (·.1) = false := by rfl) : PE X (.Call (.Name x p) (e :: es) [] pos) (tCB r t) := by
 intro pins s σ H Q I h
 refine wpAny_Call_Name_kw (ld_blt I hg hm hv ?_ hn hdb)
 exact PyProof.Rows.callWith_type1 (thn (ha pos pins s σ H _ I h) fun us s1 ⟨vs, H1, I1, r1, q1⟩ => hc pins s1 σ H1 vs us Q I1 r1 q1) he hpl
end
end L2
namespace HT
open PySem PyProof.Rows
section
open PySem.SeqAt
open PySem.AutoSeq1 (wpAny_loadPart')
open PySem.MeetsSeq PySem.MeetsSeq2 PySem.MeetsSeq3
end
section
variable {prog : Program} {w : World} {A : Around} {E : Value → Shared → Prop} {s : Shared}
theorem cat_tup {t b : Addr} {vs ws : List Value} {Q : Value → Shared → Prop} (ht : IsTup s.heap t vs.toArray) (hb : IsTup s.heap b ws.toArray) (hv : vs ≠ [])
   (h1 : ws = [] → Q (.ref t) s) (h2 : ws ≠ [] → Q (.ref s.heap.objs.size) { s with heap := s.heap.push { cls := .type "tuple", data := .seq (vs ++ ws).toArray } })
   (hsz : vs.length + ws.length ≤ sizeLine) : wpAny (model prog w) A (binaryOp .Add (.ref t) (.ref b)) Q E s := by
 obtain ⟨⟨cls, dd, data, sl⟩, ho, hc, n, hd⟩ := id ht
 obtain ⟨⟨cls2, dd2, data2, sl2⟩, ho2, hc2, n2, hd2⟩ := id hb
 simp only at hc hd hc2 hd2
 subst hc hd hc2 hd2
 have e : vs.toArray ++ ws.toArray = (vs ++ ws).toArray := by simp
 by_cases hw : ws = []
 · exact concat_meets ⟨_, ho, rfl⟩ ⟨_, ho2, rfl⟩ noFill_tuple_add seq_tuple_add PySem.F.slot_tuple_add PySem.F.entry_tuple_add (PySem.F.args_tuple_add_2 _ _)
     (tuple_addW1 t b vs.toArray ws.toArray n n2 dd dd2 sl sl2 (by simpa using hv) (by simp [hw])) ⟨ho, ho2, h1 hw⟩
 · refine concat_meets ⟨_, ho, rfl⟩ ⟨_, ho2, rfl⟩ noFill_tuple_add seq_tuple_add PySem.F.slot_tuple_add PySem.F.entry_tuple_add (PySem.F.args_tuple_add_2 _ _)
     (tuple_addW2 t b vs.toArray ws.toArray n n2 dd dd2 sl sl2 (by simpa using hv) (by simpa using hw) (by rw [List.size_toArray, List.size_toArray]; exact hsz)) ⟨ho, ho2, ?_⟩
   rw [e]
   exact h2 hw
noncomputable def sIx (n d : Nat) : Option Int → Nat
 | none => d
 | some v => if v < 0 then (v + (n : Int)).toNat else min v.toNat n
theorem sIx_none (n d : Nat) : sIx n d none = d := rfl
theorem sIx_nat (n d k : Nat) : sIx n d (some (k : Int)) = min k n := by
 show (if (k : Int) < 0 then ((k : Int) + (n : Int)).toNat else min (k : Int).toNat n) = min k n
 rw [if_neg (by lia), Int.toNat_natCast]
theorem sIx_le (n d : Nat) (hd : d ≤ n) (o : Option Int) : sIx n d o ≤ n := by
 cases o with
 | none => exact hd
 | some v =>
   show (if v < 0 then (v + (n : Int)).toNat else min v.toNat n) ≤ n
   by_cases hv : v < 0
   · rw [if_pos hv]; lia
   · rw [if_neg hv]; exact Nat.min_le_right _ _
theorem clip_eq (v : Int) (n d : Nat) : (if v < 0 then max (v + (n : Int)) 0 else min v (n : Int)) = ((sIx n d (some v) : Nat) : Int) := by
 show (if v < 0 then max (v + (n : Int)) 0 else min v (n : Int)) = (((if v < 0 then (v + (n : Int)).toNat else min v.toNat n) : Nat) : Int)
 by_cases hv : v < 0
 · simp only [if_pos hv]; lia
 · simp only [if_neg hv]; lia
theorem adjust_gen (lo hi : Option Int) (n : Nat) : Builtin.Slice.sliceAdjust lo hi 1 (n : Int) = (((sIx n 0 lo : Nat) : Int), ((sIx n n hi : Nat) : Int)) := by
 have h1 : ¬ ((1 : Int) < 0) := by lia
 unfold Builtin.Slice.sliceAdjust
 simp only [h1, if_false]
 refine Prod.ext ?_ ?_
 · cases lo with
   | none => rfl
   | some v => exact clip_eq v n 0
 · cases hi with
   | none => rfl
   | some v => exact clip_eq v n n
theorem places_gen (i j : Nat) : Builtin.Slice.slicePlaces (i : Int) (j : Int) 1 = j - i := by
 unfold Builtin.Slice.slicePlaces
 have h1 : (1 : Int) > 0 := by lia
 simp only [h1, if_true, Int.ediv_one]
 split <;> lia
theorem slicePart_ {v : Value} {o : Option Int} {Q : Option Int → Shared → Prop} (p : IsPart v o) (h : Q o s) : wpAny (model prog w) A (Builtin.Slice.slicePartIndex v) Q E s := by
 cases p with
 | none => exact slicePart_none h
 | int i t => exact slicePart_int h
theorem sliceApplied_gen {sl : Addr} {vl vu : Value} {lo hi : Option Int} {n : Nat} {Q : Int × Int × Nat → Shared → Prop} (hs : s.heap.IsSliceOf sl vl vu .none) (pl : IsPart vl lo) (pu : IsPart vu hi)
   (h : Q (((sIx n 0 lo : Nat) : Int), 1, sIx n n hi - sIx n 0 lo) s) : wpAny (model prog w) A (Builtin.Slice.sliceApplied (.ref sl) (pure (n : Int))) Q E s := by
 obtain ⟨os, hos, hcs, hds⟩ := id hs
 unfold Builtin.Slice.sliceApplied Builtin.Slice.sliceFields
 refine wpAny_bind (wpAny_bind (wpAny_field hos hds (x := vl) rfl (wpAny_bind (wpAny_field hos hds (x := vu) rfl (wpAny_bind (wpAny_field hos hds (x := .none) rfl (wpAny_pure ?_)))))))
 refine wpAny_bind (slicePart_none ?_)
 show wpAny _ _ (if ((1 : Int) == 0) = true then _ else _) _ _ s
 rw [if_neg (by decide)]
 refine wpAny_bind (slicePart_ pl (wpAny_bind (slicePart_ pu (wpAny_bind (wpAny_pure ?_)))))
 show wpAny _ _ (match Builtin.Slice.sliceAdjust lo hi 1 (n : Int) with | (lo, hi) => pure (lo, (1 : Int), Builtin.Slice.slicePlaces lo hi 1)) _ _ s
 rw [adjust_gen lo hi n]
 show wpAny _ _ (pure (((sIx n 0 lo : Nat) : Int), (1 : Int), Builtin.Slice.slicePlaces ((sIx n 0 lo : Nat) : Int) ((sIx n n hi : Nat) : Int) 1)) _ _ s
 rw [places_gen]
 exact wpAny_pure h
theorem pick_gen (xs : Array Value) (i k : Nat) : ((List.range k).filterMap fun (m : Nat) => xs[((i : Int) + (m : Int) * 1).toNat]?).toArray = ((xs.toList.drop i).take k).toArray := by
 have e : (fun (m : Nat) => xs[((i : Int) + (m : Int) * 1).toNat]?) = fun m => xs[i + m]? := by
   funext m
   have : ((i : Int) + (m : Int) * 1).toNat = i + m := by lia
   rw [this]
 rw [e]
 have := pick_run xs i k
 rw [List.filterMap_map] at this
 have e2 : ((fun x => xs[x]?) ∘ fun x => i + x) = fun m => xs[i + m]? := rfl
 rw [e2] at this
 rw [this]
theorem getItem_tuple_cut {t sl : Addr} {items : Array Value} {vl vu : Value} {lo hi : Option Int} {Q : Value → Shared → Prop} (ht : IsTup s.heap t items) (hs : s.heap.IsSliceOf sl vl vu .none) (pl : IsPart vl lo) (pu : IsPart vu hi)
   (hw : ¬ (sIx items.size 0 lo = 0 ∧ sIx items.size items.size hi = items.size))
   (h : Q (.ref s.heap.objs.size) { s with heap := s.heap.push { cls := .type "tuple", data := .seq ((items.toList.drop (sIx items.size 0 lo)).take (sIx items.size items.size hi - sIx items.size 0 lo)).toArray } })
   (hsz : items.size ≤ sizeLine) : wpAny (model prog w) A (getItem (.ref t) (.ref sl)) Q E s := by
 have htake : sizeOk (.seq ((items.toList.drop (sIx items.size 0 lo)).take (sIx items.size items.size hi - sIx items.size 0 lo)).toArray) := by
   show ((items.toList.drop (sIx items.size 0 lo)).take (sIx items.size items.size hi - sIx items.size 0 lo)).toArray.size ≤ sizeLine
   rw [List.size_toArray, List.length_take, List.length_drop, Array.length_toList]
   lia
 have hj : sIx items.size items.size hi ≤ items.size := sIx_le _ _ (Nat.le_refl _) hi
 obtain ⟨os, hos, hcs, hds⟩ := id hs
 have hTs : s.TypeIs (.ref sl) "slice" := ⟨os, hos, hcs⟩
 unfold getItem
 try with_reducible refine wpAny_holding ?_
 first | refine wpAny_bind (wpAny_pure ?_) | skip
 refine wpAny_bind (wpAny_sequenceKey ht.typeIs (by decide) ?_)
 refine wpAny_bind (wpAny_callSpecial?_slot (name := Str.ofString "__getitem__") ht.typeIs PyProof.Rows.slot_tuple_getitem
   (wpAny_call_entry PyProof.Rows.slot_tuple_getitem ht.typeIs entry_tuple_getitem ?_ (args_tuple_getitem _ _)))
 show wpAny _ _ (Builtin.Tuple.tupleItemsOf (.ref t) >>= _) _ _ s
 refine wpAny_bind (tupleItemsOf_ ht ?_)
 refine wpAny_bind (wpAny_typeOf hTs ?_)
 rw [if_pos (by decide)]
 refine wpAny_bind (sliceApplied_gen hs pl pu ?_)
 have hno : ¬ ((((sIx items.size 0 lo : Nat) : Int) == 0 && (1 : Int) == 1 && (sIx items.size items.size hi - sIx items.size 0 lo) == items.size) = true) := by
   intro q
   rw [Bool.and_eq_true, Bool.and_eq_true] at q
   have q1 : ((sIx items.size 0 lo : Nat) : Int) = 0 := eq_of_beq q.1.1
   have q2 : sIx items.size items.size hi - sIx items.size 0 lo = items.size := eq_of_beq q.2
   exact hw ⟨by lia, by lia⟩
 show wpAny _ _ (if (((sIx items.size 0 lo : Nat) : Int) == 0 && (1 : Int) == 1 && (sIx items.size items.size hi - sIx items.size 0 lo) == items.size) = true then _ else _) _ _ s
 rw [if_neg hno, pick_gen]
 first
   | exact wpAny_bind (m := Builtin.Tuple.tupleExact _) (wpAny_newObj_type (wpAny_pure ⟨_, rfl, wpAny_pure h⟩) htake)
   | exact wpAny_bind (m := Builtin.Tuple.tupleExact _) (wpAny_newObj_type (wpAny_bind (wpAny_pure (wpAny_pure ⟨_, rfl, wpAny_pure h⟩))) htake)
   | exact wpAny_bind (wpAny_bind (m := Builtin.Tuple.tupleExact _) (wpAny_newObj_type (wpAny_pure (wpAny_pure ⟨_, rfl, wpAny_pure h⟩)) htake))
   | exact wpAny_bind (wpAny_bind (m := Builtin.Tuple.tupleExact _) (wpAny_newObj_type (wpAny_pure ⟨_, rfl, wpAny_pure h⟩) htake))
end
end HT
namespace L2
open PySem PySem.Spec PyProof.Rows
noncomputable abbrev TO := St → Hp → (Option Int → Hp → Prop) → Prop
noncomputable def PO (X : Cx) (e : Option Expr) (t : TO) : Prop :=
 ∀ (pins : List (Addr × Obj)) (s : Shared) (σ : St) (H : Hp) (Q : Option Int → Hp → Prop), Inv X pins σ H s → t σ H Q →
   wpAny (model X.prog X.w) X.A (evalPart e X.env) (fun u s' => ∃ o H', Inv X pins σ H' s' ∧ IsPart u o ∧ Q o H') X.xe s
noncomputable def tNoPart : TO := fun _ H Q => Q none H
noncomputable def tPart (t : TE) : TO := fun σ H Q => t σ H fun x H1 => ∃ i, x = .int i ∧ Q (some i) H1
theorem intsAre_of {ns : List Int} : ∀ {us : List Value}, Vals (ns.map V.int) us → IntsAre us ns := by
 induction ns with
 | nil => intro us r; rw [List.map_nil] at r; cases r; exact .nil
 | cons n ns ih =>
   intro us r
   rw [List.map_cons] at r
   cases r with
   | cons r1 r2 =>
     obtain ⟨t, e⟩ := r1
     subst e
     exact .cons n t (ih r2)
section
variable {X : Cx} {e : Expr} {te : TE} {lo hi : Option Expr} {tl th : TO} {pos p2 : Pos}
theorem po_none : PO X none tNoPart := by
 intro pins s σ H Q I h
 rw [evalPart_none]
 exact wpAny_pure ⟨none, H, I, .none, h⟩
theorem po_some (h : PE X e te) : PO X (some e) (tPart te) := by
 intro pins s σ H Q I hw
 rw [evalPart_some]
 refine thn (h pins s σ H _ I hw) fun u s1 ⟨x, H1, I1, r1, q1⟩ => ?_
 obtain ⟨i, rfl, q⟩ := q1
 obtain ⟨t, rfl⟩ := r1
 exact ⟨some i, H1, I1, .int i t, q⟩
noncomputable def SlR (X : Cx) (r : V → Option Int → Option Int → Hp → VK → Prop) : Prop :=
 ∀ (pins : List (Addr × Obj)) (s : Shared) (σ : St) (H : Hp) (x : V) (v vl vu : Value) (lo hi : Option Int) (sl : Addr) (Q : VK), Inv X pins σ H s → RelV x v → s.heap.IsSliceOf sl vl vu .none → IsPart vl lo → IsPart vu hi → r x lo hi H Q →
   ∃ T id, typeLookup (.type T) "__getitem__" = pure (some (.builtin id)) ∧ s.TypeIs v T ∧ wpAny (model X.prog X.w) X.A (getItem v (.ref sl)) (EP X pins σ Q) X.xe s
theorem SlR.or {r r' : V → Option Int → Option Int → Hp → VK → Prop} (h : SlR X r) (h' : SlR X r') : SlR X (fun x lo hi H Q => r x lo hi H Q ∨ r' x lo hi H Q) := by
 intro pins s σ H x v vl vu lo hi sl Q I rx hs pl pu q
 rcases q with q | q
 · exact h pins s σ H x v vl vu lo hi sl Q I rx hs pl pu q
 · exact h' pins s σ H x v vl vu lo hi sl Q I rx hs pl pu q
noncomputable def tSl (r : V → Option Int → Option Int → Hp → VK → Prop) (te : TE) (tl th : TO) : TE := fun σ H Q => te σ H fun x H1 => tl σ H1 fun l H2 => th σ H2 fun u H3 => r x l u H3 Q
theorem pe_slice {r : V → Option Int → Option Int → Hp → VK → Prop} (hr : SlR X r) (he : PE X e te) (hl : PO X lo tl) (hu : PO X hi th) : PE X (.Subscript e (.Slice lo hi none p2) pos) (tSl r te tl th) := by
 intro pins s σ H Q I h
 refine Subscript_ (thn (he pins s σ H _ I h) fun v s1 ⟨x, H1, I1, r1, q1⟩ => ?_)
 refine wpAny_Slice (thn (hl pins s1 σ H1 _ I1 q1) fun vl s2 ⟨l, H2, I2, pl, q2⟩ => thn (hu pins s2 σ H2 _ I2 q2) fun vu s3 ⟨u, H3, I3, pu, q3⟩ => ?_)
 rw [evalPart_none]
 refine wpAny_pure ?_
 have I4 : Inv X pins σ H3 { s3 with heap := s3.heap.push { cls := .type "slice", data := .fields #[vl, vu, .none] } } := I3.kept (t' := s3.toks) fun b ob q => Heap.get?_push_of_some _ q
 obtain ⟨T, id, hT, ht, hg⟩ := hr pins { s3 with heap := s3.heap.push { cls := .type "slice", data := .fields #[vl, vu, .none] } } σ H3 x v vl vu l u s3.heap.objs.size Q I4 r1 (Heap.IsSliceOf.new ..) pl pu q3
 show wpAny (model X.prog X.w) X.A (subscriptTail e (.Slice lo hi none p2) v (.ref s3.heap.objs.size)) (EP X pins σ Q) X.xe { s3 with heap := s3.heap.push { cls := .type "slice", data := .fields #[vl, vu, .none] } }
 exact tail_any (ops := [.ref s3.heap.objs.size, v]) ht hT hg (by with_unfolding_all rfl)
noncomputable def cutV (xs : List V) (lo hi : Option Int) : List V := (xs.drop (HT.sIx xs.length 0 lo)).take (HT.sIx xs.length xs.length hi - HT.sIx xs.length 0 lo)
theorem cutV_length (xs : List V) (lo hi : Option Int) : (cutV xs lo hi).length ≤ xs.length := by
 unfold cutV
 rw [List.length_take, List.length_drop]
 lia
noncomputable def rSlT (K : PySem.W.Frag) : V → Option Int → Option Int → Hp → VK → Prop := fun x lo hi H Q => ∃ a xs, x = .ref a ∧ SqT K H a xs ∧
 ¬ (HT.sIx xs.length 0 lo = 0 ∧ HT.sIx xs.length xs.length hi = xs.length) ∧ ∀ p, H p = none → Q (.ref p) (upd H p (.tup (cutV xs lo hi)))
theorem sl_tup : SlR X (rSlT X.K) := by
 intro pins s σ H x v vl vu lo hi sl Q I rx hs pl pu h
 obtain ⟨a, xs, rfl, hx, hw, q⟩ := h
 cases rx
 obtain ⟨its, r, ht, hz⟩ := I.tuple hx
 have hlen : its.toArray.size = xs.length := by rw [List.size_toArray]; exact r.length.symm
 refine ⟨"tuple", _, PyProof.Rows.slot_tuple_getitem.lookup, ht.typeIs, ?_⟩
 refine HT.getItem_tuple_cut ht hs pl pu (by rw [hlen]; exact hw) ?_ (by rw [hlen]; exact hz)
 rw [hlen]
 refine ⟨.ref s.heap.objs.size, _, I.laid (t' := s.toks) (o := .tup (cutV xs lo hi)) (fun b ob q => Heap.get?_push_of_some _ q) (Nat.le_refl _) ?_, rfl, q _ (I.hok.fresh (Nat.le_refl _))⟩
 exact ⟨Nat.le_trans (cutV_length xs lo hi) hz, _, (r.drop (HT.sIx xs.length 0 lo)).take (HT.sIx xs.length xs.length hi - HT.sIx xs.length 0 lo), IsTup0.new _ _⟩
noncomputable def rCatT (K : PySem.W.Frag) : R2 := fun x y H Q => ∃ a b xs ys, x = .ref a ∧ y = .ref b ∧ SqT K H a xs ∧ SqT K H b ys ∧ xs ≠ [] ∧ xs.length + ys.length ≤ sizeLine ∧
 (ys = [] → Q (.ref a) H) ∧ (ys ≠ [] → ∀ p, H p = none → Q (.ref p) (upd H p (.tup (xs ++ ys))))
theorem Vals.nil_iff {xs : List V} {us : List Value} (r : Vals xs us) : us = [] ↔ xs = [] := by
 cases r with
 | nil => simp
 | cons _ _ => simp
theorem op_catT : OpR X (binaryOp .Add) (rCatT X.K) := by
 intro pins s σ H x y v u Q I rx ry h
 obtain ⟨a, b, xs, ys, rfl, rfl, ha, hb, hx, hz, q1, q2⟩ := h
 cases rx
 cases ry
 obtain ⟨its, r1, p1, _⟩ := I.tuple ha
 obtain ⟨its2, r2, p2, _⟩ := I.tuple hb
 refine HT.cat_tup p1 p2 (fun z => hx (r1.nil_iff.mp z)) (fun z => ⟨.ref a, H, I, rfl, q1 (r2.nil_iff.mp z)⟩) (fun z => ?_) (by rw [← r1.length, ← r2.length]; exact hz)
 refine ⟨.ref s.heap.objs.size, _, I.laid (t' := s.toks) (o := .tup (xs ++ ys)) (fun b ob q => Heap.get?_push_of_some _ q) (Nat.le_refl _) ?_, rfl, q2 (fun w => z (r2.nil_iff.mpr w)) _ (I.hok.fresh (Nat.le_refl _))⟩
 exact ⟨by rw [List.length_append]; exact hz, _, r1.append r2, IsTup0.new _ _⟩
end
end L2
namespace L2
open PySem PySem.Spec PyProof.Rows
noncomputable def ixN (n : Nat) (i : Int) : Option Nat := if 0 ≤ i then (if i < n then some i.toNat else none) else if -(n : Int) ≤ i then some (i + n).toNat else none
noncomputable def atI {α : Type} (xs : List α) (i : Int) : Option α := (ixN xs.length i).bind fun j => xs[j]?
theorem ixN_seq {n : Nat} {i : Int} {j : Nat} (h : ixN n i = some j) : seqIndex? i n = some j ∧ j < n ∧ -(n : Int) ≤ i ∧ i < n := by
 unfold ixN at h
 by_cases h0 : 0 ≤ i
 · rw [if_pos h0] at h
   by_cases h1 : i < n
   · rw [if_pos h1] at h
     have e : i.toNat = j := Option.some.inj h
     exact ⟨by rw [seqIndex_of h0 h1, e], by lia, by lia, h1⟩
   · rw [if_neg h1] at h; cases h
 · rw [if_neg h0] at h
   by_cases h1 : -(n : Int) ≤ i
   · rw [if_pos h1] at h
     have e : (i + n).toNat = j := Option.some.inj h
     exact ⟨by rw [seqIndex_neg (by lia) h1, e], by lia, h1, by lia⟩
   · rw [if_neg h1] at h; cases h
theorem atI_get {α : Type} {xs : List α} {i : Int} {v : α} (h : atI xs i = some v) : ∃ j, seqIndex? i xs.length = some j ∧ xs[j]? = some v ∧ j < xs.length ∧ -(xs.length : Int) ≤ i ∧ i < xs.length := by
 unfold atI at h
 cases e : ixN xs.length i with
 | none => rw [e] at h; cases h
 | some j =>
   rw [e] at h
   obtain ⟨h1, h2, h3, h4⟩ := ixN_seq e
   exact ⟨j, h1, h, h2, h3, h4⟩
theorem atI_nat {α : Type} {xs : List α} {j : Nat} {v : α} (h : xs[j]? = some v) : atI xs (j : Int) = some v := by
 have hj : j < xs.length := (List.getElem?_eq_some_iff.mp h).1
 have e : ixN xs.length (j : Int) = some j := by
   unfold ixN
   rw [if_pos (by lia), if_pos (by lia)]; simp
 unfold atI; rw [e]; exact h
noncomputable def PlainIx (b : Expr) : Prop := ∀ o i, subscripted b false o i = operate [o, i] (getItem o i)
noncomputable def IxR (X : Cx) (r : R2) : Prop :=
 ∀ (value slice : Expr) (pins : List (Addr × Obj)) (s : Shared) (σ : St) (H : Hp) (x y : V) (v u : Value) (Q : VK), Inv X pins σ H s → RelV x v → RelV y u → r x y H Q →
   subscripted slice false v u = operate [v, u] (getItem v u) → wpAny (model X.prog X.w) X.A (subscriptTail value slice v u) (EP X pins σ Q) X.xe s
noncomputable def MtR (X : Cx) (id : String) (r : V → List V → Hp → VK → Prop) : Prop :=
 ∀ (pins : List (Addr × Obj)) (s : Shared) (σ : St) (H : Hp) (x : V) (xs : List V) (v : Value) (us : List Value) (Q : VK), Inv X pins σ H s → RelV x v → Vals xs us → r x xs H Q →
   wpAny (model X.prog X.w) X.A (call (.builtin id) (v :: us)) (EP X pins σ Q) X.xe s
section
variable {X : Cx} {a b : Expr} {ta tb : TE} {pos : Pos}
theorem pe_ix {r : R2} (hr : IxR X r) (ha : PE X a ta) (hb : PE X b tb) (hs : PlainIx b) : PE X (.Subscript a b pos) (tOp r ta tb) := by
 intro pins s σ H Q I h
 exact Subscript_ (binT ha hb I h fun v u s2 x y H2 I2 rx ry q => hr a b pins s2 σ H2 x y v u Q I2 rx ry q (hs _ _))
noncomputable def rIxL (K : PySem.W.Frag) : R2 := fun x y H Q => ∃ p xs i v, x = .ref p ∧ y = .int i ∧ SqL K H p xs ∧ atI xs i = some v ∧ Q v H
noncomputable def rIxT (K : PySem.W.Frag) : R2 := fun x y H Q => ∃ p xs i v, x = .ref p ∧ y = .int i ∧ SqT K H p xs ∧ atI xs i = some v ∧ Q v H
noncomputable def rIxS : R2 := fun x y H Q => ∃ z i c, x = .str z ∧ y = .int i ∧ z.length ≤ sizeLine ∧ atI z.cps.toList i = some c ∧ Q (.str ⟨#[c]⟩) H
theorem ix_list : IxR X (rIxL X.K) := by
 intro value slice pins s σ H x y v u Q I rx ry h hs
 obtain ⟨p, xs, i, z, rfl, rfl, hq, he, q⟩ := h
 cases rx
 obtain ⟨t, rfl⟩ := ry
 obtain ⟨its, r, pl, hz⟩ := I.list hq
 obtain ⟨j, h1, h2, h3, h4, h5⟩ := atI_get he
 obtain ⟨w, ew, rw'⟩ := r.get h2
 have hl := r.length
 have hn := line63
 have fin : EP X pins σ Q w s := ⟨z, H, I, rw', q⟩
 by_cases h0 : 0 ≤ i
 · have hj : i.toNat = j := by
     rw [seqIndex_of h0 h5] at h1
     exact Option.some.inj h1
   exact item_listR pl.isList h0 (by lia) (by rw [hj]; simpa using ew) fin hs
 · have hj : (i + (its.toArray.size : Int)).toNat = j := by
     rw [seqIndex_neg (by lia) h4] at h1
     rw [List.size_toArray, ← hl]
     exact Option.some.inj h1
   exact subscriptTail_builtinR (x := w) pl.isList.typeIs slot_list_getitem.lookup
     (wpAny_getItem_list_neg (Q := fun r s' => r = w ∧ EP X pins σ Q r s') pl.isList (by lia) (by rw [List.size_toArray] <;> lia) (by lia) (by rw [hj]; simpa using ew) ⟨rfl, fin⟩) hs
theorem ix_tup : IxR X (rIxT X.K) := by
 intro value slice pins s σ H x y v u Q I rx ry h hs
 obtain ⟨p, xs, i, z, rfl, rfl, hq, he, q⟩ := h
 cases rx
 obtain ⟨t, rfl⟩ := ry
 obtain ⟨its, r, pl, hz⟩ := I.tuple hq
 obtain ⟨j, h1, h2, h3, h4, h5⟩ := atI_get he
 obtain ⟨w, ew, rw'⟩ := r.get h2
 have hl := r.length
 have hn := line63
 have fin : EP X pins σ Q w s := ⟨z, H, I, rw', q⟩
 exact subscriptTail_builtinR (x := w) pl.typeIs slot_tuple_getitem.lookup
   (getItem_tuple (j := j) (Q := fun r s' => r = w ∧ EP X pins σ Q r s') pl (by lia) (by lia) (by rw [List.size_toArray, ← hl]; exact h1) (by simpa using ew) ⟨rfl, fin⟩) hs
theorem ix_str : IxR X rIxS := by
 intro value slice pins s σ H x y v u Q I rx ry h hs
 obtain ⟨z, i, c, rfl, rfl, hz, he, q⟩ := h
 obtain ⟨t, rfl⟩ := rx
 obtain ⟨t', rfl⟩ := ry
 obtain ⟨j, h1, h2, h3, h4, h5⟩ := atI_get he
 have hl : z.cps.toList.length = z.length := by simp [Str.length]
 rw [hl] at h1 h4 h5
 have hn := line63
 exact tail_any (typeIs_str s z t) slot_str_getitem.lookup (getItem_str (c := c) (by
   have e1 : decide (i < -(2 ^ 63 : Int)) = false := decide_eq_false (by lia)
   have e2 : decide (i ≥ 2 ^ 63) = false := decide_eq_false (by lia)
   rw [e1, e2, Bool.or_false]) (by rw [h1]; simpa using h2) ⟨.str ⟨#[c]⟩, H, I.tok _, ⟨_, rfl⟩, q⟩) hs
theorem mapSeq_set (its : List Value) (n j : Nat) (u : Value) : Obj.mapSeq (·.setIfInBounds j u) { cls := .type "list", data := .seq its.toArray n } = { cls := .type "list", data := .seq (its.set j u).toArray n } := by
 simp [Obj.mapSeq]
theorem Inv.lst {pins : List (Addr × Obj)} {σ : St} {H : Hp} {s : Shared} {p : Addr} {xs : List V} (I : Inv X pins σ H s) (h : H p = some (.lst xs)) :
   ∃ (its : List Value) (n : Nat), Vals xs its ∧ s.heap.get? p = some { cls := .type "list", data := .seq its.toArray n } ∧ xs.length ≤ sizeLine := by
 obtain ⟨z, its, n, r, e⟩ := I.hok p _ h
 exact ⟨its, n, r, e, z⟩
theorem Inv.lstUpd {pins : List (Addr × Obj)} {σ : St} {H : Hp} {s : Shared} {p : Addr} {xs ys : List V} {its its' : List Value} {n n' : Nat} {f : Obj → Obj} (I : Inv X pins σ H s) (h : H p = some (.lst xs))
   (ho : s.heap.get? p = some { cls := .type "list", data := .seq its.toArray n }) (hf : f { cls := .type "list", data := .seq its.toArray n } = { cls := .type "list", data := .seq its'.toArray n' }) (r : Vals ys its') (hz : ys.length ≤ sizeLine) (t : Nat) :
   Inv X pins σ (upd H p (.lst ys)) { s with heap := s.heap.update p f, toks := t } := by
 have e : (s.heap.update p f).get? p = some { cls := .type "list", data := .seq its'.toArray n' } := by
   rw [Heap.get?_update_self f ho (by rw [hf] <;> rfl), hf]
 refine I.write (x := p) (e := p) (by rw [h]; trivial) (.inl rfl) (fun b u hb q => (Heap.get?_update_other _ _ (Ne.symm hb)).trans q) ⟨_, e⟩ ?_
 exact ⟨hz, its', n', r, e⟩
noncomputable def rSetL : V → V → V → Hp → (Hp → Prop) → Prop := fun o i v H Q => ∃ p xs k j, o = .ref p ∧ i = .int k ∧ H p = some (.lst xs) ∧ ixN xs.length k = some j ∧ Q (upd H p (.lst (xs.set j v)))
theorem set_list : PSet X rSetL := by
 intro pins s σ H o i v ov iv u Q I ro ri rv h
 obtain ⟨p, xs, k, j, rfl, rfl, hp, hj, q⟩ := h
 cases ro
 obtain ⟨t, rfl⟩ := ri
 obtain ⟨its, n, r, ho, hz⟩ := I.lst hp
 obtain ⟨h1, h2, h3, h4⟩ := ixN_seq hj
 have hl := r.length
 have hn := line63
 have I' : Inv X pins σ (upd H p (.lst (xs.set j v))) { s with heap := s.heap.update p (Obj.mapSeq (·.setIfInBounds j u)) } :=
   I.lstUpd hp ho (mapSeq_set its n j u) (r.set rv j) (by rw [List.length_set]; exact hz) s.toks
 by_cases h0 : 0 ≤ k
 · have hk : k.toNat = j := by
     rw [seqIndex_of h0 h4] at h1
     exact Option.some.inj h1
   exact PySem.W.ki_setAt ho h0 (by lia) (by rw [List.size_toArray, ← hl]; exact h4) (by rw [hk]; exact ⟨_, I', q⟩)
 · have hk : (k + (its.toArray.size : Int)).toNat = j := by
     rw [seqIndex_neg (by lia) h3] at h1
     rw [List.size_toArray, ← hl]
     exact Option.some.inj h1
   exact PySem.W.ki_setBack ho (by lia) (by rw [List.size_toArray, ← hl]; exact h3) (by lia) (by rw [hk]; exact ⟨_, I', q⟩)
theorem slice_bounds (lo hi : Option Int) (n : Nat) : (sliceBounds lo hi none n).1 = ((HT.sIx n 0 lo : Nat) : Int) ∧ (sliceBounds lo hi none n).2.1 = ((HT.sIx n n hi : Nat) : Int) ∧ (sliceBounds lo hi none n).2.2 = 1 := by
 refine ⟨?_, ?_, rfl⟩
 · cases lo with
   | none => simp [sliceBounds, HT.sIx]
   | some i =>
     simp only [sliceBounds, HT.sIx, Option.getD_none, show (1 : Int) > 0 by decide, if_true]
     by_cases h : i < 0
     · simp only [h, if_true] <;> lia
     · simp only [h, if_false] <;> lia
 · cases hi with
   | none => simp [sliceBounds, HT.sIx]
   | some i =>
     simp only [sliceBounds, HT.sIx, Option.getD_none, show (1 : Int) > 0 by decide, if_true]
     by_cases h : i < 0
     · simp only [h, if_true] <;> lia
     · simp only [h, if_false] <;> lia
theorem slicePick_cut (its : List Value) (lo hi : Option Int) : slicePick its.toArray lo hi none = ((its.drop (HT.sIx its.length 0 lo)).take (HT.sIx its.length its.length hi - HT.sIx its.length 0 lo)).toArray := by
 obtain ⟨h1, h2, h3⟩ := slice_bounds lo hi its.toArray.size
 unfold slicePick
 rw [h1, h2, h3]
 simp only [sliceRange_one, pick_run, List.size_toArray] <;> rfl
noncomputable def rSlL (K : PySem.W.Frag) : V → Option Int → Option Int → Hp → VK → Prop := fun x lo hi H Q => ∃ a xs, x = .ref a ∧ SqL K H a xs ∧ ∀ p, H p = none → Q (.ref p) (upd H p (.lst (cutV xs lo hi)))
theorem sl_list : SlR X (rSlL X.K) := by
 intro pins s σ H x v vl vu lo hi sl Q I rx hs pl pu h
 obtain ⟨a, xs, rfl, hx, q⟩ := h
 cases rx
 obtain ⟨its, r, ht, hz⟩ := I.list hx
 have hlen := r.length
 refine ⟨"list", _, slot_list_getitem.lookup, ht.isList.typeIs, ?_⟩
 refine wpAny_getItem_list_slice ht.isList hs pl pu .none (by simp) ?_ (by rw [List.size_toArray] <;> lia)
 rw [slicePick_cut, ← hlen]
 refine ⟨.ref s.heap.objs.size, _, I.laid (t' := s.toks) (o := .lst (cutV xs lo hi)) (fun b ob q => Heap.get?_push_of_some _ q) (Nat.le_refl _) ?_, rfl, q _ (I.hok.fresh (Nat.le_refl _))⟩
 exact ⟨Nat.le_trans (cutV_length xs lo hi) hz, _, 0, (r.drop (HT.sIx xs.length 0 lo)).take (HT.sIx xs.length xs.length hi - HT.sIx xs.length 0 lo), Heap.get?_push_size _ rfl⟩
theorem call_len_seq : CallR X (.builtin "len") (fun xs H Q => ∃ p ys, xs = [.ref p] ∧ (SqL X.K H p ys ∨ SqT X.K H p ys) ∧ Q (.int ys.length) H) := by
 intro pins s σ H xs us Q I r h
 obtain ⟨p, ys, rfl, hq, q⟩ := h
 obtain ⟨u, rfl, rx⟩ := vals1 r
 cases rx
 have hn := line63
 rcases hq with hq | hq
 · obtain ⟨its, r', pl, hz⟩ := I.list hq
   have hlen := r'.length
   exact Calls.call_len_list pl.isList (by simp only [List.size_toArray] <;> lia) ⟨.int ys.length, H, I.tok _, ⟨s.toks + 1, by rw [List.size_toArray, hlen]⟩, q⟩
 · obtain ⟨its, r', pl, hz⟩ := I.tuple hq
   have hlen := r'.length
   exact len_tuple pl (by simp only [List.size_toArray] <;> lia) ⟨.int ys.length, H, I.tok _, ⟨s.toks + 1, by rw [List.size_toArray, hlen]⟩, q⟩
theorem call_len_str : CallR X (.builtin "len") (fun xs H Q => ∃ z, xs = [.str z] ∧ z.length ≤ sizeLine ∧ Q (.int z.length) H) := by
 intro pins s σ H xs us Q I r h
 obtain ⟨z, rfl, hz, q⟩ := h
 obtain ⟨u, rfl, t, rfl⟩ := vals1 r
 have hn := line63
 exact len_str (by lia) ⟨.int z.length, H, I.tok _, ⟨_, rfl⟩, q⟩
theorem call_tuple_of : CallR X (.type "tuple") (fun xs H Q => ∃ p ys, xs = [.ref p] ∧ ((SqL X.K H p ys ∧ ∀ l, H l = none → Q (.ref l) (upd H l (.tup ys))) ∨ (SqT X.K H p ys ∧ Q (.ref p) H))) := by
 intro pins s σ H xs us Q I r h
 obtain ⟨p, ys, rfl, h⟩ := h
 obtain ⟨u, rfl, rx⟩ := vals1 r
 cases rx
 rcases h with ⟨hq, q⟩ | ⟨hq, q⟩
 · obtain ⟨its, r', pl, hz⟩ := I.list hq
   have hlen := r'.length
   refine call_tuple_list pl.isList (fun h' kp => ?_) (by simp only [List.size_toArray] <;> lia)
   have I1 : Inv X pins σ H { s with heap := h' } := I.kept (t' := s.toks) kp
   have I2 : Inv X pins σ (upd H h'.objs.size (.tup ys)) { s with heap := h'.push { cls := .type "tuple", data := .seq its.toArray } } :=
     I1.laid (t' := s.toks) (fun b o e => Heap.get?_push_of_some _ e) (Nat.le_refl _) (show ObjOk X.prog X.w _ _ _ (.tup ys) from ⟨hz, its, r', IsTup0.new _ _⟩)
   exact ⟨.ref h'.objs.size, _, I2, rfl, q _ (I1.hok.fresh (Nat.le_refl _))⟩
 · obtain ⟨its, r', pl, hz⟩ := I.tuple hq
   exact call_tuple_same pl ⟨.ref p, H, I, rfl, q⟩
noncomputable def tyV (K : PySem.W.Frag) (T : String) (x : V) (H : Hp) : Prop := match x with
 | .str _ => T = "str"
 | .int _ => T = "int"
 | .ref p => (T = "list" ∧ ∃ xs, SqL K H p xs) ∨ (T = "tuple" ∧ ∃ o, K.lookup p = some o ∧ o.cls = .type "tuple" ∧ o.dict = none) ∨
     (T = "dict" ∧ ((∃ kvs, H p = some (.dK kvs)) ∨ ∃ kvs, H p = some (.dT kvs))) ∨ (T = "set" ∧ ∃ S n, H p = some (.set S n))
 | _ => False
theorem tyV_is {pins : List (Addr × Obj)} {σ : St} {H : Hp} {s : Shared} {T : String} {x : V} {v : Value} (I : Inv X pins σ H s) (r : RelV x v) (ty : tyV X.K T x H) :
   s.TypeIs v T ∧ ∀ a, v = .ref a → ∃ ob, s.heap.get? a = some ob ∧ ob.dict = none := by
 cases x with
 | str z =>
   obtain ⟨t, rfl⟩ := r
   cases (show T = "str" from ty)
   exact ⟨typeIs_str s z t, fun _ e => nomatch e⟩
 | int i =>
   obtain ⟨t, rfl⟩ := r
   cases (show T = "int" from ty)
   exact ⟨typeIs_int s i t, fun _ e => nomatch e⟩
 | ref p =>
   cases r
   rcases ty with ⟨rfl, xs, hq⟩ | ⟨rfl, o, hk, hc, hd⟩ | ⟨rfl, hk⟩ | ⟨rfl, S, n, hk⟩
   · obtain ⟨its, _, pl, _⟩ := I.list hq
     refine ⟨pl.isList.typeIs, fun a e => ?_⟩
     cases e
     obtain ⟨o, n, e, c, hd, _⟩ := pl
     exact ⟨o, e, hd⟩
   · refine ⟨⟨o, I.kIn p o hk, hc⟩, fun a e => ?_⟩
     cases e
     exact ⟨o, I.kIn _ o hk, hd⟩
   · have z : ∃ o, s.heap.get? p = some o ∧ o.ExactDict := by
       rcases hk with ⟨kvs, hk⟩ | ⟨kvs, hk⟩
       · obtain ⟨_, _, _, _, o, _, _, e, ex, _⟩ := I.hok p _ hk
         exact ⟨o, e, ex⟩
       · obtain ⟨_, _, _, _, o, _, _, e, ex, _⟩ := I.hok p _ hk
         exact ⟨o, e, ex⟩
     obtain ⟨o, e, ex⟩ := z
     refine ⟨⟨o, e, ex.1⟩, fun a e2 => ?_⟩
     cases e2
     exact ⟨o, e, ex.2.1⟩
   · obtain ⟨o, _, _, _, e, ex, _⟩ := I.hok p _ hk
     refine ⟨⟨o, e, ex.1⟩, fun a e2 => ?_⟩
     cases e2
     exact ⟨o, e, ex.2.1⟩
 | _ => exact False.elim ty
noncomputable def tBM (K : PySem.W.Frag) (T : String) (r : V → List V → Hp → VK → Prop) (to : TE) (t : TA) : TE := fun σ H Q => to σ H fun x H1 => tyV K T x H1 ∧ t σ H1 fun xs H2 => r x xs H2 Q
variable {o e : Expr} {es : List Expr} {to : TE} {t : TA} {name : Str} {apos cpos : Pos} {T id : String} {r : V → List V → Hp → VK → Prop}
theorem pe_bm (pa : PlainAttrs T) (slot : Slot T name id) (hty : typeOf (.builtin id) = pure (.type "method_descriptor")) (hm : MtR X id r) (ho : PE X o to) (ha : PA X (e :: es) t)
   (hbase : attributeBase o name X.env (eval o X.env) = eval o X.env := by rfl)
   (hfew : ((backTo cpos (starEach (e :: es) X.env)).all (fun x => !x.1) && (backToKw cpos (keywordEach [] X.env)).all (fun x => x.1.isSome)
     && decide ((e :: es).length + ([] : List Keyword).length + (if ([] : List Keyword).isEmpty then 0 else 1) < 30)) = true := by rfl)
   (hline : (apos.endLine == cpos.line) = true := by rfl) (hs : starEach (e :: es) X.env = (false, eval e X.env) :: starEach es X.env := by rfl) (hplain : (backTo cpos (starEach es X.env)).any (·.1) = false := by rfl) :
   PE X (.Call (.Attribute o name apos) (e :: es) [] cpos) (tBM X.K T r to t) := by
 intro pins s σ H Q I h
 refine wpAny_Call_method_late hbase hfew hline rfl (thn (ho pins s σ H _ I h) fun v s1 ⟨x, H1, I1, r1, ty, q1⟩ => ?_)
 obtain ⟨h1, h2⟩ := tyV_is I1 r1 ty
 refine ⟨T, id, pa, slot, hty, h1, h2, ?_⟩
 have hA := ha cpos pins s1 σ H1 _ I1 q1
 rw [hs] at hA ⊢
 refine Calls.callWith_builtin (by show (false || (backTo cpos (starEach es X.env)).any (·.1)) = false; rw [hplain] <;> rfl) (Calls.evalArgs_plain ?_)
 exact thn hA fun us s2 ⟨vs, H2, I2, r2, q2⟩ => hm pins s2 σ H2 x vs v us Q I2 r1 r2 q2
end
end L2
namespace L2
open PySem PySem.Spec PyProof.Rows
noncomputable def MtM (X : Cx) (id : String) (r : V → List V → Hp → VK → Prop) : Prop :=
 ∀ (pins : List (Addr × Obj)) (s : Shared) (σ : St) (H : Hp) (x : V) (xs : List V) (v : Value) (us : List Value) (Q : VK), Inv X pins σ H s → RelV x v → Vals xs us → r x xs H Q →
   wpAny (model X.prog X.w) X.A (call (.builtin id) (v :: us)) (EP X pins σ Q) X.xe s
theorem Vals.one : ∀ {x : V} {us : List Value}, Vals [x] us → ∃ u, us = [u] ∧ RelV x u
 | _, _, .cons r .nil => ⟨_, rfl, r⟩
theorem Vals.two : ∀ {x y : V} {us : List Value}, Vals [x, y] us → ∃ u v, us = [u, v] ∧ RelV x u ∧ RelV y v
 | _, _, _, .cons r (.cons q .nil) => ⟨_, _, rfl, r, q⟩
theorem Vals.rep {xs : List V} {us : List Value} (h : Vals xs us) : ∀ k : Nat, Vals (List.replicate k xs).flatten (List.replicate k us).flatten
 | 0 => .nil
 | k + 1 => by
   rw [List.replicate_succ, List.replicate_succ, List.flatten_cons, List.flatten_cons]
   exact Vals.append h (Vals.rep h k)
theorem foldl_rep (its : List Value) : ∀ (k : Nat) (acc : List Value),
   List.foldl (fun x1 x2 => x1 ++ x2) acc.toArray (List.replicate k its.toArray) = (acc ++ (List.replicate k its).flatten).toArray
 | 0, acc => by simp
 | k + 1, acc => by
   have e : acc.toArray ++ its.toArray = (acc ++ its).toArray := by simp
   have e2 : (acc ++ its) ++ (List.replicate k its).flatten = acc ++ (List.replicate (k + 1) its).flatten := by
     rw [List.replicate_succ, List.flatten_cons, List.append_assoc]
   rw [← e2, ← foldl_rep its k (acc ++ its), ← e, List.replicate_succ, List.foldl_cons]
section
variable {X : Cx} {pins : List (Addr × Obj)} {σ : St} {H : Hp} {s : Shared} {l b : Addr} {xs ys zs : List V}
theorem Inv.lset {its its' : List Value} {n : Nat} {f : Array Value → Array Value} {t' : Nat} (I : Inv X pins σ H s) (hH : H l = some (.lst xs))
   (e : s.heap.get? l = some { cls := .type "list", data := .seq its.toArray n }) (hf : f its.toArray = its'.toArray) (hv : Vals ys its') (hz : ys.length ≤ sizeLine) :
   Inv X pins σ (upd H l (.lst ys)) { s with heap := s.heap.update l (Obj.mapSeq f), toks := t' } := by
 have q := PySem.IsL.update e f
 rw [hf] at q
 refine I.write (x := l) (e := l) (by rw [hH]; exact trivial) (.inl rfl) (fun b' u hb hu => (Heap.get?_update_other s.heap (Obj.mapSeq f) (Ne.symm hb)).trans hu) ⟨_, q⟩ ?_
 exact ⟨hz, its', _, hv, q⟩
theorem Inv.lnew {its : List Value} {t' : Nat} (I : Inv X pins σ H s) (hv : Vals ys its) (hz : ys.length ≤ sizeLine) :
   Inv X pins σ (upd H s.heap.objs.size (.lst ys)) { s with heap := s.heap.push { cls := .type "list", data := .seq its.toArray }, toks := t' } :=
 I.laid (fun _ _ q => Heap.get?_push_of_some _ q) (Nat.le_refl _) ⟨hz, its, 0, hv, Heap.get?_push_size _ rfl⟩
theorem Inv.fresh (I : Inv X pins σ H s) : H s.heap.objs.size = none := I.hok.fresh (Nat.le_refl _)
theorem Inv.lstM (I : Inv X pins σ H s) (hH : H l = some (.lst xs)) : xs.length ≤ sizeLine ∧ ∃ (its : List Value) (n : Nat), Vals xs its ∧ xs.length = its.length ∧ s.heap.get? l = some { cls := .type "list", data := .seq its.toArray n } := by
 obtain ⟨z, its, n, r, e⟩ := I.hok l _ hH
 exact ⟨z, its, n, r, r.length, e⟩
theorem notLongL {n : Nat} (h : n ≤ sizeLine) : Builtin.List.listTooLong n = false := by
 unfold Builtin.List.listTooLong
 exact decide_eq_false (by lia)
end
section
variable {X : Cx}
noncomputable def rAppend : V → List V → Hp → VK → Prop := fun x vs H Q => ∃ l xs y, x = .ref l ∧ vs = [y] ∧ H l = some (.lst xs) ∧ xs.length < sizeLine ∧ Q .non (upd H l (.lst (xs ++ [y])))
theorem mt_append : MtM X "list.append" rAppend := by
 intro pins s σ H x vs v us Q I rx rv h
 obtain ⟨l, xs, y, rfl, rfl, hH, hz, q⟩ := h
 cases rx
 obtain ⟨u, rfl, ru⟩ := rv.one
 obtain ⟨z, its, n, r, hl, e⟩ := I.lstM hH
 refine call_meets F.slot_list_append ⟨_, e, rfl⟩ F.entry_list_append (F.args_list_append_2 _ _) (PySem.list_append l its.toArray n u (by rw [List.size_toArray]; lia)) ⟨e, ?_⟩
 refine ⟨.non, _, I.lset (its' := its ++ [u]) hH e (by simp) (r.append (.cons ru .nil)) ?_, rfl, q⟩
 rw [List.length_append, List.length_singleton]
 lia
noncomputable def rCat : R2 := fun x y H Q => ∃ l b xs zs, x = .ref l ∧ y = .ref b ∧ H l = some (.lst xs) ∧ H b = some (.lst zs) ∧ xs.length + zs.length ≤ sizeLine ∧ ∀ p, H p = none → Q (.ref p) (upd H p (.lst (xs ++ zs)))
theorem op_cat : OpR X (binaryOp .Add) rCat := by
 intro pins s σ H x y v u Q I rx ry h
 obtain ⟨l, b, xs, zs, rfl, rfl, hH, hB, hz, q⟩ := h
 cases rx
 cases ry
 obtain ⟨z, its, n, r, hl, e⟩ := I.lstM hH
 obtain ⟨z2, its2, n2, r2, hl2, e2⟩ := I.lstM hB
 refine PySem.P.add_list e e2 ?_ (by rw [List.size_toArray, List.size_toArray]; lia)
 have ea : its.toArray ++ its2.toArray = (its ++ its2).toArray := by simp
 rw [ea]
 exact ⟨.ref _, _, I.lnew (t' := s.toks) (r.append r2) (by rw [List.length_append]; lia), rfl, q _ I.fresh⟩
noncomputable def rRep : R2 := fun x y H Q => ∃ l k xs, x = .ref l ∧ y = .int k ∧ H l = some (.lst xs) ∧ -(2 ^ 63) ≤ k ∧ k < 2 ^ 63 ∧ xs.length * k.toNat ≤ sizeLine ∧
 ∀ p, H p = none → Q (.ref p) (upd H p (.lst (List.replicate k.toNat xs).flatten))
theorem len_rep {α : Type} (xs : List α) (k : Nat) : (List.replicate k xs).flatten.length = k * xs.length := by
 induction k with
 | zero => simp
 | succ k ih => rw [List.replicate_succ, List.flatten_cons, List.length_append, ih, Nat.succ_mul, Nat.add_comm]
theorem op_rep : OpR X (binaryOp .Mult) rRep := by
 intro pins s σ H x y v u Q I rx ry h
 obtain ⟨l, k, xs, rfl, rfl, hH, h1, h2, hz, q⟩ := h
 cases rx
 obtain ⟨t, rfl⟩ := ry
 obtain ⟨z, its, n, r, hl, e⟩ := I.lstM hH
 have hlen : its.toArray.size * k.toNat ≤ sizeLine := by rw [List.size_toArray, ← hl]; exact hz
 have hcap : ¬ its.toArray.size * k.toNat > (2 ^ 63 - 1) / 8 := by
   have : (sizeLine : Nat) ≤ (2 ^ 63 - 1) / 8 := by decide
   lia
 have hfit : ¬ (!Builtin.List.listFitsIndex k) = true := by
   rw [fitsIndex_both h1 h2]
   exact Bool.false_ne_true
 have hlong : ¬ Builtin.List.listTooLong (its.toArray.size * k.toNat) = true := by
   rw [notLongL hlen]
   exact Bool.false_ne_true
 have hnew : List.foldl (fun x1 x2 => x1 ++ x2) #[] (List.replicate (if its.toArray.isEmpty = true then 0 else k.toNat) its.toArray) = (List.replicate k.toNat its).flatten.toArray := by
   have f0 : ∀ m : Nat, List.foldl (fun x1 x2 => x1 ++ x2) #[] (List.replicate m its.toArray) = (List.replicate m its).flatten.toArray := fun m => by
     have := foldl_rep its m []
     rw [List.nil_append] at this
     exact this
   rw [f0]
   cases its with
   | nil => simp
   | cons a r' => rw [if_neg (by simp)]
 refine wpAny_binaryOp_repeat_ref (T := "list") (U := "int") (by decide) ⟨_, e, rfl⟩ (fun s' => typeIs_int s' k t) noFill_list_mul F.fills_int_mul F.slot_int_rmul repeat_list F.slot_int_index.lookup
   (call_meets F.slot_int_rmul (typeIs_int s k t) F.entry_int_rmul (F.args_int_rmul_2 _ _) (int___rmul___int_list k t l its.toArray n)
     ⟨e, rfl, ⟨_, e, rfl⟩, call_meets F.slot_list_mul ⟨_, e, rfl⟩ F.entry_list_mul (F.args_list_mul_2 _ _) (AutoListH.list___mul___list_int_3 l its.toArray n k t hfit hcap hlong) ⟨e, ?_⟩⟩)
 rw [hnew]
 exact ⟨.ref _, _, I.lnew (t' := s.toks) (r.rep k.toNat) (by rw [len_rep, Nat.mul_comm]; exact hz), rfl, q _ I.fresh⟩
end
section
variable {prog : Program} {w : World} {A : Around} {E : Value → Shared → Prop} {s : Shared}
end
section
variable {X : Cx}
end
end L2
namespace Att
open PySem PySem.W PySem.Calls PyProof.Rows
theorem ints_of_wellAll {P : Params} {h : Heap} : ∀ (ns : List Int) (vs : List Value), WellAll P h vs (ns.map WData.int) → IntsAre vs ns := by
 intro ns
 induction ns with
 | nil =>
   intro vs w
   rw [List.map_nil] at w
   cases w
   exact .nil
 | cons n ns ih =>
   intro vs w
   rw [List.map_cons] at w
   cases w with
   | cons a b =>
     cases a
     exact .cons _ _ (ih _ b)
theorem script_of {l : OpenLaw} {n : Nat} (hn : l.most = some n) {P : Params} {h : Heap} {args : List WData} {vals : List Value}
   (hpre : l.row.toRowW.claim.pre args = true) (hwl : WellAll P h vals args) :
   ∃ a vs ns, vals = [Value.ref a] ∧ args = [WData.list (ns.map WData.int)] ∧ h.get? a = some { cls := .type "list", data := .seq vs.toArray } ∧ IntsAre vs ns ∧ ns.length ≤ n := by
 have hsh : WShape.hasAll [] args [.list .int] = true := (pre_splitW hpre).1
 have hc : l.pre.holds [] { args := args } = true := (pre_splitW hpre).2
 obtain ⟨d, r, rfl, h1, h2⟩ := hasAllW_cons hsh
 obtain rfl := hasAllW_nil h2
 obtain ⟨xs, rfl, h3⟩ := hasW_list h1
 obtain ⟨ns, rfl⟩ := items_int h3
 have hlen : ns.length ≤ n := by
   unfold OpenLaw.pre at hc
   have h4 : (WTm.not (.lt (.lit (.int (n : Int))) (.len (.arg 0)))).holds [] { args := [.list (ns.map .int)] } = true := by
     have h4 := (holds_andW hc).1
     rw [hn] at h4
     exact h4
   have h5 := condW_of h4 (w_not (w_lt w_lit (w_len_list (w_arg rfl))))
   rw [List.length_map] at h5
   refine Nat.le_of_not_lt fun q => ?_
   have q' : (n : Int) < ((ns.length : Nat) : Int) := by lia
   first
     | (rw [decide_eq_true q'] at h5; exact absurd h5 (by decide))
     | (simp at h5; lia)
 cases hwl with
 | cons w1 w2 =>
   cases w2
   cases w1 with
   | list ho hall => exact ⟨_, _, ns, rfl, rfl, ho, ints_of_wellAll ns _ hall, hlen⟩
theorem post_true (l : OpenLaw) (args : List WData) : l.row.toRowW.claim.post args (.bool true) args = true :=
 postW_of (r := l.row.toRowW) (X := (true == true))
   (show WShape.has [] (.bool true) .bool = true by first | rfl | decide | simp [WShape.has, WShape.arms, WShape.armsAll])
   (show (WTm.eq .res (.lit (.bool true))).value [] { args := args, res := some (.bool true), after := args } = some (.bool (true == true)) from w_eq_bool (w_res rfl) w_lit) rfl
theorem attach_call {l : OpenLaw} {n : Nat} {q : Program} {loose : List Str} {XP : (Str → Option Value) → Heap → Prop} {YP : World → Heap → Prop} {d : DefRec}
   (hn : l.most = some n) (hdf : d.params.defaults = [])
   (call : ∀ (w : World) (s₀ s₁ : Shared) (mg mb : Str → Option Value) (fa : Addr) (o : Obj) (pm cd doc : Value) (a : Addr) (vs : List Value) (ns : List Int),
     Ground q loose [] XP w s₀ mg mb s₁.heap → YP w s₁.heap →
     s₁.heap.get? fa = some o → o.data = .func (docDef d.name d.params d.body d.scope pm cd doc) → s₁.heap.CodeRec cd d.name → mg d.name = some (.ref fa) →
     s₁.heap.get? a = some { cls := .type "list", data := .seq vs.toArray } → IntsAre vs ns → ns.length ≤ n → s₁.gens = #[] →
     codeAny (model l.prog w) callerA (.call (.ref fa) ⟨[.ref a], []⟩) (fun r s' => r = .ok (.ret (.bool true)) ∧ OldK s₁.heap s'.heap ∧ s'.os = s₁.os ∧ AllBare s'.gens) s₁) :
   WalkO q loose XP YP l.row.toRowW d [] (fun f vs => PySem.call f vs) := by
 intro w s₀ s₁ mg mb G Y fa o pm cd doc dV kV ho hd hcd hD hmg hg args vals as hpre hlay hrd hwl hlo
 obtain rfl : dV = .none := Dflts.none hD hdf
 obtain rfl : kV = .none := Dflts.noKw hD
 obtain ⟨a, vs, ns, rfl, rfl, hobj, hints, hlen⟩ := script_of hn hpre hwl
 refine enter_call (codeAny_mono (call w s₀ s₁ mg mb fa o pm cd doc a vs ns G Y ho (fd_plain hd) hcd hmg hobj hints hlen hg) fun r s' hq => ?_)
 obtain ⟨rfl, h2, h3, h4⟩ := hq
 exact ⟨.inl ⟨.bool true, .bool true, [], rfl, fun _ => rfl, .bool true, post_true l _, fun _ => ⟨List.Pairwise.nil, fun _ hm => (nomatch hm)⟩⟩, h2, h3, h4⟩
section
variable {prog : Program} {w : World} {A : Around} {E : Value → Shared → Prop} {s : Shared} {K : Frag}
end
end Att
namespace L2
open PySem PySem.Spec PyProof.Rows
theorem vals_ints : ∀ {vs : List Value} {ns : List Int}, IntsAre vs ns → Vals (ns.map V.int) vs
 | _, _, .nil => .nil
 | _, _, .cons n t h => .cons ⟨t, rfl⟩ (vals_ints h)
noncomputable def Only (H : Hp) : Prop := ∀ b, H b = none ∨ ∃ o xs, H b = some (.frz o (.lst xs))
theorem law_call {P : Program} {w : World} {K : PySem.W.Frag} {mg mb : Str → Option Value} {CX : CXT} {k : Nat} {fa a : Addr} {fd : FuncData} {x : Str} {sp : Sp} {s₁ : Shared} {vs : List Value} {ns : List Int}
   (KX : K.In s₁.heap) (hns : s₁.heap.Ns mainGlobals mg) (hb : s₁.heap.Ns builtinsNs mb) (hbb : ∀ x : Str, x ≠ "__name__" → mb x = bootBuiltins x) (hlim : s₁.heap.NoLimit) (hg : s₁.gens = #[])
   (ha : s₁.heap.get? a = some { cls := .type "list", data := .seq vs.toArray }) (hi : IntsAre vs ns) (hl : ns.length ≤ sizeLine) (hr : Room k callerA)
   (F : ∀ base : Heap, K.In base → base.Ns mainGlobals mg → FnOk P w K mg base CX k fa fd [x] sp) (hbind : ∀ (s : Shared) (u : Value), BindsTo s fd ⟨[u], []⟩ [(x, u)])
   (hsp : ∀ H : Hp, Only H → SqL K H a (ns.map V.int) → sp [.ref a] H (fun v _ => v = .bl true) fun _ _ _ => False)
   (hCX : ∀ H e s', CX [] H s₁ (fun _ _ _ => False) e s' → False) :
   codeAny (model P w) callerA (.call (.ref fa) ⟨[.ref a], []⟩) (fun r s' => r = .ok (.ret (.bool true)) ∧ OldK s₁.heap s'.heap ∧ s'.os = s₁.os ∧ AllBare s'.gens) s₁ := by
 have rv := vals_ints hi
 have lenV := hi.length
 -- from an abstract heap in which nothing but the script may be tracked
 have core : ∀ H : Hp, Only H → SqL K H a (ns.map V.int) → HOk P w H s₁.heap → (∀ b, H b ≠ none → b = a) → (H a ≠ none → K.lookup a = none) →
     codeAny (model P w) callerA (.call (.ref fa) ⟨[.ref a], []⟩) (fun r s' => r = .ok (.ret (.bool true)) ∧ OldK s₁.heap s'.heap ∧ s'.os = s₁.os ∧ AllBare s'.gens) s₁ := by
   intro H hO hS hok hA hK
   have base_of : ∀ {b : Addr} {o : Obj}, s₁.heap.get? b = some o → H b = none → (hidT s₁.heap H).get? b = some o := fun e n => hidT_get e n
   have noA : ∀ {b : Addr} {o : Obj} {es : Array DictEntry} {ep : Nat}, s₁.heap.get? b = some o → o.data = .dict es ep → H b = none := fun {b o es ep} e d => by
     cases q : H b with
     | none => rfl
     | some u =>
       have e' : b = a := hA b (by rw [q]; simp)
       subst e'
       rw [ha] at e; cases e
       have d' : Data.seq vs.toArray _ = Data.dict es ep := d
       cases d'
   have nsK : ∀ {b : Addr} {m : Str → Option Value}, s₁.heap.Ns b m → (hidT s₁.heap H).Ns b m := fun {b m} ⟨o, es, ep, e, d, r⟩ => ⟨o, es, ep, base_of e (noA e d), d, r⟩
   have hKb : K.In (hidT s₁.heap H) := fun b o e => base_of (KX b o e) (by
     cases q : H b with
     | none => rfl
     | some u =>
       have e' : b = a := hA b (by rw [q]; simp)
       subst e'
       rw [hK (by rw [q]; simp)] at e; cases e)
   have hM : Mod K mg (hidT s₁.heap H) := ⟨hKb, nsK hns, ⟨mb, nsK hb, hbb⟩, let ⟨mc, h1, h2⟩ := hlim; ⟨mc, nsK h1, h2⟩⟩
   have e0 : Env0 P w K mg (hidT s₁.heap H) callerA [] s₁ H := ⟨rfl, hM, fun b o e => of_hidT e, Nat.le_of_eq (hidT_size _ _), trivial, fun b hb => absurd (show b ∈ ([] : List Addr) from hb) (by simp), hok, .of_eq hg⟩
   refine codeAny_mono ((F _ hKb (nsK hns)).run callerA [] s₁ H ⟨[.ref a], []⟩ [.ref a] [.ref a] _ _ hr e0 (hbind s₁ (.ref a)) (.cons rfl .nil) (hsp H hO hS)) fun r s' h => ?_
   cases r with
   | error e => exact (hCX H e s' h).elim
   | ok fl =>
     cases fl with
     | next => exact False.elim h
     | brk => exact False.elim h
     | cont => exact False.elim h
     | ret u =>
       obtain ⟨v, H', os, bare, un, hok', r', q⟩ := h
       have q' : v = .bl true := q
       subst q'
       obtain rfl : u = Value.bool true := r'
       refine ⟨rfl, OldK.of_keep fun b o e => ?_, os, bare⟩
       cases q : H b with
       | none => exact un.keep b o e q (by intro z; exact absurd (show b ∈ ([] : List Addr) from z) (by simp)) (by simp)
       | some u =>
         rcases hO b with z | ⟨ob, xs, z⟩
         · rw [q] at z; cases z
         · have z2 := un.frzs b ob _ z
           obtain ⟨e1, _⟩ := hok b _ z
           obtain ⟨e2, _⟩ := hok' b _ z2
           rw [e] at e1; cases e1
           exact e2
 cases hk : K.lookup a with
 | some o =>
   -- the script is one of the module's own objects
   have e := KX a o hk
   rw [ha] at e
   cases e
   refine core (fun _ => none) (fun _ => .inl rfl) (.inr ⟨_, vs.toArray, _, hk, rfl, rfl, rfl, by rw [List.size_toArray, lenV]; exact hl, by simpa using rv⟩) (fun b u z => by have z' : (none : Option HO) = some u := z; cases z') (fun b z => absurd rfl z) fun z => absurd rfl z
 | none =>
   refine core (fun b => if b = a then some (.frz { cls := .type "list", data := .seq vs.toArray } (.lst (ns.map V.int))) else none) (fun b => ?_) (.inl (.inr ⟨{ cls := .type "list", data := .seq vs.toArray }, if_pos rfl⟩)) (fun b u z => ?_) (fun b z => ?_) fun _ => hk
   · by_cases hb : b = a
     · exact .inr ⟨_, _, if_pos hb⟩
     · exact .inl (if_neg hb)
   · by_cases hb : b = a
     · have z' := (if_pos hb).symm.trans z
       cases z'
       subst hb
       exact ⟨ha, by rw [List.length_map]; exact hl, vs, _, rv, ha⟩
     · have z' := (if_neg hb).symm.trans z
       cases z'
   · by_cases hb : b = a
     · exact hb
     · exact absurd (if_neg hb) z
end L2
namespace L2
open PySem PySem.Spec PyProof.Rows
theorem walk_of {l : PySem.W.OpenLaw} {n k : Nat} {q : Program} {loose : List Str} {XP : (Str → Option Value) → Heap → Prop} {YP : World → Heap → Prop} {d : DefRec} {K : Params → PySem.W.Frag} {CX : World → CXT} {sp : World → Sp} {x : Str}
   (hn : l.most = some n) (hn2 : n ≤ sizeLine) (hdf : d.params.defaults = []) (hr : Room k callerA)
   (hY : ∀ (w : World) (h : Heap), YP w h → (K w.params).In h)
   (F : ∀ (w : World) (mg : Str → Option Value) (fa : Addr) (h : Heap), (K w.params).In h → h.Ns mainGlobals mg → mg d.name = some (.ref fa) →
     ∃ fd : FuncData, (∀ (s : Shared) (u : Value), BindsTo s fd ⟨[u], []⟩ [(x, u)]) ∧
       ∀ base : Heap, (K w.params).In base → base.Ns mainGlobals mg → FnOk l.prog w (K w.params) mg base (CX w) k fa fd [x] (sp w))
   (hsp : ∀ (w : World) (H : Hp) (a : Addr) (ns : List Int), ns.length ≤ n → Only H → SqL (K w.params) H a (ns.map V.int) → sp w [.ref a] H (fun v _ => v = .bl true) fun _ _ _ => False)
   (hCX : ∀ (w : World) (H : Hp) (s : Shared) (e : Value) (s' : Shared), CX w [] H s (fun _ _ _ => False) e s' → False) :
   PySem.W.WalkO q loose XP YP l.row.toRowW d [] (fun f vs => PySem.call f vs) := by
 refine Att.attach_call hn hdf fun w s₀ s₁ mg mb fa o pm cd doc a vs ns G Y ho hd hcd hmg hobj hints hlen hg => ?_
 have KX := hY w _ Y
 obtain ⟨fd, hb, hF⟩ := F w mg fa _ KX G.T.g hmg
 exact law_call KX G.T.g G.T.b G.T.builtins G.T.nolimit hg hobj hints (Nat.le_trans hlen hn2) hr hF hb (fun H hO hS => hsp w H a ns hlen hO hS) fun H e s' => hCX w H s₁ e s'
end L2
namespace L2
open PySem PySem.Spec PyProof.Rows
noncomputable def defArgs (s : Stmt) : Arguments := match s with
 | .FunctionDef _ a _ _ _ _ _ _ _ _ => a
 | _ => { posonlyargs := [], args := [], vararg := none, kwonlyargs := [], kw_defaults := [], kwarg := none, defaults := [] }
noncomputable def defBody (s : Stmt) : List Stmt := match s with
 | .FunctionDef _ _ b _ _ _ _ _ _ _ => b
 | _ => []
noncomputable def defScope (s : Stmt) : Scope := match s with
 | .FunctionDef _ _ _ _ _ _ sc _ _ _ => sc
 | _ => { kind := .function, names := [], isGenerator := false, isCoroutine := false }
noncomputable abbrev CX0 : CXT := fun _ _ _ _ _ _ => False
noncomputable abbrev E0 : XK := fun _ _ _ => False
theorem pass0 {X : Cx} : Passes CX0 X E0 := fun _ _ _ _ _ _ _ h => h.elim
structure Fun (K : PySem.W.Frag) (x qual : Str) (st : Stmt) (f : Addr) (fd : FuncData) : Prop where
 ex : ∃ (oc : Value) (od : Option Addr) (kV doc pm : Value) (an : Option Addr) (cdv ct : Value) (osl : Array (Option Value)),
   fd = PySem.W.fnOf x qual (defArgs st) (defBody st) (defScope st) .none kV doc pm an cdv ct ∧ K.lookup f = some ⟨oc, od, .func fd, osl⟩ ∧ PySem.W.codeIn K cdv qual = true
 kp : PySem.W.keepIn K (.ref f) = true
section
variable {P : Program} {w : World} {K : PySem.W.Frag} {mg : Str → Option Value} {base : Heap}
theorem Fun.ok {x qual : Str} {st : Stmt} {f : Addr} {fd : FuncData} {N ps : List Str} {k : Nat} {sp : Sp} (F : Fun K x qual st f fd) (S : FnScope N ps (defScope st)) (len : ∀ vs H Q E, sp vs H Q E → vs.length = ps.length)
   (hbody : ∀ (cdv : Value) (A : Around) (outer : List Env) (s : Shared) (H : Hp) (vs : List V) (Q : VK) (E : XK), Room k (A.deeper (envOfC qual (defScope st) s.heap.objs.size f cdv)) → sp vs H Q E →
     ∃ t, PSs (cxOf CX0 P w K mg base N qual (defScope st) f cdv A outer s H E).nox (defBody st) t ∧ t { nx := fun _ H' => Q .non H', rt := Q } (start N vs) H) : FnOk P w K mg base CX0 (k + 1) f fd ps sp := by
 obtain ⟨oc, od, kV, doc, pm, an, cdv, ct, osl, rfl, lk, hcd⟩ := F.ex
 refine fn_of lk hcd S len fun A outer s H vs Q E hr hsp => ?_
 obtain ⟨t, h, q⟩ := hbody cdv A outer s H vs Q E hr hsp
 exact ⟨t, h.nox, q⟩
theorem Fun.binds {x qual : Str} {st : Stmt} {f : Addr} {fd : FuncData} {ps : List Str} (F : Fun K x qual st f fd)
   (h : ∀ (kV doc pm : Value) (an : Option Addr) (cdv ct : Value) (us : List Value), us.length = ps.length → bindArgs (PySem.W.fnOf x qual (defArgs st) (defBody st) (defScope st) .none kV doc pm an cdv ct) ⟨us, []⟩ = pure (ps.zip us)) : Binds K fd ps [] := by
 obtain ⟨oc, od, kV, doc, pm, an, cdv, ct, osl, rfl, lk, hcd⟩ := F.ex
 exact .all (h kV doc pm an cdv ct)
theorem fun_mk {x qual : Str} {st : Stmt} {f : Addr} {oc : Value} {od an : Option Addr} {osl : Array (Option Value)} {kV doc pm cdv ct : Value} (l : K.lookup f = some ⟨oc, od, .func (PySem.W.fnOf x qual (defArgs st) (defBody st) (defScope st) .none kV doc pm an cdv ct), osl⟩)
   (c : PySem.W.codeIn K cdv qual = true) (k : PySem.W.keepIn K (.ref f) = true) : Fun K x qual st f (PySem.W.fnOf x qual (defArgs st) (defBody st) (defScope st) .none kV doc pm an cdv ct) := ⟨⟨oc, od, kV, doc, pm, an, cdv, ct, osl, rfl, l, c⟩, k⟩
end
section
variable {X : Cx}
end
theorem ite2 {c A B : Prop} [Decidable c] (h1 : c → A) (h2 : ¬ c → B) : if c then A else B := by
 by_cases h : c
 · rw [if_pos h]
   exact h1 h
 · rw [if_neg h]
   exact h2 h
end L2
set_option maxHeartbeats 0
namespace L2
open PySem PySem.Spec PyProof.Rows
section
variable {κ : Type} [DecidableEq κ]
noncomputable def valV (kvs : List (κ × V)) (k : κ) : Option V := (kvs.find? fun kv => decide (kv.1 = k)).map (·.2)
noncomputable def putK (kvs : List (κ × V)) (k : κ) (v : V) : List (κ × V) :=
 if (kvs.any fun kv => decide (kv.1 = k)) = true then kvs.map (fun kv => if kv.1 = k then (kv.1, v) else kv) else kvs ++ [(k, v)]
theorem valV_pos {p : κ × V} {r : List (κ × V)} {k : κ} (e : p.1 = k) : valV (p :: r) k = some p.2 := by simp [valV, List.find?_cons, e]
theorem valV_neg {p : κ × V} {r : List (κ × V)} {k : κ} (e : ¬ p.1 = k) : valV (p :: r) k = valV r k := by simp [valV, List.find?_cons, e]
theorem valV_any (k : κ) : ∀ kvs : List (κ × V), (kvs.any fun kv => decide (kv.1 = k)) = (valV kvs k).isSome
 | [] => rfl
 | p :: r => by
   rw [List.any_cons]
   by_cases e : p.1 = k
   · simp only [valV_pos e, decide_eq_true e, Bool.true_or, Option.isSome_some]
   · rw [valV_neg e, decide_eq_false e, Bool.false_or]; exact valV_any k r
theorem length_putK (kvs : List (κ × V)) (k : κ) (v : V) : (putK kvs k v).length ≤ kvs.length + 1 := by
 unfold putK
 split
 · rw [List.length_map]; lia
 · rw [List.length_append, List.length_cons, List.length_nil]; lia
theorem RelO.isSome_eq {o : Option V} {u : Option Value} (r : RelO o u) : o.isSome = u.isSome := by
 cases o with
 | none => cases u with
   | none => rfl
   | some _ => exact (show False from r).elim
 | some _ => cases u with
   | none => exact (show False from r).elim
   | some _ => rfl
theorem RelO.getD {o : Option V} {u : Option Value} {d : V} {d' : Value} (r : RelO o u) (rd : RelV d d') : RelV (o.getD d) (u.getD d') := by
 cases o with
 | none => cases u with
   | none => exact rd
   | some _ => exact (show False from r).elim
 | some _ => cases u with
   | none => exact (show False from r).elim
   | some _ => exact r
theorem KV.val {kvs : List (κ × V)} {vs : List (κ × Value)} (r : KV kvs vs) (k : κ) : RelO (valV kvs k) (valueAt vs k) := by
 unfold KV at r
 induction r with
 | nil => exact True.intro
 | @cons p q ps qs h t ih =>
   obtain ⟨h1, h2⟩ := h
   by_cases e : p.1 = k
   · have e' : q.1 = k := h1.symm.trans e
     have b : valueAt (q :: qs) k = some q.2 := by simp [valueAt, List.find?_cons, e']
     rw [valV_pos e, b]; exact h2
   · have e' : ¬ q.1 = k := fun z => e (h1.trans z)
     have b : valueAt (q :: qs) k = valueAt qs k := by simp [valueAt, List.find?_cons, e']
     rw [valV_neg e, b]; exact ih
theorem KV.any {kvs : List (κ × V)} {vs : List (κ × Value)} (r : KV kvs vs) (k : κ) : (kvs.any fun kv => decide (kv.1 = k)) = vs.any fun kv => decide (kv.1 = k) := by
 unfold KV at r
 induction r with
 | nil => rfl
 | cons h t ih => rw [List.any_cons, List.any_cons, ih, h.1]
theorem KV.repl {kvs : List (κ × V)} {vs : List (κ × Value)} (r : KV kvs vs) (k : κ) {y : V} {u : Value} (ry : RelV y u) :
   KV (kvs.map fun kv => if kv.1 = k then (kv.1, y) else kv) (vs.map fun kv => if kv.1 = k then (kv.1, u) else kv) := by
 unfold KV at r ⊢
 induction r with
 | nil => exact .nil
 | @cons p q ps qs h t ih =>
   rw [List.map_cons, List.map_cons]
   refine .cons ?_ ih
   obtain ⟨h1, h2⟩ := h
   by_cases e : p.1 = k
   · rw [if_pos e, if_pos (h1.symm.trans e)]; exact ⟨h1, ry⟩
   · rw [if_neg e, if_neg (fun z => e (h1.trans z))]; exact ⟨h1, h2⟩
theorem KV.put {kvs : List (κ × V)} {vs : List (κ × Value)} (r : KV kvs vs) (k : κ) {y : V} {u : Value} (ry : RelV y u) : KV (putK kvs k y) (stored vs k u) := by
 unfold putK stored
 rw [r.any k]
 by_cases e : (vs.any fun kv => decide (kv.1 = k)) = true
 · rw [if_pos e, if_pos e]; exact r.repl k ry
 · rw [if_neg e, if_neg e]; exact Paired.snoc r ⟨rfl, ry⟩
theorem KV.keys {kvs : List (κ × V)} {vs : List (κ × Value)} (r : KV kvs vs) : kvs.map (·.1) = vs.map (·.1) := by
 unfold KV at r
 induction r with
 | nil => rfl
 | cons h t ih => rw [List.map_cons, List.map_cons, ih, h.1]
theorem KV.length {kvs : List (κ × V)} {vs : List (κ × Value)} (r : KV kvs vs) : kvs.length = vs.length := Paired.length r
end
theorem kV_is {P : Program} {w : World} {k : Key} {u : Value} (r : RelV (kV k) u) : (mixKind P w).is k u = true := by
 cases k with
 | inl i => obtain ⟨t, e⟩ := (show ∃ t, u = Value.int i t from r); subst e; exact mixKind_int P w i t
 | inr x => obtain ⟨t, e⟩ := (show ∃ t, u = Value.str x t from r); subst e; exact mixKind_str P w x t
theorem items_are {P : Program} {w : World} : ∀ {ks : List Key} {us : List Value}, Vals (ks.map kV) us → ItemsAre (mixKind P w) ks us
 | [], _, r => by rw [List.map_nil] at r; cases r; exact .nil
 | k :: ks, _, r => by
   rw [List.map_cons] at r
   cases r with
   | cons h t => exact .cons (kV_is h) (items_are t)
noncomputable abbrev KT (H : Hp) : List (List Key × V) → List (List Key × Addr × Value) → Prop := Paired fun p q => p.1 = q.1 ∧ H q.2.1 = some (.tup (p.1.map kV)) ∧ RelV p.2 q.2.2
theorem KT.val {H : Hp} {kvs : List (List Key × V)} {xs : List (List Key × Addr × Value)} (r : KT H kvs xs) (k : List Key) : RelO (valV kvs k) ((atKey xs k).map (·.2)) := by
 induction r with
 | nil => exact True.intro
 | @cons p q ps qs h t ih =>
   obtain ⟨h1, _, h2⟩ := h
   by_cases e : p.1 = k
   · have e' : q.1 = k := h1.symm.trans e
     have b : atKey (q :: qs) k = some q.2 := by simp [atKey, List.find?_cons, e']
     rw [valV_pos e, b]; exact h2
   · have e' : ¬ q.1 = k := fun z => e (h1.trans z)
     have b : atKey (q :: qs) k = atKey qs k := by simp [atKey, List.find?_cons, e']
     rw [valV_neg e, b]; exact ih
theorem KT.repl {H : Hp} {kvs : List (List Key × V)} {xs : List (List Key × Addr × Value)} (r : KT H kvs xs) (k : List Key) {y : V} {u : Value} (ry : RelV y u) :
   KT H (kvs.map fun kv => if kv.1 = k then (kv.1, y) else kv) (xs.map (putAt k u)) := by
 induction r with
 | nil => exact .nil
 | @cons p q ps qs h t ih =>
   rw [List.map_cons, List.map_cons]
   refine .cons ?_ ih
   obtain ⟨h1, h2, h3⟩ := h
   unfold putAt
   by_cases e : p.1 = k
   · rw [if_pos e, if_pos (h1.symm.trans e)]; exact ⟨h1, h2, ry⟩
   · rw [if_neg e, if_neg (fun z => e (h1.trans z))]; exact ⟨h1, h2, h3⟩
theorem KT.put {H : Hp} {kvs : List (List Key × V)} {xs : List (List Key × Addr × Value)} (r : KT H kvs xs) (k : List Key) {b : Addr} {y : V} {u : Value} (hb : H b = some (.tup (k.map kV))) (ry : RelV y u) :
   KT H (putK kvs k y) (storedH xs k b u) := by
 have e : (kvs.any fun kv => decide (kv.1 = k)) = (atKey xs k).isSome := by
   rw [valV_any, (r.val k).isSome_eq, Option.isSome_map]
 unfold putK storedH
 rw [e]
 by_cases q : (atKey xs k).isSome = true
 · rw [if_pos q, if_pos q]; exact r.repl k ry
 · rw [if_neg q, if_neg q]; exact Paired.snoc r ⟨rfl, hb, ry⟩
theorem KT.keeps {H H' : Hp} {kvs : List (List Key × V)} {xs : List (List Key × Addr × Value)} (r : KT H kvs xs) (ht : ∀ b ys, H b = some (.tup ys) → H' b = some (.tup ys)) : KT H' kvs xs :=
 Paired.mapP r fun _ _ z => ⟨z.1, ht _ _ z.2.1, z.2.2⟩
section
variable {P : Program} {w : World} {H : Hp} {h : Heap} {a : Addr}
theorem rd_of {u : HO} (ok : HOk P w H h) (e : Rd H a u) : ObjOk P w H h a u := e.ok ok
theorem dk_rd {kvs : List (Key × V)} (ok : HOk P w H h) (e : Rd H a (.dK kvs)) : kvs.length ≤ sizeLine ∧ (a == sysModules) = false ∧ ∃ vs, KV kvs vs ∧ h.DictOf (mixKind P w) a vs :=
 show ObjOk P w H h a (.dK kvs) from rd_of ok e
theorem dk_of {kvs : List (Key × V)} (ok : HOk P w H h) (e : H a = some (.dK kvs)) : kvs.length ≤ sizeLine ∧ (a == sysModules) = false ∧ ∃ vs, KV kvs vs ∧ h.DictOf (mixKind P w) a vs := dk_rd ok (.inl e)
theorem key_of {ks : List Key} (ok : HOk P w H h) (e : H a = some (.tup (ks.map kV))) : (tupleKind (mixKind P w)).is h ks a := by
 obtain ⟨_, its, r, o, h1, h2, _, n, h3⟩ := (show ObjOk P w H h a (.tup (ks.map kV)) from ok a _ e)
 exact ⟨o, its.toArray, n, h1, h2, h3, by simpa using items_are r⟩
theorem dt_rd {kvs : List (List Key × V)} (ok : HOk P w H h) (e : Rd H a (.dT kvs)) : kvs.length ≤ sizeLine ∧ (a == sysModules) = false ∧
   ∃ xs, KT H kvs xs ∧ h.DictOfH (tupleKind (mixKind P w)) a xs := by
 obtain ⟨z, y, xs, r, o, es, ep, h1, h2, h3, h4, h5⟩ := (show ObjOk P w H h a (.dT kvs) from rd_of ok e)
 refine ⟨z, y, xs, r, o, es, ep, h1, h2, h3, h4, fun x hx => ?_, h5⟩
 have all : ∀ {l : List (List Key × V)} {m : List (List Key × Addr × Value)}, KT H l m → ∀ x ∈ m, (tupleKind (mixKind P w)).is h x.1 x.2.1 := by
   intro l m q
   induction q with
   | nil => intro x hx; exact nomatch hx
   | @cons p q ps qs hq t ih =>
     intro x hx
     rcases List.mem_cons.mp hx with e | hx
     · subst e
       exact key_of ok (by rw [← hq.1]; exact hq.2.1)
     · exact ih x hx
 exact all r x hx
theorem dt_of {kvs : List (List Key × V)} (ok : HOk P w H h) (e : H a = some (.dT kvs)) : kvs.length ≤ sizeLine ∧ (a == sysModules) = false ∧
   ∃ xs, KT H kvs xs ∧ h.DictOfH (tupleKind (mixKind P w)) a xs := dt_rd ok (.inl e)
end
noncomputable def DGet (H : Hp) (a : Addr) (y : V) (r : Option V) : Prop :=
 (∃ kvs k, Rd H a (.dK kvs) ∧ y = kV k ∧ r = valV kvs k) ∨ ∃ kvs k b, Rd H a (.dT kvs) ∧ y = .ref b ∧ H b = some (.tup (k.map kV)) ∧ r = valV kvs k
noncomputable def DPut (H : Hp) (a : Addr) (y v : V) (H' : Hp) : Prop :=
 (∃ kvs k, H a = some (.dK kvs) ∧ y = kV k ∧ kvs.length < sizeLine ∧ H' = upd H a (.dK (putK kvs k v))) ∨
 ∃ kvs k b, H a = some (.dT kvs) ∧ y = .ref b ∧ H b = some (.tup (k.map kV)) ∧ kvs.length < sizeLine ∧ H' = upd H a (.dT (putK kvs k v))
theorem DGet.k {H : Hp} {a : Addr} {kvs : List (Key × V)} {k : Key} (e : H a = some (.dK kvs)) : DGet H a (kV k) (valV kvs k) := .inl ⟨kvs, k, .inl e, rfl, rfl⟩
theorem DPut.k {H : Hp} {a : Addr} {kvs : List (Key × V)} {k : Key} {v : V} (e : H a = some (.dK kvs)) (hl : kvs.length < sizeLine) : DPut H a (kV k) v (upd H a (.dK (putK kvs k v))) := .inl ⟨kvs, k, e, rfl, hl, rfl⟩
section
variable {X : Cx} {pins : List (Addr × Obj)} {σ : St} {H : Hp} {s : Shared} {a : Addr} {y v : V} {u r : Value} {o : Option V} {A : Around} {E : Value → Shared → Prop}
theorem Inv.big (I : Inv X pins σ H s) : sysModules < s.heap.objs.size := by
 have h : mainGlobals < s.heap.objs.size := (I.mod.glob.keeps I.bk).lt
 exact Nat.lt_trans (by decide) h
theorem d_getItem {Q : Value → Shared → Prop} (hu : A.units + 1 < cLine) (I : Inv X pins σ H s) (g : DGet H a y (some v)) (ry : RelV y u) (h : ∀ w' s', Inv X pins σ H s' → RelV v w' → Q w' s') :
   wpAny (model X.prog X.w) A (getItem (.ref a) u) Q E s := by
 rcases g with ⟨kvs, k, e, ey, l⟩ | ⟨kvs, k, b, e, ey, eb, l⟩
 · subst ey
   obtain ⟨z, hd, vs, rel, dd⟩ := dk_rd I.hok e
   obtain ⟨w', hw, rw'⟩ := RelO.some_of (v := v) (o := valueAt vs k) (by rw [l]; exact rel.val k)
   exact wpAny_getItem_of (kV_is ry) dd.mapOf hw (h w' _ (I.tok _) rw')
 · subst ey
   cases (show u = Value.ref b from ry)
   obtain ⟨z, hd, xs, rel, dd⟩ := dt_rd I.hok e
   obtain ⟨w', hw, rw'⟩ := RelO.some_of (v := v) (o := (atKey xs k).map (·.2)) (by rw [l]; exact rel.val k)
   obtain ⟨p, hp, hp2⟩ := Option.map_eq_some_iff.mp hw
   refine wpAny_getItem_heap (tupleKind_room_in1 hu) (key_of I.hok eb) dd hp ?_
   rw [hp2]
   exact h w' _ (I.tok _) rw'
theorem d_write {h' : Heap} {t' : Nat} {ob : HO} (I : Inv X pins σ H s) (mu : Mut (H a)) (hs : Heap.SameBut a s.heap h') (he : ∃ q, h'.get? a = some q) (new : ObjOk X.prog X.w (upd H a ob) h' a ob) :
   Inv X pins σ (upd H a ob) { s with heap := h', toks := t' } :=
 I.write (x := a) (e := a) mu (.inl rfl) (fun b q hb z => (hs.2 b hb).trans z) he new
theorem dk_new {P : Program} {w : World} {H' : Hp} {h' : Heap} {kvs : List (Key × V)} {vs : List (Key × Value)} (z : kvs.length ≤ sizeLine) (hd : (a == sysModules) = false) (rel : KV kvs vs) (dd : h'.DictOf (mixKind P w) a vs) :
   ObjOk P w H' h' a (.dK kvs) := ⟨z, hd, vs, rel, dd⟩
theorem d_setItem {H' : Hp} {Q : Unit → Shared → Prop} (hu : A.units + 1 < cLine) (I : Inv X pins σ H s) (g : DPut H a y v H') (ry : RelV y u) (rv : RelV v r) (h : ∀ s', Inv X pins σ H' s' → Q () s') :
   wpAny (model X.prog X.w) A (setItem (.ref a) u r) Q E s := by
 rcases g with ⟨kvs, k, e, ey, l, eH⟩ | ⟨kvs, k, b, e, ey, eb, l, eH⟩
 · subst ey eH
   obtain ⟨z, hd, vs, rel, dd⟩ := dk_of I.hok e
   have hz : vs.length ≤ sizeLine := by rw [← rel.length]; exact z
   have hl : (putK kvs k v).length ≤ sizeLine := by have := length_putK kvs k v; lia
   refine wpAny_setItem_pairs (hsz := hz) (kV_is ry) dd fun h' dd' hs => h _ ?_
   have he : ∃ q, h'.get? a = some q := let ⟨q, _, _, hq, _⟩ := dd'; ⟨q, hq⟩
   exact d_write I (by rw [e]; exact True.intro) hs he (dk_new hl hd (rel.put k rv) dd')
 · subst ey eH
   cases (show u = Value.ref b from ry)
   obtain ⟨z, hd, xs, rel, dd⟩ := dt_of I.hok e
   have hz : xs.length ≤ sizeLine := by rw [← Paired.length rel]; exact z
   have hl : (putK kvs k v).length ≤ sizeLine := by have := length_putK kvs k v; lia
   refine wpAny_setItem_heap (hsz := hz) (tupleKind_room_in1 hu) (key_of I.hok eb) dd fun h' dd' hs => h _ ?_
   obtain ⟨q, es, ep, hq, h2, h3, h4, _, h5⟩ := dd'
   refine d_write I (by rw [e]; exact True.intro) hs ⟨q, hq⟩ ⟨hl, hd, _, (rel.put k eb rv).keeps fun c ys ec => ?_, q, es, ep, hq, h2, h3, h4, h5⟩
   rw [upd_ne (ne_of ec e (fun z => nomatch z))]
   exact ec
end
section
variable {X : Cx} {pins : List (Addr × Obj)} {σ : St} {H : Hp} {s : Shared} {a : Addr} {kvs : List (Key × V)} {k : Key} {u : Value} {A : Around} {E : Value → Shared → Prop}
end
noncomputable def NoSl (i : Expr) : Prop := ∀ ov iv, subscripted i false ov iv = operate [ov, iv] (getItem ov iv)
theorem subD_of {prog : Program} {w : World} {A : Around} {E : Value → Shared → Prop} {s : Shared} {env : Env} {value slice : Expr} {pos : Pos} {T id : String} {Q : Value → Shared → Prop}
   (hl : typeLookup (.type T) "__getitem__" = pure (some (.builtin id))) (hs : NoSl slice)
   (h : wpAny (model prog w) A (eval value env) (fun o s₁ => wpAny (model prog w) A (eval slice env) (fun i s₂ => s₂.TypeIs o T ∧ wpAny (model prog w) A (getItem o i) Q E s₂) E s₁) E s) :
   wpAny (model prog w) A (eval (.Subscript value slice pos) env) Q E s := by
 refine Subscript_ (wpAny_mono h (fun o s₁ h₁ => wpAny_mono h₁ (fun i s₂ h₂ => ?_) fun _ _ x => x) fun _ _ x => x)
 obtain ⟨hT, h₂⟩ := h₂
 unfold subscriptTail
 refine wpAny_bind ?_
 rw [getitemInPython_of_ne hT.not_modules]
 refine wpAny_bind (wpAny_specialOf hT hl ?_)
 have fin : wpAny (model prog w) A (subscripted slice false o i) (fun r s₃ => wpAny (model prog w) A (letTemporaryGo value o r >>= fun _ => pure r) Q E s₃) E s₂ := by
   rw [hs o i]
   exact wpAny_operating (wpAny_mono h₂ (fun r s₃ h₃ => wpAny_bind (wpAny_letTemporaryGo (wpAny_pure h₃))) fun _ _ x => x)
 first
   | exact wpAny_pure (wpAny_bind fin)
   | exact wpAny_bind (wpAny_pure (wpAny_bind fin))
   | exact wpAny_bind fin
theorem dict_typeIs {X : Cx} {pins : List (Addr × Obj)} {σ : St} {H : Hp} {s : Shared} {a : Addr} {y : V} {o : Option V} (I : Inv X pins σ H s) (g : DGet H a y o) : s.TypeIs (.ref a) "dict" := by
 rcases g with ⟨kvs, k, e, _, _⟩ | ⟨kvs, k, b, e, _, _, _⟩
 · obtain ⟨_, _, vs, _, dd⟩ := dk_rd I.hok e
   exact dd.typeIs
 · obtain ⟨_, _, xs, _, dd⟩ := dt_rd I.hok e
   exact dd.typeIs
noncomputable def tDGet (td ty : TE) : TE := fun σ H Q => td σ H fun x H1 => ty σ H1 fun y H2 => ∃ a v, x = .ref a ∧ DGet H2 a y (some v) ∧ Q v H2
noncomputable def sDPut (td ty tv : TE) : TS := fun D σ H => tv σ H fun v H1 => td σ H1 fun x H2 => ty σ H2 fun y H3 => ∃ a H4, x = .ref a ∧ DPut H3 a y v H4 ∧ D.nx σ H4
section
variable {X : Cx} {o i e value : Expr} {pos pos' tpos : Pos} {td ty tv : TE}
theorem pe_dget (hu : X.A.units + 1 < cLine) (ho : PE X o td) (hi : PE X i ty) (hs : NoSl i) : PE X (.Subscript o i pos) (tDGet td ty) := by
 intro pins s σ H Q I h
 refine subD_of PySem.F.slot_dict_getitem.lookup hs (thn (ho pins s σ H _ I h) fun u s1 ⟨x, H1, I1, rx, q1⟩ => thn (hi pins s1 σ H1 _ I1 q1) fun iv s2 ⟨y, H2, I2, ry, a, v, ex, g, q2⟩ => ?_)
 subst ex
 obtain rfl : u = Value.ref a := rx
 exact ⟨dict_typeIs I2 g, d_getItem hu I2 g ry fun w' s3 I3 rw' => ⟨v, H2, I3, rw', q2⟩⟩
theorem ps_dput (hu : X.A.units + 1 < cLine) (ho : PE X o td) (hi : PE X i ty) (hv : PE X value tv) (hs : swapsWith value (some (.Subscript o i pos')) pos.line X.env = pure false) :
   PS X (.Assign [.Subscript o i pos'] value pos) (sDPut td ty tv) := by
 intro pins s σ H D I h
 refine wpAny_Assign_Subscript (thn (hv pins s σ H _ I h) fun r s1 ⟨v, H1, I1, rv, q1⟩ => thn (ho pins s1 σ H1 _ I1 q1) fun u s2 ⟨x, H2, I2, rx, q2⟩ => thn (hi pins s2 σ H2 _ I2 q2) fun iv s3 ⟨y, H3, I3, ry, a, H4, ex, g, q3⟩ => ?_) hs
 subst ex
 obtain rfl : u = Value.ref a := rx
 exact d_setItem hu I3 g ry rv fun s4 I4 => ⟨σ, H4, I4, q3⟩
end
theorem dk_empty {P : Program} {w : World} {H : Hp} (h : Heap) (hb : sysModules < h.objs.size) : ObjOk P w H (h.push { cls := .type "dict", data := .dict #[] }) h.objs.size (.dK []) :=
 ⟨Nat.zero_le _, beq_eq_false_iff_ne.mpr (Ne.symm (Nat.ne_of_lt hb)), [], .nil, Heap.DictOf.new h⟩
noncomputable def tDNewK : TE := fun _ H Q => ∀ p, H p = none → Q (.ref p) (upd H p (.dK []))
section
variable {X : Cx} {pos : Pos}
theorem pe_dnewK : PE X (.Dict [] [] pos) tDNewK := fun pins s σ H Q I h =>
 wpAny_Dict_empty ⟨.ref s.heap.objs.size, _, I.laid (a := s.heap.objs.size) (o := .dK []) (t' := s.toks) (fun _ _ q => Heap.get?_push_of_some _ q) (Nat.le_refl _) (dk_empty s.heap I.big), rfl, h _ (I.hok.fresh (Nat.le_refl _))⟩
end
structure M1 (X : Cx) (o : Expr) (m : Str) (apos : Pos) (e : Expr) (cpos : Pos) : Prop where
 base : attributeBase o m X.env (eval o X.env) = eval o X.env
 few : ((backTo cpos (starEach [e] X.env)).all (fun x => !x.1) && (backToKw cpos (keywordEach [] X.env)).all (fun x => x.1.isSome)
   && decide (([e] : List Expr).length + ([] : List Keyword).length + (if ([] : List Keyword).isEmpty then 0 else 1) < 30)) = true
 line : (apos.endLine == cpos.line) = true
 trees : backTo cpos (starEach [e] X.env) = [(false, eval e X.env)]
structure M2 (X : Cx) (o : Expr) (m : Str) (apos : Pos) (e f : Expr) (cpos : Pos) : Prop where
 base : attributeBase o m X.env (eval o X.env) = eval o X.env
 few : ((backTo cpos (starEach [e, f] X.env)).all (fun x => !x.1) && (backToKw cpos (keywordEach [] X.env)).all (fun x => x.1.isSome)
   && decide (([e, f] : List Expr).length + ([] : List Keyword).length + (if ([] : List Keyword).isEmpty then 0 else 1) < 30)) = true
 line : (apos.endLine == cpos.line) = true
 trees : backTo cpos (starEach [e, f] X.env) = [(false, eval e X.env), (false, eval f X.env)]
noncomputable def IsD (H : Hp) (a : Addr) : Prop := (∃ kvs, Rd H a (.dK kvs)) ∨ ∃ kvs, Rd H a (.dT kvs)
theorem isD_at {X : Cx} {pins : List (Addr × Obj)} {σ : St} {H : Hp} {s : Shared} {a : Addr} (I : Inv X pins σ H s) (d : IsD H a) :
   s.TypeIs (.ref a) "dict" ∧ (∀ b, Value.ref a = .ref b → ∃ ob, s.heap.get? b = some ob ∧ ob.dict = none) ∧ (a == sysModules) = false := by
 rcases d with ⟨kvs, e⟩ | ⟨kvs, e⟩
 · obtain ⟨_, hd, vs, _, dd⟩ := dk_rd I.hok e
   refine ⟨dd.typeIs, fun b q => ?_, hd⟩
   cases q
   obtain ⟨ob, _, _, h1, h2, _⟩ := dd
   exact ⟨ob, h1, h2.2.1⟩
 · obtain ⟨_, hd, xs, _, dd⟩ := dt_rd I.hok e
   refine ⟨dd.typeIs, fun b q => ?_, hd⟩
   cases q
   obtain ⟨ob, _, _, h1, h2, _⟩ := dd
   exact ⟨ob, h1, h2.2.1⟩
section
variable {X : Cx} {pins : List (Addr × Obj)} {σ : St} {H : Hp} {s : Shared} {a : Addr} {y d : V} {u r : Value} {o : Option V} {A : Around} {E : Value → Shared → Prop}
theorem d_get2 {Q : Value → Shared → Prop} (hu : A.units + 1 < cLine) (I : Inv X pins σ H s) (g : DGet H a y o) (ry : RelV y u) (rd : RelV d r) (h : ∀ w' s', Inv X pins σ H s' → RelV (o.getD d) w' → Q w' s') :
   wpAny (model X.prog X.w) A (call (.builtin "dict.get") [.ref a, u, r]) Q E s := by
 rcases g with ⟨kvs, k, e, ey, l⟩ | ⟨kvs, k, b, e, ey, eb, l⟩
 · subst ey
   obtain ⟨z, hd, vs, rel, dd⟩ := dk_rd I.hok e
   refine call_meetsIn PySem.F.slot_dict_get dd.typeIs PySem.F.entry_dict_get (PySem.F.args_dict_get_3 _ _ _) (meets_dict_get_default (mixKind X.prog X.w) a (kV_is ry) hd r) ⟨_, dd.mapOf, h _ _ (I.tok _) ?_⟩
   rw [l]
   exact (rel.val k).getD rd
 · subst ey
   cases (show u = Value.ref b from ry)
   obtain ⟨z, hd, xs, rel, dd⟩ := dt_rd I.hok e
   refine call_meetsIn PySem.F.slot_dict_get dd.typeIs PySem.F.entry_dict_get (PySem.F.args_dict_get_3 _ _ _) (meetsH_dict_get_default (tupleKind (mixKind X.prog X.w)) a b hd r) ⟨tupleKind_room_in1 hu, k, xs, key_of I.hok eb, dd, h _ _ (I.tok _) ?_⟩
   rw [l]
   exact (rel.val k).getD rd
end
noncomputable def tDGet2 (td ty tx : TE) : TE := fun σ H Q => td σ H fun x H1 => ∃ a, x = .ref a ∧ IsD H1 a ∧ ty σ H1 fun y H2 => tx σ H2 fun z H3 => ∃ o, DGet H3 a y o ∧ Q (o.getD z) H3
section
variable {X : Cx} {o e f : Expr} {apos cpos : Pos} {td ty tx : TE}
theorem pe_dget2 (hu : X.A.units + 1 < cLine) (ho : PE X o td) (he : PE X e ty) (hf : PE X f tx) (m : M2 X o "get" apos e f cpos) : PE X (.Call (.Attribute o "get" apos) [e, f] [] cpos) (tDGet2 td ty tx) := by
 intro pins s σ H Q I h
 refine wpAny_Call_method m.base m.few m.line PySem.F.plainAttrs_dict PySem.F.slot_dict_get PySem.F.type_dict_get (thn (ho pins s σ H _ I h) fun u s1 ⟨x, H1, I1, rx, a, ex, d, q1⟩ => ?_)
 subst ex
 obtain rfl : u = Value.ref a := rx
 obtain ⟨t1, t2, _⟩ := isD_at I1 d
 refine ⟨t1, t2, ?_⟩
 rw [m.trees]
 refine Calls.callWith_builtin rfl (Calls.evalArgs_plain (Calls.spliced_cons (thn (he pins s1 σ H1 _ I1 q1) fun iv s2 ⟨y, H2, I2, ry, q2⟩ =>
   Calls.spliced_cons (thn (hf pins s2 σ H2 _ I2 q2) fun fv s3 ⟨z, H3, I3, rz, ov, g, q3⟩ => Calls.spliced_nil ?_))))
 exact d_get2 hu I3 g ry rz fun w' s4 I4 rw' => ⟨_, H3, I4, rw', q3⟩
end
end L2
namespace L2
open PySem PySem.Spec PyProof.Rows
noncomputable def cloOf (env : Env) : List (Str × NameKind) → List (Str × Addr) → List (Str × Addr)
 | [], acc => acc
 | (n, k) :: r, acc => cloOf env r (if k == .free then (n, (env.cells.lookup n).getD 0) :: acc else acc)
theorem cloOf_cons (env : Env) (n : Str) (k : NameKind) (r : List (Str × NameKind)) (acc : List (Str × Addr)) : cloOf env ((n, k) :: r) acc = cloOf env r (if k == .free then (n, (env.cells.lookup n).getD 0) :: acc else acc) := rfl
theorem closure_forIn (env : Env) (f : Str × NameKind → List (Str × Addr) → Sem (ForInStep (List (Str × Addr))))
   (hf : ∀ n k cs, f (n, k) cs = if (k == .free) = true then (do let a ← cellOf env n; pure (.yield ((n, a) :: cs))) else pure (.yield cs)) :
   ∀ (names : List (Str × NameKind)) (acc : List (Str × Addr)), (∀ y ∈ names, y.2 = .free → ∃ c, env.cells.lookup y.1 = some c) → forIn names acc f = (pure (cloOf env names acc) : Sem _)
 | [], acc, _ => by rw [List.forIn_nil]; rfl
 | (n, k) :: r, acc, h => by
   rw [List.forIn_cons, hf]
   have hr : ∀ y ∈ r, y.2 = .free → ∃ c, env.cells.lookup y.1 = some c := fun y hy => h y (List.mem_cons_of_mem _ hy)
   by_cases hk : (k == NameKind.free) = true
   · rw [if_pos hk]
     obtain ⟨c, hc⟩ := h (n, k) List.mem_cons_self (by simpa using hk)
     have hc' : env.cells.lookup n = some c := hc
     have e : cellOf env n = pure c := by unfold cellOf; rw [hc']
     rw [e]
     simp only [pure_bind]
     rw [closure_forIn env f hf r _ hr]
     rw [cloOf_cons, if_pos hk, hc']
     rfl
   · rw [if_neg hk]
     simp only [pure_bind]
     rw [closure_forIn env f hf r _ hr]
     rw [cloOf_cons, if_neg hk]
theorem closureFor_eq (scope : Scope) (env : Env) (h : ∀ y ∈ scope.names, y.2 = .free → ∃ c, env.cells.lookup y.1 = some c) : closureFor scope env = pure (cloOf env scope.names []) := by
 unfold closureFor
 dsimp only
 rw [closure_forIn env _ (fun n k cs => by cases hk : (k == NameKind.free) <;> simp [hk] <;> rfl) scope.names [] h]
 rfl
theorem cloOf_lookup (env : Env) : ∀ (names : List (Str × NameKind)) (acc : List (Str × Addr)) (x : Str) (c : Addr), (cloOf env names acc).lookup x = some c →
   (acc.lookup x = some c ∨ ((x, .free) ∈ names ∧ c = (env.cells.lookup x).getD 0))
 | [], acc, x, c, h => .inl h
 | (n, k) :: r, acc, x, c, h => by
   rw [cloOf_cons] at h
   rcases cloOf_lookup env r _ x c h with q | ⟨q1, q2⟩
   · split at q
     · rename_i hk
       have hk' : k = .free := by simpa using hk
       subst hk'
       rw [List.lookup_cons] at q
       split at q
       · rename_i hx
         have : x = n := by simpa using hx
         subst this
         cases q
         exact .inr ⟨List.mem_cons_self, rfl⟩
       · exact .inl q
     · exact .inl q
   · exact .inr ⟨List.mem_cons_of_mem _ q1, q2⟩
theorem cloOf_acc (env : Env) : ∀ (names : List (Str × NameKind)) (acc : List (Str × Addr)) (x : Str), (∃ c, acc.lookup x = some c) → ∃ c, (cloOf env names acc).lookup x = some c
 | [], acc, x, h => h
 | (n, k) :: r, acc, x, h => by
   rw [cloOf_cons]
   refine cloOf_acc env r _ x ?_
   split
   · rw [List.lookup_cons]
     split
     · exact ⟨_, rfl⟩
     · exact h
   · exact h
theorem cloOf_has (env : Env) : ∀ (names : List (Str × NameKind)) (acc : List (Str × Addr)) (x : Str), (x, NameKind.free) ∈ names → ∃ c, (cloOf env names acc).lookup x = some c
 | [], acc, x, h => by simp at h
 | (n, k) :: r, acc, x, h => by
   rw [cloOf_cons]
   rcases List.mem_cons.mp h with e | h
   · cases e
     refine cloOf_acc env r _ _ ?_
     rw [if_pos (by decide), List.lookup_cons]
     simp
   · exact cloOf_has env r _ x h
noncomputable def ownB (names : List (Str × NameKind)) (x : Str) : Bool := names.any fun y => y.1 == x && y.2 == .cell
theorem ownB_mem {names : List (Str × NameKind)} {x : Str} : ownB names x = true ↔ (x, NameKind.cell) ∈ names := by
 unfold ownB
 rw [List.any_eq_true]
 constructor
 · rintro ⟨⟨n, k⟩, h, e⟩
   simp only [Bool.and_eq_true, beq_iff_eq] at e
   obtain ⟨rfl, rfl⟩ := e
   exact h
 · intro h
   exact ⟨_, h, by simp⟩
theorem cellsFrom_app : ∀ (names : List (Str × NameKind)) (n : Nat) (acc : List (Str × Addr)), cellsFrom n names acc = cellsFrom n names [] ++ acc
 | [], _, _ => rfl
 | (x, k) :: r, n, acc => by
   unfold cellsFrom
   split
   · rw [cellsFrom_app r (n + 1) ((x, n) :: acc), cellsFrom_app r (n + 1) [(x, n)], List.append_assoc]; rfl
   · exact cellsFrom_app r n acc
theorem cellsFrom_in : ∀ (names : List (Str × NameKind)) (n : Nat) {x : Str} {c : Addr}, (x, c) ∈ cellsFrom n names [] → n ≤ c ∧ (x, NameKind.cell) ∈ names
 | [], _, _, _, h => nomatch h
 | (y, k) :: r, n, x, c, h => by
   unfold cellsFrom at h
   split at h
   · rename_i hk
     have hk' : k = .cell := by simpa using hk
     subst hk'
     rw [cellsFrom_app] at h
     rcases List.mem_append.mp h with h | h
     · have := cellsFrom_in r (n + 1) h
       exact ⟨by lia, List.mem_cons_of_mem _ this.2⟩
     · cases List.mem_singleton.mp h
       exact ⟨Nat.le_refl _, List.mem_cons_self⟩
   · have := cellsFrom_in r n h
     exact ⟨this.1, List.mem_cons_of_mem _ this.2⟩
theorem cellsFrom_has : ∀ (names : List (Str × NameKind)) (n : Nat) {x : Str}, (x, NameKind.cell) ∈ names → ((cellsFrom n names []).lookup x).isSome = true
 | [], _, _, h => nomatch h
 | (y, k) :: r, n, x, h => by
   unfold cellsFrom
   rcases List.mem_cons.mp h with e | h
   · cases e
     rw [if_pos (by decide), cellsFrom_app, List.lookup_append]
     cases hh : (cellsFrom (n + 1) r []).lookup y with
     | some c => rfl
     | none => simp
   · have i0 := cellsFrom_has r n h
     have i1 := cellsFrom_has r (n + 1) h
     split
     · rw [cellsFrom_app, List.lookup_append]
       cases hh : (cellsFrom (n + 1) r []).lookup x with
       | some c => rfl
       | none => rw [hh] at i1; cases i1
     · exact i0
theorem cellsFrom_apart : ∀ (names : List (Str × NameKind)) (n : Nat), (cellsFrom n names []).Pairwise fun x y => x.2 ≠ y.2
 | [], _ => List.Pairwise.nil
 | (y, k) :: r, n => by
   unfold cellsFrom
   split
   · rw [cellsFrom_app]
     refine List.pairwise_append.mpr ⟨cellsFrom_apart r (n + 1), List.pairwise_singleton _ _, fun a ha b hb => ?_⟩
     rw [List.mem_singleton.mp hb]
     have := (cellsFrom_in r (n + 1) (x := a.1) (c := a.2) ha).1
     show a.2 ≠ n
     exact Nat.ne_of_gt (Nat.lt_of_succ_le this)
   · exact cellsFrom_apart r n
theorem wpAny_newBlockEnv {M : Model} {A : Around} {E : Value → Shared → Prop} {s : Shared} {scope : Scope} {globals : Addr} {closure : List (Str × Addr)} {qual : Str} {func : Option Addr} {code : Value} {around : Env} {builtins : Addr} {Q : Env → Shared → Prop}
   (hQ : ∀ h', h' = pushCells (s.heap.push { cls := .type "dict", data := .dict #[] }) scope.names → Q (newEnv scope s.heap.objs.size globals (cellsFrom (s.heap.objs.size + 1) scope.names [] ++ closure) qual func code (some around) builtins) { s with heap := h' }) :
   wpAny M A (newFunctionEnv scope globals closure [] qual func code (some around) builtins) Q E s := by
 simp only [newFunctionEnv, Option.isSome_some, if_true]
 refine wpAny_bind (wpAny_alloc ?_)
 refine wpAny_bind (wpAny_layCells _ (fun name kind cells => by cases hkc : kind == NameKind.cell <;> simp [hkc]) _ _ _ _ ?_)
 rw [cellsFrom_app, show ({ s with heap := s.heap.push { cls := .type "dict", data := .dict #[] } } : Shared).heap.objs.size = s.heap.objs.size + 1 from Heap.size_push ..]
 refine wpAny_bind ?_
 rw [List.forIn_nil]
 exact wpAny_pure (wpAny_pure (hQ _ rfl))
section
variable {prog : Program} {w : World} {A : Around} {R : Result → Shared → Prop} {s : Shared}
theorem codeAny_compLoop_gen {elt target iter : Expr} {ifs : List Expr} {scope : Scope} {pos : Pos} {it acc : Value} {env : Env} (I : Nat → Shared → Prop)
   (turn : ∀ n s, I n s → wpAny (model prog w) A (pyNext it) (fun r s₁ => match r with
     | none => R (.ok .next) s₁
     | some v => wpAny (model prog w) A (letOwnedTupleGo target it v) (fun _ s₁' => wpAny (model prog w) A (assign target env v) (fun _ s₂ =>
         wpAny (model prog w) A (forIn ifs true fun c r => if r = true then do let ok ← isTrue c env (eval c env); pure (ForInStep.yield ok) else pure (ForInStep.yield r)) (fun ok s₃ =>
           if ok = true then wpAny (model prog w) A (eval elt env) (fun x s₄ =>
             wpAny (model prog w) A (call (.builtin "list.append") [acc, x]) (fun _ s₅ => ∃ m, m < n ∧ I m s₅) (notedBy (model prog w) A env fun e s' => R (.error e) s') s₄) (notedBy (model prog w) A env fun e s' => R (.error e) s') s₃
           else ∃ m, m < n ∧ I m s₃) (notedBy (model prog w) A env fun e s' => R (.error e) s') s₂) (notedBy (model prog w) A env fun e s' => R (.error e) s') s₁') (notedBy (model prog w) A env fun e s' => R (.error e) s') s₁) (notedBy (model prog w) A env fun e s' => R (.error e) s') s)
   (n : Nat) (h : I n s) :
   codeAny (model prog w) A (.compLoop (.ListComp elt [⟨target, iter, ifs, 0⟩] scope pos) 0 it acc env) R s := by
 refine codeAny_loop rfl I (fun n s hI => ?_) n h
 show wpAny _ A ((compTurn (.ListComp elt [⟨target, iter, ifs, 0⟩] scope pos) 0 it acc env).onRaise (fun x => do noteFrame x env; theTreesLotGoes x)) _ _ s
 refine wpAny_noted ?_
 rw [compTurn_list]
 refine wpAny_bind (wpAny_standAt (wpAny_bind (wpAny_mono (turn n s hI) (fun r s₁ h₁ => ?_) fun _ _ h' => h')))
 cases r with
 | none => exact wpAny_pure h₁
 | some v =>
   refine wpAny_bind (wpAny_mono h₁ (fun _ s₁' h₁' => wpAny_bind (wpAny_mono h₁' (fun _ s₂ h₂ => wpAny_bind (wpAny_mono h₂ (fun ok s₃ h₃ => ?_) fun _ _ h' => h')) fun _ _ h' => h')) fun _ _ h' => h')
   cases ok with
   | false => exact wpAny_pure ⟨rfl, h₃⟩
   | true =>
     exact wpAny_bind (wpAny_bind (wpAny_mono h₃ (fun x s₄ h₄ => wpAny_bind (wpAny_mono h₄ (fun _ s₅ h₅ => wpAny_pure (wpAny_pure ⟨rfl, h₅⟩)) fun _ _ h' => h')) fun _ _ h' => h'))
end
noncomputable def blk (X : Cx) (N' : List Str) (scope : Scope) (C : Addr) (s : Shared) (H : Hp) (fp : List Addr) (pins : List (Addr × Obj)) : Cx where
 prog := X.prog
 w := X.w
 K := X.K
 mg := X.mg
 base := X.base
 A := X.A
 N := N'
 s₀ := s
 H₀ := H
 env := compEnvC scope (cellsFrom (C + 1) scope.names [] ++ cloOf X.env scope.names []) C X.env
 outer := X.stack
 stack := X.stack
 ex := fp
 fn := ownB scope.names
 calm := X.calm
 pn := X.pn ++ pins
 xe := fun _ _ => False
structure BlkScope (X : Cx) (N' : List Str) (ix : List (Option Nat)) (scope : Scope) : Prop where
 kind : scope.kind = .function
 locs : ∀ y ∈ scope.names, y.2 = .local → scope.names.lookup y.1 = some .local
 frees : ∀ y ∈ scope.names, y.2 = .free → (X.env.kindOf y.1 = some .cell ∨ X.env.kindOf y.1 = some .free)
 look : ∀ x k, (relabel scope X.env).names.lookup x = some k → (k = .cell ∨ k = .free) → (x, NameKind.free) ∈ scope.names ∨ (x, NameKind.cell) ∈ scope.names
 lenI : ix.length = N'.length
 at_ : ∀ (i j : Nat) (x : Str), ix[i]? = some (some j) → N'[i]? = some x → X.N[j]? = some x ∧ (x, NameKind.free) ∈ scope.names ∧ ownB scope.names x = false ∧ (relabel scope X.env).names.lookup x = X.env.kindOf x
variable {X : Cx} {pins : List (Addr × Obj)} {σ : St} {H : Hp} {s : Shared} {N' : List Str} {ix : List (Option Nat)} {scope : Scope}
noncomputable def pick (ix : List (Option Nat)) (σ : St) : St := ix.map fun o => match o with | some j => (σ[j]?).join | none => none
theorem pick_get {i : Nat} {v : V} (e : (pick ix σ)[i]? = some (some v)) : ∃ j, ix[i]? = some (some j) ∧ σ[j]? = some (some v) := by
 unfold pick at e
 rw [List.getElem?_map] at e
 cases h : ix[i]? with
 | none => rw [h] at e; cases e
 | some o =>
   rw [h] at e
   cases o with
   | none =>
     have e' : (none : Option V) = some v := Option.some.inj e
     cases e'
   | some j =>
     have e' : (σ[j]?).join = some v := Option.some.inj e
     refine ⟨j, rfl, ?_⟩
     cases hj : σ[j]? with
     | none => rw [hj] at e'; cases e'
     | some u => rw [hj] at e'; exact congrArg some e'
theorem blk_cells (I : Inv X pins σ H s) (S : BlkScope X N' ix scope) (C : Addr) {x : Str} {c : Addr} (e : (cellsFrom (C + 1) scope.names [] ++ cloOf X.env scope.names []).lookup x = some c) :
   (C < c ∧ (cellsFrom (C + 1) scope.names []).lookup x = some c) ∨ (ownB scope.names x = false ∧ X.env.cells.lookup x = some c) := by
 rw [List.lookup_append] at e
 cases h : (cellsFrom (C + 1) scope.names []).lookup x with
 | some c' =>
   rw [h] at e
   cases e
   exact .inl ⟨(cellsFrom_in _ _ (mem_of_lookup h)).1, rfl⟩
 | none =>
   rw [h] at e
   refine .inr ⟨Bool.eq_false_iff.mpr fun z => ?_, ?_⟩
   · have := cellsFrom_has scope.names (C + 1) (ownB_mem.mp z)
     rw [h] at this; cases this
   · have e' : (cloOf X.env scope.names []).lookup x = some c := e
     rcases cloOf_lookup X.env scope.names [] x c e' with q | ⟨q, rfl⟩
     · cases q
     · obtain ⟨c, hc⟩ := I.ok.has x (S.frees _ q rfl)
       rw [hc] <;> rfl
theorem blk_ok {fp : List Addr} {C : Addr} (I : Inv X pins σ H s) (hf : ∀ b ∈ fp, FpOk X pins H b) (S : BlkScope X N' ix scope) (hC : s.heap.objs.size ≤ C) (hfo : ∀ b ∈ fp, ∃ o, s.heap.get? b = some o) :
   (blk X N' scope C s H fp pins).Ok := by
 have lt : ∀ x c, X.env.cells.lookup x = some c → c < C := fun x c e => by
   obtain ⟨v, z⟩ := I.cell x c e
   exact Nat.lt_of_lt_of_le z.lt hC
 refine ⟨I.ok.mod, ?_, I.ok.glob, I.ok.blt, hC, fun x y c h1 h2 => ?_, fun x hx => ?_, fun x c hf' e => ?_, I.ok.hd, I.ok.frames, .inl rfl, fun b hb => ?_, I.bs, Nat.le_trans I.ok.bsz I.sz, fun b o e hb => ?_, fun b hb hs => ?_, I.stack, I.stkFree⟩
 · exact S.kind
 · rcases blk_cells I S C h1 with ⟨a1, a2⟩ | ⟨a1, a2⟩ <;> rcases blk_cells I S C h2 with ⟨b1, b2⟩ | ⟨b1, b2⟩
   · exact name_of_addr (cellsFrom_apart _ _) (mem_of_lookup a2) (mem_of_lookup b2)
   · exact absurd (Nat.lt_trans (lt _ _ b2) a1) (Nat.lt_irrefl _)
   · exact absurd (Nat.lt_trans (lt _ _ a2) b1) (Nat.lt_irrefl _)
   · exact I.ok.inj x y c a2 b2
 · have hx' : (relabel scope X.env).names.lookup x = some .cell ∨ (relabel scope X.env).names.lookup x = some .free := hx
   have key : (x, NameKind.free) ∈ scope.names ∨ (x, NameKind.cell) ∈ scope.names := by
     rcases hx' with hx' | hx'
     · exact S.look x _ hx' (.inl rfl)
     · exact S.look x _ hx' (.inr rfl)
   show ∃ c, (cellsFrom (C + 1) scope.names [] ++ cloOf X.env scope.names []).lookup x = some c
   rw [List.lookup_append]
   cases h : (cellsFrom (C + 1) scope.names []).lookup x with
   | some c => exact ⟨c, rfl⟩
   | none =>
     rcases key with k | k
     · obtain ⟨c, hc⟩ := cloOf_has X.env scope.names [] x k
       exact ⟨c, by rw [hc]; rfl⟩
     · have := cellsFrom_has scope.names (C + 1) k
       rw [h] at this; cases this
 · rcases blk_cells I S C e with ⟨a1, a2⟩ | ⟨a1, a2⟩
   · exact Nat.le_of_lt (Nat.lt_of_le_of_lt hC a1)
   · have hf2 : ownB scope.names x = true := hf'
     rw [a1] at hf2; cases hf2
 · obtain ⟨f0, f1, f2, f3, f4, f5⟩ := hf b hb
   obtain ⟨o, ho⟩ := hfo b hb
   refine ⟨Nat.ne_of_lt (Nat.lt_of_lt_of_le (Heap.lt_size ho) hC), fun x c e => ?_⟩
   rcases blk_cells I S C e with ⟨a1, a2⟩ | ⟨a1, a2⟩
   · exact Nat.ne_of_gt (Nat.lt_trans (Nat.lt_of_lt_of_le (Heap.lt_size ho) hC) a1)
   · exact f4 x c a2
 · obtain ⟨f0, f1, f2, f3, f4, f5⟩ := hf b hb
   have := (I.ok.bs b o e).1
   rcases f3 with z | z
   · exact I.ok.noex b o e z
   · exact absurd (Nat.lt_of_lt_of_le (Heap.lt_size this) z) (Nat.lt_irrefl _)
 · obtain ⟨f0, f1, f2, f3, f4, f5⟩ := hf b hb
   rcases List.mem_cons.mp (I.stkSub b hs) with e | e
   · exact f1 e
   · exact f2 e
theorem blk_start {fp : List Addr} {C : Addr} {h₁ : Heap} {tk : Nat} (I : Inv X pins σ H s) (hf : ∀ b ∈ fp, FpOk X pins H b) (S : BlkScope X N' ix scope) (hC : s.heap.objs.size ≤ C) (hfo : ∀ b ∈ fp, ∃ o, s.heap.get? b = some o)
   (hns : h₁.Ns C (fun _ => none)) (hk : ∀ b o, s.heap.get? b = some o → h₁.get? b = some o) (hown : ∀ x c, (x, c) ∈ cellsFrom (C + 1) scope.names [] → h₁.IsCell c none) :
   Inv (blk X N' scope C s H fp pins) [] (pick ix σ) H { s with heap := h₁, toks := tk } := by
 have nC : ∀ b o, s.heap.get? b = some o → b ≠ C := fun b o e => Nat.ne_of_lt (Nat.lt_of_lt_of_le (Heap.lt_size e) hC)
 refine ⟨blk_ok I hf S hC hfo, rfl, I.bare, Un.kept hk, ⟨_, hns, fun i x v h1 h2 h3 => ?_⟩, fun x c e => ?_, I.hok.fresh hC, fun x c e => ?_, fun p hp => ?_, I.hok.kept hk, ?_⟩
 · obtain ⟨j, e1, e2⟩ := pick_get h2
   obtain ⟨a1, a2, a4, a3⟩ := S.at_ i j x e1 h1
   have kd := S.frees _ a2 rfl
   have vis : Vis X.env.scope x := by
     rcases kd with k | k
     · exact .inr (.inl k)
     · exact .inr (.inr k)
   obtain ⟨m, hn, hl⟩ := I.loc
   obtain ⟨u, r, l⟩ := hl j x v a1 e2 vis
   refine ⟨u, r, .inr ?_⟩
   have kd' : X.env.kindOf x = some .cell ∨ X.env.kindOf x = some .free := kd
   rcases l with ⟨k, _⟩ | ⟨k, c, ec, z⟩
   · rcases kd' with q | q <;> (rw [q] at k; cases k)
   · refine ⟨?_, c, ?_, z.keeps hk⟩
     · show (relabel scope X.env).names.lookup x = some .cell ∨ (relabel scope X.env).names.lookup x = some .free
       rw [a3]; exact kd'
     · obtain ⟨c', hc'⟩ := cloOf_has X.env scope.names [] x a2
       show (cellsFrom (C + 1) scope.names [] ++ cloOf X.env scope.names []).lookup x = some c
       have hn : (cellsFrom (C + 1) scope.names []).lookup x = none := by
         cases h : (cellsFrom (C + 1) scope.names []).lookup x with
         | none => rfl
         | some c2 =>
           have := ownB_mem.mpr (cellsFrom_in _ _ (mem_of_lookup h)).2
           rw [a4] at this; cases this
       rw [List.lookup_append, hn]
       show (cloOf X.env scope.names []).lookup x = some c
       rcases cloOf_lookup X.env scope.names [] x c' hc' with q | ⟨q, q2⟩
       · cases q
       · rw [hc', q2, ec]; rfl
 · rcases blk_cells I S C e with ⟨a1, a2⟩ | ⟨a1, a2⟩
   · exact ⟨none, hown x c (mem_of_lookup a2)⟩
   · obtain ⟨v, z⟩ := I.cell x c a2
     exact ⟨v, z.keeps hk⟩
 · rcases blk_cells I S C e with ⟨a1, a2⟩ | ⟨a1, a2⟩
   · exact I.hok.fresh (Nat.le_of_lt (Nat.lt_of_le_of_lt hC a1))
   · exact I.freeC x c a2
 · have hp' : p ∈ X.pn ++ pins := by
     have : p ∈ (X.pn ++ pins) ++ [] := hp
     simpa using this
   obtain ⟨e, n, ne, nf, d⟩ := I.pin p hp'
   refine ⟨hk _ _ e, n, nC _ _ e, fun hb => ?_, d⟩
   rcases List.mem_cons.mp (I.stkSub _ hb) with z | z
   · exact ne z
   · exact nf z
 · show (pick ix σ).length = N'.length
   unfold pick
   rw [List.length_map, S.lenI]
theorem blk_end {fp : List Addr} {C D : Addr} {h' : Heap} {H' : Hp} {σ' : St} {s' : Shared} {ys : List V} {its : List Value} {cap : Nat} (I : Inv X pins σ H s) (hf : ∀ b ∈ fp, FpOk X pins H b) (hC : s.heap.objs.size ≤ C) (hD : s.heap.objs.size ≤ D) (hDC : D ≠ C)
   (J : Inv (blk X N' scope C s H fp pins) [] σ' H' s') (hDn : H' D = none) (ho : s'.heap.get? D = some { cls := .type "list", data := .seq its.toArray cap }) (r : Vals ys its) (hz : ys.length ≤ sizeLine) (sb : Heap.SameBut C s'.heap h') :
   Inv X pins σ (upd H' D (.lst ys)) { s' with heap := h' } := by
 have sb' : ∀ b o, b ≠ C → s'.heap.get? b = some o → h'.get? b = some o := sb.extBut
 have nC : ∀ b o, s.heap.get? b = some o → b ≠ C := fun b o e => Nat.ne_of_lt (Nat.lt_of_lt_of_le (Heap.lt_size e) hC)
 have nD : ∀ b o, s.heap.get? b = some o → b ≠ D := fun b o e => Nat.ne_of_lt (Nat.lt_of_lt_of_le (Heap.lt_size e) hD)
 have hCn : H' C = none := J.free
 have u := J.base
 refine I.call' (ch := fp) (s' := { s' with heap := h' }) J.os ⟨fun b o e n hb hx => ?_, fun b o e n hb hx => ?_, fun b o e n hx => ?_, fun b o e hx => ?_, fun b xs e => ?_, fun b o v e => ?_, fun b ps e => ?_⟩ (fun b o e => ?_) J.bare (fun b hb => ?_)
 · exact sb' _ _ (nC b o e) (u.keep b o e n hb hx)
 · obtain ⟨sl, q⟩ := u.slot b o e n hb hx
   exact ⟨sl, sb' _ _ (nC b o e) q⟩
 · rw [upd_ne (nD b o e)]; exact u.free b o e n hx
 · obtain ⟨o', q⟩ := u.there b o e hx
   exact ⟨o', sb' _ _ (nC b o e) q⟩
 · have q := u.tups b xs e
   rw [upd_ne (ne_of_none q hDn)]; exact q
 · have q := u.frzs b o v e
   rw [upd_ne (ne_of_none q hDn)]; exact q
 · obtain ⟨m, q⟩ := u.tbls b ps e
   exact ⟨m, by rw [upd_ne (ne_of_none q hDn)]; exact q⟩
 · by_cases hb : b = D
   · subst hb
     rw [upd_same] at e; cases e
     exact ⟨hz, its, cap, r, sb' _ _ hDC ho⟩
   · rw [upd_ne hb] at e
     refine (J.hok b o e).stay (fun c v hc q => sb' c v ?_ q) (fun c q => by rw [upd_ne (ne_of_none q hDn)]; exact q) fun c xs q => by rw [upd_ne (ne_of_none q hDn)]; exact q
     rcases hc with rfl | hc
     · exact ne_of_none e hCn
     · exact ne_of_none hc hCn
 · obtain ⟨f0, f1, f2, f3, f4, f5⟩ := hf b hb
   exact ⟨f3, f1, f4, f5⟩
noncomputable def tComp (wi : TI) (ix : List (Option Nat)) (g : TG) (tt : TT) (te : TE) : TE := fun σ H Q => wi σ H fun J H1 => ∃ W : Nat → Nat → List V → Hp → Prop, (∃ m, W 0 m [] H1) ∧ ∀ i m ys H, W i m ys H →
 (J.stop i H ∧ ys.length ≤ sizeLine ∧ ∀ p, H p = none → Q (.ref p) (upd H p (.lst ys))) ∨
 (J.go i H ∧ ys.length < sizeLine ∧ ∀ x H', J.yld i H x H' → g x (pick ix σ) H' fun σ2 H2 => tt σ2 H2 fun ok H3 =>
   if ok = true then te σ2 H3 fun y H4 => ∃ m', m' < m ∧ W (i + 1) m' (ys ++ [y]) H4 else ∃ m', m' < m ∧ W (i + 1) m' ys H3)
noncomputable def PTs (X : Cx) (ifs : List Expr) (t : TT) : Prop :=
 ∀ (pins : List (Addr × Obj)) (s : Shared) (σ : St) (H : Hp) (Q : Bool → Hp → Prop), Inv X pins σ H s → t σ H Q →
   wpAny (model X.prog X.w) X.A (forIn ifs true fun c r => if r = true then do let ok ← isTrue c X.env (eval c X.env); pure (ForInStep.yield ok) else pure (ForInStep.yield r)) (TP X pins σ Q) X.xe s
noncomputable def tYes : TT := fun _ H Q => Q true H
theorem pts_nil : PTs X [] tYes := fun _ _ _ H _ I h => wpAny_tests_nil ⟨H, I, h⟩
theorem pts_one {c : Expr} {t : TT} (h : PT X c t) : PTs X [c] t := fun pins s σ H Q I hw => wpAny_tests_one (h pins s σ H Q I hw)
noncomputable def Agr (ix : List (Option Nat)) (σ σ2 : St) : Prop := σ2.length = σ.length ∧ ∀ (k j : Nat), ix[k]? = some (some j) → σ2[k]? = σ[k]?
noncomputable def Own (ix : List (Option Nat)) (g : TG) : Prop := ∀ (x : V) (σ0 σ : St) (H : Hp) (Q : St → Hp → Prop), Agr ix σ0 σ → g x σ H Q → g x σ H fun σ2 H2 => Q σ2 H2 ∧ Agr ix σ0 σ2
noncomputable def Owns (ix : List (Option Nat)) (g : TGs) : Prop := ∀ (x : List V) (σ0 σ : St) (H : Hp) (Q : St → Hp → Prop), Agr ix σ0 σ → g x σ H Q → g x σ H fun σ2 H2 => Q σ2 H2 ∧ Agr ix σ0 σ2
noncomputable def GMono (g : TG) : Prop := ∀ (x : V) (σ : St) (H : Hp) (Q Q' : St → Hp → Prop), (∀ σ H, Q σ H → Q' σ H) → g x σ H Q → g x σ H Q'
theorem own_name {ix : List (Option Nat)} {i : Nat} (h : ix[i]? = some none) : Own ix (gName i) := by
 intro x σ0 σ H Q a q
 refine ⟨q, by rw [List.length_set]; exact a.1, fun k j hk => ?_⟩
 rw [List.getElem?_set_ne]
 · exact a.2 k j hk
 · rintro rfl
   rw [h] at hk; cases hk
theorem gmono_name {i : Nat} : GMono (gName i) := fun x σ H Q Q' h q => h _ _ q
theorem owns_nil {ix : List (Option Nat)} : Owns ix gNil := by
 intro x σ0 σ H Q a q
 exact ⟨q.1, q.2, a⟩
theorem owns_cons {ix : List (Option Nat)} {t : TG} {u : TGs} (m : GMono t) (h1 : Own ix t) (h2 : Owns ix u) : Owns ix (gCons t u) := by
 intro x σ0 σ H Q a q
 obtain ⟨v, r, e, q⟩ := q
 exact ⟨v, r, e, m _ _ _ _ _ (fun σ1 H1 q1 => h2 _ σ0 _ _ _ q1.2 q1.1) (h1 _ σ0 _ _ _ a q)⟩
theorem own_tup {ix : List (Option Nat)} {K : PySem.W.Frag} {n : Nat} {t : TGs} (h : Owns ix t) : Own ix (gTup K n t) := by
 intro x σ0 σ H Q a q
 obtain ⟨p, xs, e1, e2, e3, q⟩ := q
 exact ⟨p, xs, e1, e2, e3, h _ σ0 _ _ _ a q⟩
theorem comp_core {elt iter tg : Expr} {ifs : List Expr} {pos posc : Pos} {wi : TI} {g : TG} {tt : TT} {te : TE} (use : Option (Value → Sem Unit)) (QQ : Value → Shared → Prop) (hc : X.calm = true) (hi : PI X tg iter wi) (S : BlkScope X N' ix scope) (ow : Own ix g)
   (hg : ∀ C s H fp pins, PG (blk X N' scope C s H fp pins) tg g) (ht : ∀ C s H fp pins, PTs (blk X N' scope C s H fp pins) ifs tt) (he : ∀ C s H fp pins, PE (blk X N' scope C s H fp pins) elt te)
   (hs : ∀ x, foldedSetIterable iter X.env x = pure x) (pins : List (Addr × Obj)) (s : Shared) (σ : St) (H : Hp) (Q : VK) (I : Inv X pins σ H s) (h : tComp wi ix g tt te σ H Q)
   (hpost : ∀ (C D : Addr) (H5 : Hp) (s4 : Shared) (m : Str → Option Value), s4.heap.Ns C m → FpOk X pins H5 C → (∀ h', Heap.SameBut C s4.heap h' → Inv X pins σ H5 { s4 with heap := h' }) → Q (.ref D) H5 →
     compPost (model X.prog X.w) X.A X.xe use QQ (.ref D) C (.ok .next) s4) :
   wpAny (model X.prog X.w) X.A (comprehension (.ListComp elt [⟨tg, iter, ifs, 0⟩] scope pos) scope X.env posc (newList []) false (eval iter X.env) use) QQ X.xe s := by
 refine wpAny_comprehension_free (use := use) rfl hs (closureFor_eq scope X.env fun y hy hk => I.ok.has y.1 (S.frees y hy hk)) S.kind S.locs (thn (hi pins s σ H _ I h) fun v s1 h1 => thn h1 fun itv s2 h2 => ?_)
 obtain ⟨it, fp, tn, J, H2, e, I2, T, st2, f2, W, ⟨m0, w0⟩, turn⟩ := h2
 subst e
 have hfo : ∀ b ∈ fp, ∃ o, s2.heap.get? b = some o := fun b hb => let ⟨o, e, _⟩ := T.obj _ _ st2 b hb; ⟨o, e⟩
 refine wpAny_newObj_type (wpAny_newBlockEnv (fun h₁ eh₁ => ?_))
 dsimp only at eh₁ ⊢
 generalize hH2 : s2.heap.push { cls := .type "list", dict := none, data := .seq ([] : List Value).toArray } = Hp2 at eh₁ ⊢
 have hC : Hp2.objs.size = s2.heap.objs.size + 1 := by rw [← hH2, Heap.size_push]
 have old1 : ∀ b o, Hp2.get? b = some o → h₁.get? b = some o := fun b o e => by rw [eh₁]; exact pushCells_keeps _ _ _ _ (Heap.get?_push_of_some _ e)
 have hns : h₁.Ns Hp2.objs.size (fun _ => none) := by rw [eh₁]; exact (Heap.Ns.new Hp2 (.type "dict")).keeps (pushCells_keeps _ _)
 have hown : ∀ x c, (x, c) ∈ cellsFrom (Hp2.objs.size + 1) scope.names [] → h₁.IsCell c none := fun x c hm => by
   have ok := cellsFrom_ok scope.names (Hp2.push { cls := .type "dict", data := .dict #[] }) (Hp2.objs.size + 1) [] ⟨fun _ _ hm => (nomatch hm), List.Pairwise.nil⟩ (by rw [Heap.size_push]; exact Nat.le_refl _)
   rw [Heap.size_push] at ok
   rw [eh₁]
   exact (ok.empty x c hm).1
 generalize hCC : Hp2.objs.size = C at hns hown hC ⊢
 generalize hDD : s2.heap.objs.size = D at hC
 have hCge : s2.heap.objs.size ≤ C := by rw [hDD, hC]; exact Nat.le_succ _
 have hDge : s2.heap.objs.size ≤ D := Nat.le_of_eq hDD
 have hDC : D ≠ C := by rw [hC]; exact Nat.ne_of_lt (Nat.lt_succ_self _)
 have hDlt : D < C := by rw [hC]; exact Nat.lt_succ_self _
 have old : ∀ b o, s2.heap.get? b = some o → h₁.get? b = some o := fun b o e => old1 b o (hH2 ▸ Heap.get?_push_of_some _ e)
 have hacc : h₁.get? D = some { cls := .type "list", data := .seq ([] : List Value).toArray 0 } := old1 _ _ (hH2 ▸ hDD ▸ Heap.get?_push_size _ rfl)
 have stat : ∀ {H' : Hp}, (∀ b ∈ fp, H' b = none) → ∀ b ∈ fp, FpOk (blk X N' scope C s2 H2 fp pins) [] H' b := fun hn b hb => by
   obtain ⟨f0, f1, f2, f3, f4, f5⟩ := f2 b hb
   obtain ⟨o, ho⟩ := hfo b hb
   refine ⟨hn b hb, Nat.ne_of_lt (Nat.lt_of_lt_of_le (Heap.lt_size ho) hCge), fun z => ?_, .inl hb, fun x c e => ?_, fun p hp => ?_⟩
   · rcases List.mem_cons.mp (I2.stkSub _ z) with e | e
     · exact f1 e
     · exact f2 e
   · rcases blk_cells I2 S C e with ⟨a1, a2⟩ | ⟨a1, a2⟩
     · exact Nat.ne_of_gt (Nat.lt_trans (Nat.lt_of_lt_of_le (Heap.lt_size ho) hCge) a1)
     · exact f4 x c a2
   · have : p ∈ (X.pn ++ pins) ++ [] := hp
     exact f5 p (by simpa using this)
 have hDs : D ∉ (blk X N' scope C s2 H2 fp pins).fs := fun hb => by
   rcases List.mem_cons.mp (I2.stkSub _ hb) with e | e
   · rw [e] at hDge
     exact absurd (Nat.lt_of_lt_of_le I2.lt hDge) (Nat.lt_irrefl _)
   · exact I2.nofs hDge e
 have loop : ∀ s₃ : Shared, s₃ = { s2 with heap := h₁ } →
     codeAny (model X.prog X.w) X.A (.compLoop (.ListComp elt [⟨tg, iter, ifs, 0⟩] scope pos) 0 (.ref it) (.ref D) (compEnvC scope (cellsFrom (C + 1) scope.names [] ++ cloOf X.env scope.names []) C X.env))
       (compPost (model X.prog X.w) X.A X.xe use QQ (.ref D) C) s₃ := by
   rintro s₃ rfl
   refine codeAny_compLoop_gen (fun n s' => ∃ i ys its cap H', Inv (blk X N' scope C s2 H2 fp pins) [] (pick ix σ) H' s' ∧ tn i s'.heap ∧ (∀ b ∈ fp, H' b = none) ∧ H' D = none ∧
       s'.heap.get? D = some { cls := .type "list", data := .seq (its : List Value).toArray cap } ∧ Vals ys its ∧ W i n ys H') ?_ m0
     ⟨0, [], [], 0, H2, blk_start I2 f2 S hCge hfo hns old hown, T.keep _ _ _ st2 fun b _ o e => old b o e, fun b hb => (f2 b hb).1, I2.hok.fresh hDge, hacc, .nil, w0⟩
   rintro n s3 ⟨i, ys, its, cap, H3, I3, st3, fr3, hD3, ho3, r3, w3⟩
   have I3d : Inv (blk X N' scope C s2 H2 fp pins) [(D, { cls := .type "list", data := .seq its.toArray cap })] (pick ix σ) H3 s3 := I3.pins_of fun p hp => by
     have e : p = (D, { cls := .type "list", data := .seq its.toArray cap }) := by simpa using hp
     subst e
     exact ⟨ho3, hD3, hDC, hDs, fun v z => nomatch z⟩
   have statD : ∀ {H' : Hp}, (∀ b ∈ fp, H' b = none) → ∀ b ∈ fp, FpOk (blk X N' scope C s2 H2 fp pins) [(D, ({ cls := .type "list", data := .seq its.toArray cap } : Obj))] H' b := fun hn b hb => by
     obtain ⟨f0, f1, f2, f3, f4, f5⟩ := stat hn b hb
     obtain ⟨o, ho⟩ := hfo b hb
     refine ⟨f0, f1, f2, f3, f4, fun p hp => ?_⟩
     rcases List.mem_append.mp hp with z | z
     · exact f5 p (List.mem_append_left _ z)
     · have e : p = (D, ({ cls := .type "list", data := .seq its.toArray cap } : Obj)) := by simpa using z
       subst e
       exact Nat.ne_of_gt (Nat.lt_of_lt_of_le (Heap.lt_size ho) hDge)
   rcases turn i n ys H3 w3 with ⟨stop, hz, qn⟩ | ⟨go, hz, step⟩
   · refine wpAny_noRaise (thn (T.done (blk X N' scope C s2 H2 fp pins) rfl rfl rfl hc i _ s3 (pick ix σ) H3 (fun _ _ => False) I3d (statD fr3) st3 stop) fun r s4 ⟨hr, I4⟩ => ?_)
     subst hr
     obtain ⟨e4, n4, _⟩ := I4.pin (D, _) (List.mem_append_right _ (List.mem_singleton.mpr rfl))
     obtain ⟨m, hn, _⟩ := id I4.loc
     have hC4 : H3 C = none := I4.free
     exact hpost C D _ _ m hn (I2.fpOk hCge (by rw [upd_ne (Ne.symm hDC)]; exact hC4)) (fun h' sb => blk_end I2 f2 hCge hDge hDC (Inv.unpinned (pl := [(D, _)]) (pins := []) I4) n4 e4 r3 hz sb) (qn D n4)
   · refine wpAny_noRaise (thn (T.item (blk X N' scope C s2 H2 fp pins) rfl rfl rfl hc i _ s3 (pick ix σ) H3 (fun _ _ => False) I3d (statD fr3) st3 go) fun r s4 ⟨u, hr, h4⟩ => ?_)
     subst hr
     refine wpAny_noRaise (thn h4 fun _ s5 ⟨x, H5, I5, r5, y5, st5, fr5⟩ => ?_)
     have I5' := I5.pinned (statD fr5) (T.obj _ _ st5)
     have again : ∀ {σ7 : St} {H7 : Hp} {s7 : Shared}, Inv (blk X N' scope C s2 H2 fp pins) ([(D, ({ cls := .type "list", data := .seq its.toArray cap } : Obj))] ++ pinsAt fp s5.heap) σ7 H7 s7 →
         H7 D = none ∧ s7.heap.get? D = some { cls := .type "list", data := .seq its.toArray cap } ∧ tn (i + 1) s7.heap ∧ ∀ b ∈ fp, H7 b = none := fun {σ7 H7 s7} I7 => by
       obtain ⟨e7, n7, _⟩ := I7.pin (D, _) (List.mem_append_right _ (List.mem_append_left _ (List.mem_singleton.mpr rfl)))
       refine ⟨n7, e7, T.keep _ _ _ st5 fun b hb o e => (I7.pin (b, o) (List.mem_append_right _ (List.mem_append_right _ (mem_pinsAt hb e)))).1, fun b hb => ?_⟩
       obtain ⟨o, e, d⟩ := T.obj _ _ st5 b hb
       exact (I7.pin (b, o) (List.mem_append_right _ (List.mem_append_right _ (mem_pinsAt hb e)))).2.1
     have forget : ∀ {σ7 : St} {H7 : Hp} {s7 : Shared}, Inv (blk X N' scope C s2 H2 fp pins) ([(D, ({ cls := .type "list", data := .seq its.toArray cap } : Obj))] ++ pinsAt fp s5.heap) σ7 H7 s7 →
         (∀ (k : Nat) v, (pick ix σ)[k]? = some (some v) → σ7[k]? = some (some v)) → σ7.length = (pick ix σ).length → Inv (blk X N' scope C s2 H2 fp pins) [] (pick ix σ) H7 s7 := fun {σ7 H7 s7} I7 hk hl =>
       (I7.pins_of (pins' := []) fun _ z => nomatch z).weak hl.symm hk
     refine wpAny_noRaise (thn (hg C s2 H2 fp pins _ s5 (pick ix σ) H5 x u _ I5' r5 (ow _ _ _ _ _ ⟨rfl, fun _ _ _ => rfl⟩ (step x H5 y5))) fun _ s6 ⟨σ6, H6, I6, q6, l6, k6⟩ => ?_)
     have back : ∀ (k : Nat) v, (pick ix σ)[k]? = some (some v) → σ6[k]? = some (some v) := fun k v e => by
       obtain ⟨j, e1, _⟩ := pick_get e
       rw [k6 k j e1]; exact e
     refine wpAny_noRaise (thn (ht C s2 H2 fp pins _ s6 σ6 H6 _ I6 q6) fun ok s7 ⟨H7, I7, q7⟩ => ?_)
     cases ok with
     | false =>
       rw [if_neg Bool.false_ne_true]
       rw [if_neg Bool.false_ne_true] at q7
       obtain ⟨m', hm, w7⟩ := q7
       obtain ⟨a1, a2, a3, a4⟩ := again I7
       exact ⟨m', hm, i + 1, ys, its, cap, H7, forget I7 back l6, a3, a4, a1, a2, r3, w7⟩
     | true =>
       rw [if_pos rfl]
       rw [if_pos rfl] at q7
       refine wpAny_noRaise (thn (he C s2 H2 fp pins _ s7 σ6 H7 _ I7 q7) fun z s8 ⟨y, H8, I8, r8, m', hm, w8⟩ => ?_)
       obtain ⟨a1, a2, a3, a4⟩ := again I8
       have hl := r3.length
       refine wpAny_noRaise (wpAny_list_append_plain ⟨_, a2⟩ (fun h9 ⟨cap9, p9⟩ sb9 => ?_) (by rw [List.size_toArray, ← hl]; exact Nat.le_of_lt hz))
       have I9 : Inv (blk X N' scope C s2 H2 fp pins) [] (pick ix σ) H8 { s8 with heap := h9 } :=
         (forget I8 back l6).turned (t' := s8.toks) (it := D) (fun b o hb e => sb9.extBut b o hb e) a1 hDC (.inr hDge) (fun x c e => by
           rcases blk_cells I2 S C e with ⟨a1, a2⟩ | ⟨a1, a2⟩
           · exact Nat.ne_of_gt (Nat.lt_trans hDlt a1)
           · obtain ⟨v, z⟩ := I2.cell x c a2
             exact Nat.ne_of_lt (Nat.lt_of_lt_of_le z.lt hDge)) (fun p hp => by
           have hp' : p ∈ (X.pn ++ pins) ++ [] := hp
           exact Nat.ne_of_lt (Nat.lt_of_lt_of_le (Heap.lt_size (I2.pin p (by simpa using hp')).1) hDge))
       refine ⟨m', hm, i + 1, ys ++ [y], its ++ [z], cap9, H8, I9, ?_, a4, a1, ?_, r3.append (.cons r8 .nil), w8⟩
       · refine T.keep _ _ _ a3 fun b hb o e => sb9.extBut b o ?_ e
         obtain ⟨o', ho'⟩ := hfo b hb
         exact Nat.ne_of_lt (Nat.lt_of_lt_of_le (Heap.lt_size ho') hDge)
       · rw [p9]; simp
 exact codeAny_compStart_list (loop _ rfl) (T.self _ _ _ _ _ (T.keep _ _ _ st2 fun b _ o e => old b o e) (loop _ rfl))
theorem pe_comp {elt iter tg : Expr} {ifs : List Expr} {pos : Pos} {wi : TI} {g : TG} {tt : TT} {te : TE} (hc : X.calm = true) (hi : PI X tg iter wi) (S : BlkScope X N' ix scope) (ow : Own ix g)
   (hg : ∀ C s H fp pins, PG (blk X N' scope C s H fp pins) tg g) (ht : ∀ C s H fp pins, PTs (blk X N' scope C s H fp pins) ifs tt) (he : ∀ C s H fp pins, PE (blk X N' scope C s H fp pins) elt te)
   (hs : ∀ x, foldedSetIterable iter X.env x = pure x := by intro _; rfl) :
   PE X (.ListComp elt [⟨tg, iter, ifs, 0⟩] scope pos) (tComp wi ix g tt te) := by
 intro pins s σ H Q I h
 rw [eval_ListComp]
 exact comp_core none (EP X pins σ Q) hc hi S ow hg ht he hs pins s σ H Q I h fun C D H5 s4 m hn _ inv q => ⟨m, hn, fun h' sb => ⟨.ref D, H5, inv h' sb, rfl, q⟩⟩
theorem ps_setC {i : Nat} {x : Str} {elt iter tg : Expr} {ifs : List Expr} {pos pos' spos : Pos} {wi : TI} {g : TG} {tt : TT} {te : TE} (hN : X.N.Nodup) (hi' : X.N[i]? = some x) (hx : Loc X.env.scope x) (hc : X.calm = true) (hi : PI X tg iter wi) (S : BlkScope X N' ix scope) (ow : Own ix g)
   (hg : ∀ C s H fp pins, PG (blk X N' scope C s H fp pins) tg g) (ht : ∀ C s H fp pins, PTs (blk X N' scope C s H fp pins) ifs tt) (he : ∀ C s H fp pins, PE (blk X N' scope C s H fp pins) elt te)
   (hsw : swapsWith (.ListComp elt [⟨tg, iter, ifs, 0⟩] scope pos) (some (.Name x pos')) spos.line X.env = pure true)
   (hs : ∀ x, foldedSetIterable iter X.env x = pure x := by intro _; rfl) (hf : X.fn x = true ∨ X.env.scope.names.lookup x = some .local := by first | exact .inl rfl | exact .inr rfl | assumption) :
   PS X (.Assign [.Name x pos'] (.ListComp elt [⟨tg, iter, ifs, 0⟩] scope pos) spos) (tAsg (tComp wi ix g tt te) (gName i)) := by
 intro pins s σ H D I h
 rw [exec_Assign_Name_used _ _ _ _ hsw]
 refine wpAny_bind (wpAny_standAt (wpAny_bind ?_))
 show wpAny _ X.A (do let _ ← comprehension (.ListComp elt [⟨tg, iter, ifs, 0⟩] scope pos) scope X.env _ (newList []) false (eval iter X.env) (some (assign (.Name x pos') X.env))) _ _ s
 refine wpAny_bind (thn (comp_core (some (assign (.Name x pos') X.env)) (fun _ s' => SP X pins D .next s') hc hi S ow hg ht he hs pins s σ H _ I h ?_) fun _ s' hq => wpAny_pure (wpAny_pure hq))
 intro C D2 H5 s4 m hn fp inv q
 have I5 : Inv X pins σ H5 s4 := inv s4.heap (Heap.SameBut.refl _ _)
 refine wpAny_assign_Name (store_ok2 I5 hN hi' hx (v := .ref D2) rfl (fun s5 I6 ⟨a, sb, ha⟩ => ?_) hf)
 obtain ⟨f0, f1, f2, f3, f4, f5⟩ := fp
 have hac : a ≠ C := by
   rcases ha with rfl | ha
   · exact Ne.symm f1
   · exact f4 x a ha
 refine ⟨m, hn.sameBut sb (Ne.symm hac), fun h' sb' => ⟨_, H5, I6.turned (t' := s5.toks) (it := C) (fun b o hb e => sb'.extBut b o hb e) f0 f1 f3 f4 f5, q⟩⟩
end L2
namespace L2
open PySem PySem.Spec PyProof.Rows
noncomputable def relabelS (scope outer : Scope) : Scope :=
 { scope with names := scope.names.map fun (n, k) => if (k == .free && outer.kind == .function && outer.names.lookup n == some .cell) then (n, .cell) else (n, k) }
theorem relabel_look {scope : Scope} {env : Env} {x : Str} {k : NameKind} (h : (relabel scope env).names.lookup x = some k) (hk : k = .cell ∨ k = .free) : (x, NameKind.free) ∈ scope.names ∨ (x, NameKind.cell) ∈ scope.names := by
 have hm : (x, k) ∈ (relabel scope env).names := PySem.mem_of_lookup h
 unfold relabel at hm
 obtain ⟨⟨n, k0⟩, h1, h2⟩ := List.mem_map.mp hm
 dsimp only at h2
 split at h2
 · rename_i hc
   have e1 : n = x := (Prod.mk.inj h2).1
   subst e1
   have : k0 = NameKind.free := by
     simp only [Bool.and_eq_true, beq_iff_eq] at hc
     exact hc.1.1
   rw [this] at h1; exact .inl h1
 · have e1 := Prod.mk.inj h2
   obtain ⟨rfl, rfl⟩ := e1
   rcases hk with rfl | rfl
   · exact .inr h1
   · exact .inl h1
noncomputable def blkB (outer : Scope) (N N' : List Str) (ix : List (Option Nat)) (scope : Scope) : Bool :=
 decide (scope.kind = .function) && decide (outer.kind = .function) && scope.names.all (fun y => decide (y.2 = .local → scope.names.lookup y.1 = some .local)) &&
 scope.names.all (fun y => decide (y.2 = .free → (outer.names.lookup y.1 = some .cell ∨ outer.names.lookup y.1 = some .free))) && decide (ix.length = N'.length) &&
 (List.range ix.length).all fun i => match ix[i]?, N'[i]? with
   | some (some j), some x => decide (N[j]? = some x) && decide ((x, NameKind.free) ∈ scope.names) && !ownB scope.names x &&
     decide ((relabelS scope outer).names.lookup x = outer.names.lookup x)
   | _, _ => true
theorem blk_scope {X : Cx} {outer scope : Scope} {N N' : List Str} {ix : List (Option Nat)} (h : blkB outer N N' ix scope = true) (ho : X.env.scope = outer) (hN : X.N = N) : BlkScope X N' ix scope := by
 unfold blkB at h
 simp only [Bool.and_eq_true, decide_eq_true_eq, List.all_eq_true] at h
 obtain ⟨⟨⟨⟨⟨h1, h2⟩, h4⟩, h5⟩, h6⟩, h7⟩ := h
 subst ho hN
 refine ⟨h1, h4, h5, fun x k hl hk => relabel_look hl hk, h6, fun i j x e1 e2 => ?_⟩
 have hi : i < ix.length := (List.getElem?_eq_some_iff.mp e1).1
 have q := h7 i (List.mem_range.mpr hi)
 rw [e1, e2] at q
 simp only [Bool.and_eq_true, decide_eq_true_eq, Bool.not_eq_true'] at q
 exact ⟨q.1.1.1, q.1.1.2, q.1.2, q.2⟩
theorem blk_scope2 {X : Cx} {outer scope0 scope : Scope} {N N' N0 : List Str} {ix : List (Option Nat)} {C : Addr} {s : Shared} {H : Hp} {fp : List Addr} {pins : List (Addr × Obj)} (h : blkB (relabelS scope0 outer) N N' ix scope = true) (ho : X.env.scope = outer) (hN : N0 = N) : BlkScope (blk X N0 scope0 C s H fp pins) N' ix scope :=
 blk_scope (outer := relabelS scope0 outer) h (by rw [← ho]; rfl) hN
theorem PE.imp {X : Cx} {e : Expr} {t t' : TE} (h : PE X e t) (f : ∀ σ H Q, t' σ H Q → t σ H Q) : PE X e t' := fun pins s σ H Q I q => h pins s σ H Q I (f σ H Q q)
theorem PT.imp {X : Cx} {e : Expr} {t t' : TT} (h : PT X e t) (f : ∀ σ H Q, t' σ H Q → t σ H Q) : PT X e t' := fun pins s σ H Q I q => h pins s σ H Q I (f σ H Q q)
theorem PA.imp {X : Cx} {e : List Expr} {t t' : TA} (h : PA X e t) (f : ∀ σ H Q, t' σ H Q → t σ H Q) : PA X e t' := fun pos pins s σ H Q I q => h pos pins s σ H Q I (f σ H Q q)
theorem PS.imp {X : Cx} {e : Stmt} {t t' : TS} (h : PS X e t) (f : ∀ D σ H, t' D σ H → t D σ H) : PS X e t' := fun pins s σ H D I q => h pins s σ H D I (f D σ H q)
theorem PSs.imp {X : Cx} {e : List Stmt} {t t' : TS} (h : PSs X e t) (f : ∀ D σ H, t' D σ H → t D σ H) : PSs X e t' := fun pins s σ H D I q => h pins s σ H D I (f D σ H q)
end L2
namespace L2
open PySem PySem.Spec PyProof.Rows
inductive T where
 | non | bl (b : Bool) | int (i : Int) | str (x : Str) | tup (ts : List T) | adr (a : Addr)
 /-- a list that never changes (the script; a module's own) -/
 | rd (ts : List T)
 /-- a dict with int keys that never changes behind its display -/
 | dic (ks : List Int) (ts : List T)
noncomputable def FzL (K : PySem.W.Frag) (H : Hp) (a : Addr) (xs : List V) : Prop :=
 (∃ o, H a = some (.frz o (.lst xs))) ∨
   ∃ (o : Obj) (its : Array Value) (n : Nat), K.lookup a = some o ∧ o.cls = .type "list" ∧ o.dict = none ∧ o.data = .seq its n ∧ its.size ≤ sizeLine ∧ Vals xs its.toList
theorem FzL.sq {K : PySem.W.Frag} {H : Hp} {a : Addr} {xs : List V} (h : FzL K H a xs) : SqL K H a xs := by
 rcases h with ⟨o, h⟩ | h
 · exact .inl (.inr ⟨o, h⟩)
 · exact .inr h
mutual
noncomputable def Rep (K : PySem.W.Frag) (H : Hp) : V → T → Prop
 | v, .non => v = .non
 | v, .bl b => v = .bl b
 | v, .int i => v = .int i
 | v, .str x => v = .str x
 | v, .adr a => v = .ref a
 | v, .tup ts => ∃ a xs, v = .ref a ∧ SqT K H a xs ∧ Reps K H xs ts
 | v, .rd ts => ∃ a xs, v = .ref a ∧ FzL K H a xs ∧ Reps K H xs ts
 | v, .dic _ _ => False
noncomputable def Reps (K : PySem.W.Frag) (H : Hp) : List V → List T → Prop
 | vs, [] => vs = []
 | vs, t :: ts => ∃ v r, vs = v :: r ∧ Rep K H v t ∧ Reps K H r ts
end
structure Kp (K : PySem.W.Frag) (H H' : Hp) : Prop where
 tup : ∀ a xs, SqT K H a xs → SqT K H' a xs
 frz : ∀ a o u, H a = some (.frz o u) → H' a = some (.frz o u)
theorem Kp.refl {K : PySem.W.Frag} {H : Hp} : Kp K H H := ⟨fun _ _ h => h, fun _ _ _ h => h⟩
theorem Kp.trans {K : PySem.W.Frag} {H H1 H2 : Hp} (a : Kp K H H1) (b : Kp K H1 H2) : Kp K H H2 := ⟨fun _ _ h => b.tup _ _ (a.tup _ _ h), fun _ _ _ h => b.frz _ _ _ (a.frz _ _ _ h)⟩
structure KpW (K : PySem.W.Frag) (H H' : Hp) : Prop where
 tup : ∀ a xs, SqT K H a xs → SqT K H' a xs
 frz : ∀ a o u, H a = some (.frz o u) → H' a = some (.frz o u)
theorem Kp.w {K : PySem.W.Frag} {H H' : Hp} (k : Kp K H H') : KpW K H H' := ⟨k.tup, k.frz⟩
theorem KpW.fz {K : PySem.W.Frag} {H H' : Hp} {a : Addr} {xs : List V} (k : KpW K H H') (h : FzL K H a xs) : FzL K H' a xs := by
 rcases h with ⟨o, h⟩ | h
 · exact .inl ⟨o, k.frz _ _ _ h⟩
 · exact .inr h
mutual
theorem Rep.kw {K : PySem.W.Frag} {H H' : Hp} (k : KpW K H H') : ∀ (v : V) (t : T), Rep K H v t → Rep K H' v t
 | v, .non, h => h
 | v, .bl b, h => h
 | v, .int i, h => h
 | v, .str x, h => h
 | v, .adr a, h => h
 | v, .tup ts, h => by
   unfold Rep at h ⊢
   obtain ⟨a, xs, e, h1, h2⟩ := h
   exact ⟨a, xs, e, k.tup _ _ h1, Reps.kw k xs ts h2⟩
 | v, .rd ts, h => by
   unfold Rep at h ⊢
   obtain ⟨a, xs, e, h1, h2⟩ := h
   exact ⟨a, xs, e, k.fz h1, Reps.kw k xs ts h2⟩
 | v, .dic ks ts, h => by
   unfold Rep at h; exact h.elim
theorem Reps.kw {K : PySem.W.Frag} {H H' : Hp} (k : KpW K H H') : ∀ (vs : List V) (ts : List T), Reps K H vs ts → Reps K H' vs ts
 | vs, [], h => h
 | vs, t :: ts, h => by
   unfold Reps at h ⊢
   obtain ⟨v, r, e, h1, h2⟩ := h
   exact ⟨v, r, e, Rep.kw k v t h1, Reps.kw k r ts h2⟩
end
theorem Rep.kp {K : PySem.W.Frag} {H H' : Hp} (k : Kp K H H') (v : V) (t : T) (h : Rep K H v t) : Rep K H' v t := Rep.kw k.w v t h
theorem Reps.kp {K : PySem.W.Frag} {H H' : Hp} (k : Kp K H H') (vs : List V) (ts : List T) (h : Reps K H vs ts) : Reps K H' vs ts := Reps.kw k.w vs ts h
section
variable {K : PySem.W.Frag} {H : Hp}
theorem Reps.cons {v : V} {t : T} {vs : List V} {ts : List T} (h : Rep K H v t) (r : Reps K H vs ts) : Reps K H (v :: vs) (t :: ts) := by
 unfold Reps; exact ⟨v, vs, rfl, h, r⟩
theorem Reps.nil : Reps K H [] [] := by unfold Reps; rfl
theorem Reps.length : ∀ {vs : List V} {ts : List T}, Reps K H vs ts → vs.length = ts.length
 | vs, [], h => by unfold Reps at h; subst h; rfl
 | vs, t :: ts, h => by
   unfold Reps at h
   obtain ⟨v, r, rfl, _, h2⟩ := h
   rw [List.length_cons, List.length_cons, Reps.length h2]
theorem Reps.get : ∀ {vs : List V} {ts : List T} {i : Nat} {t : T}, Reps K H vs ts → ts[i]? = some t → ∃ v, vs[i]? = some v ∧ Rep K H v t
 | _, [], _, _, _, e => by simp at e
 | vs, t :: ts, 0, u, h, e => by
   unfold Reps at h
   obtain ⟨v, r, rfl, h1, _⟩ := h
   simp at e; subst e
   exact ⟨v, rfl, h1⟩
 | vs, t :: ts, i + 1, u, h, e => by
   unfold Reps at h
   obtain ⟨v, r, rfl, _, h2⟩ := h
   obtain ⟨w, q1, q2⟩ := Reps.get (i := i) h2 (by simpa using e)
   exact ⟨w, by simpa using q1, q2⟩
theorem Reps.append : ∀ {vs : List V} {ts : List T} {ws : List V} {us : List T}, Reps K H vs ts → Reps K H ws us → Reps K H (vs ++ ws) (ts ++ us)
 | vs, [], _, _, h, g => by unfold Reps at h; subst h; exact g
 | vs, t :: ts, _, _, h, g => by
   unfold Reps at h
   obtain ⟨v, r, rfl, h1, h2⟩ := h
   exact .cons h1 (Reps.append h2 g)
theorem Reps.take : ∀ {vs : List V} {ts : List T} (n : Nat), Reps K H vs ts → Reps K H (vs.take n) (ts.take n)
 | _, _, 0, _ => .nil
 | vs, [], n + 1, h => by unfold Reps at h; subst h; exact .nil
 | vs, t :: ts, n + 1, h => by
   unfold Reps at h
   obtain ⟨v, r, rfl, h1, h2⟩ := h
   exact .cons h1 (Reps.take n h2)
theorem Reps.drop : ∀ {vs : List V} {ts : List T} (n : Nat), Reps K H vs ts → Reps K H (vs.drop n) (ts.drop n)
 | _, _, 0, h => h
 | vs, [], n + 1, h => by unfold Reps at h; subst h; exact .nil
 | vs, t :: ts, n + 1, h => by
   unfold Reps at h
   obtain ⟨v, r, rfl, h1, h2⟩ := h
   exact Reps.drop n h2
theorem Reps.set {v : V} {t : T} (g : Rep K H v t) : ∀ {vs : List V} {ts : List T} (n : Nat), Reps K H vs ts → Reps K H (vs.set n v) (ts.set n t)
 | vs, [], n, h => by unfold Reps at h; subst h; exact .nil
 | vs, u :: ts, 0, h => by
   unfold Reps at h
   obtain ⟨v, r, rfl, h1, h2⟩ := h
   exact .cons g h2
 | vs, u :: ts, n + 1, h => by
   unfold Reps at h
   obtain ⟨v, r, rfl, h1, h2⟩ := h
   exact .cons h1 (Reps.set g n h2)
theorem Reps.ints : ∀ {vs : List V} {ns : List Int}, Reps K H vs (ns.map T.int) → vs = ns.map V.int
 | vs, [], h => by unfold Reps at h; exact h
 | vs, n :: ns, h => by
   have h' : Reps K H vs (T.int n :: ns.map T.int) := h
   unfold Reps at h'
   obtain ⟨v, r, rfl, h1, h2⟩ := h'
   unfold Rep at h1
   subst h1
   rw [List.map_cons, Reps.ints h2]
theorem Reps.of_ints : ∀ (ns : List Int), Reps K H (ns.map V.int) (ns.map T.int)
 | [] => .nil
 | n :: ns => .cons (by unfold Rep; rfl) (Reps.of_ints ns)
end
inductive MO where
 /-- a list that may be written -/
 | lst (ts : List T)
 /-- a dict that may be written: keys whole numbers or texts -/
 | dk (kvs : List (Key × T))
 /-- the same, keys tuples of such -/
 | dt (kvs : List (List Key × T))
 /-- the same, walked: it may not be written any more -/
 | fz (kvs : List (List Key × T))
 /-- a dict with keys whole numbers or texts that may not be written any more (a walk may go over it) -/
 | fk (kvs : List (Key × T))
noncomputable abbrev MH := Addr → Option MO
noncomputable def updM (M : MH) (a : Addr) (o : MO) : MH := fun b => if b = a then some o else M b
theorem updM_same {M : MH} {a : Addr} {o : MO} : updM M a o a = some o := if_pos rfl
theorem updM_ne {M : MH} {a b : Addr} {o : MO} (h : b ≠ a) : updM M a o b = M b := if_neg h
noncomputable def Sub (M M' : MH) : Prop := ∀ a o, M a = some o → M' a = some o
theorem Sub.refl {M : MH} : Sub M M := fun _ _ h => h
theorem Sub.trans {M M1 M2 : MH} (a : Sub M M1) (b : Sub M1 M2) : Sub M M2 := fun _ _ h => b _ _ (a _ _ h)
theorem Sub.new {M : MH} {p : Addr} {o : MO} (h : M p = none) : Sub M (updM M p o) := fun b u q => by
 rw [updM_ne]
 · exact q
 · rintro rfl
   rw [h] at q; cases q
noncomputable def KRep {κ : Type} (K : PySem.W.Frag) (H : Hp) : List (κ × V) → List (κ × T) → Prop
 | [], [] => True
 | p :: r, q :: u => p.1 = q.1 ∧ Rep K H p.2 q.2 ∧ KRep K H r u
 | _, _ => False
theorem KRep.kp {κ : Type} {K : PySem.W.Frag} {H H' : Hp} (k : Kp K H H') : ∀ {xs : List (κ × V)} {kvs : List (κ × T)}, KRep K H xs kvs → KRep K H' xs kvs
 | [], [], _ => trivial
 | p :: r, q :: u, h => ⟨h.1, Rep.kp k _ _ h.2.1, KRep.kp k h.2.2⟩
 | [], q :: u, h => h.elim
 | p :: r, [], h => h.elim
theorem KRep.length {κ : Type} {K : PySem.W.Frag} {H : Hp} : ∀ {xs : List (κ × V)} {kvs : List (κ × T)}, KRep K H xs kvs → xs.length = kvs.length
 | [], [], _ => rfl
 | p :: r, q :: u, h => by rw [List.length_cons, List.length_cons, KRep.length h.2.2]
 | [], q :: u, h => h.elim
 | p :: r, [], h => h.elim
noncomputable def MOk (K : PySem.W.Frag) (H : Hp) (a : Addr) : MO → Prop
 | .lst ts => ∃ xs, H a = some (.lst xs) ∧ Reps K H xs ts
 | .dk kvs => ∃ xs, H a = some (.dK xs) ∧ KRep K H xs kvs
 | .dt kvs => ∃ xs, H a = some (.dT xs) ∧ KRep K H xs kvs
 | .fz kvs => ∃ o xs, H a = some (.frz o (.dT xs)) ∧ KRep K H xs kvs
 | .fk kvs => ∃ xs, Rd H a (.dK xs) ∧ KRep K H xs kvs
noncomputable def HR (K : PySem.W.Frag) (H : Hp) (M : MH) : Prop := ∀ a o, M a = some o → MOk K H a o
theorem HR.sub {K : PySem.W.Frag} {H : Hp} {M M' : MH} (h : HR K H M') (s : Sub M M') : HR K H M := fun a o e => h a o (s a o e)
noncomputable abbrev En := List (Option T)
noncomputable def RhoR (K : PySem.W.Frag) (σ : St) (H : Hp) (ρ : En) : Prop := σ.length = ρ.length ∧ ∀ (i : Nat) (t : T), ρ[i]? = some (some t) → ∃ v, σ[i]? = some (some v) ∧ Rep K H v t
theorem RhoR.kp {K : PySem.W.Frag} {σ : St} {H H' : Hp} {ρ : En} (h : RhoR K σ H ρ) (k : Kp K H H') : RhoR K σ H' ρ := ⟨h.1, fun i t e => let ⟨v, a, b⟩ := h.2 i t e; ⟨v, a, Rep.kp k _ _ b⟩⟩
theorem RhoR.set {K : PySem.W.Frag} {σ : St} {H : Hp} {ρ : En} {v : V} {t : T} (h : RhoR K σ H ρ) (i : Nat) (r : Rep K H v t) : RhoR K (σ.set i (some v)) H (ρ.set i (some t)) := by
 refine ⟨by rw [List.length_set, List.length_set, h.1], fun j u e => ?_⟩
 by_cases hj : i = j
 · subst hj
   have hi : i < ρ.length := by
     have := (List.getElem?_eq_some_iff.mp e).1
     rwa [List.length_set] at this
   rw [List.getElem?_set_self hi] at e
   cases e
   exact ⟨v, List.getElem?_set_self (show i < List.length σ by rw [h.1]; exact hi), r⟩
 · rw [List.getElem?_set_ne hj] at e
   rw [List.getElem?_set_ne hj]
   exact h.2 j u e
noncomputable abbrev VK3 := T → MH → Prop
noncomputable abbrev TE3 := En → MH → VK3 → Prop
noncomputable abbrev TT3 := En → MH → (Bool → MH → Prop) → Prop
noncomputable abbrev TA3 := En → MH → (List T → MH → Prop) → Prop
structure Ends3 where
 nx : En → MH → Prop
 rt : VK3
 bk : En → MH → Prop := fun _ _ => False
 ct : En → MH → Prop := fun _ _ => False
noncomputable abbrev TS3 := Ends3 → En → MH → Prop
noncomputable def EndE (K : PySem.W.Frag) (H : Hp) (Q : VK3) (Q2 : VK) : Prop := ∀ t v M' H', Kp K H H' → HR K H' M' → Rep K H' v t → Q t M' → Q2 v H'
theorem EndE.kp {K : PySem.W.Frag} {H H' : Hp} {Q : VK3} {Q2 : VK} (h : EndE K H Q Q2) (k : Kp K H H') : EndE K H' Q Q2 := fun t v M' H1 k1 => h t v M' H1 (k.trans k1)
noncomputable def bE (K : PySem.W.Frag) (ρ : En) (M : MH) (Q : VK3) : TE := fun σ H Q2 => RhoR K σ H ρ ∧ HR K H M ∧ EndE K H Q Q2
noncomputable def HE (X : Cx) (e : Expr) (t : TE3) : Prop := ∀ ρ M Q, t ρ M Q → PE X e (bE X.K ρ M Q)
noncomputable def EndT (K : PySem.W.Frag) (H : Hp) (Q : Bool → MH → Prop) (Q2 : Bool → Hp → Prop) : Prop := ∀ b M' H', Kp K H H' → HR K H' M' → Q b M' → Q2 b H'
noncomputable def bT (K : PySem.W.Frag) (ρ : En) (M : MH) (Q : Bool → MH → Prop) : TT := fun σ H Q2 => RhoR K σ H ρ ∧ HR K H M ∧ EndT K H Q Q2
noncomputable def HT (X : Cx) (e : Expr) (t : TT3) : Prop := ∀ ρ M Q, t ρ M Q → PT X e (bT X.K ρ M Q)
noncomputable def EndA (K : PySem.W.Frag) (H : Hp) (Q : List T → MH → Prop) (Q2 : List V → Hp → Prop) : Prop := ∀ ts vs M' H', Kp K H H' → HR K H' M' → Reps K H' vs ts → Q ts M' → Q2 vs H'
noncomputable def bA (K : PySem.W.Frag) (ρ : En) (M : MH) (Q : List T → MH → Prop) : TA := fun σ H Q2 => RhoR K σ H ρ ∧ HR K H M ∧ EndA K H Q Q2
noncomputable def HA (X : Cx) (es : List Expr) (t : TA3) : Prop := ∀ ρ M Q, t ρ M Q → PA X es (bA X.K ρ M Q)
structure EndS (K : PySem.W.Frag) (H : Hp) (D : Ends3) (D2 : Ends) : Prop where
 nx : ∀ ρ' M' σ' H', Kp K H H' → RhoR K σ' H' ρ' → HR K H' M' → D.nx ρ' M' → D2.nx σ' H'
 rt : EndE K H D.rt D2.rt
 bk : ∀ ρ' M' σ' H', Kp K H H' → RhoR K σ' H' ρ' → HR K H' M' → D.bk ρ' M' → D2.bk σ' H'
 ct : ∀ ρ' M' σ' H', Kp K H H' → RhoR K σ' H' ρ' → HR K H' M' → D.ct ρ' M' → D2.ct σ' H'
theorem EndS.kp {K : PySem.W.Frag} {H H' : Hp} {D : Ends3} {D2 : Ends} (h : EndS K H D D2) (k : Kp K H H') : EndS K H' D D2 :=
 ⟨fun a b c d k1 => h.nx a b c d (k.trans k1), h.rt.kp k, fun a b c d k1 => h.bk a b c d (k.trans k1), fun a b c d k1 => h.ct a b c d (k.trans k1)⟩
noncomputable def bS (K : PySem.W.Frag) (D : Ends3) (ρ : En) (M : MH) : TS := fun D2 σ H => RhoR K σ H ρ ∧ HR K H M ∧ EndS K H D D2
noncomputable def HS (X : Cx) (st : Stmt) (t : TS3) : Prop := ∀ D ρ M, t D ρ M → PS X st (bS X.K D ρ M)
noncomputable def HSs (X : Cx) (st : List Stmt) (t : TS3) : Prop := ∀ D ρ M, t D ρ M → PSs X st (bS X.K D ρ M)
noncomputable def dE (K : PySem.W.Frag) (ρ : En) (t : TE3) : TE := fun σ H Q2 => ∃ M Q, t ρ M Q ∧ bE K ρ M Q σ H Q2
noncomputable def dT (K : PySem.W.Frag) (ρ : En) (t : TT3) : TT := fun σ H Q2 => ∃ M Q, t ρ M Q ∧ bT K ρ M Q σ H Q2
noncomputable def dA (K : PySem.W.Frag) (ρ : En) (t : TA3) : TA := fun σ H Q2 => ∃ M Q, t ρ M Q ∧ bA K ρ M Q σ H Q2
noncomputable def dS (K : PySem.W.Frag) (t : TS3) : TS := fun D2 σ H => ∃ D ρ M, t D ρ M ∧ bS K D ρ M D2 σ H
section
variable {X : Cx} {e : Expr} {es : List Expr} {st : Stmt} {sts : List Stmt} {ρ : En}
theorem HE.d {t : TE3} (h : HE X e t) : PE X e (dE X.K ρ t) := fun pins s σ H Q I ⟨M, Q3, q, b⟩ => h ρ M Q3 q pins s σ H Q I b
theorem HT.d {t : TT3} (h : HT X e t) : PT X e (dT X.K ρ t) := fun pins s σ H Q I ⟨M, Q3, q, b⟩ => h ρ M Q3 q pins s σ H Q I b
theorem HA.d {t : TA3} (h : HA X es t) : PA X es (dA X.K ρ t) := fun pos pins s σ H Q I ⟨M, Q3, q, b⟩ => h ρ M Q3 q pos pins s σ H Q I b
theorem HS.d {t : TS3} (h : HS X st t) : PS X st (dS X.K t) := fun pins s σ H D I ⟨D3, ρ, M, q, b⟩ => h D3 ρ M q pins s σ H D I b
theorem HSs.d {t : TS3} (h : HSs X sts t) : PSs X sts (dS X.K t) := fun pins s σ H D I ⟨D3, ρ, M, q, b⟩ => h D3 ρ M q pins s σ H D I b
end
end L2
namespace L2
open PySem PySem.Spec PyProof.Rows
mutual
noncomputable def eqT : T → T → Bool
 | .non, .non => true
 | .bl a, .bl b => a == b
 | .bl a, .int b => (if a then 1 else 0) == b
 | .int a, .bl b => a == (if b then 1 else 0)
 | .int a, .int b => a == b
 | .str a, .str b => a == b
 | .tup a, .tup b => eqTs a b
 | _, _ => false
noncomputable def eqTs : List T → List T → Bool
 | [], [] => true
 | x :: xs, y :: ys => eqT x y && eqTs xs ys
 | _, _ => false
end
mutual
noncomputable def pureT : T → Bool
 | .adr _ => false
 | .rd _ => false
 | .dic _ _ => false
 | .tup ts => pureTs ts
 | _ => true
noncomputable def pureTs : List T → Bool
 | [] => true
 | t :: ts => pureT t && pureTs ts
end
mutual
noncomputable def depT : T → Nat
 | .tup ts => depTs ts + 1
 | _ => 0
noncomputable def depTs : List T → Nat
 | [] => 0
 | t :: ts => max (depT t) (depTs ts)
end
theorem pureTs_get : ∀ {ts : List T} {j : Nat} {t : T}, pureTs ts = true → ts[j]? = some t → pureT t = true
 | [], _, _, _, e => by simp at e
 | x :: ts, 0, t, h, e => by simp at e; subst e; unfold pureTs at h; exact (Bool.and_eq_true _ _ ▸ h).1
 | x :: ts, j + 1, t, h, e => by
   unfold pureTs at h
   exact pureTs_get (j := j) (Bool.and_eq_true _ _ ▸ h).2 (by simpa using e)
theorem depTs_get : ∀ {ts : List T} {j : Nat} {t : T}, ts[j]? = some t → depT t ≤ depTs ts
 | [], _, _, e => by simp at e
 | x :: ts, 0, t, e => by simp at e; subst e; unfold depTs; exact Nat.le_max_left _ _
 | x :: ts, j + 1, t, e => by
   have := depTs_get (ts := ts) (j := j) (t := t) (by simpa using e)
   unfold depTs; exact Nat.le_trans this (Nat.le_max_right _ _)
noncomputable def eqJ (xs ys : List T) (j : Nat) : Bool := match xs[j]?, ys[j]? with
 | some x, some y => eqT x y
 | _, _ => true
theorem eqTs_range : ∀ (xs ys : List T), (((List.range (min xs.length ys.length)).all (eqJ xs ys)) && (xs.length == ys.length)) = eqTs xs ys
 | [], [] => by unfold eqTs; rfl
 | [], y :: ys => by unfold eqTs; simp
 | x :: xs, [] => by unfold eqTs; simp
 | x :: xs, y :: ys => by
   unfold eqTs
   rw [← eqTs_range xs ys]
   rw [List.length_cons, List.length_cons, Nat.succ_min_succ, List.range_succ_eq_map, List.all_cons, List.all_map]
   have e1 : eqJ (x :: xs) (y :: ys) 0 = eqT x y := rfl
   have e2 : (eqJ (x :: xs) (y :: ys)) ∘ Nat.succ = eqJ xs ys := by
     funext j; simp [eqJ]
   rw [e1, e2, Bool.and_assoc]
   congr 2
   simp
theorem eqTs_len : ∀ {xs ys : List T}, eqTs xs ys = true → xs.length = ys.length
 | [], [], _ => rfl
 | [], y :: ys, h => by unfold eqTs at h; cases h
 | x :: xs, [], h => by unfold eqTs at h; cases h
 | x :: xs, y :: ys, h => by
   unfold eqTs at h
   rw [Bool.and_eq_true] at h
   rw [List.length_cons, List.length_cons, eqTs_len h.2]
mutual
theorem eqT_refl : ∀ (x : T), pureT x = true → eqT x x = true
 | .non, _ => rfl
 | .bl b, _ => by simp [eqT]
 | .int i, _ => by simp [eqT]
 | .str x, _ => by simp [eqT]
 | .adr a, h => by unfold pureT at h; cases h
 | .rd a, h => by unfold pureT at h; cases h
 | .dic ks a, h => by unfold pureT at h; cases h
 | .tup ts, h => by unfold pureT at h; unfold eqT; exact eqTs_refl ts h
theorem eqTs_refl : ∀ (xs : List T), pureTs xs = true → eqTs xs xs = true
 | [], _ => by unfold eqTs; rfl
 | x :: xs, h => by
   unfold pureTs at h
   rw [Bool.and_eq_true] at h
   unfold eqTs
   rw [eqT_refl x h.1, eqTs_refl xs h.2]
   rfl
end
section
variable {X : Cx} {pins : List (Addr × Obj)} {σ : St} {H : Hp} {s : Shared}
theorem rep_det (I : Inv X pins σ H s) : ∀ (x y : T) (v : V), pureT x = true → pureT y = true → Rep X.K H v x → Rep X.K H v y → eqT x y = true := by
 have key : ∀ n (x y : T) (v : V), depT x ≤ n → pureT x = true → pureT y = true → Rep X.K H v x → Rep X.K H v y → eqT x y = true := by
   intro n
   induction n with
   | zero =>
     intro x y v hd px py rx ry
     cases x with
     | tup ts => unfold depT at hd; lia
     | adr a => unfold pureT at px; cases px
     | rd a => unfold pureT at px; cases px
     | dic ks a => unfold pureT at px; cases px
     | _ => unfold Rep at rx; subst rx; cases y <;> unfold Rep at ry <;> first | (obtain ⟨_, _, e, _⟩ := ry; cases e; done) | (unfold pureT at py; cases py; done) | (cases ry <;> simp [eqT])
   | succ n ih =>
     intro x y v hd px py rx ry
     cases x with
     | adr a => unfold pureT at px; cases px
     | rd a => unfold pureT at px; cases px
     | dic ks a => unfold pureT at px; cases px
     | tup ts =>
       unfold Rep at rx
       obtain ⟨a, xs, rfl, h1, h2⟩ := rx
       cases y with
       | adr a => unfold pureT at py; cases py
       | rd a => unfold pureT at py; cases py
       | dic ks a => unfold pureT at py; cases py
       | tup us =>
         unfold Rep at ry
         obtain ⟨a', ys, e, g1, g2⟩ := ry
         cases e
         obtain rfl := I.tuple_inj h1 g1
         unfold pureT at px py
         unfold depT at hd
         unfold eqT
         have hl := h2.length
         have hl2 := g2.length
         rw [← eqTs_range]
         rw [← hl, ← hl2]
         simp only [Nat.min_self, beq_self_eq_true, Bool.and_true, List.all_eq_true, List.mem_range]
         intro j hj
         have e1 : ts[j]? = some ts[j] := List.getElem?_eq_getElem (by lia)
         have e2 : us[j]? = some us[j] := List.getElem?_eq_getElem (by lia)
         obtain ⟨v1, q1, r1⟩ := h2.get e1
         obtain ⟨v2, q2, r2⟩ := g2.get e2
         rw [q1] at q2; cases q2
         unfold eqJ
         rw [e1, e2]
         have := depTs_get e1
         exact ih _ _ _ (by lia) (pureTs_get px e1) (pureTs_get py e2) r1 r2
       | _ => unfold Rep at ry; cases ry
     | _ => unfold Rep at rx; subst rx; cases y <;> unfold Rep at ry <;> first | (obtain ⟨_, _, e, _⟩ := ry; cases e; done) | (unfold pureT at py; cases py; done) | (cases ry <;> simp [eqT])
 exact fun x y v => key (depT x) x y v (Nat.le_refl _)
open SeqAt in
theorem eqAt_scal {A : Around} (x y : T) (v u : V) (a b : Value) (px : pureT x = true) (py : pureT y = true) (rx : Rep X.K H v x) (ry : Rep X.K H u y) (ra : RelV v a) (rb : RelV u b) (nx : ∀ ts, x ≠ .tup ts) (ny : ∀ ts, y ≠ .tup ts) :
   SeqAt.EqAt A s a b (eqT x y) ∧ SeqAt.RcAt A s a b (eqT x y) ∧ SeqAt.RcNeAt A s a b (!(eqT x y)) := by
 cases x with
 | tup ts => exact absurd rfl (nx ts)
 | adr p => unfold pureT at px; cases px
 | rd p => unfold pureT at px; cases px
 | dic ks p => unfold pureT at px; cases px
 | non =>
   unfold Rep at rx; subst rx
   cases ra
   cases y with
   | tup ts => exact absurd rfl (ny ts)
   | adr p => unfold pureT at py; cases py
   | rd p => unfold pureT at py; cases py
   | dic ks p => unfold pureT at py; cases py
   | non =>
     unfold Rep at ry; subst ry
     cases rb
     have e : eqT .non .non = true := rfl
     rw [e]
     exact ⟨EqAt.same _, RcAt.none_none, RcNeAt.none_none⟩
   | bl c0 =>
     unfold Rep at ry; subst ry
     cases rb
     have e : eqT .non (.bl c0) = false := rfl
     rw [e]
     exact ⟨EqAt.none_bool _, RcAt.none_bool _, RcNeAt.none_bool _⟩
   | int c0 =>
     unfold Rep at ry; subst ry
     obtain ⟨t_rb, rfl⟩ := rb
     have e : eqT .non (.int c0) = false := rfl
     rw [e]
     exact ⟨EqAt.none_int _ _, RcAt.none_int _ _, RcNeAt.none_int _ _⟩
   | str c0 =>
     unfold Rep at ry; subst ry
     obtain ⟨t_rb, rfl⟩ := rb
     have e : eqT .non (.str c0) = false := rfl
     rw [e]
     exact ⟨EqAt.none_str _ _, RcAt.none_str _ _, RcNeAt.none_str _ _⟩
 | bl b0 =>
   unfold Rep at rx; subst rx
   cases ra
   cases y with
   | tup ts => exact absurd rfl (ny ts)
   | adr p => unfold pureT at py; cases py
   | rd p => unfold pureT at py; cases py
   | dic ks p => unfold pureT at py; cases py
   | non =>
     unfold Rep at ry; subst ry
     cases rb
     have e : eqT (.bl b0) .non = false := rfl
     rw [e]
     exact ⟨EqAt.bool_none _, RcAt.bool_none _, RcNeAt.bool_none _⟩
   | bl c0 =>
     unfold Rep at ry; subst ry
     cases rb
     have e : eqT (.bl b0) (.bl c0) = (b0 == c0) := rfl
     rw [e]
     exact ⟨EqAt.bool_bool _ _, RcAt.bool_bool _ _, RcNeAt.bool_bool _ _⟩
   | int c0 =>
     unfold Rep at ry; subst ry
     obtain ⟨t_rb, rfl⟩ := rb
     have e : eqT (.bl b0) (.int c0) = ((if b0 then 1 else 0) == c0) := rfl
     rw [e]
     exact ⟨EqAt.bool_int _ _ _, RcAt.bool_int _ _ _, RcNeAt.bool_int _ _ _⟩
   | str c0 =>
     unfold Rep at ry; subst ry
     obtain ⟨t_rb, rfl⟩ := rb
     have e : eqT (.bl b0) (.str c0) = false := rfl
     rw [e]
     exact ⟨EqAt.bool_str _ _ _, RcAt.bool_str _ _ _, RcNeAt.bool_str _ _ _⟩
 | int b0 =>
   unfold Rep at rx; subst rx
   obtain ⟨t_ra, rfl⟩ := ra
   cases y with
   | tup ts => exact absurd rfl (ny ts)
   | adr p => unfold pureT at py; cases py
   | rd p => unfold pureT at py; cases py
   | dic ks p => unfold pureT at py; cases py
   | non =>
     unfold Rep at ry; subst ry
     cases rb
     have e : eqT (.int b0) .non = false := rfl
     rw [e]
     exact ⟨EqAt.int_none _ _, RcAt.int_none _ _, RcNeAt.int_none _ _⟩
   | bl c0 =>
     unfold Rep at ry; subst ry
     cases rb
     have e : eqT (.int b0) (.bl c0) = (b0 == (if c0 then 1 else 0)) := rfl
     rw [e]
     exact ⟨EqAt.int_bool _ _ _, RcAt.int_bool _ _ _, RcNeAt.int_bool _ _ _⟩
   | int c0 =>
     unfold Rep at ry; subst ry
     obtain ⟨t_rb, rfl⟩ := rb
     have e : eqT (.int b0) (.int c0) = (b0 == c0) := rfl
     rw [e]
     exact ⟨EqAt.int_int _ _ _ _, RcAt.int_int _ _ _ _, RcNeAt.int_int _ _ _ _⟩
   | str c0 =>
     unfold Rep at ry; subst ry
     obtain ⟨t_rb, rfl⟩ := rb
     have e : eqT (.int b0) (.str c0) = false := rfl
     rw [e]
     exact ⟨EqAt.int_str _ _ _ _, RcAt.int_str _ _ _ _, RcNeAt.int_str _ _ _ _⟩
 | str b0 =>
   unfold Rep at rx; subst rx
   obtain ⟨t_ra, rfl⟩ := ra
   cases y with
   | tup ts => exact absurd rfl (ny ts)
   | adr p => unfold pureT at py; cases py
   | rd p => unfold pureT at py; cases py
   | dic ks p => unfold pureT at py; cases py
   | non =>
     unfold Rep at ry; subst ry
     cases rb
     have e : eqT (.str b0) .non = false := rfl
     rw [e]
     exact ⟨EqAt.str_none _ _, RcAt.str_none _ _, RcNeAt.str_none _ _⟩
   | bl c0 =>
     unfold Rep at ry; subst ry
     cases rb
     have e : eqT (.str b0) (.bl c0) = false := rfl
     rw [e]
     exact ⟨EqAt.str_bool _ _ _, RcAt.str_bool _ _ _, RcNeAt.str_bool _ _ _⟩
   | int c0 =>
     unfold Rep at ry; subst ry
     obtain ⟨t_rb, rfl⟩ := rb
     have e : eqT (.str b0) (.int c0) = false := rfl
     rw [e]
     exact ⟨EqAt.str_int _ _ _ _, RcAt.str_int _ _ _ _, RcNeAt.str_int _ _ _ _⟩
   | str c0 =>
     unfold Rep at ry; subst ry
     obtain ⟨t_rb, rfl⟩ := rb
     have e : eqT (.str b0) (.str c0) = (b0 == c0) := rfl
     rw [e]
     exact ⟨EqAt.str_str _ _ _ _, RcAt.str_str _ _ _ _, RcNeAt.str_str _ _ _ _⟩
theorem depT0 {x : T} (h : ∀ ts, x ≠ .tup ts) : depT x = 0 := by
 cases x with
 | tup ts => exact absurd rfl (h ts)
 | _ => rfl
open SeqAt in
/-- a tuple against what is none -/
theorem eqAt_tup_r {A : Around} {p : Addr} {its : Array Value} (ht : s.heap.IsTuple p its) (hu : A.units < cLine) (x : T) (us : List T) (v : V) (a : Value) (px : pureT x = true) (rx : Rep X.K H v x) (ra : RelV v a) (nx : ∀ ts, x ≠ .tup ts) :
   SeqAt.EqAt A s a (.ref p) (eqT x (.tup us)) ∧ SeqAt.RcAt A s a (.ref p) (eqT x (.tup us)) ∧ SeqAt.RcNeAt A s a (.ref p) (!(eqT x (.tup us))) := by
 cases x with
 | tup ts => exact absurd rfl (nx ts)
 | adr q => unfold pureT at px; cases px
 | rd q => unfold pureT at px; cases px
 | dic ks q => unfold pureT at px; cases px
 | non =>
   unfold Rep at rx; subst rx; cases ra
   have e : eqT .non (.tup us) = false := rfl
   rw [e]; exact ⟨.none_tuple ht hu, .none_tuple ht hu, .none_tuple ht hu⟩
 | bl b0 =>
   unfold Rep at rx; subst rx; cases ra
   have e : eqT (.bl b0) (.tup us) = false := rfl
   rw [e]; exact ⟨.bool_tuple _ ht hu, .bool_tuple _ ht hu, .bool_tuple _ ht hu⟩
 | int b0 =>
   unfold Rep at rx; subst rx; obtain ⟨t, rfl⟩ := ra
   have e : eqT (.int b0) (.tup us) = false := rfl
   rw [e]; exact ⟨.int_tuple _ _ ht hu, .int_tuple _ _ ht hu, .int_tuple _ _ ht hu⟩
 | str b0 =>
   unfold Rep at rx; subst rx; obtain ⟨t, rfl⟩ := ra
   have e : eqT (.str b0) (.tup us) = false := rfl
   rw [e]; exact ⟨.str_tuple _ _ ht hu, .str_tuple _ _ ht hu, .str_tuple _ _ ht hu⟩
open SeqAt in
theorem eqAt_tup_l {A : Around} {p : Addr} {its : Array Value} (ht : s.heap.IsTuple p its) (hu : A.units < cLine) (x : T) (us : List T) (v : V) (a : Value) (px : pureT x = true) (rx : Rep X.K H v x) (ra : RelV v a) (nx : ∀ ts, x ≠ .tup ts) :
   SeqAt.EqAt A s (.ref p) a (eqT (.tup us) x) ∧ SeqAt.RcAt A s (.ref p) a (eqT (.tup us) x) ∧ SeqAt.RcNeAt A s (.ref p) a (!(eqT (.tup us) x)) := by
 cases x with
 | tup ts => exact absurd rfl (nx ts)
 | adr q => unfold pureT at px; cases px
 | rd q => unfold pureT at px; cases px
 | dic ks q => unfold pureT at px; cases px
 | non =>
   unfold Rep at rx; subst rx; cases ra
   have e : eqT (.tup us) .non = false := rfl
   rw [e]; exact ⟨.tuple_none ht hu, .tuple_none ht hu, .tuple_none ht hu⟩
 | bl b0 =>
   unfold Rep at rx; subst rx; cases ra
   have e : eqT (.tup us) (.bl b0) = false := rfl
   rw [e]; exact ⟨.tuple_bool _ ht hu, .tuple_bool _ ht hu, .tuple_bool _ ht hu⟩
 | int b0 =>
   unfold Rep at rx; subst rx; obtain ⟨t, rfl⟩ := ra
   have e : eqT (.tup us) (.int b0) = false := rfl
   rw [e]; exact ⟨.tuple_int _ _ ht hu, .tuple_int _ _ ht hu, .tuple_int _ _ ht hu⟩
 | str b0 =>
   unfold Rep at rx; subst rx; obtain ⟨t, rfl⟩ := ra
   have e : eqT (.tup us) (.str b0) = false := rfl
   rw [e]; exact ⟨.tuple_str _ _ ht hu, .tuple_str _ _ ht hu, .tuple_str _ _ ht hu⟩
theorem tup_or (x : T) : (∃ ts, x = .tup ts) ∨ ∀ ts, x ≠ .tup ts := by
 cases x with
 | tup ts => exact .inl ⟨ts, rfl⟩
 | _ => exact .inr fun ts e => by cases e
theorem items_eq {A : Around} {n : Nat} {ts us : List T} {xs ys : List V} {its its2 : List Value} (px : pureTs ts = true) (py : pureTs us = true) (hd : depTs ts ≤ n) (h2 : Reps X.K H xs ts) (g2 : Reps X.K H ys us) (r1 : Vals xs its) (r2 : Vals ys its2)
   (ih : ∀ (x y : T) (v u : V) (a b : Value), depT x ≤ n → pureT x = true → pureT y = true → Rep X.K H v x → Rep X.K H u y → RelV v a → RelV u b → SeqAt.EqAt A s a b (eqT x y)) (j : Nat) (hj1 : j < its.toArray.size) (hj2 : j < its2.toArray.size) :
   SeqAt.EqAt A s its.toArray[j] its2.toArray[j] (eqJ ts us j) := by
 have l1 := h2.length
 have l2 := g2.length
 have m1 := r1.length
 have m2 := r2.length
 have hj1' : j < its.length := by simpa using hj1
 have hj2' : j < its2.length := by simpa using hj2
 have e1 : ts[j]? = some (ts[j]'(by lia)) := List.getElem?_eq_getElem (by lia)
 have e2 : us[j]? = some (us[j]'(by lia)) := List.getElem?_eq_getElem (by lia)
 obtain ⟨v1, a1, b1⟩ := h2.get e1
 obtain ⟨v2, a2, b2⟩ := g2.get e2
 obtain ⟨w1, c1, d1⟩ := r1.get a1
 obtain ⟨w2, c2, d2⟩ := r2.get a2
 have f1 : its.toArray[j] = w1 := by
   have : its[j]? = some (its[j]'hj1') := List.getElem?_eq_getElem hj1'
   rw [c1] at this
   simpa using (Option.some.inj this).symm
 have f2 : its2.toArray[j] = w2 := by
   have : its2[j]? = some (its2[j]'hj2') := List.getElem?_eq_getElem hj2'
   rw [c2] at this
   simpa using (Option.some.inj this).symm
 have e3 : eqJ ts us j = eqT (ts[j]'(by lia)) (us[j]'(by lia)) := by unfold eqJ; rw [e1, e2]
 rw [f1, f2, e3]
 have := depTs_get e1
 exact ih _ _ v1 v2 w1 w2 (by lia) (pureTs_get px e1) (pureTs_get py e2) b1 b2 d1 d2
open SeqAt in
/-- == (by identity first), ==, != of two values, by their trees -/
theorem eqAt_T (I : Inv X pins σ H s) : ∀ n (A : Around) (x y : T) (v u : V) (a b : Value), depT x ≤ n → A.units + n + 1 < cLine → pureT x = true → pureT y = true → Rep X.K H v x → Rep X.K H u y → RelV v a → RelV u b →
   SeqAt.EqAt A s a b (eqT x y) ∧ SeqAt.RcAt A s a b (eqT x y) ∧ SeqAt.RcNeAt A s a b (!(eqT x y)) := by
 intro n
 induction n with
 | zero =>
   intro A x y v u a b hd hu px py rx ry ra rb
   rcases tup_or x with ⟨ts, rfl⟩ | nx
   · unfold depT at hd; lia
   · rcases tup_or y with ⟨us, rfl⟩ | ny
     · unfold Rep at ry
       obtain ⟨p, ys, rfl, g1, g2⟩ := ry
       obtain ⟨its, r', ht, _⟩ := I.tuple g1
       have ht' : s.heap.IsTuple p its.toArray := ht
       cases rb
       exact eqAt_tup_r ht' (by lia) x us v a px rx ra nx
     · exact eqAt_scal x y v u a b px py rx ry ra rb nx ny
 | succ n ih =>
   intro A x y v u a b hd hu px py rx ry ra rb
   have hu' : A.units < cLine := by lia
   rcases tup_or x with ⟨ts, rfl⟩ | nx
   · have rx' := rx
     unfold Rep at rx
     obtain ⟨p, xs, rfl, h1, h2⟩ := rx
     cases ra
     obtain ⟨its, r1, ht, _⟩ := I.tuple h1
     have ht' : s.heap.IsTuple p its.toArray := ht
     rcases tup_or y with ⟨us, rfl⟩ | ny
     · have ry' := ry
       unfold Rep at ry
       obtain ⟨q, ys, rfl, g1, g2⟩ := ry
       cases rb
       obtain ⟨its2, r2, ht2, _⟩ := I.tuple g1
       have ht2' : s.heap.IsTuple q its2.toArray := ht2
       have px' := px
       have py' := py
       unfold pureT at px py
       unfold depT at hd
       have he := items_eq (A := A.in1) (s := s) (n := n) px py (by lia) h2 g2 r1 r2 fun x y v u a b hx px py rx ry ra rb => (ih A.in1 x y v u a b hx (by show A.units + 1 + n + 1 < cLine; lia) px py rx ry ra rb).1
       have ee : ((List.range (min its.toArray.size its2.toArray.size)).all (eqJ ts us) && its.toArray.size == its2.toArray.size) = eqT (.tup ts) (.tup us) := by
         have l1 := h2.length
         have l2 := g2.length
         have m1 := r1.length
         have m2 := r2.length
         unfold eqT
         rw [← eqTs_range, List.size_toArray, List.size_toArray, ← m1, ← m2, l1, l2]
       have rc := RcAt.tuples (A := A) (e := eqJ ts us) ht' ht2' hu' he
       have rn := RcNeAt.tuples (A := A) (e := eqJ ts us) ht' ht2' hu' he
       rw [ee] at rc rn
       refine ⟨?_, rc, rn⟩
       by_cases hpq : p = q
       · subst hpq
         have e : eqT (.tup ts) (.tup us) = true := rep_det I (.tup ts) (.tup us) (.ref p) px' py' rx' ry'
         rw [e]; exact .same _
       · exact .of_refs hpq rc
     · exact eqAt_tup_l ht' hu' y ts u b py ry rb ny
   · exact ih A x y v u a b (by rw [depT0 nx]; exact Nat.zero_le _) (by lia) px py rx ry ra rb
end
end L2
namespace L2
open PySem PySem.Spec PyProof.Rows
noncomputable abbrev R3 := T → T → MH → VK3 → Prop
noncomputable def dR (K : PySem.W.Frag) (r : R3) : R2 := fun v u H Q2 => ∃ x y M Q, Rep K H v x ∧ Rep K H u y ∧ HR K H M ∧ r x y M Q ∧ EndE K H Q Q2
noncomputable def dU (K : PySem.W.Frag) (r : T → MH → VK3 → Prop) : V → Hp → VK → Prop := fun v H Q2 => ∃ x M Q, Rep K H v x ∧ HR K H M ∧ r x M Q ∧ EndE K H Q Q2
noncomputable def dL (K : PySem.W.Frag) (r : List T → MH → VK3 → Prop) : List V → Hp → VK → Prop := fun vs H Q2 => ∃ xs M Q, Reps K H vs xs ∧ HR K H M ∧ r xs M Q ∧ EndE K H Q Q2
theorem Kp.new {K : PySem.W.Frag} {H : Hp} {p : Addr} {o : HO} (h : H p = none) : Kp K H (upd H p o) := by
 refine ⟨fun a xs q => ?_, fun a ob u q => by rw [upd_ne (ne_of_none q h)]; exact q⟩
 rcases q with (q | ⟨ob, q⟩) | q
 · exact .inl (.inl (by rw [upd_ne (ne_of_none q h)]; exact q))
 · exact .inl (.inr ⟨ob, by rw [upd_ne (ne_of_none q h)]; exact q⟩)
 · exact .inr q
theorem Kp.lst {K : PySem.W.Frag} {H : Hp} {p : Addr} {xs ys : List V} (h : H p = some (.lst xs)) : Kp K H (upd H p (.lst ys)) := by
 have ne : ∀ {a : Addr} {o : HO}, H a = some o → o ≠ .lst xs → a ≠ p := fun {a o} q hn e => by
   subst e
   rw [h] at q; cases q; exact hn rfl
 refine ⟨fun a zs q => ?_, fun a ob u q => by rw [upd_ne (ne q (by intro z; cases z))]; exact q⟩
 rcases q with (q | ⟨ob, q⟩) | q
 · exact .inl (.inl (by rw [upd_ne (ne q (by intro z; cases z))]; exact q))
 · exact .inl (.inr ⟨ob, by rw [upd_ne (ne q (by intro z; cases z))]; exact q⟩)
 · exact .inr q
theorem Kp.dict {K : PySem.W.Frag} {H : Hp} {p : Addr} {o u : HO} (h : H p = some o) (ho : (∃ kvs, o = .dK kvs) ∨ ∃ kvs, o = .dT kvs) : Kp K H (upd H p u) := by
 have ne : ∀ {a : Addr} {u : HO}, H a = some u → ((∃ xs, u = .tup xs) ∨ ∃ b x, u = .frz b x) → a ≠ p := fun {a u} q hn e => by
   subst e
   rw [h] at q; cases q
   rcases ho with ⟨_, rfl⟩ | ⟨_, rfl⟩ <;> rcases hn with ⟨_, z⟩ | ⟨_, _, z⟩ <;> cases z
 refine ⟨fun a zs q => ?_, fun a ob u q => by rw [upd_ne (ne q (.inr ⟨_, _, rfl⟩))]; exact q⟩
 rcases q with (q | ⟨ob, q⟩) | q
 · exact .inl (.inl (by rw [upd_ne (ne q (.inl ⟨_, rfl⟩))]; exact q))
 · exact .inl (.inr ⟨ob, by rw [upd_ne (ne q (.inr ⟨_, _, rfl⟩))]; exact q⟩)
 · exact .inr q
section
variable {K : PySem.W.Frag} {H : Hp} {M : MH}
noncomputable def Wr : HO → Prop
 | .lst _ => True
 | .dK _ => True
 | .dT _ => True
 | .frz _ _ => True
 | _ => False
theorem MOk.kp {H' : Hp} {a : Addr} {o : MO} (h : MOk K H a o) (k : Kp K H H') (ha : ∀ u, Wr u → H a = some u → H' a = some u) : MOk K H' a o := by
 cases o with
 | lst ts => obtain ⟨xs, e, r⟩ := h; exact ⟨xs, ha _ trivial e, Reps.kp k _ _ r⟩
 | dk kvs => obtain ⟨xs, e, r⟩ := h; exact ⟨xs, ha _ trivial e, r.kp k⟩
 | dt kvs => obtain ⟨xs, e, r⟩ := h; exact ⟨xs, ha _ trivial e, r.kp k⟩
 | fz kvs => obtain ⟨ob, xs, e, r⟩ := h; exact ⟨ob, xs, k.frz _ _ _ e, r.kp k⟩
 | fk kvs =>
   obtain ⟨xs, e, r⟩ := h
   rcases e with e | ⟨ob, e⟩
   · exact ⟨xs, .inl (ha _ trivial e), r.kp k⟩
   · exact ⟨xs, .inr ⟨ob, k.frz _ _ _ e⟩, r.kp k⟩
theorem MOk.some {a : Addr} {o : MO} (h : MOk K H a o) : ∃ u, H a = Option.some u ∧ Wr u := by
 cases o with
 | lst ts => obtain ⟨xs, e, r⟩ := h; exact ⟨_, e, trivial⟩
 | dk kvs => obtain ⟨xs, e, r⟩ := h; exact ⟨_, e, trivial⟩
 | dt kvs => obtain ⟨xs, e, r⟩ := h; exact ⟨_, e, trivial⟩
 | fz kvs => obtain ⟨ob, xs, e, r⟩ := h; exact ⟨_, e, trivial⟩
 | fk kvs =>
   obtain ⟨xs, e, r⟩ := h
   rcases e with e | ⟨ob, e⟩
   · exact ⟨_, e, trivial⟩
   · exact ⟨_, e, trivial⟩
theorem HR.free {p : Addr} (h : HR K H M) (hp : H p = none) : M p = none := by
 cases q : M p with
 | none => rfl
 | some o =>
   obtain ⟨u, e, _⟩ := (h p o q).some
   rw [hp] at e; cases e
theorem HR.keep {p : Addr} {o : HO} (h : HR K H M) (hp : H p = none) : HR K (upd H p o) M := fun a u e =>
 (h a u e).kp (Kp.new hp) fun u _ q => by rw [upd_ne (ne_of_none q hp)]; exact q
theorem HR.newL {p : Addr} {xs : List V} {ts : List T} (h : HR K H M) (hp : H p = none) (r : Reps K H xs ts) : HR K (upd H p (.lst xs)) (updM M p (.lst ts)) := fun a u e => by
 by_cases ha : a = p
 · subst ha
   rw [updM_same] at e; cases e
   exact ⟨xs, upd_same, Reps.kp (Kp.new hp) _ _ r⟩
 · rw [updM_ne ha] at e
   exact (h.keep hp) a u e
theorem HR.setL {p : Addr} {xs ys : List V} {us : List T} (h : HR K H M) (hp : H p = some (.lst xs)) (r : Reps K H ys us) : HR K (upd H p (.lst ys)) (updM M p (.lst us)) := fun a u e => by
 by_cases ha : a = p
 · subst ha
   rw [updM_same] at e; cases e
   exact ⟨ys, upd_same, Reps.kp (Kp.lst hp) _ _ r⟩
 · rw [updM_ne ha] at e
   exact (h a u e).kp (Kp.lst hp) fun u _ q => by rw [upd_ne ha]; exact q
theorem HR.newK {p : Addr} {xs : List (Key × V)} {kvs : List (Key × T)} (h : HR K H M) (hp : H p = none) (r : KRep K H xs kvs) : HR K (upd H p (.dK xs)) (updM M p (.dk kvs)) := fun a u e => by
 by_cases ha : a = p
 · subst ha
   rw [updM_same] at e; cases e
   exact ⟨xs, upd_same, r.kp (Kp.new hp)⟩
 · rw [updM_ne ha] at e
   exact (h.keep hp) a u e
theorem HR.setK {p : Addr} {o : HO} {xs : List (Key × V)} {kvs : List (Key × T)} (h : HR K H M) (hp : H p = some o) (ho : (∃ kvs, o = .dK kvs) ∨ ∃ kvs, o = .dT kvs) (r : KRep K H xs kvs) : HR K (upd H p (.dK xs)) (updM M p (.dk kvs)) := fun a u e => by
 by_cases ha : a = p
 · subst ha
   rw [updM_same] at e; cases e
   exact ⟨xs, upd_same, r.kp (Kp.dict hp ho)⟩
 · rw [updM_ne ha] at e
   exact (h a u e).kp (Kp.dict hp ho) fun u _ q => by rw [upd_ne ha]; exact q
end
noncomputable def OpR3 (X : Cx) (f : Value → Value → Sem Value) (r : R3) : Prop := OpR X f (dR X.K r)
noncomputable def UnR3 (X : Cx) (f : Value → Sem Value) (r : T → MH → VK3 → Prop) : Prop := UnR X f (dU X.K r)
noncomputable def CallR3 (X : Cx) (f : Value) (r : List T → MH → VK3 → Prop) : Prop := CallR X f (dL X.K r)
noncomputable def IxR3 (X : Cx) (r : R3) : Prop := IxR X (dR X.K r)
noncomputable def tOp3 (r : R3) (ta tb : TE3) : TE3 := fun ρ M Q => ta ρ M fun x M1 => tb ρ M1 fun y M2 => r x y M2 Q
noncomputable def tUn3 (r : T → MH → VK3 → Prop) (ta : TE3) : TE3 := fun ρ M Q => ta ρ M fun x M1 => r x M1 Q
noncomputable def tVar3 (i : Nat) : TE3 := fun ρ M Q => match ρ[i]? with
 | some (some t) => Q t M
 | _ => False
noncomputable def tK (t : T) : TE3 := fun _ M Q => Q t M
section
variable {X : Cx} {a b c e : Expr} {es : List Expr} {ta tb tc te : TE3} {pos : Pos}
theorem dOp {ρ : En} {M : MH} {Q : VK3} {r : R3} (h : tOp3 r ta tb ρ M Q) {σ : St} {H : Hp} {Q2 : VK} (b : bE X.K ρ M Q σ H Q2) : tOp (dR X.K r) (dE X.K ρ ta) (dE X.K ρ tb) σ H Q2 := by
 obtain ⟨hr, hh, en⟩ := b
 refine ⟨M, _, h, hr, hh, fun t v M1 H1 k1 h1 r1 q1 => ⟨M1, _, q1, hr.kp k1, h1, fun t2 v2 M2 H2 k2 h2 r2 q2 => ⟨t, t2, M2, Q, Rep.kp k2 _ _ r1, r2, h2, q2, en.kp (k1.trans k2)⟩⟩⟩
theorem h_bin {op : Operator} {r : R3} (ho : OpR3 X (binaryOp op) r) (ha : HE X a ta) (hb : HE X b tb) : HE X (.BinOp a op b pos) (tOp3 r ta tb) := fun ρ M Q h =>
 (pe_op ho (ha.d (ρ := ρ)) (hb.d (ρ := ρ))).imp fun σ H Q2 b => dOp h b
theorem h_un {op : UnaryOp} {r : T → MH → VK3 → Prop} (ho : UnR3 X (unaryOp op) r) (ha : HE X a ta) : HE X (.UnaryOp op a pos) (tUn3 r ta) := fun ρ M Q h =>
 (pe_un ho (ha.d (ρ := ρ))).imp fun σ H Q2 ⟨hr, hh, en⟩ => ⟨M, _, h, hr, hh, fun t v M1 H1 k1 h1 r1 q1 => ⟨t, M1, Q, r1, h1, q1, en.kp k1⟩⟩
theorem h_var {i : Nat} {x : Str} (hN : X.N[i]? = some x) (hv : Vis X.env.scope x) (hd : (x == ("__debug__" : Str)) = false := by decide) (hcd : (x == ("__classdict__" : Str)) = false := by decide) : HE X (.Name x pos) (tVar3 i) := fun ρ M Q h =>
 (pe_var hN hv hd hcd).imp fun σ H Q2 ⟨hr, hh, en⟩ => by
   unfold tVar3 at h
   split at h
   · rename_i t e
     obtain ⟨v, e1, r⟩ := hr.2 i t e
     exact ⟨v, e1, en t v M H Kp.refl hh r h⟩
   · exact h.elim
theorem hv (i : Nat) {x : Str} {pos : Pos} (hN : X.N[i]? = some x := by rfl) (hv : Vis X.env.scope x := by first | exact Or.inl rfl | exact Or.inr (Or.inl rfl) | exact Or.inr (Or.inr rfl)) (hd : (x == ("__debug__" : Str)) = false := by decide)
   (hcd : (x == ("__classdict__" : Str)) = false := by decide) : HE X (.Name x pos) (tVar3 i) := h_var hN hv hd hcd
theorem rep_int {K : PySem.W.Frag} {H : Hp} {i : Int} : Rep K H (.int i) (.int i) := by unfold Rep; rfl
theorem rep_bl {K : PySem.W.Frag} {H : Hp} {i : Bool} : Rep K H (.bl i) (.bl i) := by unfold Rep; rfl
theorem rep_str {K : PySem.W.Frag} {H : Hp} {i : Str} : Rep K H (.str i) (.str i) := by unfold Rep; rfl
theorem rep_non {K : PySem.W.Frag} {H : Hp} : Rep K H .non .non := by unfold Rep; rfl
theorem rep_adr {K : PySem.W.Frag} {H : Hp} {a : Addr} : Rep K H (.ref a) (.adr a) := by unfold Rep; rfl
theorem rep_tup {K : PySem.W.Frag} {H : Hp} {a : Addr} {xs : List V} {ts : List T} (h : SqT K H a xs) (r : Reps K H xs ts) : Rep K H (.ref a) (.tup ts) := by unfold Rep; exact ⟨a, xs, rfl, h, r⟩
theorem h_const {v : V} {t : T} (h : PE X e (tC v)) (r : ∀ K H, Rep K H v t) : HE X e (tK t) := fun ρ M Q q => h.imp fun σ H Q2 ⟨hr, hh, en⟩ => en t v M H Kp.refl hh (r _ _) q
theorem h_int {i j pos} : HE X (.Constant (.int i) j pos) (tK (.int i)) := h_const pe_int fun _ _ => rep_int
theorem h_bl {b j pos} : HE X (.Constant (.bool b) j pos) (tK (.bl b)) := h_const pe_bl fun _ _ => rep_bl
theorem h_globI {x : Str} {i : Int} {tk : Tok} {pos : Pos} (hm : X.mg x = some (.int i tk)) (hg : Gl X x := by rfl) (hd : (x == ("__debug__" : Str)) = false := by decide) : HE X (.Name x pos) (tK (.int i)) := h_const (v := .int i) (pe_glob hg hm ⟨tk, rfl⟩ hd) fun _ _ => rep_int
theorem inv_int {K : PySem.W.Frag} {H : Hp} {v : V} {i : Int} (r : Rep K H v (.int i)) : v = .int i := by unfold Rep at r; exact r
theorem inv_str {K : PySem.W.Frag} {H : Hp} {v : V} {i : Str} (r : Rep K H v (.str i)) : v = .str i := by unfold Rep at r; exact r
theorem inv_bl {K : PySem.W.Frag} {H : Hp} {v : V} {i : Bool} (r : Rep K H v (.bl i)) : v = .bl i := by unfold Rep at r; exact r
theorem inv_non {K : PySem.W.Frag} {H : Hp} {v : V} (r : Rep K H v .non) : v = .non := by unfold Rep at r; exact r
theorem inv_adr {K : PySem.W.Frag} {H : Hp} {v : V} {a : Addr} (r : Rep K H v (.adr a)) : v = .ref a := by unfold Rep at r; exact r
theorem inv_tup {K : PySem.W.Frag} {H : Hp} {v : V} {ts : List T} (r : Rep K H v (.tup ts)) : ∃ a xs, v = .ref a ∧ SqT K H a xs ∧ Reps K H xs ts := by unfold Rep at r; exact r
noncomputable def rInt (C : Int → Int → Prop) (g : Int → Int → Int) : R3 := fun x y M Q => match x, y with
 | .int i, .int j => C i j ∧ Q (.int (g i j)) M
 | _, _ => False
theorem op3_int {f : Value → Value → Sem Value} {C : Int → Int → Prop} {g : Int → Int → Int} (h : OpR X f (rI C fun i j => .int (g i j))) : OpR3 X f (rInt C g) := by
 intro pins s σ H x y v u Q2 I rx ry q
 obtain ⟨a, b, M, Q, r1, r2, hh, q, en⟩ := q
 unfold rInt at q
 split at q
 · obtain rfl := inv_int r1
   obtain rfl := inv_int r2
   exact h pins s σ H _ _ v u Q2 I rx ry ⟨_, _, rfl, rfl, q.1, en _ _ M H Kp.refl hh rep_int q.2⟩
 · exact q.elim
noncomputable def rSub3 : R3 := fun x y M Q => match x, y with
 | .int i, .int j => Q (.int (i - j)) M
 | _, _ => False
theorem op3_sub : OpR3 X (binaryOp .Sub) rSub3 := by
 intro pins s σ H x y v u Q2 I rx ry q
 obtain ⟨a, b, M, Q, r1, r2, hh, q, en⟩ := q
 unfold rSub3 at q
 split at q
 · obtain rfl := inv_int r1
   obtain rfl := inv_int r2
   exact op_sub pins s σ H _ _ v u Q2 I rx ry ⟨_, _, rfl, rfl, en _ _ M H Kp.refl hh rep_int q⟩
 · exact q.elim
noncomputable def CDivB (i j : Int) : Prop := 0 < j ∧ j.natAbs.log2 < 9000
theorem op_fdivB : OpR X (binaryOp .FloorDiv) (rI CDivB fun i j => .int (i / j)) := opI fun i j _ _ _ _ _ hc q => by
 have e : i.fdiv j = i / j := Int.fdiv_eq_ediv_of_nonneg i (Int.le_of_lt hc.1)
 exact floordiv_int (Int.ne_of_gt hc.1) (by rw [e]; exact q) (.inl (PyProof.noPylong_of_log2 hc.2))
noncomputable def rDiv3 : R3 := rInt CDivB fun i j => i / j
noncomputable def rMod3 : R3 := rInt (fun _ j => 0 < j) fun i j => i % j
noncomputable def rPow3 : R3 := rInt CPow fun i j => i ^ j.toNat
theorem op3_div : OpR3 X (binaryOp .FloorDiv) rDiv3 := op3_int op_fdivB
theorem op3_mod : OpR3 X (binaryOp .Mod) rMod3 := op3_int op_mod
theorem op3_pow : OpR3 X (binaryOp .Pow) rPow3 := op3_int op_pow
noncomputable def rNeg3 : T → MH → VK3 → Prop := fun x M Q => match x with
 | .int i => Q (.int (-i)) M
 | _ => False
theorem un3_neg : UnR3 X (unaryOp .USub) rNeg3 := by
 intro pins s σ H x v Q2 I rx q
 obtain ⟨a, M, Q, r1, hh, q, en⟩ := q
 unfold rNeg3 at q
 split at q
 · obtain rfl := inv_int r1
   exact un_neg pins s σ H _ v Q2 I rx ⟨_, rfl, en _ _ M H Kp.refl hh rep_int q⟩
 · exact q.elim
theorem op_catT0 : OpR X (binaryOp .Add) (fun x y H Q => ∃ a b ys, x = .ref a ∧ y = .ref b ∧ SqT X.K H a [] ∧ SqT X.K H b ys ∧ Q (.ref b) H) := by
 intro pins s σ H x y v u Q I rx ry h
 obtain ⟨a, b, ys, rfl, rfl, hx, hy, q⟩ := h
 cases rx
 cases ry
 obtain ⟨its, r, ht, hz⟩ := I.tuple hx
 obtain ⟨its2, r2, ht2, hz2⟩ := I.tuple hy
 have e : its = [] := r.nil_iff.mpr rfl
 subst e
 obtain ⟨⟨cls, dd, data, sl⟩, ho, hc, n, hd⟩ := id ht
 obtain ⟨⟨cls2, dd2, data2, sl2⟩, ho2, hc2, n2, hd2⟩ := id ht2
 simp only at hc hd hc2 hd2
 subst hc hd hc2 hd2
 exact concat_meets ⟨_, ho, rfl⟩ ⟨_, ho2, rfl⟩ noFill_tuple_add seq_tuple_add PySem.F.slot_tuple_add PySem.F.entry_tuple_add (PySem.F.args_tuple_add_2 _ _)
     (tuple_addW0 a b _ its2.toArray n n2 dd dd2 sl sl2 (by simp)) ⟨ho, ho2, ⟨.ref b, H, I, rfl, q⟩⟩
noncomputable def rAdd3 : R3 := fun x y M Q => match x, y with
 | .int i, .int j => Q (.int (i + j)) M
 | .str a, .str b => a.length + b.length ≤ sizeLine ∧ Q (.str (a ++ b)) M
 | .tup a, .tup b => a.length + b.length ≤ sizeLine ∧ Q (.tup (a ++ b)) M
 | .adr p, .adr q => match M p, M q with
   | some (.lst a), some (.lst b) => a.length + b.length ≤ sizeLine ∧ ∀ r, M r = none → Q (.adr r) (updM M r (.lst (a ++ b)))
   | _, _ => False
 | _, _ => False
theorem op3_add : OpR3 X (binaryOp .Add) rAdd3 := by
 intro pins s σ H x y v u Q2 I rx ry q
 obtain ⟨a, b, M, Q, r1, r2, hh, q, en⟩ := q
 unfold rAdd3 at q
 split at q
 · obtain rfl := inv_int r1
   obtain rfl := inv_int r2
   exact op_add pins s σ H _ _ v u Q2 I rx ry ⟨_, _, rfl, rfl, en _ _ M H Kp.refl hh rep_int q⟩
 · obtain rfl := inv_str r1
   obtain rfl := inv_str r2
   exact op_add_str pins s σ H _ _ v u Q2 I rx ry ⟨_, _, rfl, rfl, q.1, en _ _ M H Kp.refl hh rep_str q.2⟩
 · rename_i ts us
   obtain ⟨p, xs, rfl, h1, h2⟩ := inv_tup r1
   obtain ⟨p', ys, rfl, g1, g2⟩ := inv_tup r2
   have l1 := h2.length
   have l2 := g2.length
   by_cases hx : xs = []
   · subst hx
     have ht : ts = [] := List.eq_nil_of_length_eq_zero (by rw [← l1]; rfl)
     subst ht
     exact op_catT0 pins s σ H _ _ v u Q2 I rx ry ⟨_, _, ys, rfl, rfl, h1, g1, en _ _ M H Kp.refl hh (rep_tup g1 g2) q.2⟩
   · refine op_catT pins s σ H _ _ v u Q2 I rx ry ⟨_, _, xs, ys, rfl, rfl, h1, g1, hx, by rw [l1, l2]; exact q.1, fun hy => ?_, fun hy r hr => ?_⟩
     · subst hy
       have ht : us = [] := List.eq_nil_of_length_eq_zero (by rw [← l2]; rfl)
       subst ht
       have q2 := q.2
       rw [List.append_nil] at q2
       exact en _ _ M H Kp.refl hh (rep_tup h1 h2) q2
     · refine en _ _ M _ (Kp.new hr) (hh.keep hr) (rep_tup (SqT.of upd_same) ?_) q.2
       exact Reps.kp (Kp.new hr) _ _ (h2.append g2)
 · rename_i p p'
   obtain rfl := inv_adr r1
   obtain rfl := inv_adr r2
   split at q
   · rename_i ts us e1 e2
     obtain ⟨xs, h1, h2⟩ := hh _ _ e1
     obtain ⟨ys, g1, g2⟩ := hh _ _ e2
     refine op_cat pins s σ H _ _ v u Q2 I rx ry ⟨_, _, xs, ys, rfl, rfl, h1, g1, by rw [h2.length, g2.length]; exact q.1, fun r hr => ?_⟩
     exact en _ _ _ _ (Kp.new hr) (hh.newL hr (h2.append g2)) rep_adr (q.2 r (hh.free hr))
   · exact q.elim
 · exact q.elim
end
end L2
namespace L2
open PySem PySem.Spec PyProof.Rows
theorem noFill_tuple_mul : fillsNumberSlot (.type "tuple") "mul" = pure false :=
 PySem.fillsNumberSlot_seq (id := "tuple.__mul__") (r := some (.builtin "tuple.__rmul__")) F.slot_tuple_mul.lookup (by decide +kernel) F.slot_tuple_rmul.lookup (by decide +kernel)
theorem repeat_tuple : seqRepeat? (.type "tuple") = pure (some (.builtin "tuple.__mul__")) := by
 unfold seqRepeat?
 rw [PySem.seqSlot_of (T := "tuple") (name := "__mul__") (id := "tuple.__mul__") F.slot_tuple_mul.lookup (by decide +kernel), PySem.seqSlot_of (T := "tuple") (name := "__rmul__") (id := "tuple.__rmul__") F.slot_tuple_rmul.lookup (by decide +kernel)]
 rfl
section
variable (l : Addr) (items : Array Value) (n : Nat) (x : Int) (u : Tok) (dd : Option Addr) (sl : Array (Option Value))
theorem int_rmul_tuple : Meets (Builtin.«int.__rmul__» ⟨[.int x u, .ref l], []⟩) (fun _ R s => s.heap.get? l = some { cls := .type "tuple", dict := dd, data := .seq items n, slots := sl } ∧ R (.ok (.ret Value.notImplemented)) s) :=
 .of_wp fun prog w A R s h => by obtain ⟨hp, g, d, tk, os⟩ := s; obtain ⟨hl, h⟩ := h; wp_walk; exact ⟨_, rfl, h⟩
theorem tuple_mul_0 (h0 : -(2 ^ 63) ≤ x) (h1 : x < 2 ^ 63) (hc : (items.isEmpty || x == 1) = true) :
   Meets (Builtin.«tuple.__mul__» ⟨[.ref l, .int x u], []⟩) (fun _ R s => s.heap.get? l = some { cls := .type "tuple", dict := dd, data := .seq items n, slots := sl } ∧ R (.ok (.ret (Value.ref l))) s) :=
 .of_wp fun prog w A R s h => by
   obtain ⟨hp, g, d, tk, os⟩ := s; obtain ⟨hl, h⟩ := h
   have hb : ¬ (decide (x < -2 ^ 63) || decide (x ≥ 2 ^ 63)) = true := by simp; lia
   wp_walk
   rw [if_neg hb]
   wp_walk
   first | exact ⟨_, rfl, h⟩ | (rw [if_pos hc]; wp_walk; exact ⟨_, rfl, h⟩)
theorem tuple_mul_1 (h0 : -(2 ^ 63) ≤ x) (h1 : x < 2 ^ 63) (hc : ¬ (items.isEmpty || x == 1) = true) (hn : (decide (x ≤ 0) || items.isEmpty) = true) :
   Meets (Builtin.«tuple.__mul__» ⟨[.ref l, .int x u], []⟩) (fun _ R s => s.heap.get? l = some { cls := .type "tuple", dict := dd, data := .seq items n, slots := sl } ∧ R (.ok (.ret (Value.ref s.heap.objs.size))) { s with heap := s.heap.push { cls := .type "tuple", data := .seq #[] }, toks := s.toks }) :=
 .of_wp fun prog w A R s h => by
   obtain ⟨hp, g, d, tk, os⟩ := s; obtain ⟨hl, h⟩ := h
   have hb : ¬ (decide (x < -2 ^ 63) || decide (x ≥ 2 ^ 63)) = true := by simp; lia
   wp_walk
   rw [if_neg hb]
   wp_walk
   first | exact ⟨_, rfl, h⟩ | (rw [if_neg hc, if_pos hn]; wp_walk; exact ⟨_, rfl, h⟩)
theorem tuple_mul_2 (h0 : -(2 ^ 63) ≤ x) (h1 : x < 2 ^ 63) (hc : ¬ (items.isEmpty || x == 1) = true) (hn : ¬ (decide (x ≤ 0) || items.isEmpty) = true) (hm : ¬ items.size * x > (2 ^ 63 - 1) / 8) (hz : ¬ Builtin.Tuple.tupleTooMany (items.size * x) = true) (hf : sizeOk (.seq (List.foldl (fun x1 x2 => x1 ++ x2) #[] (List.replicate x.toNat items)))) :
   Meets (Builtin.«tuple.__mul__» ⟨[.ref l, .int x u], []⟩) (fun _ R s => s.heap.get? l = some { cls := .type "tuple", dict := dd, data := .seq items n, slots := sl } ∧ R (.ok (.ret (Value.ref s.heap.objs.size))) { s with heap := s.heap.push { cls := .type "tuple", data := .seq (List.foldl (fun x1 x2 => x1 ++ x2) #[] (List.replicate x.toNat items)) }, toks := s.toks }) :=
 .of_wp fun prog w A R s h => by
   obtain ⟨hp, g, d, tk, os⟩ := s; obtain ⟨hl, h⟩ := h
   have hb : ¬ (decide (x < -2 ^ 63) || decide (x ≥ 2 ^ 63)) = true := by simp; lia
   wp_walk
   rw [if_neg hb]
   wp_walk
   rw [if_neg hm]
   wp_walk
   first | exact ⟨_, rfl, h⟩ | (rw [if_neg (Nat.not_lt.mpr hf)]; wp_walk; exact ⟨_, rfl, h⟩)
end
section
variable {X : Cx}
noncomputable def rRepT (K : PySem.W.Frag) : R2 := fun x y H Q => ∃ a k xs, x = .ref a ∧ y = .int k ∧ SqT K H a xs ∧ -(2 ^ 63) ≤ k ∧ k < 2 ^ 63 ∧ xs.length * k.toNat ≤ sizeLine ∧
 ∀ p H', SqT K H' p (List.replicate k.toNat xs).flatten → (H' = H ∨ H p = none ∧ H' = upd H p (.tup (List.replicate k.toNat xs).flatten)) → Q (.ref p) H'
theorem foldl_repA (its : List Value) (m : Nat) : List.foldl (fun x1 x2 => x1 ++ x2) #[] (List.replicate m its.toArray) = (List.replicate m its).flatten.toArray := by
 have := foldl_rep its m []
 rw [List.nil_append] at this
 exact this
theorem op_repT : OpR X (binaryOp .Mult) (rRepT X.K) := by
 intro pins s σ H x y v u Q I rx ry h
 obtain ⟨a, k, xs, rfl, rfl, hx, h1, h2, hz, q⟩ := h
 cases rx
 obtain ⟨t, rfl⟩ := ry
 obtain ⟨its, r, p, hl⟩ := I.tuple hx
 have hlen := r.length
 obtain ⟨⟨cls, dd, data, sl⟩, ho, hc, n, hd⟩ := id p
 simp only at hc hd
 subst hc hd
 refine wpAny_binaryOp_repeat_ref (T := "tuple") (U := "int") (by decide) ⟨_, ho, rfl⟩ (fun s' => typeIs_int s' k t) noFill_tuple_mul F.fills_int_mul F.slot_int_rmul repeat_tuple F.slot_int_index.lookup
   (call_meets F.slot_int_rmul (typeIs_int s k t) F.entry_int_rmul (F.args_int_rmul_2 _ _) (int_rmul_tuple a its.toArray n k t dd sl) ⟨ho, rfl, ⟨_, ho, rfl⟩, ?_⟩)
 by_cases hc : (its.toArray.isEmpty || k == 1) = true
 · refine call_meets F.slot_tuple_mul ⟨_, ho, rfl⟩ F.entry_tuple_mul (F.args_tuple_mul_2 _ _) (tuple_mul_0 a its.toArray n k t dd sl h1 h2 hc) ⟨ho, ?_⟩
   have e : (List.replicate k.toNat xs).flatten = xs := by
     simp only [Bool.or_eq_true, beq_iff_eq] at hc
     rcases hc with hc | hc
     · have : its = [] := by simpa using hc
       subst this
       cases r
       simp
     · subst hc
       simp
   exact ⟨.ref a, H, I, rfl, q a H (by rw [e]; exact hx) (.inl rfl)⟩
 · by_cases hn : (decide (k ≤ 0) || its.toArray.isEmpty) = true
   · refine call_meets F.slot_tuple_mul ⟨_, ho, rfl⟩ F.entry_tuple_mul (F.args_tuple_mul_2 _ _) (tuple_mul_1 a its.toArray n k t dd sl h1 h2 hc hn) ⟨ho, ?_⟩
     have hk : k.toNat = 0 := by
       simp only [Bool.or_eq_true, decide_eq_true_eq] at hn hc
       rcases hn with hn | hn
       · lia
       · exact absurd (.inl hn) hc
     have e : (List.replicate k.toNat xs).flatten = [] := by rw [hk]; rfl
     refine ⟨.ref s.heap.objs.size, _, I.laid (t' := s.toks) (o := .tup []) (fun b ob q => Heap.get?_push_of_some _ q) (Nat.le_refl _) ?_, rfl, q _ _ ?_ (.inr ⟨I.hok.fresh (Nat.le_refl _), by rw [e]⟩)⟩
     · exact ⟨Nat.zero_le _, [], .nil, IsTup0.new _ _⟩
     · rw [e]; exact SqT.of upd_same
   · have hm : (its.toArray.size : Int) * k ≤ sizeLine := by
       have : its.toArray.size = xs.length := by rw [hlen]; simp
       rw [this]
       have hk : (0 : Int) ≤ k := by
         simp only [Bool.or_eq_true, decide_eq_true_eq] at hn
         lia
       have e2 : k = ((k.toNat : Nat) : Int) := by lia
       rw [e2, ← Int.natCast_mul]
       exact_mod_cast hz
     have hz2 : ((List.replicate k.toNat its).flatten).length ≤ sizeLine := by rw [len_rep, Nat.mul_comm, ← hlen]; exact hz
     refine call_meets F.slot_tuple_mul ⟨_, ho, rfl⟩ F.entry_tuple_mul (F.args_tuple_mul_2 _ _) (tuple_mul_2 a its.toArray n k t dd sl h1 h2 hc hn ?_ ?_ ?_) ⟨ho, ?_⟩
     · have : (sizeLine : Int) ≤ (2 ^ 63 - 1) / 8 := by decide
       lia
     · unfold Builtin.Tuple.tupleTooMany
       simp only [decide_eq_true_eq]
       lia
     · rw [foldl_repA]
       show (List.replicate k.toNat its).flatten.toArray.size ≤ sizeLine
       rw [List.size_toArray]
       exact hz2
     · rw [foldl_repA]
       refine ⟨.ref s.heap.objs.size, _, I.laid (t' := s.toks) (o := .tup (List.replicate k.toNat xs).flatten) (fun b ob q => Heap.get?_push_of_some _ q) (Nat.le_refl _) ?_, rfl, q _ _ (SqT.of upd_same) (.inr ⟨I.hok.fresh (Nat.le_refl _), rfl⟩)⟩
       exact ⟨by rw [len_rep, Nat.mul_comm]; exact hz, _, r.rep k.toNat, IsTup0.new _ _⟩
end
end L2
namespace L2
open PySem PySem.Spec PyProof.Rows
theorem Reps.atI {K : PySem.W.Frag} {H : Hp} {vs : List V} {ts : List T} {i : Int} {t : T} (h : Reps K H vs ts) (e : atI ts i = some t) : ∃ v, L2.atI vs i = some v ∧ Rep K H v t := by
 unfold L2.atI at e ⊢
 rw [h.length]
 cases q : ixN ts.length i with
 | none => rw [q] at e; cases e
 | some j => rw [q] at e; exact h.get e
section
variable {X : Cx} {a b c e : Expr} {es : List Expr} {ta tb tc te : TE3} {pos : Pos}
noncomputable def rIx3 : R3 := fun x y M Q => match x, y with
 | .tup ts, .int i => (match atI ts i with | some t => Q t M | none => False)
 | .rd ts, .int i => (match atI ts i with | some t => Q t M | none => False)
 | .adr p, .int i => (match M p with | some (.lst ts) => (match atI ts i with | some t => Q t M | none => False) | _ => False)
 | .str z, .int i => z.length ≤ sizeLine ∧ (match atI z.cps.toList i with | some c => Q (.str ⟨#[c]⟩) M | none => False)
 | _, _ => False
theorem inv_rd {K : PySem.W.Frag} {H : Hp} {v : V} {ts : List T} (r : Rep K H v (.rd ts)) : ∃ a xs, v = .ref a ∧ FzL K H a xs ∧ Reps K H xs ts := by unfold Rep at r; exact r
theorem ix3 : IxR3 X rIx3 := by
 intro value slice pins s σ H x y v u Q2 I rx ry q hs
 obtain ⟨a, b, M, Q, r1, r2, hh, q, en⟩ := q
 unfold rIx3 at q
 split at q
 · obtain rfl := inv_int r2
   obtain ⟨p, xs, rfl, h1, h2⟩ := inv_tup r1
   split at q
   · rename_i t e
     obtain ⟨w, ew, rw'⟩ := h2.atI e
     exact ix_tup value slice pins s σ H _ _ v u Q2 I rx ry ⟨_, _, _, w, rfl, rfl, h1, ew, en _ _ M H Kp.refl hh rw' q⟩ hs
   · exact q.elim
 · obtain rfl := inv_int r2
   obtain ⟨p, xs, rfl, h1, h2⟩ := inv_rd r1
   split at q
   · rename_i t e
     obtain ⟨w, ew, rw'⟩ := h2.atI e
     exact ix_list value slice pins s σ H _ _ v u Q2 I rx ry ⟨_, _, _, w, rfl, rfl, h1.sq, ew, en _ _ M H Kp.refl hh rw' q⟩ hs
   · exact q.elim
 · obtain rfl := inv_int r2
   obtain rfl := inv_adr r1
   split at q
   · rename_i ts e0
     obtain ⟨xs, h1, h2⟩ := hh _ _ e0
     split at q
     · rename_i t e
       obtain ⟨w, ew, rw'⟩ := h2.atI e
       exact ix_list value slice pins s σ H _ _ v u Q2 I rx ry ⟨_, _, _, w, rfl, rfl, SqL.of h1, ew, en _ _ M H Kp.refl hh rw' q⟩ hs
     · exact q.elim
   · exact q.elim
 · obtain rfl := inv_int r2
   obtain rfl := inv_str r1
   obtain ⟨hz, q⟩ := q
   split at q
   · rename_i c e
     exact ix_str value slice pins s σ H _ _ v u Q2 I rx ry ⟨_, _, c, rfl, rfl, hz, e, en _ _ M H Kp.refl hh rep_str q⟩ hs
   · exact q.elim
 · exact q.elim
theorem h_ix (ha : HE X a ta) (hb : HE X b tb) (hs : PlainIx b := by intro _ _; rfl) : HE X (.Subscript a b pos) (tOp3 rIx3 ta tb) := fun ρ M Q h =>
 (pe_ix ix3 (ha.d (ρ := ρ)) (hb.d (ρ := ρ)) hs).imp fun σ H Q2 b => dOp h b
noncomputable def rMul3 : R3 := fun x y M Q => match x, y with
 | .int i, .int j => CMul i j ∧ Q (.int (i * j)) M
 | .adr p, .int k => (match M p with
   | some (.lst ts) => -(2 ^ 63) ≤ k ∧ k < 2 ^ 63 ∧ ts.length * k.toNat ≤ sizeLine ∧ ∀ r, M r = none → Q (.adr r) (updM M r (.lst (List.replicate k.toNat ts).flatten))
   | _ => False)
 | .tup ts, .int k => -(2 ^ 63) ≤ k ∧ k < 2 ^ 63 ∧ ts.length * k.toNat ≤ sizeLine ∧ Q (.tup (List.replicate k.toNat ts).flatten) M
 | _, _ => False
theorem Reps.rep {K : PySem.W.Frag} {H : Hp} {vs : List V} {ts : List T} (h : Reps K H vs ts) : ∀ k : Nat, Reps K H (List.replicate k vs).flatten (List.replicate k ts).flatten
 | 0 => .nil
 | k + 1 => by
   rw [List.replicate_succ, List.replicate_succ, List.flatten_cons, List.flatten_cons]
   exact Reps.append h (Reps.rep h k)
theorem op3_mul : OpR3 X (binaryOp .Mult) rMul3 := by
 intro pins s σ H x y v u Q2 I rx ry q
 obtain ⟨a, b, M, Q, r1, r2, hh, q, en⟩ := q
 unfold rMul3 at q
 split at q
 · obtain rfl := inv_int r1
   obtain rfl := inv_int r2
   exact op_mul pins s σ H _ _ v u Q2 I rx ry ⟨_, _, rfl, rfl, q.1, en _ _ M H Kp.refl hh rep_int q.2⟩
 · obtain rfl := inv_adr r1
   obtain rfl := inv_int r2
   split at q
   · rename_i ts e0
     obtain ⟨xs, h1, h2⟩ := hh _ _ e0
     obtain ⟨q1, q2, q3, q4⟩ := q
     refine op_rep pins s σ H _ _ v u Q2 I rx ry ⟨_, _, xs, rfl, rfl, h1, q1, q2, by rw [h2.length]; exact q3, fun r hr => ?_⟩
     exact en _ _ _ _ (Kp.new hr) (hh.newL hr (h2.rep _)) rep_adr (q4 r (hh.free hr))
   · exact q.elim
 · obtain ⟨l, xs, rfl, g1, g2⟩ := inv_tup r1
   obtain rfl := inv_int r2
   obtain ⟨q1, q2, q3, q4⟩ := q
   refine op_repT pins s σ H _ _ v u Q2 I rx ry ⟨_, _, xs, rfl, rfl, g1, q1, q2, by rw [g2.length]; exact q3, fun r H' h' c => ?_⟩
   rcases c with rfl | ⟨c1, rfl⟩
   · exact en _ _ _ _ Kp.refl hh (rep_tup h' (g2.rep _)) q4
   · exact en _ _ _ _ (Kp.new c1) (hh.keep c1) (rep_tup h' (Reps.kp (Kp.new c1) _ _ (g2.rep _))) q4
 · exact q.elim
noncomputable def rCmp3 (g : Int → Int → Bool) : R3 := fun x y M Q => match x, y with
 | .int i, .int j => Q (.bl (g i j)) M
 | _, _ => False
theorem op3_cmp {f : Value → Value → Sem Value} {g : Int → Int → Bool} (h : OpR X f (rI0 fun i j => .bl (g i j))) : OpR3 X f (rCmp3 g) := by
 intro pins s σ H x y v u Q2 I rx ry q
 obtain ⟨a, b, M, Q, r1, r2, hh, q, en⟩ := q
 unfold rCmp3 at q
 split at q
 · obtain rfl := inv_int r1
   obtain rfl := inv_int r2
   exact h pins s σ H _ _ v u Q2 I rx ry ⟨_, _, rfl, rfl, en _ _ M H Kp.refl hh rep_bl q⟩
 · exact q.elim
noncomputable def rLt3 : R3 := rCmp3 fun i j => decide (i < j)
noncomputable def rLe3 : R3 := rCmp3 fun i j => decide (i ≤ j)
noncomputable def rGt3 : R3 := rCmp3 fun i j => decide (j < i)
noncomputable def rGe3 : R3 := rCmp3 fun i j => decide (j ≤ i)
theorem op3_lt : OpR3 X (compareOp .Lt) rLt3 := op3_cmp op_lt
theorem op3_le : OpR3 X (compareOp .LtE) rLe3 := op3_cmp op_le
theorem op3_gt : OpR3 X (compareOp .Gt) rGt3 := op3_cmp op_gt
theorem op3_ge : OpR3 X (compareOp .GtE) rGe3 := op3_cmp op_ge
noncomputable def rEqv (g : Bool → Bool) : R3 := fun x y M Q => match x, y with
 | .adr p, .adr q => (match M p, M q with
   | some (.lst a), some (.lst b) => pureTs a = true ∧ pureTs b = true ∧ depTs a ≤ 30 ∧ Q (.bl (g (eqTs a b))) M
   | _, _ => False)
 | x, y => pureT x = true ∧ pureT y = true ∧ depT x ≤ 30 ∧ Q (.bl (g (eqT x y))) M
noncomputable def rEq3 : R3 := rEqv id
noncomputable def rNe3 : R3 := rEqv not
theorem lists_eqv {pins : List (Addr × Obj)} {σ : St} {H : Hp} {s : Shared} (I : Inv X pins σ H s) (hu : X.A.units + 64 < cLine) {p p' : Addr} {xs ys : List V} {ts us : List T} (h1 : H p = some (.lst xs)) (h2 : Reps X.K H xs ts) (g1 : H p' = some (.lst ys)) (g2 : Reps X.K H ys us)
   (px : pureTs ts = true) (py : pureTs us = true) (hd : depTs ts ≤ 30) :
   SeqAt.RcAt X.A s (.ref p) (.ref p') (eqTs ts us) ∧ SeqAt.RcNeAt X.A s (.ref p) (.ref p') (!(eqTs ts us)) := by
 obtain ⟨its, r1, pl, _⟩ := I.list (SqL.of h1)
 obtain ⟨its2, r2, pl2, _⟩ := I.list (SqL.of g1)
 have l1 := h2.length
 have l2 := g2.length
 have m1 := r1.length
 have m2 := r2.length
 have hu' : X.A.units < cLine := by lia
 by_cases hl : its.length = its2.length
 · have he := items_eq (X := X) (A := X.A.in1) (s := s) (n := 30) px py hd h2 g2 r1 r2 fun x y v u a b hx px py rx ry ra rb => (eqAt_T I 30 X.A.in1 x y v u a b hx (by show X.A.units + 1 + 30 + 1 < cLine; lia) px py rx ry ra rb).1
   have hsz : its.toArray.size = its2.toArray.size := by simpa using hl
   have rc := SeqAt.RcAt.lists (A := X.A) pl.isList pl2.isList hsz hu' he
   have rn := SeqAt.RcNeAt.lists (A := X.A) pl.isList pl2.isList hsz hu' he
   have ee : (List.range its.toArray.size).all (eqJ ts us) = eqTs ts us := by
     rw [← eqTs_range, List.size_toArray, ← l1, ← l2, m1, m2, ← hl]
     simp
   rw [ee] at rc rn
   exact ⟨rc, rn⟩
 · have hne : eqTs ts us = false := by
     cases q : eqTs ts us with
     | false => rfl
     | true => have := eqTs_len q; lia
   have hsz : (its.toArray.size != its2.toArray.size) = true := by simpa using hl
   rw [hne]
   exact ⟨SeqAt.RcAt.lists_lengths pl.isList pl2.isList hsz hu', SeqAt.RcNeAt.lists_lengths pl.isList pl2.isList hsz hu'⟩
theorem op3_eq (hu : X.A.units + 64 < cLine) : OpR3 X (compareOp .Eq) rEq3 := by
 intro pins s σ H x y v u Q2 I rx ry q
 obtain ⟨a, b, M, Q, r1, r2, hh, q, en⟩ := q
 unfold rEq3 rEqv at q
 split at q
 · rename_i p p'
   split at q
   · rename_i ts us e1 e2
     obtain ⟨xs, h1, h2⟩ := hh _ _ e1
     obtain ⟨ys, g1, g2⟩ := hh _ _ e2
     obtain rfl := inv_adr r1
     obtain rfl := inv_adr r2
     cases rx
     cases ry
     exact (lists_eqv I hu h1 h2 g1 g2 q.1 q.2.1 q.2.2.1).1 _ _ _ _ ⟨.bl _, H, I, rfl, en _ _ M H Kp.refl hh rep_bl q.2.2.2⟩
   · exact q.elim
 · obtain ⟨q1, q2, q3, q⟩ := q
   exact (eqAt_T I 30 X.A a b x y v u q3 (by lia) q1 q2 r1 r2 rx ry).2.1 _ _ _ _ ⟨.bl _, H, I, rfl, en _ _ M H Kp.refl hh rep_bl q⟩
theorem op3_ne (hu : X.A.units + 64 < cLine) : OpR3 X (compareOp .NotEq) rNe3 := by
 intro pins s σ H x y v u Q2 I rx ry q
 obtain ⟨a, b, M, Q, r1, r2, hh, q, en⟩ := q
 unfold rNe3 rEqv at q
 split at q
 · rename_i p p'
   split at q
   · rename_i ts us e1 e2
     obtain ⟨xs, h1, h2⟩ := hh _ _ e1
     obtain ⟨ys, g1, g2⟩ := hh _ _ e2
     obtain rfl := inv_adr r1
     obtain rfl := inv_adr r2
     cases rx
     cases ry
     exact (lists_eqv I hu h1 h2 g1 g2 q.1 q.2.1 q.2.2.1).2 _ _ _ _ ⟨.bl _, H, I, rfl, en _ _ M H Kp.refl hh rep_bl q.2.2.2⟩
   · exact q.elim
 · obtain ⟨q1, q2, q3, q⟩ := q
   exact (eqAt_T I 30 X.A a b x y v u q3 (by lia) q1 q2 r1 r2 rx ry).2.2 _ _ _ _ ⟨.bl _, H, I, rfl, en _ _ M H Kp.refl hh rep_bl q⟩
noncomputable def tTest3 (t : TE3) : TT3 := fun ρ M Q => t ρ M fun x M1 => match x with
 | .bl k => Q k M1
 | _ => False
theorem end_test {K : PySem.W.Frag} {H : Hp} {Q : Bool → MH → Prop} {Q2 : Bool → Hp → Prop} (en : EndT K H Q Q2) : EndE K H (fun x M1 => match x with | .bl k => Q k M1 | _ => False) (fun x H' => ∃ k, x = .bl k ∧ Q2 k H') := by
 intro t v M' H' k h r q
 split at q
 · obtain rfl := inv_bl r
   exact ⟨_, rfl, en _ M' H' k h q⟩
 · exact q.elim
theorem h_tcmp {op : CmpOp} {r : R3} (ho : OpR3 X (compareOp op) r) (ha : HE X a ta) (hb : HE X b tb) (hm : behindInMarks op b = false) : HT X (.Compare a [op] [b] pos) (tTest3 (tOp3 r ta tb)) := fun ρ M Q h =>
 (pt_cmpR ho (ha.d (ρ := ρ)) (hb.d (ρ := ρ)) hm).imp fun σ H Q2 ⟨hr, hh, en⟩ => dOp (ta := ta) (tb := tb) (r := r) h ⟨hr, hh, end_test en⟩
noncomputable def tChain3 (r r' : R3) (ta tb tc : TE3) : TE3 := fun ρ M Q => ta ρ M fun x M1 => tb ρ M1 fun y M2 => r x y M2 fun z M3 => match z with
 | .bl k => (if k = true then tc ρ M3 fun w M4 => r' y w M4 Q else Q (.bl false) M3)
 | _ => False
theorem dChain {ρ : En} {M : MH} {Q : VK3} {r r' : R3} (h : tChain3 r r' ta tb tc ρ M Q) {σ : St} {H : Hp} {Q2 : VK} (b : bE X.K ρ M Q σ H Q2) : tChain (dR X.K r) (dR X.K r') (dE X.K ρ ta) (dE X.K ρ tb) (dE X.K ρ tc) σ H Q2 := by
 obtain ⟨hr, hh, en⟩ := b
 refine ⟨M, _, h, hr, hh, fun t v M1 H1 k1 h1 r1 q1 => ⟨M1, _, q1, hr.kp k1, h1, fun t2 v2 M2 H2 k2 h2 r2 q2 => ⟨t, t2, M2, _, Rep.kp k2 _ _ r1, r2, h2, q2, fun z v3 M3 H3 k3 h3 r3 q3 => ?_⟩⟩⟩
 split at q3
 · rename_i k
   obtain rfl := inv_bl r3
   refine ⟨k, rfl, ?_⟩
   have kk := k1.trans (k2.trans k3)
   split
   · rename_i hk
     rw [if_pos hk] at q3
     exact ⟨M3, _, q3, hr.kp kk, h3, fun t4 v4 M4 H4 k4 h4 r4 q4 => ⟨t2, t4, M4, Q, Rep.kp (k3.trans k4) _ _ r2, r4, h4, q4, en.kp (kk.trans k4)⟩⟩
   · rename_i hk
     rw [if_neg hk] at q3
     exact en _ _ M3 H3 kk h3 rep_bl q3
 · exact q3.elim
theorem h_chain {op op' : CmpOp} {r r' : R3} (ho : OpR3 X (compareOp op) r) (ho' : OpR3 X (compareOp op') r') (ha : HE X a ta) (hb : HE X b tb) (hc : HE X c tc)
   (hm : lastMarks [op, op'] [b, c] = false := by with_unfolding_all rfl) : HE X (.Compare a [op, op'] [b, c] pos) (tChain3 r r' ta tb tc) := fun ρ M Q h =>
 (pe_chain ho ho' (ha.d (ρ := ρ)) (hb.d (ρ := ρ)) (hc.d (ρ := ρ)) hm).imp fun σ H Q2 b => dChain h b
theorem h_tchain {op op' : CmpOp} {r r' : R3} (ho : OpR3 X (compareOp op) r) (ho' : OpR3 X (compareOp op') r') (ha : HE X a ta) (hb : HE X b tb) (hc : HE X c tc)
   (hm : lastMarks [op, op'] [b, c] = false := by with_unfolding_all rfl) : HT X (.Compare a [op, op'] [b, c] pos) (tTest3 (tChain3 r r' ta tb tc)) := fun ρ M Q h =>
 (pt_chain ho ho' (ha.d (ρ := ρ)) (hb.d (ρ := ρ)) (hc.d (ρ := ρ)) hm).imp fun σ H Q2 ⟨hr, hh, en⟩ => dChain (ta := ta) (tb := tb) (tc := tc) (r := r) (r' := r') h ⟨hr, hh, end_test en⟩
noncomputable def truT (M : MH) : T → Option Bool
 | .non => some false
 | .bl b => some b
 | .int i => some (i != 0)
 | .str y => if y.length ≤ sizeLine then some (decide (y.length ≠ 0)) else none
 | .tup ts => some (!ts.isEmpty)
 | .rd ts => some (!ts.isEmpty)
 | .dic _ _ => none
 | .adr p => match M p with
   | some (.lst ts) => some (!ts.isEmpty)
   | _ => none
noncomputable def tTru3 (te : TE3) : TT3 := fun ρ M Q => te ρ M fun x M1 => match truT M1 x with
 | some k => Q k M1
 | none => False
theorem empty_of {K : PySem.W.Frag} {H : Hp} {xs : List V} {ts : List T} (h : Reps K H xs ts) : (!xs.isEmpty) = !ts.isEmpty := by
 have := h.length
 cases xs <;> cases ts <;> first | rfl | (simp at this)
theorem h_truth (ha : HE X a ta) (he : ∀ whole, isTrue a X.env whole = (do let v ← whole; standAt a.pos; holding [v] (truthy v)) := by intro _; rfl) : HT X a (tTru3 ta) := fun ρ M Q h =>
 (pt_truth (ha.d (ρ := ρ)) he).imp fun σ H Q2 ⟨hr, hh, en⟩ => ⟨M, _, h, hr, hh, fun t v M1 H1 k1 h1 r1 q1 => by
   have fin : ∀ k, truT M1 t = some k → Q2 k H1 := fun k e => by
     have q : (match truT M1 t with | some k => Q k M1 | none => False) := q1
     rw [e] at q
     exact en k M1 H1 k1 h1 q
   cases t with
   | non => obtain rfl := inv_non r1; exact ⟨false, rfl, fin _ rfl⟩
   | bl b => obtain rfl := inv_bl r1; exact ⟨b, rfl, fin _ rfl⟩
   | int i => obtain rfl := inv_int r1; exact ⟨_, rfl, fin _ rfl⟩
   | str y =>
     obtain rfl := inv_str r1
     by_cases hy : y.length ≤ sizeLine
     · refine ⟨_, ⟨hy, rfl⟩, fin _ ?_⟩
       show (if y.length ≤ sizeLine then some (decide (y.length ≠ 0)) else none) = _
       rw [if_pos hy]
       congr 1
       by_cases h0 : y.length = 0
       · rw [h0]; rfl
       · have : ((y.length : Int) != 0) = true := by simpa using h0
         rw [this]; simpa using h0
     · have q : (match truT M1 (.str y) with | some k => Q k M1 | none => False) := q1
       have e : truT M1 (.str y) = none := if_neg hy
       rw [e] at q
       exact q.elim
   | tup ts =>
     obtain ⟨p, xs, rfl, g1, g2⟩ := inv_tup r1
     exact ⟨!xs.isEmpty, .inr (.inl ⟨xs, g1, rfl⟩), fin _ (by rw [empty_of g2]; rfl)⟩
   | rd ts =>
     obtain ⟨p, xs, rfl, g1, g2⟩ := inv_rd r1
     exact ⟨!xs.isEmpty, .inl ⟨xs, g1.sq, rfl⟩, fin _ (by rw [empty_of g2]; rfl)⟩
   | dic ks ts =>
     have q : (match truT M1 (.dic ks ts) with | some k => Q k M1 | none => False) := q1
     exact q.elim
   | adr p =>
     obtain rfl := inv_adr r1
     cases e0 : M1 p with
     | none =>
       have q : (match truT M1 (.adr p) with | some k => Q k M1 | none => False) := q1
       have e : truT M1 (.adr p) = none := by show (match M1 p with | some (.lst ts) => some (!ts.isEmpty) | _ => none) = none; rw [e0]
       rw [e] at q
       exact q.elim
     | some o =>
       cases o with
       | lst ts =>
         obtain ⟨xs, g1, g2⟩ := h1 _ _ e0
         exact ⟨!xs.isEmpty, .inl ⟨xs, SqL.of g1, rfl⟩, fin _ (by show (match M1 p with | some (.lst ts) => some (!ts.isEmpty) | _ => none) = _; rw [e0, empty_of g2])⟩
       | dk kvs =>
         have q : (match truT M1 (.adr p) with | some k => Q k M1 | none => False) := q1
         have e : truT M1 (.adr p) = none := by show (match M1 p with | some (.lst ts) => some (!ts.isEmpty) | _ => none) = none; rw [e0]
         rw [e] at q
         exact q.elim
       | dt kvs =>
         have q : (match truT M1 (.adr p) with | some k => Q k M1 | none => False) := q1
         have e : truT M1 (.adr p) = none := by show (match M1 p with | some (.lst ts) => some (!ts.isEmpty) | _ => none) = none; rw [e0]
         rw [e] at q
         exact q.elim
       | fz kvs =>
         have q : (match truT M1 (.adr p) with | some k => Q k M1 | none => False) := q1
         have e : truT M1 (.adr p) = none := by show (match M1 p with | some (.lst ts) => some (!ts.isEmpty) | _ => none) = none; rw [e0]
         rw [e] at q
         exact q.elim
       | fk kvs =>
         have q : (match truT M1 (.adr p) with | some k => Q k M1 | none => False) := q1
         have e : truT M1 (.adr p) = none := by show (match M1 p with | some (.lst ts) => some (!ts.isEmpty) | _ => none) = none; rw [e0]
         rw [e] at q
         exact q.elim⟩
end
end L2
namespace L2
open PySem PySem.Spec PyProof.Rows
section
variable {X : Cx} {a b c e : Expr} {es rest : List Expr} {ta tb tc te : TE3} {tA tB : TT3} {t : TA3} {pos : Pos}
noncomputable def HW (X : Cx) (e : Expr) (t : TT3) : Prop := ∀ ρ M Q, t ρ M Q → PW X e (bT X.K ρ M Q)
theorem HW.d {t : TT3} {ρ : En} (h : HW X e t) : PW X e (dT X.K ρ t) := fun wh pins s σ H Q I ⟨M, Q3, q, b⟩ => h ρ M Q3 q wh pins s σ H Q I b
theorem PW.imp {t t' : TT} (h : PW X e t) (f : ∀ σ H Q, t' σ H Q → t σ H Q) : PW X e t' := fun wh pins s σ H Q I q => h wh pins s σ H Q I (f σ H Q q)
theorem HW.ht {t : TT3} (h : HW X e t) : HT X e t := fun ρ M Q q => (h ρ M Q q).pt
noncomputable def tAnd3 (t u : TT3) : TT3 := fun ρ M Q => t ρ M fun c M1 => if c = true then u ρ M1 Q else Q false M1
noncomputable def tOr3 (t u : TT3) : TT3 := fun ρ M Q => t ρ M fun c M1 => if c = true then Q true M1 else u ρ M1 Q
noncomputable def tNot3 (t : TT3) : TT3 := fun ρ M Q => t ρ M fun c M1 => Q (!c) M1
theorem h_not (ha : HT X a tA) : HT X (.UnaryOp .Not a pos) (tNot3 tA) := fun ρ M Q h =>
 (pt_not (ha.d (ρ := ρ))).imp fun σ H Q2 ⟨hr, hh, en⟩ => ⟨M, _, h, hr, hh, fun b M1 H1 k1 h1 q1 => en _ M1 H1 k1 h1 q1⟩
theorem w_and1 (ha : HT X a tA) : HW X (.BoolOp .And [a] pos) tA := fun ρ M Q h => (pw_and1 (ha.d (ρ := ρ))).imp fun σ H Q2 b => ⟨M, Q, h, b⟩
theorem w_or1 (ha : HT X a tA) : HW X (.BoolOp .Or [a] pos) tA := fun ρ M Q h => (pw_or1 (ha.d (ρ := ρ))).imp fun σ H Q2 b => ⟨M, Q, h, b⟩
theorem w_and (ha : HT X a tA) (hb : HW X (.BoolOp .And (b :: rest) pos) tB) : HW X (.BoolOp .And (a :: b :: rest) pos) (tAnd3 tA tB) := fun ρ M Q h =>
 (pw_and (ha.d (ρ := ρ)) (hb.d (ρ := ρ))).imp fun σ H Q2 ⟨hr, hh, en⟩ => ⟨M, _, h, hr, hh, fun b M1 H1 k1 h1 q1 => by
   dsimp only at q1 ⊢
   split
   · rename_i hb; rw [if_pos hb] at q1
     exact ⟨M1, Q, q1, hr.kp k1, h1, fun b' M2 H2 k2 => en b' M2 H2 (k1.trans k2)⟩
   · rename_i hb; rw [if_neg hb] at q1
     exact en _ M1 H1 k1 h1 q1⟩
theorem w_or (ha : HT X a tA) (hb : HW X (.BoolOp .Or (b :: rest) pos) tB) : HW X (.BoolOp .Or (a :: b :: rest) pos) (tOr3 tA tB) := fun ρ M Q h =>
 (pw_or (ha.d (ρ := ρ)) (hb.d (ρ := ρ))).imp fun σ H Q2 ⟨hr, hh, en⟩ => ⟨M, _, h, hr, hh, fun b M1 H1 k1 h1 q1 => by
   dsimp only at q1 ⊢
   split
   · rename_i hb; rw [if_pos hb] at q1
     exact en _ M1 H1 k1 h1 q1
   · rename_i hb; rw [if_neg hb] at q1
     exact ⟨M1, Q, q1, hr.kp k1, h1, fun b' M2 H2 k2 => en b' M2 H2 (k1.trans k2)⟩⟩
noncomputable def tIf3 (t : TT3) (ta tb : TE3) : TE3 := fun ρ M Q => t ρ M fun c M1 => if c = true then ta ρ M1 Q else tb ρ M1 Q
theorem h_ifx (hc : HT X c tA) (ha : HE X a ta) (hb : HE X b tb) : HE X (.IfExp c a b pos) (tIf3 tA ta tb) := fun ρ M Q h =>
 (pe_ifExp (hc.d (ρ := ρ)) (ha.d (ρ := ρ)) (hb.d (ρ := ρ))).imp fun σ H Q2 ⟨hr, hh, en⟩ => ⟨M, _, h, hr, hh, fun b M1 H1 k1 h1 q1 => by
   dsimp only at q1 ⊢
   split
   · rename_i hb; rw [if_pos hb] at q1
     exact ⟨M1, Q, q1, hr.kp k1, h1, en.kp k1⟩
   · rename_i hb; rw [if_neg hb] at q1
     exact ⟨M1, Q, q1, hr.kp k1, h1, en.kp k1⟩⟩
noncomputable def tNil3 : TA3 := fun _ M Q => Q [] M
noncomputable def tCons3 (ta : TE3) (tr : TA3) : TA3 := fun ρ M Q => ta ρ M fun x M1 => tr ρ M1 fun xs M2 => Q (x :: xs) M2
theorem a_nil : HA X [] tNil3 := fun ρ M Q h => pa_nil.imp fun σ H Q2 ⟨hr, hh, en⟩ => en [] [] M H Kp.refl hh .nil h
theorem a_cons (ha : HE X a ta) (hr : HA X es t) (hs : starEach (a :: es) X.env = (false, eval a X.env) :: starEach es X.env := by rfl) : HA X (a :: es) (tCons3 ta t) := fun ρ M Q h =>
 (pa_cons (ha.d (ρ := ρ)) (hr.d (ρ := ρ)) hs).imp fun σ H Q2 ⟨hr, hh, en⟩ => ⟨M, _, h, hr, hh, fun x v M1 H1 k1 h1 r1 q1 => ⟨M1, _, q1, hr.kp k1, h1, fun ts vs M2 H2 k2 h2 r2 q2 =>
   en _ _ M2 H2 (k1.trans k2) h2 (.cons (Rep.kp k2 _ _ r1) r2) q2⟩⟩
noncomputable def tTup3 (t : TA3) : TE3 := fun ρ M Q => t ρ M fun xs M1 => xs.length ≤ sizeLine ∧ Q (.tup xs) M1
noncomputable def tLst3 (t : TA3) : TE3 := fun ρ M Q => t ρ M fun xs M1 => xs.length ≤ sizeLine ∧ ∀ p, M1 p = none → Q (.adr p) (updM M1 p (.lst xs))
theorem h_tup {x1} (h : HA X es t) : HE X (.Tuple es x1 pos) (tTup3 t) := fun ρ M Q q =>
 (pe_tup (h.d (ρ := ρ))).imp fun σ H Q2 ⟨hr, hh, en⟩ => ⟨M, _, q, hr, hh, fun ts vs M1 H1 k1 h1 r1 q1 =>
   ⟨by rw [r1.length]; exact q1.1, fun p hp => en _ _ M1 _ (k1.trans (Kp.new hp)) (h1.keep hp) (rep_tup (SqT.of upd_same) (Reps.kp (Kp.new hp) _ _ r1)) q1.2⟩⟩
theorem h_lst (h : HA X es t) : HE X (.List es pos) (tLst3 t) := fun ρ M Q q =>
 (pe_lst (h.d (ρ := ρ))).imp fun σ H Q2 ⟨hr, hh, en⟩ => ⟨M, _, q, hr, hh, fun ts vs M1 H1 k1 h1 r1 q1 =>
   ⟨by rw [r1.length]; exact q1.1, fun p hp => en _ _ _ _ (k1.trans (Kp.new hp)) (h1.newL hp r1) rep_adr (q1.2 p (h1.free hp))⟩⟩
noncomputable abbrev Sp3 := List T → MH → VK3 → Prop
noncomputable def dSp (K : PySem.W.Frag) (sp : Sp3) : Sp := fun vs H Q2 _ => ∃ ts M Q, Reps K H vs ts ∧ HR K H M ∧ sp ts M Q ∧ EndE K H Q Q2
structure Df (P : Program) (w : World) (K : PySem.W.Frag) (mg : Str → Option Value) (base : Heap) (n : Nat) (x : Str) (ps : List Str) (sp : Sp3) : Prop where
 out : ∃ f fd, FnOk P w K mg base CX0 n f fd ps (dSp K sp) ∧ mg x = some (.ref f) ∧ PySem.W.keepIn K (.ref f) = true ∧ Binds K fd ps []
theorem Df.mono {P : Program} {w : World} {K : PySem.W.Frag} {mg : Str → Option Value} {base : Heap} {n m : Nat} {x : Str} {ps : List Str} {sp : Sp3} (D : Df P w K mg base n x ps sp) (h : n ≤ m) : Df P w K mg base m x ps sp := by
 obtain ⟨f, fd, F, a, b, c⟩ := D.out
 exact ⟨f, fd, F.mono h, a, b, c⟩
noncomputable def tCall3 (sp : Sp3) (t : TA3) : TE3 := fun ρ M Q => t ρ M fun ts M1 => sp ts M1 Q
theorem h_call {n : Nat} {x : Str} {ps : List Str} {sp : Sp3} {p : Pos} (D : Df X.prog X.w X.K X.mg X.base n x ps sp) (hr : Room n X.A) (ha : HA X (e :: es) t) (hg : Gl X x := by rfl) (hdb : (x == ("__debug__" : Str)) = false := by decide)
   (he : starEach (e :: es) X.env = (false, eval e X.env) :: starEach es X.env := by rfl) (hpl : (backTo pos (starEach es X.env)).any (·.1) = false := by rfl) :
   HE X (.Call (.Name x p) (e :: es) [] pos) (tCall3 sp t) := fun ρ M Q h => by
 obtain ⟨f, fd, F, hm, hk, hb⟩ := D.out
 exact (pe_call F hr hg hm hk hb .nil pass0 (ha.d (ρ := ρ)) hdb he hpl).imp fun σ H Q2 ⟨hr, hh, en⟩ => ⟨M, _, h, hr, hh, fun ts vs M1 H1 k1 h1 r1 q1 =>
   ⟨ts, M1, Q, by rw [List.append_nil]; exact r1, h1, q1, en.kp k1⟩⟩
noncomputable def tCB3 (r : List T → MH → VK3 → Prop) (t : TA3) : TE3 := fun ρ M Q => t ρ M fun ts M1 => r ts M1 Q
theorem h_callB {x : Str} {id : String} {r : List T → MH → VK3 → Prop} {p : Pos} (hc : CallR3 X (.builtin id) r) (hm : X.mg x = none) (hv : bootBuiltins x = some (.builtin id)) (ha : HA X (e :: es) t) (hg : Gl X x := by rfl) (hn : x ≠ "__name__" := by decide) (hdb : (x == ("__debug__" : Str)) = false := by decide)
   (he : starEach (e :: es) X.env = (false, eval e X.env) :: starEach es X.env := by rfl) (hpl : (backTo pos (starEach es X.env)).any (·.1) = false := by rfl) : HE X (.Call (.Name x p) (e :: es) [] pos) (tCB3 r t) := fun ρ M Q h =>
 (pe_callB hc hg hm hv (ha.d (ρ := ρ)) hn hdb he hpl).imp fun σ H Q2 ⟨hr, hh, en⟩ => ⟨M, _, h, hr, hh, fun ts vs M1 H1 k1 h1 r1 q1 => ⟨ts, M1, Q, r1, h1, q1, en.kp k1⟩⟩
theorem h_callT {x : Str} {ty : String} {r : List T → MH → VK3 → Prop} {p : Pos} (hc : CallR3 X (.type ty) r) (hm : X.mg x = none) (hv : bootBuiltins x = some (.type ty)) (ha : HA X (e :: es) t) (hg : Gl X x := by rfl) (hn : x ≠ "__name__" := by decide) (hdb : (x == ("__debug__" : Str)) = false := by decide)
   (he : starEach (e :: es) X.env = (false, eval e X.env) :: starEach es X.env := by rfl) (hpl : (backTo pos (starEach es X.env)).any (·.1) = false := by rfl) : HE X (.Call (.Name x p) (e :: es) [] pos) (tCB3 r t) := fun ρ M Q h =>
 (pe_callTy hc hg hm hv (ha.d (ρ := ρ)) hn hdb he hpl).imp fun σ H Q2 ⟨hr, hh, en⟩ => ⟨M, _, h, hr, hh, fun ts vs M1 H1 k1 h1 r1 q1 => ⟨ts, M1, Q, r1, h1, q1, en.kp k1⟩⟩
end
section
variable {X : Cx}
theorem reps1 {K : PySem.W.Frag} {H : Hp} {vs : List V} {x : T} (r : Reps K H vs [x]) : ∃ v, vs = [v] ∧ Rep K H v x := by
 unfold Reps at r
 obtain ⟨v, w, rfl, h, r⟩ := r
 unfold Reps at r
 subst r
 exact ⟨v, rfl, h⟩
theorem reps2 {K : PySem.W.Frag} {H : Hp} {vs : List V} {x y : T} (r : Reps K H vs [x, y]) : ∃ v w, vs = [v, w] ∧ Rep K H v x ∧ Rep K H w y := by
 unfold Reps at r
 obtain ⟨v, r', rfl, h, r⟩ := r
 obtain ⟨w, rfl, h'⟩ := reps1 r
 exact ⟨v, w, rfl, h, h'⟩
noncomputable def rLen3 : List T → MH → VK3 → Prop := fun xs M Q => match xs with
 | [.tup ts] => Q (.int ts.length) M
 | [.rd ts] => Q (.int ts.length) M
 | [.adr p] => (match M p with | some (.lst ts) => Q (.int ts.length) M | _ => False)
 | [.str z] => z.length ≤ sizeLine ∧ Q (.int z.length) M
 | _ => False
theorem call3_len : CallR3 X (.builtin "len") rLen3 := by
 intro pins s σ H vs us Q2 I r h
 obtain ⟨xs, M, Q, rr, hh, q, en⟩ := h
 unfold rLen3 at q
 split at q
 · obtain ⟨v, rfl, r1⟩ := reps1 rr
   obtain ⟨p, ys, rfl, g1, g2⟩ := inv_tup r1
   exact call_len_seq pins s σ H _ us Q2 I r ⟨p, ys, rfl, .inr g1, by rw [g2.length]; exact en _ _ M H Kp.refl hh rep_int q⟩
 · obtain ⟨v, rfl, r1⟩ := reps1 rr
   obtain ⟨p, ys, rfl, g1, g2⟩ := inv_rd r1
   exact call_len_seq pins s σ H _ us Q2 I r ⟨p, ys, rfl, .inl g1.sq, by rw [g2.length]; exact en _ _ M H Kp.refl hh rep_int q⟩
 · obtain ⟨v, rfl, r1⟩ := reps1 rr
   obtain rfl := inv_adr r1
   split at q
   · rename_i ts e0
     obtain ⟨ys, g1, g2⟩ := hh _ _ e0
     exact call_len_seq pins s σ H _ us Q2 I r ⟨_, ys, rfl, .inl (SqL.of g1), by rw [g2.length]; exact en _ _ M H Kp.refl hh rep_int q⟩
   · exact q.elim
 · obtain ⟨v, rfl, r1⟩ := reps1 rr
   obtain rfl := inv_str r1
   exact call_len_str pins s σ H _ us Q2 I r ⟨_, rfl, q.1, en _ _ M H Kp.refl hh rep_int q.2⟩
 · exact q.elim
noncomputable def rAbs3 : List T → MH → VK3 → Prop := fun xs M Q => match xs with
 | [.int i] => Q (.int i.natAbs) M
 | _ => False
theorem call3_abs : CallR3 X (.builtin "abs") rAbs3 := by
 intro pins s σ H vs us Q2 I r h
 obtain ⟨xs, M, Q, rr, hh, q, en⟩ := h
 unfold rAbs3 at q
 split at q
 · rename_i i
   obtain ⟨v, rfl, r1⟩ := reps1 rr
   obtain rfl := inv_int r1
   refine call_abs pins s σ H _ us Q2 I r ⟨_, rfl, en _ _ M H Kp.refl hh ?_ q⟩
   have e : (if i < 0 then -i else i) = (i.natAbs : Int) := by split <;> lia
   rw [e]; exact rep_int
 · exact q.elim
noncomputable def rTuple3 : List T → MH → VK3 → Prop := fun xs M Q => match xs with
 | [.tup ts] => Q (.tup ts) M
 | [.rd ts] => Q (.tup ts) M
 | [.adr p] => (match M p with | some (.lst ts) => Q (.tup ts) M | _ => False)
 | _ => False
theorem call3_tuple : CallR3 X (.type "tuple") rTuple3 := by
 intro pins s σ H vs us Q2 I r h
 obtain ⟨xs, M, Q, rr, hh, q, en⟩ := h
 unfold rTuple3 at q
 split at q
 · obtain ⟨v, rfl, r1⟩ := reps1 rr
   obtain ⟨p, ys, rfl, g1, g2⟩ := inv_tup r1
   exact call_tuple_of pins s σ H _ us Q2 I r ⟨p, ys, rfl, .inr ⟨g1, en _ _ M H Kp.refl hh r1 q⟩⟩
 · obtain ⟨v, rfl, r1⟩ := reps1 rr
   obtain ⟨p, ys, rfl, g1, g2⟩ := inv_rd r1
   exact call_tuple_of pins s σ H _ us Q2 I r ⟨p, ys, rfl, .inl ⟨g1.sq, fun l hl => en _ _ M _ (Kp.new hl) (hh.keep hl) (rep_tup (SqT.of upd_same) (Reps.kp (Kp.new hl) _ _ g2)) q⟩⟩
 · obtain ⟨v, rfl, r1⟩ := reps1 rr
   obtain rfl := inv_adr r1
   split at q
   · rename_i ts e0
     obtain ⟨ys, g1, g2⟩ := hh _ _ e0
     exact call_tuple_of pins s σ H _ us Q2 I r ⟨_, ys, rfl, .inl ⟨SqL.of g1, fun l hl => en _ _ M _ (Kp.new hl) (hh.keep hl) (rep_tup (SqT.of upd_same) (Reps.kp (Kp.new hl) _ _ g2)) q⟩⟩
   · exact q.elim
 · exact q.elim
theorem call_all_bools (hc : X.calm = true) : CallR X (.builtin "all") (fun xs H Q => ∃ (p : Addr) (bs : List Bool), xs = [.ref p] ∧ SqL X.K H p (bs.map V.bl) ∧ Q (.bl (bs.all id)) H) := by
 intro pins s σ H xs us Q I r h
 obtain ⟨p, bs, rfl, hq, q⟩ := h
 obtain ⟨u, rfl, rx⟩ := vals1 r
 cases rx
 obtain ⟨its, r', pl, hz⟩ := I.list hq
 have hlen := r'.length
 refine call_all_walk (wpAny_pyIter_list pl.isList ?_)
 have hp : p < s.heap.objs.size := by obtain ⟨o, n, e, _⟩ := pl; exact Heap.lt_size e
 refine ⟨s.heap.objs.size, _, _, _, _, _, fun i => (bs[i]?).getD true, rfl, Walks.list (A := X.A.in1) (I.ok.hd hc) s.heap.objs.size p (Nat.ne_of_lt hp) its.toArray, ⟨⟨_, Heap.get?_push_size _ rfl, rfl, rfl⟩, pl.isList.push _⟩, ?_, fun h' tk hk => ?_⟩
 · intro i v s' Q' E' hP hQ
   have hP' : its[i]? = some v := by simpa using hP
   have hi : i < bs.length := by
     have := (List.getElem?_eq_some_iff.mp hP').1
     rw [List.length_map] at hlen; lia
   obtain ⟨w, hw, rw'⟩ := r'.get (i := i) (x := .bl bs[i]) (by rw [List.getElem?_map, List.getElem?_eq_getElem hi] <;> rfl)
   rw [hP'] at hw; cases hw
   obtain rfl : v = Value.bool bs[i] := rw'
   refine wpAny_truthy_bool ?_
   have e : (bs[i]?).getD true = bs[i] := by rw [List.getElem?_eq_getElem hi] <;> rfl
   dsimp only at hQ; rw [e] at hQ; exact hQ
 · have e : (List.range its.toArray.size).all (fun i => (bs[i]?).getD true) = bs.all id := by
     rw [List.length_map] at hlen
     rw [List.size_toArray, ← hlen]
     rw [Bool.eq_iff_iff]
     simp only [List.all_eq_true, List.mem_range, id]
     constructor
     · intro h b hb
       obtain ⟨i, hi, rfl⟩ := List.getElem_of_mem hb
       have := h i hi
       rw [List.getElem?_eq_getElem hi] at this; exact this
     · intro h i hi
       rw [List.getElem?_eq_getElem hi]; exact h _ (List.getElem_mem hi)
   rw [e]
   have I1 : Inv X pins σ H { s with heap := h', toks := tk } := I.kept fun b o eb => hk b o (by
     intro hm
     have : b = s.heap.objs.size := by simpa using hm
     rw [this] at eb
     exact absurd (Heap.lt_size eb) (Nat.lt_irrefl _)) (Heap.get?_push_of_some _ eb)
   exact ⟨.bl _, H, I1, rfl, q⟩
noncomputable def bools : List T → Option (List Bool)
 | [] => some []
 | .bl b :: ts => (bools ts).map (b :: ·)
 | _ :: _ => none
theorem bools_reps {K : PySem.W.Frag} {H : Hp} : ∀ {vs : List V} {ts : List T} {bs : List Bool}, Reps K H vs ts → bools ts = some bs → vs = bs.map V.bl
 | vs, [], bs, h, e => by unfold bools at e; cases e; unfold Reps at h; exact h
 | vs, t :: ts, bs, h, e => by
   unfold Reps at h
   obtain ⟨v, r, rfl, h1, h2⟩ := h
   cases t with
   | bl b =>
     unfold bools at e
     cases q : bools ts with
     | none => rw [q] at e; cases e
     | some cs =>
       rw [q] at e; cases e
       obtain rfl := inv_bl h1
       rw [bools_reps h2 q]; rfl
   | _ => unfold bools at e; cases e
noncomputable def rAll3 : List T → MH → VK3 → Prop := fun xs M Q => match xs with
 | [.adr p] => (match M p with | some (.lst ts) => (match bools ts with | some bs => Q (.bl (bs.all id)) M | none => False) | _ => False)
 | _ => False
theorem call3_all (hc : X.calm = true) : CallR3 X (.builtin "all") rAll3 := by
 intro pins s σ H vs us Q2 I r h
 obtain ⟨xs, M, Q, rr, hh, q, en⟩ := h
 unfold rAll3 at q
 split at q
 · obtain ⟨v, rfl, r1⟩ := reps1 rr
   obtain rfl := inv_adr r1
   split at q
   · rename_i ts e0
     obtain ⟨ys, g1, g2⟩ := hh _ _ e0
     split at q
     · rename_i bs eb
       obtain rfl := bools_reps g2 eb
       exact call_all_bools hc pins s σ H _ us Q2 I r ⟨_, bs, rfl, SqL.of g1, en _ _ M H Kp.refl hh rep_bl q⟩
     · exact q.elim
   · exact q.elim
 · exact q.elim
end
end L2
namespace L2
open PySem PySem.Spec PyProof.Rows
section
variable {X : Cx} {a b c e : Expr} {st : Stmt} {rest ba bb body : List Stmt} {ta tb te : TE3} {tA : TT3} {t u : TS3} {pos : Pos}
noncomputable def tNext3 : TS3 := fun D ρ M => D.nx ρ M
noncomputable def tSeq3 (t u : TS3) : TS3 := fun D ρ M => t { D with nx := u D } ρ M
theorem EndS.nx' {K : PySem.W.Frag} {H : Hp} {D : Ends3} {D2 : Ends} {t : TS3} (h : EndS K H D D2) : EndS K H { D with nx := t D } { D2 with nx := dS K t D2 } :=
 ⟨fun ρ' M' σ' H' k r hh q => ⟨D, ρ', M', q, r, hh, h.kp k⟩, h.rt, h.bk, h.ct⟩
theorem ss_nil : HSs X [] tNext3 := fun D ρ M h => pss_nil.imp fun D2 σ H ⟨hr, hh, en⟩ => en.nx ρ M σ H Kp.refl hr hh h
theorem ss_cons (h1 : HS X st t) (h2 : HSs X rest u) : HSs X (st :: rest) (tSeq3 t u) := fun D ρ M h =>
 (pss_cons h1.d h2.d).imp fun D2 σ H ⟨hr, hh, en⟩ => ⟨{ D with nx := u D }, ρ, M, h, hr, hh, en.nx'⟩
theorem ss_one (h1 : HS X st t) : HSs X [st] t := fun D ρ M h => pss_one (h1 D ρ M h)
noncomputable def tRet3 (te : TE3) : TS3 := fun D ρ M => te ρ M D.rt
theorem s_ret (he : HE X e te) : HS X (.Return (some e) pos) (tRet3 te) := fun D ρ M h =>
 (ps_ret (he.d (ρ := ρ))).imp fun D2 σ H ⟨hr, hh, en⟩ => ⟨M, _, h, hr, hh, en.rt⟩
noncomputable def tIfS3 (c : TT3) (t u : TS3) : TS3 := fun D ρ M => c ρ M fun b M1 => if b = true then t D ρ M1 else u D ρ M1
theorem s_if (hc : HT X c tA) (ha : HSs X ba t) (hb : HSs X bb u) : HS X (.If c ba bb pos) (tIfS3 tA t u) := fun D ρ M h =>
 (ps_if (hc.d (ρ := ρ)) ha.d hb.d).imp fun D2 σ H ⟨hr, hh, en⟩ => ⟨M, _, h, hr, hh, fun b M1 H1 k1 h1 q1 => by
   dsimp only at q1 ⊢
   split
   · rename_i hb; rw [if_pos hb] at q1
     exact ⟨D, ρ, M1, q1, hr.kp k1, h1, en.kp k1⟩
   · rename_i hb; rw [if_neg hb] at q1
     exact ⟨D, ρ, M1, q1, hr.kp k1, h1, en.kp k1⟩⟩
noncomputable def tNever3 : TS3 := fun _ _ _ => False
theorem s_never : HS X st tNever3 := fun _ _ _ h => h.elim
noncomputable def tDrop3 (te : TE3) : TS3 := fun D ρ M => te ρ M fun _ M1 => D.nx ρ M1
theorem s_expr (he : HE X e te) (hs : swapsWith e none pos.line X.env = pure false := by rfl) : HS X (.Expr e pos) (tDrop3 te) := fun D ρ M h =>
 (ps_expr (he.d (ρ := ρ)) hs).imp fun D2 σ H ⟨hr, hh, en⟩ => ⟨M, _, h, hr, hh, fun x v M1 H1 k1 h1 r1 q1 => en.nx ρ M1 σ H1 k1 (hr.kp k1) h1 q1⟩
noncomputable def tSet3 (i : Nat) (te : TE3) : TS3 := fun D ρ M => te ρ M fun x M1 => D.nx (ρ.set i (some x)) M1
theorem s_set {i : Nat} {x : Str} {pos' : Pos} (he : HE X e te) (hN : X.N.Nodup) (hi : X.N[i]? = some x := by rfl) (hx : Loc X.env.scope x := by first | exact Or.inl rfl | exact Or.inr rfl) (hs : swapsWith e (some (.Name x pos')) pos.line X.env = pure false := by rfl)
   (hf : X.fn x = true ∨ X.env.scope.names.lookup x = some .local := by first | exact .inl rfl | exact .inr rfl | assumption) : HS X (.Assign [.Name x pos'] e pos) (tSet3 i te) := fun D ρ M h =>
 (ps_set hN hi hx (he.d (ρ := ρ)) hs hf).imp fun D2 σ H ⟨hr, hh, en⟩ => ⟨M, _, h, hr, hh, fun t v M1 H1 k1 h1 r1 q1 => en.nx _ M1 _ H1 k1 ((hr.kp k1).set i r1) h1 q1⟩
noncomputable abbrev TG3 := T → En → MH → (En → MH → Prop) → Prop
noncomputable abbrev TGs3 := List T → En → MH → (En → MH → Prop) → Prop
noncomputable def EndG (K : PySem.W.Frag) (H : Hp) (Q : En → MH → Prop) (Q2 : St → Hp → Prop) : Prop := ∀ ρ' M' σ' H', Kp K H H' → RhoR K σ' H' ρ' → HR K H' M' → Q ρ' M' → Q2 σ' H'
noncomputable def dG (K : PySem.W.Frag) (g : TG3) : TG := fun v σ H Q2 => ∃ t ρ M Q, g t ρ M Q ∧ Rep K H v t ∧ RhoR K σ H ρ ∧ HR K H M ∧ EndG K H Q Q2
noncomputable def dGs (K : PySem.W.Frag) (g : TGs3) : TGs := fun vs σ H Q2 => ∃ ts ρ M Q, g ts ρ M Q ∧ Reps K H vs ts ∧ RhoR K σ H ρ ∧ HR K H M ∧ EndG K H Q Q2
noncomputable def HG (X : Cx) (tg : Expr) (g : TG3) : Prop := PG X tg (dG X.K g)
noncomputable def HGs (X : Cx) (tgs : List Expr) (g : TGs3) : Prop := PGs X tgs (dGs X.K g)
noncomputable def gName3 (i : Nat) : TG3 := fun t ρ M Q => Q (ρ.set i (some t)) M
theorem PG.imp {tg : Expr} {g g' : TG} (h : PG X tg g) (f : ∀ v σ H Q, g' v σ H Q → g v σ H Q) : PG X tg g' := fun pins s σ H v u Q I r q => h pins s σ H v u Q I r (f v σ H Q q)
theorem PGs.imp {tg : List Expr} {g g' : TGs} (h : PGs X tg g) (f : ∀ v σ H Q, g' v σ H Q → g v σ H Q) : PGs X tg g' := fun pins s σ H v u Q I r q => h pins s σ H v u Q I r (f v σ H Q q)
theorem g_name {i : Nat} {x : Str} (hN : X.N.Nodup) (hi : X.N[i]? = some x := by rfl) (hx : Loc X.env.scope x := by first | exact Or.inl rfl | exact Or.inr rfl) (hf : X.fn x = true ∨ X.env.scope.names.lookup x = some .local := by first | exact .inl rfl | exact .inr rfl | assumption) : HG X (.Name x pos) (gName3 i) :=
 (pg_name hN hi hx hf).imp fun v σ H Q2 ⟨t, ρ, M, Q, q, r, hr, hh, en⟩ => en _ M _ H Kp.refl (hr.set i r) hh q
noncomputable def gNil3 : TGs3 := fun ts ρ M Q => ts = [] ∧ Q ρ M
noncomputable def gCons3 (g : TG3) (gs : TGs3) : TGs3 := fun ts ρ M Q => match ts with
 | t :: r => g t ρ M fun ρ1 M1 => gs r ρ1 M1 Q
 | [] => False
theorem gs_nil : HGs X [] gNil3 := pgs_nil.imp fun v σ H Q2 ⟨ts, ρ, M, Q, ⟨e, q⟩, r, hr, hh, en⟩ => by
 subst e
 unfold Reps at r
 exact ⟨r, en ρ M σ H Kp.refl hr hh q⟩
theorem gs_cons {es : List Expr} {g : TG3} {gs : TGs3} (h1 : HG X e g) (h2 : HGs X es gs) (hs : (assignEach (e :: es) X.env).map (·.2) = assign e X.env :: (assignEach es X.env).map (·.2) := by rfl) : HGs X (e :: es) (gCons3 g gs) :=
 (pgs_cons h1 h2 hs).imp fun vs σ H Q2 ⟨ts, ρ, M, Q, q, r, hr, hh, en⟩ => by
   unfold gCons3 at q
   split at q
   · rename_i t r'
     unfold Reps at r
     obtain ⟨v, vr, rfl, r1, r2⟩ := r
     exact ⟨v, vr, rfl, t, ρ, M, _, q, r1, hr, hh, fun ρ' M' σ' H' k hr' hh' q' => ⟨r', ρ', M', Q, q', Reps.kp k _ _ r2, hr', hh', fun ρ2 M2 σ2 H2 k2 => en ρ2 M2 σ2 H2 (k.trans k2)⟩⟩
   · exact q.elim
noncomputable def gTup3 (n : Nat) (gs : TGs3) : TG3 := fun t ρ M Q => match t with
 | .tup ts => ts.length = n ∧ gs ts ρ M Q
 | _ => False
theorem g_tup {es : List Expr} {k : Nat} {gs : TGs3} {n : Nat} (hc : X.calm = true) (h : HGs X es gs) (hn : (assignEach es X.env).length = n := by rfl) (hst : (assignEach es X.env).findIdx? (·.1) = none := by rfl) : HG X (.Tuple es k pos) (gTup3 n gs) :=
 (pg_tup hc h hn hst).imp fun v σ H Q2 ⟨t, ρ, M, Q, q, r, hr, hh, en⟩ => by
   unfold gTup3 at q
   split at q
   · rename_i ts
     obtain ⟨a, xs, rfl, g1, g2⟩ := inv_tup r
     exact ⟨a, xs, rfl, g1, by rw [g2.length]; exact q.1, ts, ρ, M, Q, q.2, g2, hr, hh, en⟩
   · exact q.elim
noncomputable def gSub3 (to ti : TE3) : TG3 := fun v ρ M Q => to ρ M fun o M1 => ti ρ M1 fun i M2 => match o, i with
 | .adr p, .int k => (match M2 p with
   | some (.lst ts) => (match ixN ts.length k with | some j => Q ρ (updM M2 p (.lst (ts.set j v))) | none => False)
   | _ => False)
 | _, _ => False
theorem g_sub {o i : Expr} {to ti : TE3} (ho : HE X o to) (hi : HE X i ti)
   (ha : ∀ v, assign (.Subscript o i pos) X.env v = (do
     let ov ← holding [v] (eval o X.env)
     let iv ← holding [v, ov] (eval i X.env)
     standAt pos
     holding [v, ov, iv] (setItem ov iv v)
     release [v, ov, iv] []) := by intro _; rfl) : HG X (.Subscript o i pos) (gSub3 to ti) := by
 intro pins s σ H v u Q2 I r h
 obtain ⟨t, ρ, M, Q, q, rt, hr, hh, en⟩ := h
 refine pg_sub (ho.d (ρ := ρ)) (hi.d (ρ := ρ)) set_list ha pins s σ H v u Q2 I r ?_
 refine ⟨M, _, q, hr, hh, fun ot ov M1 H1 k1 h1 r1 q1 => ⟨M1, _, q1, hr.kp k1, h1, fun it iv M2 H2 k2 h2 r2 q2 => ?_⟩⟩
 dsimp only at q2
 split at q2
 · obtain rfl := inv_adr r1
   obtain rfl := inv_int r2
   split at q2
   · rename_i ts e0
     obtain ⟨xs, g1, g2⟩ := h2 _ _ e0
     split at q2
     · rename_i j ej
       have kk := k1.trans k2
       refine ⟨_, xs, _, j, rfl, rfl, g1, by rw [g2.length]; exact ej, en _ _ σ _ (kk.trans (Kp.lst g1)) (hr.kp (kk.trans (Kp.lst g1))) (h2.setL g1 (g2.set (Rep.kp kk _ _ rt) j)) q2⟩
     · exact q2.elim
   · exact q2.elim
 · exact q2.elim
noncomputable def tAsg3 (te : TE3) (g : TG3) : TS3 := fun D ρ M => te ρ M fun x M1 => g x ρ M1 D.nx
theorem s_asg {tg : Expr} {g : TG3} (he : HE X e te) (hg : HG X tg g) (hs : swapsWithSole [tg] e pos.line X.env = pure false := by rfl) (hw : swappedStores [tg] e X.env = pure none := by rfl)
   (h1 : (assignEach [tg] X.env).map (·.2) = [assign tg X.env] := by rfl) : HS X (.Assign [tg] e pos) (tAsg3 te g) := fun D ρ M h =>
 (ps_asg (he.d (ρ := ρ)) hg hs hw h1).imp fun D2 σ H ⟨hr, hh, en⟩ => ⟨M, _, h, hr, hh, fun t v M1 H1 k1 h1 r1 q1 => ⟨t, ρ, M1, D.nx, q1, r1, hr.kp k1, h1, fun ρ' M' σ' H' k r hh' q => en.nx ρ' M' σ' H' (k1.trans k) r hh' q⟩⟩
structure It3 where
 items : List T
 stay : MH → Prop := fun _ => True
noncomputable abbrev TI3 := En → MH → (It3 → MH → Prop) → Prop
structure ItOk (K : PySem.W.Frag) (H : Hp) (J2 : It) (J : It3) : Prop where
 stop : ∀ H' M', Kp K H H' → HR K H' M' → J.stay M' → J2.stop J.items.length H'
 go : ∀ (i : Nat) (x : T) H' M', J.items[i]? = some x → Kp K H H' → HR K H' M' → J.stay M' → J2.go i H' ∧ ∀ v H'', J2.yld i H' v H'' → Kp K H' H'' ∧ HR K H'' M' ∧ Rep K H'' v x
noncomputable def HI (X : Cx) (tg iter : Expr) (wi : TI3) : Prop := ∀ ρ M R, wi ρ M R → PI X tg iter (fun σ H R2 => RhoR X.K σ H ρ ∧ HR X.K H M ∧ ∀ J J2 M' H', Kp X.K H H' → HR X.K H' M' → ItOk X.K H' J2 J → R J M' → R2 J2 H')
noncomputable def dI (K : PySem.W.Frag) (ρ : En) (wi : TI3) : TI := fun σ H R2 => ∃ M R, wi ρ M R ∧ RhoR K σ H ρ ∧ HR K H M ∧ ∀ J J2 M' H', Kp K H H' → HR K H' M' → ItOk K H' J2 J → R J M' → R2 J2 H'
theorem HI.d {tg iter : Expr} {wi : TI3} {ρ : En} (h : HI X tg iter wi) : PI X tg iter (dI X.K ρ wi) := fun pins s σ H R I ⟨M, R3, q, b⟩ => h ρ M R3 q pins s σ H R I b
theorem PI.imp {tg iter : Expr} {w w' : TI} (h : PI X tg iter w) (f : ∀ σ H R, w' σ H R → w σ H R) : PI X tg iter w' := fun pins s σ H R I q => h pins s σ H R I (f σ H R q)
noncomputable def iSeq3 (tl : TE3) : TI3 := fun ρ M R => tl ρ M fun x M1 => match x with
 | .tup ts => R ⟨ts, fun _ => True⟩ M1
 | .adr p => (match M1 p with | some (.lst ts) => R ⟨ts, fun M' => M' p = some (.lst ts)⟩ M1 | _ => False)
 | _ => False
theorem itok_tup {K : PySem.W.Frag} {H : Hp} {a : Addr} {xs : List V} {ts : List T} (h : SqT K H a xs) (r : Reps K H xs ts) : ItOk K H (Itt K a) ⟨ts, fun _ => True⟩ := by
 refine ⟨fun H' M' k hh _ => ⟨xs, k.tup _ _ h, by rw [r.length]; exact Nat.le_refl _⟩, fun i x H' M' e k hh _ => ?_⟩
 obtain ⟨v, e1, r1⟩ := r.get e
 refine ⟨⟨xs, v, k.tup _ _ h, e1⟩, fun v' H'' y => ?_⟩
 obtain ⟨rfl, y⟩ := y
 have := y xs (k.tup _ _ h)
 rw [e1] at this; cases this
 exact ⟨Kp.refl, hh, Rep.kp k _ _ r1⟩
theorem itok_lst {K : PySem.W.Frag} {H : Hp} {a : Addr} {ts : List T} : ItOk K H (Itl K a) ⟨ts, fun M' => M' a = some (.lst ts)⟩ := by
 refine ⟨fun H' M' k hh st => ?_, fun i x H' M' e k hh st => ?_⟩
 · obtain ⟨xs, g1, g2⟩ := hh _ _ st
   exact ⟨xs, SqL.of g1, by rw [g2.length]; exact Nat.le_refl _⟩
 · obtain ⟨xs, g1, g2⟩ := hh _ _ st
   obtain ⟨v, e1, r1⟩ := g2.get e
   refine ⟨⟨xs, v, SqL.of g1, e1⟩, fun v' H'' y => ?_⟩
   obtain ⟨rfl, y⟩ := y
   have := y xs (SqL.of g1)
   rw [e1] at this; cases this
   exact ⟨Kp.refl, hh, r1⟩
noncomputable def rangeT (lo : Int) (n : Nat) : List T := (List.range n).map fun i => T.int (lo + (i : Nat))
theorem itok_range {K : PySem.W.Frag} {H : Hp} {lo : Int} {n : Nat} : ItOk K H (Itr lo n) ⟨rangeT lo n, fun _ => True⟩ := by
 have hl : (rangeT lo n).length = n := by unfold rangeT; simp
 refine ⟨fun H' M' k hh _ => by show n ≤ (rangeT lo n).length; rw [hl]; exact Nat.le_refl _, fun i x H' M' e k hh _ => ?_⟩
 have hi : i < n := by have := (List.getElem?_eq_some_iff.mp e).1; rwa [hl] at this
 have ex : x = .int (lo + (i : Nat)) := by
   unfold rangeT at e
   rw [List.getElem?_map, List.getElem?_range hi] at e
   exact (Option.some.inj e).symm
 subst ex
 refine ⟨hi, fun v H'' y => ?_⟩
 obtain ⟨rfl, rfl⟩ := y
 exact ⟨Kp.refl, hh, rep_int⟩
theorem i_seq {tg l : Expr} {tl : TE3} (hl : HE X l tl) : HI X tg l (iSeq3 tl) := by
 intro ρ M R h pins s σ H R2 I b
 obtain ⟨hr, hh, en⟩ := b
 refine thn (hl ρ M _ h pins s σ H (fun v H1 => ∃ t M1, Kp X.K H H1 ∧ HR X.K H1 M1 ∧ Rep X.K H1 v t ∧ (match t with
   | .tup ts => R ⟨ts, fun _ => True⟩ M1
   | .adr p => (match M1 p with | some (.lst ts) => R ⟨ts, fun M' => M' p = some (.lst ts)⟩ M1 | _ => False)
   | _ => False)) I ⟨hr, hh, fun t v M1 H1 k1 h1 r1 q1 => ⟨t, M1, k1, h1, r1, q1⟩⟩) fun v s1 ⟨x, H1, I1, rv, t, M1, k1, h1, r1, q1⟩ => ?_
 split at q1
 · rename_i ts
   obtain ⟨a, xs, rfl, g1, g2⟩ := inv_tup r1
   cases rv
   obtain ⟨its, rv, p, hz⟩ := I1.tuple g1
   refine wpAny_pyIter_tuple (show s1.heap.IsTuple a its.toArray from p) ?_
   refine ⟨s1.heap.objs.size, [s1.heap.objs.size], _, _, H1, rfl, I1.kept (t' := s1.toks) fun b o e => Heap.get?_push_of_some _ e, turn_tuple a _, ⟨_, Heap.get?_push_size _ rfl, rfl, rfl⟩, fun b hb => ?_, en _ _ M1 H1 k1 h1 (itok_tup g1 g2) q1⟩
   have e : b = s1.heap.objs.size := by simpa using hb
   subst e
   exact I1.fpOk (Nat.le_refl _) (I1.hok.fresh (Nat.le_refl _))
 · rename_i a
   obtain rfl := inv_adr r1
   cases rv
   split at q1
   · rename_i ts e0
     obtain ⟨xs, g1, g2⟩ := h1 _ _ e0
     obtain ⟨its, rv, p, hz⟩ := I1.list (SqL.of g1)
     refine wpAny_pyIter_list p.isList ?_
     refine ⟨s1.heap.objs.size, [s1.heap.objs.size], _, _, H1, rfl, I1.kept (t' := s1.toks) fun b o e => Heap.get?_push_of_some _ e, turn_list a _, ⟨_, Heap.get?_push_size _ rfl, rfl, rfl⟩, fun b hb => ?_, en _ _ M1 H1 k1 h1 itok_lst q1⟩
     have e : b = s1.heap.objs.size := by simpa using hb
     subst e
     exact I1.fpOk (Nat.le_refl _) (I1.hok.fresh (Nat.le_refl _))
   · exact q1.elim
 · exact q1.elim
noncomputable def iRng1_3 (t : TA3) : TI3 := fun ρ M R => t ρ M fun xs M1 => match xs with
 | [.int j] => -(2 ^ 62) ≤ j ∧ j < 2 ^ 62 ∧ R ⟨rangeT 0 j.toNat, fun _ => True⟩ M1
 | _ => False
noncomputable def iRng2_3 (t : TA3) : TI3 := fun ρ M R => t ρ M fun xs M1 => match xs with
 | [.int i, .int j] => (-(2 ^ 62) ≤ i ∧ i < 2 ^ 62 ∧ -(2 ^ 62) ≤ j ∧ j < 2 ^ 62) ∧ R ⟨rangeT i (j - i).toNat, fun _ => True⟩ M1
 | _ => False
theorem i_range1 {tg : Expr} {t : TA3} {p : Pos} (hm : X.mg "range" = none) (ha : HA X [a] t) (hg : Gl X "range" := by rfl) (hs : starEach [a] X.env = [(false, eval a X.env)] := by rfl) : HI X tg (.Call (.Name "range" p) [a] [] pos) (iRng1_3 t) := fun ρ M R h =>
 (pi_range1 hg hm (ha.d (ρ := ρ)) hs).imp fun σ H R2 ⟨hr, hh, en⟩ => ⟨M, _, h, hr, hh, fun ts vs M1 H1 k1 h1 r1 q1 => by
   dsimp only at q1
   split at q1
   · rename_i j
     obtain ⟨v, rfl, rv⟩ := reps1 r1
     obtain rfl := inv_int rv
     exact ⟨j, rfl, q1.1, q1.2.1, en _ _ M1 H1 k1 h1 itok_range q1.2.2⟩
   · exact q1.elim⟩
noncomputable def tFor3 (wi : TI3) (g : TG3) (tb : TS3) : TS3 := fun D ρ M => wi ρ M fun J M1 => ∃ W : Nat → En → MH → Prop, W 0 ρ M1 ∧ (∀ i ρ M, W i ρ M → J.stay M) ∧
 (∀ i x ρ M, J.items[i]? = some x → W i ρ M → g x ρ M fun ρ2 M2 => tb { D with nx := W (i + 1), ct := W (i + 1), bk := D.nx } ρ2 M2) ∧ ∀ ρ M, W J.items.length ρ M → D.nx ρ M
theorem s_for {tg iter : Expr} {wi : TI3} {g : TG3} {tb : TS3} (hp : PassesOwn (model X.prog X.w) X.A X.env X.xe) (hc : X.calm = true) (hi : HI X tg iter wi) (hg : HG X tg g) (hb : HSs X body tb)
   (hs : ∀ x, foldedSetIterable iter X.env x = pure x := by intro _; rfl) : HS X (.For tg iter body [] pos) (tFor3 wi g tb) := fun D ρ0 M0 h =>
 (ps_for hp hc (hi.d (ρ := ρ0)) hg hb.d hs).imp fun D2 σ0 H0 ⟨hr0, hh0, en⟩ => ⟨M0, _, h, hr0, hh0, fun J J2 M1 H1 k1 h1 ok q1 => by
   obtain ⟨W, w0, wst, turn, fin⟩ := q1
   refine ⟨fun i m σ H => m = J.items.length - i ∧ i ≤ J.items.length ∧ Kp X.K H1 H ∧ ∃ ρ M, RhoR X.K σ H ρ ∧ HR X.K H M ∧ W i ρ M, ⟨_, rfl, Nat.zero_le _, Kp.refl, ρ0, M1, hr0.kp k1, h1, w0⟩, ?_⟩
   rintro i m σ H ⟨rfl, hi, kk, ρ, M, hr, hh, w⟩
   have st := wst i ρ M w
   by_cases hlt : i < J.items.length
   · have e : J.items[i]? = some J.items[i] := List.getElem?_eq_getElem hlt
     obtain ⟨go, yl⟩ := ok.go i _ H M e kk hh st
     refine .inr ⟨go, fun σ' H' => i + 1 ≤ J.items.length ∧ Kp X.K H1 H' ∧ ∃ ρ M, RhoR X.K σ' H' ρ ∧ HR X.K H' M ∧ W (i + 1) ρ M, fun σ' H' ⟨a, b, c⟩ => ⟨_, by lia, rfl, a, b, c⟩, fun v H' y => ?_⟩
     obtain ⟨k2, h2, r2⟩ := yl v H' y
     refine ⟨J.items[i], ρ, M, _, turn i _ ρ M e w, r2, hr.kp k2, h2, fun ρ3 M3 σ3 H3 k3 hr3 hh3 q3 => ⟨_, ρ3, M3, q3, hr3, hh3, ?_⟩⟩
     have kall := kk.trans (k2.trans k3)
     refine ⟨fun ρ4 M4 σ4 H4 k4 hr4 hh4 q4 => ⟨hlt, kall.trans k4, ρ4, M4, hr4, hh4, q4⟩, fun t v M4 H4 k4 h4 r4 q4 => en.rt t v M4 H4 (k1.trans (kall.trans k4)) h4 r4 q4, fun ρ4 M4 σ4 H4 k4 hr4 hh4 q4 => en.nx ρ4 M4 σ4 H4 (k1.trans (kall.trans k4)) hr4 hh4 q4, fun ρ4 M4 σ4 H4 k4 hr4 hh4 q4 => ⟨hlt, kall.trans k4, ρ4, M4, hr4, hh4, q4⟩⟩
   · have e : i = J.items.length := by lia
     subst e
     exact .inl ⟨ok.stop H M kk hh st, en.nx ρ M σ H (k1.trans kk) hr hh (fin ρ M w)⟩⟩
noncomputable def pick3 (ix : List (Option Nat)) (ρ : En) : En := ix.map fun o => match o with | some j => (ρ[j]?).join | none => none
theorem rho_pick {K : PySem.W.Frag} {σ : St} {H : Hp} {ρ : En} (ix : List (Option Nat)) (h : RhoR K σ H ρ) : RhoR K (pick ix σ) H (pick3 ix ρ) := by
 refine ⟨by unfold pick pick3; simp, fun i t e => ?_⟩
 unfold pick3 at e
 unfold pick
 rw [List.getElem?_map] at e ⊢
 cases hx : ix[i]? with
 | none => rw [hx] at e; cases e
 | some o =>
   rw [hx] at e
   cases o with
   | none =>
     have e' : (none : Option T) = some t := Option.some.inj e
     cases e'
   | some j =>
     have e' : (ρ[j]?).join = some t := Option.some.inj e
     cases hj : ρ[j]? with
     | none => rw [hj] at e'; cases e'
     | some u =>
       rw [hj] at e'
       have e2 : u = some t := e'
       subst e2
       obtain ⟨v, a, b⟩ := h.2 j t hj
       exact ⟨v, by show some ((σ[j]?).join) = some (some v); rw [a] <;> rfl, b⟩
noncomputable def tComp3 (wi : TI3) (ix : List (Option Nat)) (g : TG3) (tt : TT3) (te : TE3) : TE3 := fun ρ M Q => wi ρ M fun J M1 => ∃ W : Nat → List T → MH → Prop, W 0 [] M1 ∧ (∀ i ys M, W i ys M → J.stay M) ∧ J.items.length < sizeLine ∧
 (∀ i x ys M, J.items[i]? = some x → W i ys M → g x (pick3 ix ρ) M fun ρ2 M2 => tt ρ2 M2 fun ok M3 => if ok = true then te ρ2 M3 fun y M4 => W (i + 1) (ys ++ [y]) M4 else W (i + 1) ys M3) ∧
 ∀ ys M, W J.items.length ys M → ∀ p, M p = none → Q (.adr p) (updM M p (.lst ys))
noncomputable def HTs (X : Cx) (ifs : List Expr) (t : TT3) : Prop := ∀ ρ M Q, t ρ M Q → PTs X ifs (bT X.K ρ M Q)
noncomputable def tYes3 : TT3 := fun _ M Q => Q true M
theorem ts_nil : HTs X [] tYes3 := fun ρ M Q h pins s σ H Q2 I ⟨hr, hh, en⟩ => pts_nil pins s σ H Q2 I (en true M H Kp.refl hh h)
theorem ts_one {c : Expr} {t : TT3} (h : HT X c t) : HTs X [c] t := fun ρ M Q q => pts_one (h ρ M Q q)
end
end L2
namespace L2
open PySem PySem.Spec PyProof.Rows
noncomputable def dEx (K : PySem.W.Frag) (t : TE3) : TE := fun σ H Q2 => ∃ ρ M Q, t ρ M Q ∧ bE K ρ M Q σ H Q2
noncomputable def dTx (K : PySem.W.Frag) (t : TT3) : TT := fun σ H Q2 => ∃ ρ M Q, t ρ M Q ∧ bT K ρ M Q σ H Q2
section
variable {X : Cx} {e : Expr}
theorem HE.dx {t : TE3} (h : HE X e t) : PE X e (dEx X.K t) := fun pins s σ H Q I ⟨ρ, M, Q3, q, b⟩ => h ρ M Q3 q pins s σ H Q I b
theorem HTs.dx {ifs : List Expr} {t : TT3} (h : HTs X ifs t) : PTs X ifs (dTx X.K t) := fun pins s σ H Q I ⟨ρ, M, Q3, q, b⟩ => h ρ M Q3 q pins s σ H Q I b
structure BTg (K : PySem.W.Frag) (ix : List (Option Nat)) (g2 : TG) (g3 : TG3) : Prop where
 own : Own ix g2
 br : ∀ (t : T) (v : V) (ρ : En) (M : MH) (σ : St) (H : Hp) (Q3 : En → MH → Prop) (Q2 : St → Hp → Prop), Rep K H v t → RhoR K σ H ρ → HR K H M → g3 t ρ M Q3 → EndG K H Q3 Q2 → g2 v σ H Q2
theorem bt_name {K : PySem.W.Frag} {ix : List (Option Nat)} {i : Nat} (h : ix[i]? = some none := by rfl) : BTg K ix (gName i) (gName3 i) :=
 ⟨own_name h, fun t v ρ M σ H Q3 Q2 r hr hh q en => en _ M _ H Kp.refl (hr.set i r) hh q⟩
theorem bt_tup2 {K : PySem.W.Frag} {ix : List (Option Nat)} {i j : Nat} (h : ix[i]? = some none := by rfl) (h' : ix[j]? = some none := by rfl) : BTg K ix (gTup K 2 (gCons (gName i) (gCons (gName j) gNil))) (gTup3 2 (gCons3 (gName3 i) (gCons3 (gName3 j) gNil3))) := by
 refine ⟨own_tup (owns_cons gmono_name (own_name h) (owns_cons gmono_name (own_name h') owns_nil)), fun t v ρ M σ H Q3 Q2 r hr hh q en => ?_⟩
 unfold gTup3 at q
 split at q
 · rename_i ts
   obtain ⟨a, xs, rfl, g1, g2⟩ := inv_tup r
   obtain ⟨hl, q⟩ := q
   match ts, hl, g2, q with
   | [x, y], _, g2, q =>
     obtain ⟨v1, v2, rfl, r1, r2⟩ := reps2 g2
     refine ⟨a, _, rfl, g1, rfl, v1, [v2], rfl, v2, [], rfl, rfl, ?_⟩
     exact en _ M _ H Kp.refl ((hr.set i r1).set j r2) hh q.2
 · exact q.elim
variable {elt iter tg : Expr} {ifs : List Expr} {pos : Pos} {scope : Scope} {N' : List Str} {ix : List (Option Nat)} {wi : TI3} {g2 : TG} {g3 : TG3} {tt : TT3} {te : TE3}
theorem comp_red {X : Cx} {N' : List Str} {ix : List (Option Nat)} {wi : TI3} {g2 : TG} {g3 : TG3} {tt : TT3} {te : TE3} (bt : BTg X.K ix g2 g3) (ρ0 : En) (M0 : MH) (Q : VK3) (h : tComp3 wi ix g3 tt te ρ0 M0 Q) (σ0 : St) (H0 : Hp) (Q2 : VK) (bb : bE X.K ρ0 M0 Q σ0 H0 Q2) :
   tComp (dI X.K ρ0 wi) ix g2 (dTx X.K tt) (dEx X.K te) σ0 H0 Q2 := by
 obtain ⟨hr0, hh0, en⟩ := bb
 exact ⟨M0, _, h, hr0, hh0, fun J J2 M1 H1 k1 h1 ok q1 => by
   obtain ⟨W, w0, wst, hsz, turn, fin⟩ := q1
   refine ⟨fun i m ys H => m = J.items.length - i ∧ i ≤ J.items.length ∧ ys.length ≤ i ∧ Kp X.K H1 H ∧ ∃ ts M, Reps X.K H ys ts ∧ HR X.K H M ∧ W i ts M, ⟨_, rfl, Nat.zero_le _, Nat.zero_le _, Kp.refl, [], M1, .nil, h1, w0⟩, ?_⟩
   rintro i m ys H ⟨rfl, hi, hy, kk, ts, M, rts, hh, w⟩
   have st := wst i ts M w
   by_cases hlt : i < J.items.length
   · have e : J.items[i]? = some J.items[i] := List.getElem?_eq_getElem hlt
     obtain ⟨go, yl⟩ := ok.go i _ H M e kk hh st
     refine .inr ⟨go, by lia, fun v H' y => ?_⟩
     obtain ⟨k2, h2, r2⟩ := yl v H' y
     have kk2 := kk.trans k2
     refine bt.br J.items[i] v _ M _ H' _ _ r2 (rho_pick ix (hr0.kp (k1.trans kk2))) h2 (turn i _ ts M e w) fun ρ3 M3 σ3 H3 k3 hr3 hh3 q3 => ⟨ρ3, M3, _, q3, hr3, hh3, fun b M4 H4 k4 h4 q4 => ?_⟩
     have kk4 := kk2.trans (k3.trans k4)
     dsimp only at q4 ⊢
     cases b with
     | true =>
       rw [if_pos rfl] at q4 ⊢
       refine ⟨ρ3, M4, _, q4, hr3.kp k4, h4, fun t5 v5 M5 H5 k5 h5 r5 q5 => ⟨_, Nat.sub_lt_sub_left hlt (Nat.lt_succ_self i), rfl, hlt, ?_, kk4.trans k5, ts ++ [t5], M5, ?_, h5, q5⟩⟩
       · rw [List.length_append, List.length_singleton]; lia
       · exact (Reps.kp (k2.trans (k3.trans (k4.trans k5))) _ _ rts).append (.cons r5 .nil)
     | false =>
       rw [if_neg Bool.false_ne_true] at q4 ⊢
       exact ⟨_, Nat.sub_lt_sub_left hlt (Nat.lt_succ_self i), rfl, hlt, by lia, kk4, ts, M4, Reps.kp (k2.trans (k3.trans k4)) _ _ rts, h4, q4⟩
   · have e : i = J.items.length := by lia
     subst e
     refine .inl ⟨ok.stop H M kk hh st, by lia, fun p hp => ?_⟩
     exact en _ _ _ _ (k1.trans (kk.trans (Kp.new hp))) (hh.newL hp rts) rep_adr (fin ts M w p (hh.free hp))⟩
theorem h_comp (hc : X.calm = true) (hi : HI X tg iter wi) (S : BlkScope X N' ix scope) (bt : BTg X.K ix g2 g3) (hg : ∀ C s H fp pins, PG (blk X N' scope C s H fp pins) tg g2)
   (ht : ∀ C s H fp pins, HTs (blk X N' scope C s H fp pins) ifs tt) (he : ∀ C s H fp pins, HE (blk X N' scope C s H fp pins) elt te)
   (hs : ∀ x, foldedSetIterable iter X.env x = pure x := by intro _; rfl) :
   HE X (.ListComp elt [⟨tg, iter, ifs, 0⟩] scope pos) (tComp3 wi ix g3 tt te) := fun ρ0 M0 Q h =>
 (pe_comp (tt := dTx X.K tt) (te := dEx X.K te) hc (hi.d (ρ := ρ0)) S bt.own hg (fun C s H fp pins => (ht C s H fp pins).dx) (fun C s H fp pins => (he C s H fp pins).dx) hs).imp fun σ0 H0 Q2 bb => comp_red (X := X) (N' := N') bt ρ0 M0 Q h σ0 H0 Q2 bb
theorem s_setC {i : Nat} {x : Str} {pos' spos : Pos} (hc : X.calm = true) (hi : HI X tg iter wi) (S : BlkScope X N' ix scope) (bt : BTg X.K ix g2 g3) (hg : ∀ C s H fp pins, PG (blk X N' scope C s H fp pins) tg g2)
   (ht : ∀ C s H fp pins, HTs (blk X N' scope C s H fp pins) ifs tt) (he : ∀ C s H fp pins, HE (blk X N' scope C s H fp pins) elt te) (hN : X.N.Nodup) (hi' : X.N[i]? = some x := by rfl) (hx : Loc X.env.scope x := by first | exact Or.inl rfl | exact Or.inr rfl)
   (hsw : swapsWith (.ListComp elt [⟨tg, iter, ifs, 0⟩] scope pos) (some (.Name x pos')) spos.line X.env = pure true := by rfl)
   (hs : ∀ x, foldedSetIterable iter X.env x = pure x := by intro _; rfl) (hf : X.fn x = true ∨ X.env.scope.names.lookup x = some .local := by first | exact .inl rfl | exact .inr rfl | assumption) :
   HS X (.Assign [.Name x pos'] (.ListComp elt [⟨tg, iter, ifs, 0⟩] scope pos) spos) (tSet3 i (tComp3 wi ix g3 tt te)) := fun D ρ M h =>
 (ps_setC (tt := dTx X.K tt) (te := dEx X.K te) hN hi' hx hc (hi.d (ρ := ρ)) S bt.own hg (fun C s H fp pins => (ht C s H fp pins).dx) (fun C s H fp pins => (he C s H fp pins).dx) hsw hs hf).imp fun D2 σ H ⟨hr, hh, en⟩ =>
   comp_red (X := X) (N' := N') bt ρ M (fun x M1 => D.nx (ρ.set i (some x)) M1) h σ H _ ⟨hr, hh, fun t v M1 H1 k1 h1 r1 q1 => en.nx _ M1 _ H1 k1 ((hr.kp k1).set i r1) h1 q1⟩
noncomputable def start3 (N : List Str) (ts : List T) : En := ts.map some ++ List.replicate (N.length - ts.length) none
theorem rho_start {K : PySem.W.Frag} {H : Hp} {N : List Str} {vs : List V} {ts : List T} (r : Reps K H vs ts) : RhoR K (start N vs) H (start3 N ts) := by
 have hl := r.length
 refine ⟨by unfold start start3; simp [hl], fun i t e => ?_⟩
 unfold start3 at e
 unfold start
 by_cases hi : i < ts.length
 · rw [List.getElem?_append_left (by simpa using hi), List.getElem?_map] at e
   cases q : ts[i]? with
   | none => rw [q] at e; cases e
   | some u =>
     rw [q] at e
     cases e
     obtain ⟨v, a, b⟩ := r.get q
     refine ⟨v, ?_, b⟩
     rw [List.getElem?_append_left (by simpa [hl] using hi), List.getElem?_map, a]
     rfl
 · rw [List.getElem?_append_right (by simpa using hi), List.getElem?_replicate] at e
   split at e <;> cases e
noncomputable def rt3 (M : MH) (Q : VK3) : VK3 := fun t M' => ∃ M0, Sub M0 M' ∧ Q t M0
end
section
variable {P : Program} {w : World} {K : PySem.W.Frag} {mg : Str → Option Value} {base : Heap}
theorem Fun.fnk {x qual : Str} {st : Stmt} {f : Addr} {fd : FuncData} {N ps : List Str} {n : Nat} {sp : Sp3} (F : Fun K x qual st f fd) (S : FnScope N ps (defScope st)) (len : ∀ ts M Q, sp ts M Q → ts.length = ps.length)
   (hbody : ∃ t : TS3, (∀ (cdv : Value) (A : Around) (outer : List Env) (s : Shared) (H : Hp) (E : XK), Room n (A.deeper (envOfC qual (defScope st) s.heap.objs.size f cdv)) →
     HSs (cxOf CX0 P w K mg base N qual (defScope st) f cdv A outer s H E).nox (defBody st) t) ∧
     ∀ ts M Q, sp ts M Q → t { nx := fun _ M' => rt3 M Q .non M', rt := rt3 M Q } (start3 N ts) M) : FnOk P w K mg base CX0 (n + 1) f fd ps (dSp K sp) := by
 obtain ⟨t, hbody, rd⟩ := hbody
 refine F.ok S (fun vs H Q E ⟨ts, M, Q3, r, _, q, _⟩ => by rw [r.length]; exact len _ _ _ q) (fun cdv A outer s H vs Q E hr ⟨ts, M, Q3, r, hh, q, en⟩ => ?_)
 refine ⟨_, hbody cdv A outer s H E hr _ _ _ (rd ts M Q3 q), rho_start r, hh, ⟨?_, ?_, fun _ _ _ _ _ _ _ z => z.elim, fun _ _ _ _ _ _ _ z => z.elim⟩⟩
 · rintro ρ' M' σ' H' k hr' hh' ⟨M0, hs, q'⟩
   exact en .non .non M0 H' k (hh'.sub hs) rep_non q'
 · rintro t' v' M' H' k hh' r' ⟨M0, hs, q'⟩
   exact en t' v' M0 H' k (hh'.sub hs) r' q'
theorem Fun.dfn {x qual : Str} {st : Stmt} {f : Addr} {fd : FuncData} {N ps : List Str} {n : Nat} {sp : Sp3} (F : Fun K x qual st f fd) (hm : mg x = some (.ref f)) (hb : Binds K fd ps []) (S : FnScope N ps (defScope st)) (len : ∀ ts M Q, sp ts M Q → ts.length = ps.length)
   (hbody : ∃ t : TS3, (∀ (cdv : Value) (A : Around) (outer : List Env) (s : Shared) (H : Hp) (E : XK), Room n (A.deeper (envOfC qual (defScope st) s.heap.objs.size f cdv)) →
     HSs (cxOf CX0 P w K mg base N qual (defScope st) f cdv A outer s H E).nox (defBody st) t) ∧
     ∀ ts M Q, sp ts M Q → t { nx := fun _ M' => rt3 M Q .non M', rt := rt3 M Q } (start3 N ts) M) : Df P w K mg base (n + 1) x ps sp :=
 ⟨f, fd, F.fnk S len hbody, hm, F.kp, hb⟩
end
theorem law_walk {l : PySem.W.OpenLaw} {k : Nat} {q : Program} {loose : List Str} {XP : (Str → Option Value) → Heap → Prop} {YP : World → Heap → Prop} {d : DefRec} {K : Params → PySem.W.Frag} {sp : Sp3}
   (hn : l.most = some 63) (hdf : d.params.defaults = []) (hr : Room k callerA) (hY : ∀ (w : World) (h : Heap), YP w h → (K w.params).In h)
   (hs : ∀ (ns : List Int) M Q, ns.length ≤ 63 → Q (.bl true) M → sp [.rd (ns.map .int)] M Q)
   (F : ∀ (w : World) (mg : Str → Option Value) (fa : Addr) (h : Heap), (K w.params).In h → h.Ns mainGlobals mg → mg d.name = some (.ref fa) →
     ∃ fd : FuncData, (∀ (s : Shared) (u : Value), BindsTo s fd ⟨[u], []⟩ [("script", u)]) ∧ ∀ base : Heap, (K w.params).In base → base.Ns mainGlobals mg → FnOk l.prog w (K w.params) mg base CX0 k fa fd ["script"] (dSp (K w.params) sp)) :
   PySem.W.WalkO q loose XP YP l.row.toRowW d [] (fun f vs => PySem.call f vs) := by
 refine L2.walk_of (n := 63) (k := k) (x := "script") (CX := fun _ => CX0) (sp := fun w => dSp (K w.params) sp) hn (by decide) hdf hr hY F (fun w H a ns hl hO hS => ?_) fun _ _ _ _ _ z => z
 have fz : FzL (K w.params) H a (ns.map V.int) := by
   rcases hS with (h | ⟨o, h⟩) | h
   · rcases hO a with z | ⟨ob, xs, z⟩
     · rw [h] at z; cases z
     · rw [h] at z; cases z
   · exact .inl ⟨o, h⟩
   · exact .inr h
 refine ⟨[.rd (ns.map .int)], fun _ => none, fun t _ => t = .bl true, .cons ?_ .nil, (fun _ _ z => by cases z), hs ns _ (fun t _ => t = .bl true) hl rfl, fun t v M' H' _ _ r e => ?_⟩
 · unfold Rep
   exact ⟨a, _, rfl, fz, Reps.of_ints ns⟩
 · subst e
   exact inv_bl r
end L2
namespace L2
open PySem PySem.Spec PyProof.Rows
theorem vals_of_get : ∀ {xs : List V} {us : List Value}, xs.length = us.length → (∀ (j : Nat) x, xs[j]? = some x → ∃ u, us[j]? = some u ∧ RelV x u) → Vals xs us
 | [], [], _, _ => .nil
 | [], _ :: _, h, _ => by simp at h
 | _ :: _, [], h, _ => by simp at h
 | x :: xs, u :: us, h, g => by
   refine .cons ?_ (vals_of_get (by simpa using h) fun j y e => ?_)
   · obtain ⟨w, e, r⟩ := g 0 x rfl
     have : u = w := by simpa using e
     subst this; exact r
   · obtain ⟨w, e', r⟩ := g (j + 1) y (by simpa using e)
     exact ⟨w, by simpa using e', r⟩
noncomputable def rangeV (lo : Int) (n : Nat) : List V := (List.range n).map fun i => V.int (lo + (i : Nat))
theorem rangeV_reps {K : PySem.W.Frag} {H : Hp} (lo : Int) (n : Nat) : Reps K H (rangeV lo n) (rangeT lo n) := by
 have e1 : rangeV lo n = ((List.range n).map fun i => lo + ((i : Nat) : Int)).map V.int := by unfold rangeV; rw [List.map_map]; rfl
 have e2 : rangeT lo n = ((List.range n).map fun i => lo + ((i : Nat) : Int)).map T.int := by unfold rangeT; rw [List.map_map]; rfl
 rw [e1, e2]; exact Reps.of_ints _
section
variable {X : Cx} {a b e : Expr} {es : List Expr} {ta te : TE3} {t : TA3} {pos : Pos}
noncomputable def tLRng1 (t : TA3) : TE3 := fun ρ M Q => t ρ M fun xs M1 => match xs with
 | [.int j] => (-(2 ^ 62) ≤ j ∧ j < 2 ^ 24) ∧ ∀ p, M1 p = none → Q (.adr p) (updM M1 p (.lst (rangeT 0 j.toNat)))
 | _ => False
theorem h_listRange1 {t : TA3} {p p' pos' : Pos} (hm : X.mg "list" = none) (hm' : X.mg "range" = none) (ha : HA X [a] t) (hc : X.calm = true := by rfl) (hg : Gl X "list" := by rfl) (hg' : Gl X "range" := by rfl) (hs : starEach [a] X.env = [(false, eval a X.env)] := by rfl)
   (he : starEach [.Call (.Name "range" p') [a] [] pos'] X.env = (false, eval (.Call (.Name "range" p') [a] [] pos') X.env) :: starEach [] X.env := by rfl) :
   HE X (.Call (.Name "list" p) [.Call (.Name "range" p') [a] [] pos'] [] pos) (tLRng1 t) := by
 intro ρ M Q h pins s σ H Q2 I bb
 obtain ⟨hr, hh, en⟩ := bb
 refine wpAny_Call_Name_kw (ld_blt I hg hm boot_list ?_ (by decide) (by decide))
 refine PyProof.Rows.callWith_type1 ?_ he rfl
 rw [he]
 refine Calls.spliced_cons ?_
 refine Call_ (ld_blt I hg' hm' boot_range (PyProof.Rows.callWith_type1 (thn (ha ρ M _ h pos' pins s σ H (fun vs H1 => ∃ j M1, vs = [V.int j] ∧ HR X.K H1 M1 ∧ Kp X.K H H1 ∧ (-(2 ^ 62) ≤ j ∧ j < 2 ^ 24) ∧ ∀ p, M1 p = none → Q (.adr p) (updM M1 p (.lst (rangeT 0 j.toNat)))) I
   ⟨hr, hh, fun ts vs M1 H1 k1 h1 r1 q1 => by
     dsimp only at q1
     split at q1
     · rename_i j
       obtain ⟨v, rfl, rv⟩ := reps1 r1
       obtain rfl := inv_int rv
       exact ⟨j, M1, rfl, h1, k1, q1.1, q1.2⟩
     · exact q1.elim⟩) fun us s1 ⟨vs, H1, I1, rv, j, M1, e1, h1, k1, hj, q1⟩ => ?_) hs rfl))
 subst e1
 obtain ⟨u, rfl, t', rfl⟩ := vals1 rv
 refine call_range_1 (Calls.spliced_nil ?_)
 have I2 : Inv X pins σ H1 { s1 with heap := s1.heap.push { cls := .type "range", data := .fields #[.int 0 s1.toks, .int j t', .int 1 (s1.toks + 1)] }, toks := s1.toks + 2 } := I1.kept fun b o e => Heap.get?_push_of_some _ e
 have hn : Builtin.Range.rangeSize 0 j 1 = ((j.toNat : Nat) : Int) := by rw [rangeSize_one]; split <;> lia
 refine call_list_range (I1.ok.hd hc) (IsRange.new ..) (small_one (by lia) (by lia) (by lia) (by lia)) hn (by lia) fun h' tk acc' c' kp e ito => ?_
 have hz : j.toNat ≤ sizeLine := by rw [sizeLine_eq]; lia
 have vr : Vals (rangeV 0 j.toNat) acc'.toList := by
   refine vals_of_get (by unfold rangeV; simp [ito.1]) fun i x ex => ?_
   have hi : i < j.toNat := by have := (List.getElem?_eq_some_iff.mp ex).1; simpa [rangeV] using this
   have hi' : i < acc'.size := by rw [ito.1]; exact hi
   have ea : acc'[i]? = some acc'[i] := Array.getElem?_eq_getElem hi'
   obtain ⟨tt, et⟩ := ito.2 i _ ea
   refine ⟨acc'[i], by rw [Array.getElem?_toList]; exact ea, ?_⟩
   unfold rangeV at ex
   rw [List.getElem?_map, List.getElem?_range hi] at ex
   have := Option.some.inj ex
   subst this
   exact ⟨tt, by rw [et, Int.mul_one]⟩
 have I3 := I2.laid (a := { s1 with heap := s1.heap.push { cls := .type "range", data := .fields #[.int 0 s1.toks, .int j t', .int 1 (s1.toks + 1)] }, toks := s1.toks + 2 }.heap.objs.size) (o := .lst (rangeV 0 j.toNat)) (t' := tk) kp (Nat.le_refl _)
   (show ObjOk X.prog X.w _ h' _ (.lst (rangeV 0 j.toNat)) from ⟨by unfold rangeV; simpa using hz, acc'.toList, c', vr, by simpa using e⟩)
 have hf := I2.hok.fresh (Nat.le_refl _)
 exact ⟨.ref _, _, I3, rfl, en _ _ _ _ (k1.trans (Kp.new hf)) (h1.newL hf (rangeV_reps 0 j.toNat)) rep_adr (q1 _ (h1.free hf))⟩
noncomputable def isLst (M : MH) (x : T) : Prop := match x with
 | .adr p => (match M p with | some (.lst _) => True | _ => False)
 | _ => False
noncomputable abbrev RM3 := T → List T → MH → VK3 → Prop
noncomputable def dM (K : PySem.W.Frag) (r : RM3) : V → List V → Hp → VK → Prop := fun v vs H Q2 => ∃ x xs M Q, Rep K H v x ∧ Reps K H vs xs ∧ HR K H M ∧ r x xs M Q ∧ EndE K H Q Q2
noncomputable def MtR3 (X : Cx) (id : String) (r : RM3) : Prop := MtR X id (dM X.K r)
noncomputable def tLM3 (r : RM3) (to : TE3) (t : TA3) : TE3 := fun ρ M Q => to ρ M fun x M1 => isLst M1 x ∧ t ρ M1 fun xs M2 => r x xs M2 Q
theorem isLst_ty {K : PySem.W.Frag} {H : Hp} {M : MH} {x : T} {v : V} (hh : HR K H M) (r : Rep K H v x) (h : isLst M x) : tyV K "list" v H := by
 unfold isLst at h
 split at h
 · rename_i p
   split at h
   · rename_i ts e
     obtain ⟨xs, g1, _⟩ := hh _ _ e
     obtain rfl := inv_adr r
     exact .inl ⟨rfl, xs, SqL.of g1⟩
   · exact h.elim
 · exact h.elim
theorem h_lm {o : Expr} {to : TE3} {name : Str} {apos cpos : Pos} {id : String} {r : RM3} (slot : Slot "list" name id) (hty : typeOf (.builtin id) = pure (.type "method_descriptor")) (hm : MtR3 X id r) (ho : HE X o to) (ha : HA X (e :: es) t)
   (hbase : attributeBase o name X.env (eval o X.env) = eval o X.env := by rfl)
   (hfew : ((backTo cpos (starEach (e :: es) X.env)).all (fun x => !x.1) && (backToKw cpos (keywordEach [] X.env)).all (fun x => x.1.isSome)
     && decide ((e :: es).length + ([] : List Keyword).length + (if ([] : List Keyword).isEmpty then 0 else 1) < 30)) = true := by rfl)
   (hline : (apos.endLine == cpos.line) = true := by rfl) (hs : starEach (e :: es) X.env = (false, eval e X.env) :: starEach es X.env := by rfl) (hplain : (backTo cpos (starEach es X.env)).any (·.1) = false := by rfl) :
   HE X (.Call (.Attribute o name apos) (e :: es) [] cpos) (tLM3 r to t) := fun ρ M Q h =>
 (pe_bm PySem.F.plainAttrs_list slot hty hm (ho.d (ρ := ρ)) (ha.d (ρ := ρ)) hbase hfew hline hs hplain).imp fun σ H Q2 ⟨hr, hh, en⟩ => ⟨M, _, h, hr, hh, fun x v M1 H1 k1 h1 r1 q1 => ⟨isLst_ty h1 r1 q1.1, M1, _, q1.2, hr.kp k1, h1, fun ts vs M2 H2 k2 h2 r2 q2 =>
   ⟨x, ts, M2, Q, Rep.kp k2 _ _ r1, r2, h2, q2, en.kp (k1.trans k2)⟩⟩⟩
noncomputable def rApp3 : RM3 := fun x xs M Q => match x, xs with
 | .adr p, [y] => (match M p with | some (.lst ts) => ts.length < sizeLine ∧ Q .non (updM M p (.lst (ts ++ [y]))) | _ => False)
 | _, _ => False
theorem mt3_append : MtR3 X "list.append" rApp3 := by
 intro pins s σ H v vs u us Q2 I rv rvs h
 obtain ⟨x, xs, M, Q, r1, r2, hh, q, en⟩ := h
 unfold rApp3 at q
 split at q
 · rename_i p y
   split at q
   · rename_i ts e0
     obtain ⟨ys, g1, g2⟩ := hh _ _ e0
     obtain rfl := inv_adr r1
     obtain ⟨w, rfl, rw'⟩ := reps1 r2
     exact mt_append pins s σ H _ _ u us Q2 I rv rvs ⟨_, ys, w, rfl, rfl, g1, by rw [g2.length]; exact q.1, en _ _ _ _ (Kp.lst g1) (hh.setL g1 (g2.append (.cons rw' .nil))) rep_non q.2⟩
   · exact q.elim
 · exact q.elim
noncomputable def intsT : List T → Option (List Int)
 | [] => some []
 | .int i :: ts => (intsT ts).map (i :: ·)
 | _ :: _ => none
theorem intsT_map : ∀ (ns : List Int), intsT (ns.map T.int) = some ns
 | [] => rfl
 | n :: ns => by show (intsT (ns.map T.int)).map (n :: ·) = _; rw [intsT_map ns]; rfl
theorem intsT_some : ∀ {ts : List T} {ns : List Int}, intsT ts = some ns → ts = ns.map T.int
 | [], ns, e => by unfold intsT at e; cases e; rfl
 | t :: ts, ns, e => by
   cases t with
   | int i =>
     unfold intsT at e
     cases q : intsT ts with
     | none => rw [q] at e; cases e
     | some cs => rw [q] at e; cases e; rw [intsT_some q]; rfl
   | _ => unfold intsT at e; cases e
theorem h_m_append {o : Expr} {to : TE3} {apos cpos : Pos} (ho : HE X o to) (ha : HA X (e :: es) t)
   (hbase : attributeBase o "append" X.env (eval o X.env) = eval o X.env := by rfl)
   (hfew : ((backTo cpos (starEach (e :: es) X.env)).all (fun x => !x.1) && (backToKw cpos (keywordEach [] X.env)).all (fun x => x.1.isSome)
     && decide ((e :: es).length + ([] : List Keyword).length + (if ([] : List Keyword).isEmpty then 0 else 1) < 30)) = true := by rfl)
   (hline : (apos.endLine == cpos.line) = true := by rfl) (hs : starEach (e :: es) X.env = (false, eval e X.env) :: starEach es X.env := by rfl) (hplain : (backTo cpos (starEach es X.env)).any (·.1) = false := by rfl) :
   HE X (.Call (.Attribute o "append" apos) (e :: es) [] cpos) (tLM3 rApp3 to t) := h_lm PySem.F.slot_list_append PySem.F.type_list_append mt3_append ho ha hbase hfew hline hs hplain
end
end L2
namespace LM
noncomputable def LetOK (n l : Int) : Prop := 1 ≤ (l.natAbs : Int) ∧ (l.natAbs : Int) < n
noncomputable def WordOK (n : Int) (w : List Int) : Prop := ∀ l ∈ w, LetOK n l
noncomputable def isLet (n l : Int) : Bool := decide (1 ≤ l.natAbs) && decide ((l.natAbs : Int) < n)
noncomputable def isPl (n : Int) (w : List Int) : Bool := decide (1 ≤ n) && decide (n ≤ 6) && decide (w.length ≤ 16) && w.all (isLet n)
noncomputable def PlOK (n : Int) (w : List Int) : Prop := 1 ≤ n ∧ n ≤ 6 ∧ w.length ≤ 16 ∧ WordOK n w
theorem isLet_iff {n l : Int} : isLet n l = true ↔ LetOK n l := by
 unfold isLet LetOK
 simp only [Bool.and_eq_true, decide_eq_true_eq]
 lia
theorem PlOK.is {n : Int} {w : List Int} (h : PlOK n w) : isPl n w = true := by
 obtain ⟨h1, h2, h3, h4⟩ := h
 unfold isPl
 simp only [Bool.and_eq_true, decide_eq_true_eq, List.all_eq_true]
 exact ⟨⟨⟨h1, h2⟩, h3⟩, fun l hl => isLet_iff.mpr (h4 l hl)⟩
theorem WordOK.nil {n : Int} : WordOK n [] := fun _ z => nomatch z
theorem WordOK.append {n : Int} {u v : List Int} (h : WordOK n u) (g : WordOK n v) : WordOK n (u ++ v) := fun l hl => (List.mem_append.mp hl).elim (h l) (g l)
theorem take_succ_map {α β : Type} (f : α → β) {L : List α} {i : Nat} {x : α} (h : L[i]? = some x) : (L.take i).map f ++ [f x] = (L.take (i + 1)).map f := by
 rw [List.take_add_one, h]; simp
theorem get_map_int {α β : Type} {f : α → β} {L : List α} {i : Nat} {y : β} (h : (L.map f)[i]? = some y) : ∃ x, L[i]? = some x ∧ f x = y := by
 rw [List.getElem?_map] at h
 cases q : L[i]? with
 | none => rw [q] at h; cases h
 | some x => rw [q] at h; exact ⟨x, rfl, Option.some.inj h⟩
noncomputable def range0 (n : Int) : List Int := (List.range n.toNat).map fun i => ((i : Nat) : Int)
theorem range0_length (n : Int) : (range0 n).length = n.toNat := by unfold range0; simp
theorem getD_set (l : List Int) (i j : Nat) (x d : Int) : (l.set i x).getD j d = if i = j ∧ j < l.length then x else l.getD j d := by
 rw [List.getD_eq_getElem?_getD, List.getElem?_set]
 by_cases h : i = j
 · subst h
   by_cases h2 : i < l.length
   · rw [if_pos rfl, if_pos h2, if_pos ⟨rfl, h2⟩]; rfl
   · rw [if_pos rfl, if_neg h2, if_neg (fun q => h2 q.2)]
     rw [List.getD_eq_getElem?_getD, List.getElem?_eq_none (by lia)]
 · rw [if_neg h, if_neg (fun q => h q.1), List.getD_eq_getElem?_getD]
theorem range0_get (n : Int) (s : Int) (h0 : 0 ≤ s) (h1 : s < n) : (range0 n).getD s.toNat 0 = s := by
 unfold range0
 rw [List.getD_eq_getElem?_getD, List.getElem?_map, List.getElem?_range (by lia)]
 show ((s.toNat : Nat) : Int) = s
 lia
noncomputable def contrL (w : List Int) : List Int := w.reverse.map fun l => -l
noncomputable def flipL (n l : Int) : Int := if l < 0 then -(n + l) else n - l
theorem contrL_length (w : List Int) : (contrL w).length = w.length := by unfold contrL; simp
theorem LetOK.neg {n l : Int} (h : LetOK n l) : LetOK n (-l) := by unfold LetOK at *; lia
theorem LetOK.flip {n l : Int} (h : LetOK n l) : LetOK n (flipL n l) := by unfold LetOK flipL at *; split <;> lia
theorem WordOK.map {n : Int} {w : List Int} {f : Int → Int} (hf : ∀ l, LetOK n l → LetOK n (f l)) (h : WordOK n w) : WordOK n (w.map f) := fun l hl => by
 obtain ⟨k, hk, rfl⟩ := List.mem_map.mp hl
 exact hf k (h k hk)
theorem WordOK.reverse {n : Int} {w : List Int} (h : WordOK n w) : WordOK n w.reverse := fun l hl => h l (List.mem_reverse.mp hl)
theorem WordOK.contr {n : Int} {w : List Int} (h : WordOK n w) : WordOK n (contrL w) := h.reverse.map fun _ => LetOK.neg
theorem PlOK.map {n : Int} {w : List Int} {f : Int → Int} (hf : ∀ l, LetOK n l → LetOK n (f l)) (h : PlOK n w) : PlOK n (w.map f) := ⟨h.1, h.2.1, by rw [List.length_map]; exact h.2.2.1, h.2.2.2.map hf⟩
theorem map_same {f : Int → Int} {w : List Int} (h : ∀ l ∈ w, f l = l) : w.map f = w := by
 conv => rhs; rw [← List.map_id w]
 exact List.map_congr_left h
theorem neg_neg_map (w : List Int) : (w.map fun l => -l).map (fun l => -l) = w := by
 rw [List.map_map]
 exact map_same fun l _ => Int.neg_neg l
theorem contrL_contr (w : List Int) : contrL (contrL w) = w := by
 unfold contrL
 rw [← List.map_reverse, List.reverse_reverse]
 exact neg_neg_map w
theorem LetOK.ne {n l : Int} (h : LetOK n l) : l ≠ 0 := by unfold LetOK at h; lia
theorem contrL_cons (l : Int) (w : List Int) : contrL (l :: w) = contrL w ++ [-l] := by unfold contrL; rw [List.reverse_cons, List.map_append]; rfl
end LM
namespace LM
end LM
namespace LM
noncomputable def rowL (k : Nat) : List Int := (List.range k).map fun i => ((i : Nat) : Int) + 1
end LM
namespace LM
end LM
namespace LM
end LM
namespace LM
end LM
namespace L2
open PySem PySem.Spec PyProof.Rows LM
theorem start3_cons (x : Str) (N : List Str) (t : T) (ts : List T) : start3 (x :: N) (t :: ts) = some t :: start3 N ts := by
 unfold start3
 simp only [List.map_cons, List.length_cons, Nat.add_sub_add_right, List.cons_append]
theorem start3_none (x : Str) (N : List Str) : start3 (x :: N) [] = none :: start3 N [] := by
 unfold start3
 simp only [List.map_nil, List.length_cons, List.length_nil, Nat.sub_zero, List.nil_append, List.replicate_succ]
theorem start3_nil : start3 [] [] = [] := rfl
theorem pick3_none (ix : List (Option Nat)) (ρ : En) : pick3 (none :: ix) ρ = none :: pick3 ix ρ := rfl
theorem pick3_some (j : Nat) (ix : List (Option Nat)) (ρ : En) : pick3 (some j :: ix) ρ = (ρ[j]?).join :: pick3 ix ρ := rfl
theorem pick3_nil (ρ : En) : pick3 [] ρ = [] := rfl
theorem join_some {α : Type} (a : Option α) : (some a).join = a := rfl
theorem rt3_here {M : MH} {Q : VK3} {t : T} {M' : MH} (h : Q t M') : rt3 M Q t M' := ⟨M', Sub.refl, h⟩
theorem atI_0 {α : Type} (x : α) (xs : List α) : atI (x :: xs) 0 = some x := by
 have := atI_nat (xs := x :: xs) (j := 0) (v := x) rfl
 simpa using this
theorem atI_1 {α : Type} (x y : α) (xs : List α) : atI (x :: y :: xs) 1 = some y := by
 have := atI_nat (xs := x :: y :: xs) (j := 1) (v := y) rfl
 simpa using this
theorem atI_2 {α : Type} (x y z : α) (xs : List α) : atI (x :: y :: z :: xs) 2 = some z := by
 have := atI_nat (xs := x :: y :: z :: xs) (j := 2) (v := z) rfl
 simpa using this
theorem ixN_0 (n : Nat) : ixN (n + 1) 0 = some 0 := by
 unfold ixN
 rw [if_pos (by lia), if_pos (by lia)]; rfl
theorem updM_updM {M : MH} {a : Addr} {o u : MO} : updM (updM M a o) a u = updM M a u := by
 funext b; unfold updM; split <;> rfl
theorem atI_ints (ns : List Int) (i : Int) (h0 : 0 ≤ i) (h : i < ns.length) : atI (ns.map T.int) i = some (.int (ns.getD i.toNat 0)) := by
 have e : i = ((i.toNat : Nat) : Int) := by lia
 have hl : i.toNat < ns.length := by lia
 have := atI_nat (xs := ns.map T.int) (j := i.toNat) (v := .int (ns.getD i.toNat 0)) (by
   rw [List.getElem?_map, List.getElem?_eq_getElem hl]
   simp [List.getD, List.getElem?_eq_getElem hl])
 rw [← e] at this
 exact this
theorem bools_map (bs : List Bool) : bools (bs.map T.bl) = some bs := by
 induction bs with
 | nil => rfl
 | cons b bs ih => show (bools (bs.map T.bl)).map (b :: ·) = _; rw [ih]; rfl
theorem pureTs_ints (ns : List Int) : pureTs (ns.map T.int) = true := by
 induction ns with
 | nil => rfl
 | cons n ns ih => show (pureT (.int n) && pureTs (ns.map T.int)) = true; rw [ih]; rfl
theorem depTs_ints (ns : List Int) : depTs (ns.map T.int) = 0 := by
 induction ns with
 | nil => rfl
 | cons n ns ih => show max (depT (.int n)) (depTs (ns.map T.int)) = 0; rw [ih]; rfl
theorem eqTs_ints (a b : List Int) : eqTs (a.map T.int) (b.map T.int) = decide (a = b) := by
 induction a generalizing b with
 | nil => cases b <;> simp [eqTs]
 | cons x a ih =>
   cases b with
   | nil => simp [eqTs]
   | cons y b =>
     show (eqT (.int x) (.int y) && eqTs (a.map T.int) (b.map T.int)) = _
     rw [ih]
     have : eqT (.int x) (.int y) = (x == y) := rfl
     rw [this]
     by_cases h1 : x = y <;> by_cases h2 : a = b <;> simp [h1, h2]
theorem eqT_tup (a b : List T) : eqT (.tup a) (.tup b) = eqTs a b := rfl
theorem eqT_int (a b : Int) : eqT (.int a) (.int b) = decide (a = b) := by
 show (a == b) = _
 by_cases h : a = b <;> simp [h]
theorem eqTs_cons (x y : T) (a b : List T) : eqTs (x :: a) (y :: b) = (eqT x y && eqTs a b) := rfl
theorem eqTs_nil : eqTs [] [] = true := rfl
theorem pureTs_cons (x : T) (a : List T) : pureTs (x :: a) = (pureT x && pureTs a) := rfl
theorem pureTs_nil : pureTs [] = true := rfl
theorem pureT_int (i : Int) : pureT (.int i) = true := rfl
theorem pureT_bl (i : Bool) : pureT (.bl i) = true := rfl
theorem pureT_tup (i : List T) : pureT (.tup i) = pureTs i := rfl
theorem depT_int (i : Int) : depT (.int i) = 0 := rfl
theorem depT_bl (i : Bool) : depT (.bl i) = 0 := rfl
theorem depT_tup (i : List T) : depT (.tup i) = depTs i + 1 := rfl
theorem depTs_cons (x : T) (a : List T) : depTs (x :: a) = max (depT x) (depTs a) := rfl
theorem depTs_nil : depTs [] = 0 := rfl
theorem updM_self {M : MH} {p : Addr} {o : MO} (h : M p = some o) : updM M p o = M := by
 funext b; unfold updM; split
 · rename_i e; rw [e, h]
 · rfl
theorem ne_of_M {M : MH} {p q : Addr} {o : MO} (h : M p = some o) (h' : M q = none) : p ≠ q := by
 rintro rfl
 rw [h] at h'; cases h'
theorem Sub.set {M M' : MH} {p : Addr} {o u : MO} (h : Sub (updM M p o) M') : Sub (updM M p u) (updM M' p u) := fun a v e => by
 by_cases ha : a = p
 · subst ha; rw [updM_same] at e ⊢; exact e
 · rw [updM_ne ha] at e ⊢
   exact h a v (by rw [updM_ne ha]; exact e)
theorem Sub.newr {M M' : MH} {r : Addr} {o : MO} (h : Sub M M') (hr : M' r = none) : Sub M (updM M' r o) := h.trans (Sub.new hr)
theorem rt3_sub {M : MH} {Q : VK3} {t : T} {M0 M' : MH} (h : Q t M0) (s : Sub M0 M') : rt3 M Q t M' := ⟨M0, s, h⟩
theorem rangeT_length (a : Int) (n : Nat) : (rangeT a n).length = n := by unfold rangeT; simp
theorem Sub.updF {M M' : MH} {p : Addr} {o : MO} (h : Sub M M') (hp : M p = none) : Sub M (updM M' p o) := fun a v e => by
 have ha : a ≠ p := by rintro rfl; rw [hp] at e; cases e
 rw [updM_ne ha]; exact h a v e
end L2
namespace L2
open PySem PySem.Spec PyProof.Rows
theorem no_rev_tuple : typeLookup (.type "tuple") "__reversed__" = pure none := by rw [typeLookup_type, builtinLookup_eq_fast]; kernel_rfl
theorem sub_tuple_dict : isSubtype (.type "tuple") (.type "dict") = pure false := by rw [isSubtype_type]; kernel_rfl
noncomputable def revT (t : Addr) (i : Int) : Obj := { cls := .type "reversed", data := .fields #[.ref t, rawInt i] }
section
variable {prog : Program} {w : World} {A : Around} {E : Value → Shared → Prop} {s : Shared}
theorem code_revT_new {t : Addr} {items : Array Value} {Q₁ : Value → Shared → Prop} (ht : IsTup s.heap t items) (hz : items.size ≤ sizeLine)
   (h : ∀ h' tk, (∀ b o, s.heap.get? b = some o → h'.get? b = some o) → h'.get? s.heap.objs.size = some (revT t ((items.size : Int) - 1)) → Q₁ (.ref s.heap.objs.size) { s with heap := h', toks := tk }) :
   codeAny (model prog w) A (.call (.builtin "reversed.__new__") ⟨[.type "reversed", .ref t], []⟩) (wants Q₁ E) s := by
 refine codeAny_of_tree ?_
 show wpAny _ A.in1 (do checkBuiltinCall "reversed.__new__" ⟨[.type "reversed", .ref t], []⟩; again (.builtin "reversed.__new__" ⟨[.type "reversed", .ref t], []⟩)) _ _ s
 refine wpAny_bind (wpAny_of_eq (F.newCall_reversed_1 _) (wpAny_pure ⟨plainId_quiet F.plain_reversed_new _, codeAny_builtin F.entry_reversed_new ?_⟩))
 rw [Around.under_plainId F.plain_reversed_new _]
 unfold Builtin.«reversed.__new__»
 refine wpAny_bind (wpAny_of_eq (newClass_reversed _) ?_)
 try dsimp only
 refine wpAny_bind (wpAny_of_eq (a := ()) (by first | rfl | kernel_rfl) ?_)
 refine wpAny_bind (wpAny_of_eq (a := ()) (by first | rfl | kernel_rfl) ?_)
 try dsimp only
 refine wpAny_bind (wpAny_specialOf ht.typeIs no_rev_tuple ?_)
 try dsimp only
 refine wpAny_bind (m := (do
   if ← isInstance (.ref t) (.type "dict") then return false
   match ← specialOf (.ref t) "__getitem__" with
   | none => return false
   | some (.builtin id) =>
     if ["tuple.__getitem__", "str.__getitem__", "bytes.__getitem__", "bytearray.__getitem__", "memoryview.__getitem__", "numpy.ndarray.__getitem__", "sqlite3.Row.__getitem__"].contains id then return true
     if id == "sqlite3.Blob.__getitem__" then return false
     unsupported "reversed.__new__:is-it-a-sequence"
   | some _ => return true)) ?_
 refine wpAny_bind (wpAny_isInstance ht.typeIs sub_tuple_dict ?_)
 try dsimp only
 rw [if_neg Bool.false_ne_true]
 refine wpAny_bind (wpAny_specialOf ht.typeIs slot_tuple_getitem.lookup ?_)
 try dsimp only
 rw [if_pos (by decide)]
 refine wpAny_pure ?_
 rw [if_neg (by decide)]
 have hn := line63
 refine wpAny_bind (len_tuple ht (by lia) ?_)
 refine wpAny_bind (wpAny_of_eq (a := some (items.size : Int)) (by rfl) ?_)
 dsimp only
 refine wpAny_bind ?_
 unfold Builtin.SmallTypes.newRecord
 dsimp only
 refine wpAny_newObj_type ?_
 exact wpAny_pure (h _ _ (fun b o e => Heap.get?_push_of_some _ e) (Heap.get?_push_size _ rfl))
theorem slot_rev_init : Slot "reversed" "__init__" "object.__init__" :=
 .of (owner := "object") (n := "__init__") (by rw [typeLookup_type, builtinLookup_eq_fast]; kernel_rfl) (by decide +kernel) (by decide +kernel) (by decide +kernel)
   (by first | exact .inl (by decide +kernel) | exact .inr (by decide +kernel)) (by rw [isSubtype_type]; kernel_rfl)
theorem slot_rev_next : Slot "reversed" "__next__" "reversed.__next__" :=
 .of (owner := "reversed") (n := "__next__") (by rw [typeLookup_type, builtinLookup_eq_fast]; kernel_rfl) (by decide +kernel) (by decide +kernel) (by decide +kernel)
   (by first | exact .inl (by decide +kernel) | exact .inr (by decide +kernel)) (by rw [isSubtype_type]; kernel_rfl)
theorem called_reversed : TypeCalled "reversed" "reversed.__new__" "object.__init__" :=
 ⟨by decide +kernel, by decide +kernel, ⟨_, _, F.mro_reversed⟩, F.made_reversed, F.plain_reversed_new, F.sub_reversed_self, slot_rev_init⟩
theorem call_reversedT {t : Addr} {items : Array Value} {Q : Value → Shared → Prop} (ht : IsTup s.heap t items) (hz : items.size ≤ sizeLine)
   (h : ∀ h' tk, (∀ b o, s.heap.get? b = some o → h'.get? b = some o) → h'.get? s.heap.objs.size = some (revT t ((items.size : Int) - 1)) → Q (.ref s.heap.objs.size) { s with heap := h', toks := tk }) :
   wpAny (model prog w) A (call (.type "reversed") [.ref t]) Q E s := by
 refine callType_codes (Q₁ := fun obj s₁ => s₁.TypeIs obj "reversed" ∧ Q obj s₁) called_reversed (F.typeCall_reversed_1 _) F.entry_object_init (code_revT_new ht hz fun h' tk k e => ⟨⟨_, e, rfl⟩, h h' tk k e⟩) fun obj s₁ h₁ => ?_
 exact ⟨h₁.1, F.args_object_init_2 obj _, object_init_meets called_reversed.init.lookup called_reversed.made (by decide) prog w A.in1 _ s₁ ⟨h₁.1, rfl, h₁.2⟩⟩
theorem slot_rev_iter : Slot "reversed" "__iter__" "reversed.__iter__" :=
 .of (owner := "reversed") (n := "__iter__") (by rw [typeLookup_type, builtinLookup_eq_fast]; kernel_rfl) (by decide +kernel) (by decide +kernel) (by decide +kernel)
   (by first | exact .inl (by decide +kernel) | exact .inr (by decide +kernel)) (by rw [isSubtype_type]; kernel_rfl)
theorem entry_rev_iter : entryFor table "reversed.__iter__" = some Builtin.«dict_keyiterator.__iter__» :=
 entryFor_alias (id' := "dict_keyiterator.__iter__") (by kernel_rfl) (by first | rfl | decide +kernel | (unfold String.splitOn; simp +decide [String.splitOnAux])) (by decide +kernel) (by kernel_rfl)
theorem entry_rev_next : entryFor table "reversed.__next__" = some Builtin.«reversed.__next__» := entryFor_of_tree (by kernel_rfl)
theorem owner_rev : Manifest.owners.lookup (String.ofList ['d', 'e', 's', 'r', 'e', 'v', 'e', 'r'].reverse) = some Manifest.sig_reversed := by kernel_rfl
theorem args_rev_next_1 (a : Value) : argsOk "reversed.__next__" ⟨[a], []⟩ := by
 unfold argsOk; rw [signature?_of (id := "reversed.__next__") (n := ['_', '_', 't', 'x', 'e', 'n', '_', '_']) (o := ['d', 'e', 's', 'r', 'e', 'v', 'e', 'r']) (by kernel_rfl) owner_rev]; kernel_rfl
theorem args_rev_iter_1 (a : Value) : argsOk "reversed.__iter__" ⟨[a], []⟩ := by
 unfold argsOk; rw [signature?_of (id := "reversed.__iter__") (n := ['_', '_', 'r', 'e', 't', 'i', '_', '_']) (o := ['d', 'e', 's', 'r', 'e', 'v', 'e', 'r']) (by kernel_rfl) owner_rev]; kernel_rfl
noncomputable def IsRev (h : Heap) (a t : Addr) (i : Int) : Prop := h.get? a = some (revT t i)
theorem rev_type {a t : Addr} {i : Int} (x : IsRev s.heap a t i) : s.TypeIs (.ref a) "reversed" := ⟨_, x, rfl⟩
theorem next_rev_item {it t : Addr} {i : Nat} {items : Array Value} {x : Value} {Q : Option Value → Shared → Prop} (hit : IsRev s.heap it t (i : Int)) (ht : IsTup s.heap t items) (hx : items[i]? = some x) (hz : items.size ≤ sizeLine)
   (hQ : ∀ h' tk, IsRev h' it t ((i : Int) - 1) → Heap.SameBut it s.heap h' → Q (some x) { s with heap := h', toks := tk }) : wpAny (model prog w) A (pyNext (.ref it)) Q E s := by
 have hn := line63
 have hi : i < items.size := (Array.getElem?_eq_some_iff.mp hx).1
 have ho : s.heap.get? it = some (revT t (i : Int)) := hit
 unfold pyNext
 refine wpAny_bind (wpAny_attempt (wpAny_callSpecial?_slot (name := Str.ofString "__next__") (rev_type hit) slot_rev_next
   (wpAny_call_entry slot_rev_next (rev_type hit) entry_rev_next ?_ (args_rev_next_1 _))))
 unfold Builtin.«reversed.__next__»
 refine wpAny_bind (wpAny_of_eq (a := (Value.ref it, [])) rfl ?_)
 try dsimp only
 refine wpAny_bind (wpAny_field ho rfl (x := .ref t) rfl ?_)
 refine wpAny_bind (wpAny_field ho rfl (x := rawInt (i : Int)) rfl ?_)
 show wpAny _ _ (if (i : Int) < 0 then _ else _) _ _ s
 rw [if_neg (by lia)]
 refine wpAny_bind (wpAny_specialOf ht.typeIs slot_tuple_getitem.lookup ?_)
 try dsimp only
 rw [if_neg (by decide)]
 refine wpAny_bind (wpAny_mkInt ?_)
 refine wpAny_bind (wpAny_attempt (getItem_tuple (j := i) ht (by lia) (by lia) (seqIndex_of (by lia) (by lia)) hx ?_))
 try dsimp only
 refine wpAny_bind (wpAny_field (s := { s with toks := s.toks + 1 }) ho rfl (x := rawInt (i : Int)) rfl ?_)
 show wpAny _ _ (setField (.ref it) 1 (rawInt ((i : Int) - 1)) >>= fun _ => ret x) _ _ _
 refine wpAny_bind (wpAny_setField (s := { s with toks := s.toks + 1 }) ho rfl (by simp) ?_)
 refine wpAny_pure ⟨x, rfl, wpAny_pure (hQ _ _ ?_ (Heap.SameBut.update ..))⟩
 show Heap.get? _ it = _
 rw [Heap.get?_update_self _ ho (by simp [revT, Obj.mapFields, Obj.isFreed])]
 simp [revT, Obj.mapFields]
theorem stop_rev {it t : Addr} {Q : Option Value → Shared → Prop} (hh : A.handled = none) (hit : IsRev s.heap it t (-1))
   (hQ : ∀ h', Heap.ExtBut it s.heap h' → Q none { s with heap := h' }) : wpAny (model prog w) A (pyNext (.ref it)) Q E s := by
 have ho : s.heap.get? it = some (revT t (-1)) := hit
 unfold pyNext
 refine wpAny_bind (wpAny_attempt (wpAny_callSpecial?_slot (name := Str.ofString "__next__") (rev_type hit) slot_rev_next
   (wpAny_call_entry slot_rev_next (rev_type hit) entry_rev_next ?_ (args_rev_next_1 _))))
 unfold Builtin.«reversed.__next__»
 refine wpAny_bind (wpAny_of_eq (a := (Value.ref it, [])) rfl ?_)
 try dsimp only
 refine wpAny_bind (wpAny_field ho rfl (x := .ref t) rfl ?_)
 refine wpAny_bind (wpAny_field ho rfl (x := rawInt (-1)) rfl ?_)
 show wpAny _ _ (if (-1 : Int) < 0 then _ else _) _ _ s
 rw [if_pos (by decide)]
 refine wpAny_bind (wpAny_rule ?_)
 refine wpAny_bind (wpAny_bind (m := setField (.ref it) 1 (rawInt (-1))) (f := fun _ => setField (.ref it) 0 .none) ?_)
 refine wpAny_setField_rec ho (by simp) fun h1 e1 b1 => ?_
 refine wpAny_setField_rec (s := { s with heap := h1 }) e1 (by simp) fun h2 e2 b2 => ?_
 unfold Builtin.SmallTypes.stopIteration
 refine wpAny_bind ?_
 refine wpAny_bind ?_
 simp only [newExc, newTuple]
 refine wpAny_bind (wpAny_newObj_type ?_ (by size_fits))
 refine wpAny_bind (m := firstArgMember _ _) (wpAny_of_eq (a := Value.none) (by first | rfl | (simp only [firstArgMember]; rfl)) ?_)
 refine wpAny_newObj_type ?_ (by size_fits)
 simp only [raiseNew]
 refine wpAny_bind (wpAny_handled ?_)
 first | rw [show A.in1.handled = none from hh] | rw [hh]
 refine wpAny_bind (wpAny_pure (wpAny_throw ?_))
 refine wpAny_bind (wpAny_isInstance (T := "StopIteration") (b := true) ⟨_, Heap.get?_push_size _ rfl, rfl⟩ isSubtype_stop ?_)
 exact wpAny_pure (hQ _ (((b1.extBut.trans b2.extBut).push _).push _))
theorem iter_rev {it t : Addr} {i : Int} {Q : Value → Shared → Prop} (hit : IsRev s.heap it t i) (h : Q (.ref it) s) : wpAny (model prog w) A (pyIter (.ref it)) Q E s := by
 refine wpAny_pyIter_slot (rev_type hit) slot_rev_iter (wpAny_call_entry slot_rev_iter (rev_type hit) entry_rev_iter ?_ (args_rev_iter_1 _))
 show wpAny _ _ (ret (.ref it)) _ _ s
 exact wpAny_pure ⟨_, rfl, "reversed", _, rev_type hit, slot_rev_next.lookup, h⟩
end
noncomputable def Ittr (K : PySem.W.Frag) (a : Addr) (xs : List V) : It :=
 ⟨fun i H => SqT K H a xs ∧ i < xs.length, fun i H x H' => H' = H ∧ xs.reverse[i]? = some x, fun i H => SqT K H a xs ∧ i = xs.length⟩
theorem turn_rev {P : Program} {w : World} {K : PySem.W.Frag} {tg : Expr} (a it : Addr) (xs : List V) : Turn P w K tg (Ittr K a xs) [it] it (fun i h => IsRev h it a ((xs.length : Int) - 1 - (i : Int))) where
 mem := by simp
 obj := fun i h st b hb => by
   have e : b = it := by simpa using hb
   subst e
   exact ⟨_, st, fun v z => by
     have z' : Data.fields _ = Data.cell v := z
     cases z'⟩
 keep := fun i h h' st k => k it (by simp) _ st
 item := by
   intro X hP hw hK hc i pins s σ H E I hf st hg
   subst hP hw hK
   obtain ⟨hq, hi⟩ := hg
   obtain ⟨its, rv, p, hz⟩ := I.tuple hq
   have hl := rv.length
   obtain ⟨x, hx'⟩ : ∃ x, xs[xs.length - 1 - i]? = some x := ⟨_, List.getElem?_eq_getElem (by lia)⟩
   obtain ⟨u, hu, ru⟩ := rv.get hx'
   obtain ⟨f0, f1, f2, f3, f4, f5⟩ := hf it (by simp)
   have e1 : (xs.length : Int) - 1 - (i : Int) = ((xs.length - 1 - i : Nat) : Int) := by lia
   rw [e1] at st
   refine next_rev_item st p (x := u) (by simpa using hu) (by simp; lia) fun h' tk st' sb => ?_
   have I1 : Inv X pins σ H { s with heap := h', toks := tk } := I.turned (fun b o hb e => (sb.2 b hb).trans e) f0 f1 f3 f4 f5
   have e2 : ((xs.length - 1 - i : Nat) : Int) - 1 = (xs.length : Int) - 1 - ((i + 1 : Nat) : Int) := by lia
   rw [e2] at st'
   exact ⟨u, rfl, go_of (s := { s with heap := h', toks := tk }) (n := "reversed") st' rfl rfl (by decide) ⟨x, H, I1, ru, ⟨rfl, by rw [List.getElem?_reverse hi]; exact hx'⟩, st', fun b hb => (hf b hb).1⟩⟩
 done := by
   intro X hP hw hK hc i pins s σ H E I hf st hg
   subst hP hw hK
   obtain ⟨hq, rfl⟩ := hg
   obtain ⟨f0, f1, f2, f3, f4, f5⟩ := hf it (by simp)
   have e1 : (xs.length : Int) - 1 - (xs.length : Int) = -1 := by lia
   rw [e1] at st
   exact stop_rev (I.ok.hd hc) st fun h' eb => ⟨rfl, I.turned (t' := s.toks) (fun b o hb e => eb b o hb e) f0 f1 f3 f4 f5⟩
 self := fun _ _ _ _ _ st h => iter_rev st h
section
variable {X : Cx}
theorem itok_rev {K : PySem.W.Frag} {H : Hp} {a : Addr} {xs : List V} {ts : List T} (h : SqT K H a xs) (r : Reps K H xs ts) : ItOk K H (Ittr K a xs) ⟨ts.reverse, fun _ => True⟩ := by
 refine ⟨fun H' M' k hh _ => ⟨k.tup _ _ h, by show ts.reverse.length = _; rw [List.length_reverse, r.length]⟩, fun i x H' M' e k hh _ => ?_⟩
 have e' : ts.reverse[i]? = some x := e
 have hi : i < ts.length := by have := (List.getElem?_eq_some_iff.mp e').1; simpa using this
 rw [List.getElem?_reverse hi] at e'
 obtain ⟨v, e1, r1⟩ := r.get e'
 have hl := r.length
 have e2 : xs.reverse[i]? = some v := by rw [List.getElem?_reverse (by lia), hl]; exact e1
 refine ⟨⟨k.tup _ _ h, by lia⟩, fun v' H'' y => ?_⟩
 obtain ⟨rfl, y⟩ := y
 rw [e2] at y; cases y
 exact ⟨Kp.refl, hh, Rep.kp k _ _ r1⟩
end
theorem line_len {n : Nat} (h : n < 10000) : n < sizeLine := Nat.lt_of_le_of_lt (by lia : n ≤ 10000) (by decide)
theorem line_len' {n : Nat} (h : n < 10000) : n ≤ sizeLine := Nat.le_of_lt (line_len h)
end L2
namespace HT
open PySem PySem.Spec PyProof.Rows
section
variable {prog : Program} {w : World} {A : Around} {E : Value → Shared → Prop} {s : Shared}
theorem getItem_tuple_all {t sl : Addr} {items : Array Value} {vl vu : Value} {lo hi : Option Int} {Q : Value → Shared → Prop} (ht : IsTup s.heap t items) (hs : s.heap.IsSliceOf sl vl vu .none) (pl : IsPart vl lo) (pu : IsPart vu hi)
   (hw : sIx items.size 0 lo = 0 ∧ sIx items.size items.size hi = items.size) (h : Q (.ref t) s)
   (hsz : items.size ≤ sizeLine) : wpAny (model prog w) A (getItem (.ref t) (.ref sl)) Q E s := by
 obtain ⟨os, hos, hcs, hds⟩ := id hs
 have hTs : s.TypeIs (.ref sl) "slice" := ⟨os, hos, hcs⟩
 unfold getItem
 try with_reducible refine wpAny_holding ?_
 first | refine wpAny_bind (wpAny_pure ?_) | skip
 refine wpAny_bind (wpAny_sequenceKey ht.typeIs (by decide) ?_)
 refine wpAny_bind (wpAny_callSpecial?_slot (name := Str.ofString "__getitem__") ht.typeIs PyProof.Rows.slot_tuple_getitem
   (wpAny_call_entry PyProof.Rows.slot_tuple_getitem ht.typeIs entry_tuple_getitem ?_ (args_tuple_getitem _ _)))
 show wpAny _ _ (Builtin.Tuple.tupleItemsOf (.ref t) >>= _) _ _ s
 refine wpAny_bind (tupleItemsOf_ ht ?_)
 refine wpAny_bind (wpAny_typeOf hTs ?_)
 rw [if_pos (by decide)]
 refine wpAny_bind (sliceApplied_gen hs pl pu ?_)
 have hyes : (((sIx items.size 0 lo : Nat) : Int) == 0 && (1 : Int) == 1 && (sIx items.size items.size hi - sIx items.size 0 lo) == items.size) = true := by
   rw [hw.1, hw.2]
   simp
 show wpAny _ _ (if (((sIx items.size 0 lo : Nat) : Int) == 0 && (1 : Int) == 1 && (sIx items.size items.size hi - sIx items.size 0 lo) == items.size) = true then _ else _) _ _ s
 rw [if_pos hyes]
 refine wpAny_bind (m := Builtin.Tuple.tupleIsExact (.ref t)) (wpAny_bind (wpAny_typeOf ht.typeIs (wpAny_pure ?_)))
 rw [if_pos (by decide)]
 refine wpAny_bind (wpAny_rule ?_)
 first
   | exact wpAny_pure ⟨_, rfl, wpAny_pure h⟩
   | exact wpAny_bind (wpAny_pure (wpAny_pure ⟨_, rfl, wpAny_pure h⟩))
end
end HT
namespace L2
open PySem PySem.Spec PyProof.Rows
section
variable {X : Cx}
noncomputable def cutT (xs : List T) (lo hi : Option Int) : List T := (xs.drop (HT.sIx xs.length 0 lo)).take (HT.sIx xs.length xs.length hi - HT.sIx xs.length 0 lo)
noncomputable def rSlT' (K : PySem.W.Frag) : V → Option Int → Option Int → Hp → VK → Prop := fun x lo hi H Q => ∃ a xs, x = .ref a ∧ SqT K H a xs ∧
 ∀ p H', SqT K H' p (cutV xs lo hi) → (H' = H ∨ H p = none ∧ H' = upd H p (.tup (cutV xs lo hi))) → Q (.ref p) H'
theorem sl_tup' : SlR X (rSlT' X.K) := by
 intro pins s σ H x v vl vu lo hi sl Q I rx hs pl pu h
 obtain ⟨a, xs, rfl, hx, q⟩ := h
 by_cases hw : HT.sIx xs.length 0 lo = 0 ∧ HT.sIx xs.length xs.length hi = xs.length
 · cases rx
   obtain ⟨its, r, ht, hz⟩ := I.tuple hx
   have hlen : its.toArray.size = xs.length := by rw [List.size_toArray]; exact r.length.symm
   refine ⟨"tuple", _, PyProof.Rows.slot_tuple_getitem.lookup, ht.typeIs, ?_⟩
   refine HT.getItem_tuple_all ht hs pl pu (by rw [hlen]; exact hw) ?_ (by rw [hlen]; exact hz)
   have e : cutV xs lo hi = xs := by
     unfold cutV
     rw [hw.1, hw.2]
     simp
   exact ⟨.ref a, H, I, rfl, q a H (by rw [e]; exact hx) (.inl rfl)⟩
 · exact sl_tup pins s σ H _ v vl vu lo hi sl Q I rx hs pl pu ⟨a, xs, rfl, hx, hw, fun p hp => q p _ (SqT.of upd_same) (.inr ⟨hp, rfl⟩)⟩
theorem Reps.cut {K : PySem.W.Frag} {H : Hp} {xs : List V} {ts : List T} (r : Reps K H xs ts) (lo hi : Option Int) : Reps K H (cutV xs lo hi) (cutT ts lo hi) := by
 unfold cutV cutT
 rw [r.length]
 exact (r.drop _).take _
noncomputable abbrev TO3 := En → MH → (Option Int → MH → Prop) → Prop
noncomputable def HPo (X : Cx) (e : Option Expr) (t : TO3) : Prop := ∀ ρ M Q, t ρ M Q → PO X e (fun σ H Q2 => RhoR X.K σ H ρ ∧ HR X.K H M ∧ ∀ o M' H', Kp X.K H H' → HR X.K H' M' → Q o M' → Q2 o H')
noncomputable def dPo (K : PySem.W.Frag) (ρ : En) (t : TO3) : TO := fun σ H Q2 => ∃ M Q, t ρ M Q ∧ RhoR K σ H ρ ∧ HR K H M ∧ ∀ o M' H', Kp K H H' → HR K H' M' → Q o M' → Q2 o H'
theorem HPo.d {e : Option Expr} {t : TO3} {ρ : En} (h : HPo X e t) : PO X e (dPo X.K ρ t) := fun pins s σ H Q I ⟨M, Q3, q, b⟩ => h ρ M Q3 q pins s σ H Q I b
theorem PO.imp {e : Option Expr} {w w' : TO} (h : PO X e w) (f : ∀ σ H Q, w' σ H Q → w σ H Q) : PO X e w' := fun pins s σ H Q I q => h pins s σ H Q I (f σ H Q q)
noncomputable def tNo3 : TO3 := fun ρ M Q => Q none M
noncomputable def tPt3 (t : TE3) : TO3 := fun ρ M Q => t ρ M fun x M1 => match x with
 | .int i => Q (some i) M1
 | _ => False
theorem o_none : HPo X none tNo3 := fun ρ M Q h => po_none.imp fun σ H Q2 ⟨hr, hh, en⟩ => en _ _ _ Kp.refl hh h
theorem o_some {e : Expr} {t : TE3} (he : HE X e t) : HPo X (some e) (tPt3 t) := fun ρ M Q h => (po_some (he.d (ρ := ρ))).imp fun σ H Q2 ⟨hr, hh, en⟩ =>
 ⟨M, _, h, hr, hh, fun x v M1 H1 k1 h1 r1 q1 => by
   dsimp only at q1
   split at q1
   · obtain rfl := inv_int r1
     exact ⟨_, rfl, en _ _ _ k1 h1 q1⟩
   · exact q1.elim⟩
noncomputable def rSlS : V → Option Int → Option Int → Hp → VK → Prop := fun x lo hi H Q => ∃ z, x = .str z ∧ z.length ≤ sizeLine ∧ Q (.str (Txt.slice z lo hi)) H
theorem sl_str : SlR X rSlS := by
 intro pins s σ H x v vl vu lo hi sl Q I rx hs pl pu h
 obtain ⟨z, rfl, hz, q⟩ := h
 obtain ⟨t, rfl⟩ := rx
 refine ⟨"str", _, F.slot_str_getitem.lookup, typeIs_str _ _ _, ?_⟩
 have fin : ∀ t' k, EP X pins σ Q (.str (Txt.slice z lo hi) t') { s with toks := k } := fun t' k => ⟨.str _, H, I.kept fun b o e => e, ⟨_, rfl⟩, q⟩
 have hl : (Txt.slice z lo hi).length ≤ sizeLine := Nat.le_trans (Txt.slice_le z _ _) hz
 cases pl with
 | none => cases pu with
   | none => exact wpAny_getItem_str_slice (l := none) (u := none) (st := none) hs rfl (post_val_or_str ⟨hl, fin⟩)
   | int j uj => exact wpAny_getItem_str_slice (l := none) (u := some (j, uj)) (st := none) hs rfl (post_val_or_str ⟨hl, fin⟩)
 | int i ui => cases pu with
   | none => exact wpAny_getItem_str_slice (l := some (i, ui)) (u := none) (st := none) hs rfl (post_val_or_str ⟨hl, fin⟩)
   | int j uj => exact wpAny_getItem_str_slice (l := some (i, ui)) (u := some (j, uj)) (st := none) hs rfl (post_val_or_str ⟨hl, fin⟩)
noncomputable def tSl3 (te : TE3) (tl th : TO3) : TE3 := fun ρ M Q => te ρ M fun x M1 => tl ρ M1 fun l M2 => th ρ M2 fun u M3 => match x with
 | .tup ts => Q (.tup (cutT ts l u)) M3
 | .adr p => (match M3 p with
   | some (.lst ts) => ∀ r, M3 r = none → Q (.adr r) (updM M3 r (.lst (cutT ts l u)))
   | _ => False)
 | .str z => z.length ≤ sizeLine ∧ Q (.str (Txt.slice z l u)) M3
 | _ => False
theorem h_slice {e : Expr} {lo hi : Option Expr} {te : TE3} {tl th : TO3} {pos p2 : Pos} (he : HE X e te) (hl : HPo X lo tl) (hu : HPo X hi th) : HE X (.Subscript e (.Slice lo hi none p2) pos) (tSl3 te tl th) := fun ρ M Q h =>
 (pe_slice ((sl_tup'.or sl_list).or sl_str) (he.d (ρ := ρ)) (hl.d (ρ := ρ)) (hu.d (ρ := ρ))).imp fun σ H Q2 ⟨hr, hh, en⟩ =>
   ⟨M, _, h, hr, hh, fun x v M1 H1 k1 h1 r1 q1 => ⟨M1, _, q1, hr.kp k1, h1, fun l M2 H2 k2 h2 q2 => ⟨M2, _, q2, hr.kp (k1.trans k2), h2, fun u M3 H3 k3 h3 q3 => by
     have r3 := Rep.kp (k2.trans k3) _ _ r1
     have k13 := (k1.trans k2).trans k3
     split at q3
     · rename_i ts
       obtain ⟨a, xs, rfl, g1, g2⟩ := inv_tup r3
       refine .inl (.inl ⟨a, xs, rfl, g1, fun p H' h' c => ?_⟩)
       rcases c with rfl | ⟨c1, rfl⟩
       · exact en _ _ _ _ k13 h3 (rep_tup h' (g2.cut l u)) q3
       · exact en _ _ _ _ (k13.trans (Kp.new c1)) (h3.keep c1) (rep_tup h' (Reps.kp (Kp.new c1) _ _ (g2.cut l u))) q3
     · obtain rfl := inv_adr r3
       split at q3
       · rename_i ts e0
         obtain ⟨xs, g1, g2⟩ := h3 _ _ e0
         refine .inl (.inr ⟨_, xs, rfl, SqL.of g1, fun p hp => ?_⟩)
         exact en _ _ _ _ (k13.trans (Kp.new hp)) (h3.newL hp (g2.cut l u)) rep_adr (q3 p (h3.free hp))
       · exact q3.elim
     · obtain rfl := inv_str r3
       exact .inr ⟨_, rfl, q3.1, en _ _ _ _ k13 h3 rep_str q3.2⟩
     · exact q3.elim⟩⟩⟩
theorem cutT_to (xs : List T) (k : Int) (h0 : 0 ≤ k) (h1 : k ≤ xs.length) : cutT xs none (some k) = xs.take k.toNat := by
 unfold cutT
 have e : k = ((k.toNat : Nat) : Int) := by lia
 rw [e, HT.sIx_nat, HT.sIx_none, List.drop_zero, Nat.sub_zero, Nat.min_eq_left (by lia), Int.toNat_natCast]
theorem cutT_from (xs : List T) (k : Int) (h0 : 0 ≤ k) (h1 : k ≤ xs.length) : cutT xs (some k) none = xs.drop k.toNat := by
 unfold cutT
 have e : k = ((k.toNat : Nat) : Int) := by lia
 rw [e, HT.sIx_nat, HT.sIx_none, Nat.min_eq_left (by lia), Int.toNat_natCast]
 exact List.take_of_length_le (by rw [List.length_drop]; exact Nat.le_refl _)
end
end L2
namespace HT
open PySem PySem.Spec PyProof.Rows
section
variable {prog : Program} {w : World} {A : Around} {E : Value → Shared → Prop} {s : Shared}
end
end HT
namespace L2
open PySem PySem.Spec PyProof.Rows
section
variable {X : Cx}
end
end L2
namespace L2
open PySem PySem.Spec PyProof.Rows
section
variable {X : Cx}
end
end L2
namespace L2
open PySem PySem.Spec PyProof.Rows
section
variable {X : Cx}
end
end L2
namespace L2
open PySem PySem.Spec PyProof.Rows
section
variable {X : Cx}
end
end L2
namespace L2
open PySem PySem.Spec PyProof.Rows
section
variable {X : Cx} {es : List Expr} {e : Expr} {t : TA3}
end
end L2
namespace L2
open PySem PySem.Spec PyProof.Rows
section
variable {X : Cx} {es : List Expr} {e : Expr} {t : TA3}
noncomputable def strsT : List T → Option (List Str)
 | [] => some []
 | .str i :: ts => (strsT ts).map (i :: ·)
 | _ :: _ => none
theorem strsT_map : ∀ (ns : List Str), strsT (ns.map T.str) = some ns
 | [] => rfl
 | n :: ns => by show (strsT (ns.map T.str)).map (n :: ·) = _; rw [strsT_map ns]; rfl
end
end L2
namespace L2
open PySem PySem.Spec PyProof.Rows LM
end L2
namespace L2
open PySem PySem.Spec PyProof.Rows
section
variable {prog : Program} {w : World} {A : Around} {E : Value → Shared → Prop} {s : Shared}
end
section
open AutoSeq1 (wpAny_loadPart')
open SeqAt (EqAt)
end
section
variable {X : Cx} {a b e : Expr} {es : List Expr} {ta te : TE3} {t : TA3} {pos : Pos}
end
end L2
namespace L2
open PySem PySem.Spec PyProof.Rows
section
open AutoSeq1
end
section
variable {X : Cx} {a b e f : Expr} {es : List Expr} {ta te : TE3} {t : TA3} {pos : Pos}
noncomputable def keyT : Key → T
 | .inl i => .int i
 | .inr x => .str x
theorem rep_key {K : PySem.W.Frag} {H : Hp} {v : V} {k : Key} (r : Rep K H v (keyT k)) : v = kV k := by
 cases k with
 | inl i => exact inv_int r
 | inr x => exact inv_str r
noncomputable def valT {κ : Type} [DecidableEq κ] (kvs : List (κ × T)) (k : κ) : Option T := (kvs.find? fun kv => decide (kv.1 = k)).map (·.2)
noncomputable def putT {κ : Type} [DecidableEq κ] (kvs : List (κ × T)) (k : κ) (v : T) : List (κ × T) :=
 if (kvs.any fun kv => decide (kv.1 = k)) = true then kvs.map (fun kv => if kv.1 = k then (kv.1, v) else kv) else kvs ++ [(k, v)]
theorem KRep.val {κ : Type} [DecidableEq κ] {K : PySem.W.Frag} {H : Hp} (k : κ) : ∀ {xs : List (κ × V)} {kvs : List (κ × T)}, KRep K H xs kvs → (match valT kvs k with | some t => ∃ v, valV xs k = some v ∧ Rep K H v t | none => valV xs k = none)
 | [], [], _ => rfl
 | p :: r, q :: u, h => by
   have ih := KRep.val k h.2.2
   unfold valT valV at ih ⊢
   rw [List.find?_cons, List.find?_cons, h.1]
   by_cases c : q.1 = k
   · simp only [c, decide_true, Option.map_some]
     exact ⟨p.2, rfl, h.2.1⟩
   · simp only [c, decide_false]
     exact ih
 | [], q :: u, h => h.elim
 | p :: r, [], h => h.elim
theorem KRep.any {κ : Type} [DecidableEq κ] {K : PySem.W.Frag} {H : Hp} (k : κ) : ∀ {xs : List (κ × V)} {kvs : List (κ × T)}, KRep K H xs kvs → (xs.any fun kv => decide (kv.1 = k)) = kvs.any fun kv => decide (kv.1 = k)
 | [], [], _ => rfl
 | p :: r, q :: u, h => by rw [List.any_cons, List.any_cons, h.1, KRep.any k h.2.2]
 | [], q :: u, h => h.elim
 | p :: r, [], h => h.elim
theorem KRep.repl {κ : Type} [DecidableEq κ] {K : PySem.W.Frag} {H : Hp} (k : κ) {v : V} {z : T} (rz : Rep K H v z) : ∀ {xs : List (κ × V)} {kvs : List (κ × T)}, KRep K H xs kvs → KRep K H (xs.map fun kv => if kv.1 = k then (kv.1, v) else kv) (kvs.map fun kv => if kv.1 = k then (kv.1, z) else kv)
 | [], [], _ => trivial
 | p :: r, q :: u, h => by
   rw [List.map_cons, List.map_cons]
   refine ⟨?_, ?_, KRep.repl k rz h.2.2⟩
   · rw [h.1]
     by_cases c : q.1 = k
     · rw [if_pos c, if_pos c]
     · rw [if_neg c, if_neg c]; exact h.1
   · rw [h.1]
     by_cases c : q.1 = k
     · rw [if_pos c, if_pos c]; exact rz
     · rw [if_neg c, if_neg c]; exact h.2.1
 | [], q :: u, h => h.elim
 | p :: r, [], h => h.elim
theorem KRep.snoc {κ : Type} {K : PySem.W.Frag} {H : Hp} (k : κ) {v : V} {z : T} (rz : Rep K H v z) : ∀ {xs : List (κ × V)} {kvs : List (κ × T)}, KRep K H xs kvs → KRep K H (xs ++ [(k, v)]) (kvs ++ [(k, z)])
 | [], [], _ => ⟨rfl, rz, trivial⟩
 | p :: r, q :: u, h => ⟨h.1, h.2.1, KRep.snoc k rz h.2.2⟩
 | [], q :: u, h => h.elim
 | p :: r, [], h => h.elim
theorem KRep.put {κ : Type} [DecidableEq κ] {K : PySem.W.Frag} {H : Hp} (k : κ) {v : V} {z : T} (rz : Rep K H v z) {xs : List (κ × V)} {kvs : List (κ × T)} (h : KRep K H xs kvs) : KRep K H (putK xs k v) (putT kvs k z) := by
 unfold putK putT
 rw [h.any k]
 split
 · exact h.repl k rz
 · exact h.snoc k rz
noncomputable def tDicE (tup : Bool) : TE3 := fun _ M Q => ∀ p, M p = none → Q (.adr p) (updM M p (if tup then .dt [] else .dk []))
theorem h_dicK {pos : Pos} : HE X (.Dict [] [] pos) (tDicE false) := fun ρ M Q h =>
 (pe_dnewK).imp fun σ H Q2 ⟨hr, hh, en⟩ => fun p hp => en _ _ _ _ (Kp.new hp) (hh.newK hp (kvs := []) (xs := []) trivial) rep_adr (h p (hh.free hp))
noncomputable def isDic (M : MH) (x : T) : Prop := match x with
 | .adr p => (match M p with | some (.dk _) => True | some (.dt _) => True | _ => False)
 | _ => False
theorem isDic_at {K : PySem.W.Frag} {H : Hp} {M : MH} {x : T} {v : V} (hh : HR K H M) (r : Rep K H v x) (d : isDic M x) : ∃ a, v = .ref a ∧ IsD H a := by
 cases x with
 | adr p =>
   obtain rfl := inv_adr r
   unfold isDic at d
   dsimp only at d
   cases e : M p with
   | none => rw [e] at d; exact d.elim
   | some o =>
     rw [e] at d
     cases o with
     | lst ts => exact d.elim
     | dk kvs => obtain ⟨xs, g1, _⟩ := hh _ _ e; exact ⟨p, rfl, .inl ⟨xs, .of g1⟩⟩
     | dt kvs => obtain ⟨xs, g1, _⟩ := hh _ _ e; exact ⟨p, rfl, .inr ⟨xs, .of g1⟩⟩
     | fz kvs => exact d.elim
     | fk kvs => exact d.elim
 | _ => exact d.elim
noncomputable def tGet3 (td tk tx : TE3) : TE3 := fun ρ M Q => td ρ M fun x M1 => isDic M1 x ∧ tk ρ M1 fun k M2 => tx ρ M2 fun z M3 => match x with
 | .adr p => (match M3 p with
   | some (.dk kvs) => ∃ kk, k = keyT kk ∧ Q ((valT kvs kk).getD z) M3
   | _ => False)
 | _ => False
theorem h_get2 {o : Expr} {td tk tx : TE3} {apos cpos : Pos} (hu : X.A.units + 64 < cLine) (ho : HE X o td) (he : HE X e tk) (hf : HE X f tx)
   (m1 : attributeBase o "get" X.env (eval o X.env) = eval o X.env := by rfl)
   (m2 : ((backTo cpos (starEach [e, f] X.env)).all (fun x => !x.1) && (backToKw cpos (keywordEach [] X.env)).all (fun x => x.1.isSome)
     && decide (([e, f] : List Expr).length + ([] : List Keyword).length + (if ([] : List Keyword).isEmpty then 0 else 1) < 30)) = true := by rfl)
   (m3 : (apos.endLine == cpos.line) = true := by rfl) (m4 : backTo cpos (starEach [e, f] X.env) = [(false, eval e X.env), (false, eval f X.env)] := by rfl) :
   HE X (.Call (.Attribute o "get" apos) [e, f] [] cpos) (tGet3 td tk tx) := fun ρ M Q h =>
 (pe_dget2 (by lia) (ho.d (ρ := ρ)) (he.d (ρ := ρ)) (hf.d (ρ := ρ)) ⟨m1, m2, m3, m4⟩).imp fun σ H Q2 ⟨hr, hh, en⟩ => ⟨M, _, h, hr, hh, fun x v M1 H1 k1 h1 r1 q1 => by
   obtain ⟨hd, q1⟩ := q1
   obtain ⟨a, rfl, isd⟩ := isDic_at h1 r1 hd
   refine ⟨a, rfl, isd, M1, _, q1, hr.kp k1, h1, fun y v2 M2 H2 k2 h2 r2 q2 => ⟨M2, _, q2, hr.kp (k1.trans k2), h2, fun z v3 M3 H3 k3 h3 r3 q3 => ?_⟩⟩
   cases x with
   | adr p =>
     cases r1
     dsimp only at q3
     split at q3
     · rename_i kvs e
       obtain ⟨kk, rfl, q3⟩ := q3
       obtain rfl := rep_key r2
       obtain ⟨xs, g1, g2⟩ := h3 _ _ e
       refine ⟨_, DGet.k g1, en _ _ M3 H3 ((k1.trans k2).trans k3) h3 ?_ q3⟩
       have hv := g2.val kk
       cases ev : valT kvs kk with
       | none => rw [ev] at hv; rw [hv]; exact r3
       | some t =>
         rw [ev] at hv
         obtain ⟨u, e1, e2⟩ := hv
         rw [e1]; exact e2
     · exact q3.elim
   | _ => exact hd.elim⟩
noncomputable def tDGK (td tk : TE3) : TE3 := fun ρ M Q => td ρ M fun x M1 => tk ρ M1 fun k M2 => match x with
 | .adr p => (match M2 p with
   | some (.dk kvs) => ∃ kk t, k = keyT kk ∧ valT kvs kk = some t ∧ Q t M2
   | _ => False)
 | _ => False
theorem h_dgk {o i : Expr} {td tk : TE3} {pos : Pos} (hu : X.A.units + 64 < cLine) (ho : HE X o td) (hi : HE X i tk) (hs : NoSl i := by intro _ _; rfl) : HE X (.Subscript o i pos) (tDGK td tk) := fun ρ M Q h =>
 (pe_dget (by lia) (ho.d (ρ := ρ)) (hi.d (ρ := ρ)) hs).imp fun σ H Q2 ⟨hr, hh, en⟩ => ⟨M, _, h, hr, hh, fun x v M1 H1 k1 h1 r1 q1 => ⟨M1, _, q1, hr.kp k1, h1, fun y v2 M2 H2 k2 h2 r2 q2 => by
   cases x with
   | adr p =>
     cases r1
     dsimp only at q2
     split at q2
     · rename_i kvs e
       obtain ⟨kk, t, rfl, ev, q2⟩ := q2
       obtain rfl := rep_key r2
       obtain ⟨xs, g1, g2⟩ := h2 _ _ e
       have hv := g2.val kk
       rw [ev] at hv
       obtain ⟨u, e1, e2⟩ := hv
       exact ⟨_, u, rfl, by rw [← e1]; exact DGet.k g1, en _ _ M2 H2 (k1.trans k2) h2 e2 q2⟩
     · exact q2.elim
   | _ => exact q2.elim⟩⟩
noncomputable def sDPK (td tk tv : TE3) : TS3 := fun D ρ M => tv ρ M fun z M1 => td ρ M1 fun x M2 => tk ρ M2 fun k M3 => match x with
 | .adr p => (match M3 p with
   | some (.dk kvs) => ∃ kk, k = keyT kk ∧ kvs.length < sizeLine ∧ D.nx ρ (updM M3 p (.dk (putT kvs kk z)))
   | _ => False)
 | _ => False
theorem s_dpk {o i value : Expr} {td tk tv : TE3} {pos pos' : Pos} (hu : X.A.units + 64 < cLine) (hv : HE X value tv) (ho : HE X o td) (hi : HE X i tk) (hs : swapsWith value (some (.Subscript o i pos')) pos.line X.env = pure false := by rfl) :
   HS X (.Assign [.Subscript o i pos'] value pos) (sDPK td tk tv) := fun D ρ M h =>
 (ps_dput (by lia) (ho.d (ρ := ρ)) (hi.d (ρ := ρ)) (hv.d (ρ := ρ)) hs).imp fun D2 σ H ⟨hr, hh, en⟩ => ⟨M, _, h, hr, hh, fun z v M1 H1 k1 h1 r1 q1 => ⟨M1, _, q1, hr.kp k1, h1, fun x v2 M2 H2 k2 h2 r2 q2 => ⟨M2, _, q2, hr.kp (k1.trans k2), h2, fun y v3 M3 H3 k3 h3 r3 q3 => by
   cases x with
   | adr p =>
     cases r2
     dsimp only at q3
     split at q3
     · rename_i kvs e
       obtain ⟨kk, rfl, hl, q3⟩ := q3
       obtain rfl := rep_key r3
       obtain ⟨xs, g1, g2⟩ := h3 _ _ e
       have kk' := Kp.dict (K := X.K) (u := .dK (putK xs kk v)) g1 (.inl ⟨_, rfl⟩)
       have kall := (k1.trans k2).trans (k3.trans kk')
       refine ⟨_, _, rfl, DPut.k g1 (by rw [g2.length]; exact hl), en.nx _ _ _ _ kall (hr.kp kall) (h3.setK g1 (.inl ⟨_, rfl⟩) (g2.put kk (Rep.kp (k2.trans k3) _ _ r1))) q3⟩
     · exact q3.elim
   | _ => exact q3.elim⟩⟩⟩
end
end L2
namespace L2
open PySem PySem.Spec PyProof.Rows LM
noncomputable def swapN (st : List Int) (k : Nat) : List Int := (st.set k (st.getD (k + 1) 0)).set (k + 1) (st.getD k 0)
theorem swapN_cut (st : List Int) (k : Nat) (h : k + 1 < st.length) : st.take k ++ ([st.getD (k + 1) 0, st.getD k 0] ++ st.drop (k + 2)) = swapN st k := by
 unfold swapN
 induction st generalizing k with
 | nil => simp at h
 | cons x t ih =>
   cases k with
   | zero =>
     cases t with
     | nil => simp at h
     | cons y t => rfl
   | succ k =>
     have := ih k (by simp at h; lia)
     simp only [List.take_succ_cons, List.cons_append, List.drop_succ_cons, List.set_cons_succ, List.getD_cons_succ] at this ⊢
     rw [← this]
noncomputable def isWd (n : Int) (w : List Int) (k : Int) : Bool := decide (1 ≤ n) && decide (n ≤ 6) && decide ((w.length : Int) ≤ k) && w.all (isLet n)
theorem isWd_16 (n : Int) (w : List Int) : isWd n w 16 = isPl n w := by
 unfold isWd isPl
 rw [show decide ((w.length : Int) ≤ 16) = decide (w.length ≤ 16) from decide_eq_decide.mpr (by lia)]
theorem valT_cons {κ : Type} [DecidableEq κ] (p : κ × T) (r : List (κ × T)) (k : κ) : valT (p :: r) k = if p.1 = k then some p.2 else valT r k := by
 unfold valT
 rw [List.find?_cons]
 by_cases c : p.1 = k
 · simp [c]
 · simp [c]
theorem none_of {M M' : MH} {p : Addr} (h : Sub M M') (hp : M' p = none) : M p = none := by
 cases q : M p with
 | none => rfl
 | some o => have := h p o q; rw [hp] at this; cases this
theorem rangeT_get {a : Int} {n i : Nat} {x : T} (h : (rangeT a n)[i]? = some x) : i < n ∧ x = .int (a + (i : Nat)) := by
 unfold rangeT at h
 rw [List.getElem?_map] at h
 cases q : (List.range n)[i]? with
 | none => rw [q] at h; cases h
 | some k =>
   rw [q] at h
   have hi := (List.getElem?_eq_some_iff.mp q).1
   rw [List.length_range] at hi
   rw [List.getElem?_range hi] at q
   cases q
   exact ⟨hi, (Option.some.inj h).symm⟩
theorem cutT_to' (xs : List T) (k : Int) (h0 : 0 ≤ k) : cutT xs none (some k) = xs.take k.toNat := by
 unfold cutT
 have e : k = ((k.toNat : Nat) : Int) := by lia
 rw [e, HT.sIx_nat, HT.sIx_none, List.drop_zero, Nat.sub_zero, Int.toNat_natCast]
 by_cases h : k.toNat ≤ xs.length
 · rw [Nat.min_eq_left h]
 · rw [Nat.min_eq_right (by lia), List.take_of_length_le (Nat.le_refl _), List.take_of_length_le (by lia)]
end L2
namespace L2
open PySem PySem.Spec PyProof.Rows LM
end L2
namespace L2
open PySem PySem.Spec PyProof.Rows LM
end L2
namespace L2
open PySem PySem.Spec PyProof.Rows LM
end L2
namespace L2
open PySem PySem.Spec PyProof.Rows LM
noncomputable def plT (p : Nat × Nat × List Int) : T := .tup [.int p.1, .int p.2.1, .tup (p.2.2.map .int)]
theorem WordOK.take {n : Int} {w : List Int} (h : WordOK n w) (k : Nat) : WordOK n (w.take k) := fun l hl => h l (List.mem_of_mem_take hl)
theorem WordOK.drop {n : Int} {w : List Int} (h : WordOK n w) (k : Nat) : WordOK n (w.drop k) := fun l hl => h l (List.mem_of_mem_drop hl)
theorem drop_take2 {ws : List Int} {i : Nat} (h : i + 1 < ws.length) : (ws.drop i).take 2 = [ws.getD i 0, ws.getD (i + 1) 0] := by
 rw [List.drop_eq_getElem_cons (show i < ws.length by lia), List.take_succ_cons, List.drop_eq_getElem_cons h, List.take_succ_cons, List.take_zero]
 simp [List.getD_eq_getElem?_getD, List.getElem?_eq_getElem h, List.getElem?_eq_getElem (show i < ws.length by lia)]
theorem drop_take3 {ws : List Int} {i : Nat} (h : i + 2 < ws.length) : (ws.drop i).take 3 = [ws.getD i 0, ws.getD (i + 1) 0, ws.getD (i + 2) 0] := by
 rw [List.drop_eq_getElem_cons (show i < ws.length by lia), List.take_succ_cons, List.drop_eq_getElem_cons (show i + 1 < ws.length by lia), List.take_succ_cons, List.drop_eq_getElem_cons (show i + 1 + 1 < ws.length by lia), List.take_succ_cons, List.take_zero]
 simp [List.getD_eq_getElem?_getD, List.getElem?_eq_getElem h, List.getElem?_eq_getElem (show i < ws.length by lia), List.getElem?_eq_getElem (show i + 1 < ws.length by lia)]
theorem getD_ok {n : Int} {ws : List Int} (hw : WordOK n ws) {i : Nat} (h : i < ws.length) : LetOK n (ws.getD i 0) := by
 rw [List.getD_eq_getElem?_getD, List.getElem?_eq_getElem h]
 exact hw _ (List.getElem_mem h)
end L2
namespace L2
open PySem PySem.Spec PyProof.Rows LM
theorem plT_pure (p : Nat × Nat × List Int) : pureT (plT p) = true := by
 unfold plT
 rw [pureT_tup, pureTs_cons, pureTs_cons, pureTs_cons, pureTs_nil, pureT_int, pureT_int, pureT_tup, pureTs_ints]; rfl
theorem plTs_pure : ∀ (L : List (Nat × Nat × List Int)), pureTs (L.map plT) = true
 | [] => rfl
 | u :: L => by rw [List.map_cons, pureTs_cons, plT_pure, plTs_pure L]; rfl
theorem plT_dep (p : Nat × Nat × List Int) : depT (plT p) ≤ 2 := by
 unfold plT
 rw [depT_tup, depTs_cons, depTs_cons, depTs_cons, depTs_nil, depT_int, depT_int, depT_tup, depTs_ints]
 decide
theorem plTs_dep : ∀ (L : List (Nat × Nat × List Int)), depTs (L.map plT) ≤ 2
 | [] => by rw [List.map_nil, depTs_nil]; lia
 | u :: L => by
   have := plTs_dep L
   have := plT_dep u
   rw [List.map_cons, depTs_cons]
   lia
end L2
namespace L2
open PySem PySem.Spec PyProof.Rows LM
theorem cutT_from' (xs : List T) (k : Int) (h0 : 0 ≤ k) : cutT xs (some k) none = xs.drop k.toNat := by
 unfold cutT
 have e : k = ((k.toNat : Nat) : Int) := by lia
 rw [e, HT.sIx_nat, HT.sIx_none, Int.toNat_natCast]
 by_cases h : k.toNat ≤ xs.length
 · rw [Nat.min_eq_left h, List.take_of_length_le (by rw [List.length_drop]; lia)]
 · rw [Nat.min_eq_right (by lia), Nat.sub_self, List.take_zero, List.drop_of_length_le (by lia)]
end L2
namespace L2
open PySem PySem.Spec PyProof.Rows LM
end L2
namespace LM
end LM
namespace LM
noncomputable def twL (n : Int) (i : Nat) : List Int := (List.range i).flatMap fun k => rowL (n.toNat - 1 - k)
noncomputable def twF (n : Int) : List Int := twL n (n.toNat - 1)
theorem twF_ok {n : Int} (h1 : 2 ≤ n) (h2 : n ≤ 4) : WordOK n (twF n) := by
 have h : n = 2 ∨ n = 3 ∨ n = 4 := by lia
 have q : ∀ (m : Int), (twF m).all (isLet m) = true → WordOK m (twF m) := fun m h l hl => isLet_iff.mp (List.all_eq_true.mp h l hl)
 rcases h with rfl | rfl | rfl <;> exact q _ (by decide +kernel)
theorem wordOK_one {n l : Int} (h : LetOK n l) : WordOK n [l] := fun x hx => by
 have : x = l := by simpa using hx
 rw [this]; exact h
end LM
namespace LM
end LM
namespace LM
end LM
namespace L2
open PySem PySem.Spec PyProof.Rows LM
noncomputable def gI (w : List Int) (k : Int) : Int := w.getD k.toNat 0
noncomputable def canFar (w : List Int) (a : Int) : Bool := decide (0 ≤ a ∧ a < (w.length : Int) - 1) && decide ((1 : Int) < (((((gI w a).natAbs : Int) - ((gI w (a + 1)).natAbs : Int)).natAbs : Nat) : Int))
noncomputable def canOut (w : List Int) (a : Int) : Bool := decide (0 ≤ a ∧ a < (w.length : Int) - 1) && decide (gI w a = -(gI w (a + 1)))
noncomputable def canThree (w : List Int) (a : Int) : Bool := decide (0 ≤ a ∧ a < (w.length : Int) - 2) && (decide (((gI w a).natAbs : Int) = ((gI w (a + 2)).natAbs : Int)) && decide ((((((gI w a).natAbs : Int) - ((gI w (a + 1)).natAbs : Int)).natAbs : Nat) : Int) = 1) && (!decide (gI w a = gI w (a + 2)) || decide (0 < gI w a * gI w (a + 1))))
noncomputable def sgnL (a l : Int) : Int := if l < 0 then -((a.natAbs : Nat) : Int) else ((a.natAbs : Nat) : Int)
noncomputable def threeL (w : List Int) (a : Int) : List Int := w.take a.toNat ++ [sgnL (gI w (a + 1)) (gI w (a + 2)), sgnL (gI w a) (gI w (a + 1)), sgnL (gI w (a + 1)) (gI w a)] ++ w.drop (a + 3).toNat
noncomputable def inL (w : List Int) (a l : Int) : List Int := w.take a.toNat ++ [l, -l] ++ w.drop a.toNat
theorem gI_nat {A B : List Int} {x : Int} {a : Int} (h0 : 0 ≤ a) (h : A.length = a.toNat) : gI (A ++ x :: B) a = x := by
 unfold gI
 rw [List.getD_eq_getElem?_getD, ← h, List.getElem?_append_right (Nat.le_refl _), Nat.sub_self]
 rfl
theorem gI_nat1 {A B : List Int} {x y : Int} {a : Int} (h0 : 0 ≤ a) (h : A.length = a.toNat) : gI (A ++ x :: y :: B) (a + 1) = y := by
 have : A ++ x :: y :: B = (A ++ [x]) ++ y :: B := by simp
 rw [this]
 exact gI_nat (by lia) (by simp; lia)
theorem gI_nat2 {A B : List Int} {x y z : Int} {a : Int} (h0 : 0 ≤ a) (h : A.length = a.toNat) : gI (A ++ x :: y :: z :: B) (a + 2) = z := by
 have : A ++ x :: y :: z :: B = (A ++ [x, y]) ++ z :: B := by simp
 rw [this]
 exact gI_nat (by lia) (by simp; lia)
theorem cut2 {w : List Int} {a : Int} (h0 : 0 ≤ a) (h1 : a < (w.length : Int) - 1) : ∃ A p q B, w = A ++ p :: q :: B ∧ A.length = a.toNat := by
 refine ⟨w.take a.toNat, w[a.toNat]'(by lia), w[a.toNat + 1]'(by lia), w.drop (a.toNat + 2), ?_, by rw [List.length_take]; lia⟩
 conv => lhs; rw [← List.take_append_drop a.toNat w, List.drop_eq_getElem_cons (by lia), List.drop_eq_getElem_cons (by lia)]
theorem cut3 {w : List Int} {a : Int} (h0 : 0 ≤ a) (h1 : a < (w.length : Int) - 2) : ∃ A p q r B, w = A ++ p :: q :: r :: B ∧ A.length = a.toNat := by
 obtain ⟨A, p, q, B, e, h⟩ := cut2 (w := w) (a := a) h0 (by lia)
 cases B with
 | nil => rw [e] at h1; simp at h1; lia
 | cons r B => exact ⟨A, p, q, r, B, e, h⟩
theorem take_nat {A B : List Int} {a : Int} (h : A.length = a.toNat) : (A ++ B).take a.toNat = A := by rw [← h]; simp
theorem drop_nat {A B : List Int} {a : Int} (h : A.length = a.toNat) : (A ++ B).drop a.toNat = B := by rw [← h]; simp
theorem drop_nat2 {A B : List Int} {x y : Int} {a : Int} (h0 : 0 ≤ a) (h : A.length = a.toNat) : (A ++ x :: y :: B).drop (a + 2).toNat = B := by
 have : A ++ x :: y :: B = (A ++ [x, y]) ++ B := by simp
 rw [this]
 exact drop_nat (by simp; lia)
theorem drop_nat3 {A B : List Int} {x y z : Int} {a : Int} (h0 : 0 ≤ a) (h : A.length = a.toNat) : (A ++ x :: y :: z :: B).drop (a + 3).toNat = B := by
 have : A ++ x :: y :: z :: B = (A ++ [x, y, z]) ++ B := by simp
 rw [this]
 exact drop_nat (by simp; lia)
theorem swapN_cons {A B : List Int} {x y : Int} {k : Nat} (h : A.length = k) : swapN (A ++ x :: y :: B) k = A ++ y :: x :: B := by
 rw [← swapN_cut _ _ (by simp; lia)]
 have e1 := gI_nat (A := A) (B := y :: B) (x := x) (a := (k : Int)) (by lia) (by lia)
 have e2 := gI_nat1 (A := A) (B := B) (x := x) (y := y) (a := (k : Int)) (by lia) (by lia)
 have e3 := drop_nat2 (A := A) (B := B) (x := x) (y := y) (a := (k : Int)) (by lia) (by lia)
 have e4 := take_nat (A := A) (B := x :: y :: B) (a := (k : Int)) (by lia)
 unfold gI at e1 e2
 rw [show ((k : Int)).toNat = k by lia] at e1 e4
 rw [show ((k : Int) + 1).toNat = k + 1 by lia] at e2
 rw [show ((k : Int) + 2).toNat = k + 2 by lia] at e3
 rw [e1, e2, e3, e4]
 simp
theorem threeL_cons {A B : List Int} {p q r : Int} {a : Int} (h0 : 0 ≤ a) (h : A.length = a.toNat) : threeL (A ++ p :: q :: r :: B) a = A ++ sgnL q r :: sgnL p q :: sgnL q p :: B := by
 unfold threeL
 rw [gI_nat h0 h, gI_nat1 h0 h, gI_nat2 h0 h, take_nat h, drop_nat3 h0 h]
 simp
theorem outL_cons {A B : List Int} {p q : Int} {a : Int} (h0 : 0 ≤ a) (h : A.length = a.toNat) : (A ++ p :: q :: B).take a.toNat ++ (A ++ p :: q :: B).drop (a + 2).toNat = A ++ B := by rw [take_nat h, drop_nat2 h0 h]
theorem inL_cons {A B : List Int} {l : Int} {a : Int} (h : A.length = a.toNat) : inL (A ++ B) a l = A ++ l :: -l :: B := by
 unfold inL
 rw [take_nat h, drop_nat h]
 simp
theorem canFar_cons {A B : List Int} {p q : Int} {a : Int} (h0 : 0 ≤ a) (h : A.length = a.toNat) : canFar (A ++ p :: q :: B) a = true ↔ 1 < (((p.natAbs : Int) - (q.natAbs : Int)).natAbs : Int) := by
 unfold canFar
 rw [gI_nat h0 h, gI_nat1 h0 h]
 simp only [Bool.and_eq_true, decide_eq_true_eq, List.length_append, List.length_cons]
 constructor
 · exact fun h => h.2
 · exact fun z => ⟨by lia, z⟩
theorem canOut_cons {A B : List Int} {p q : Int} {a : Int} (h0 : 0 ≤ a) (h : A.length = a.toNat) : canOut (A ++ p :: q :: B) a = true ↔ p = -q := by
 unfold canOut
 rw [gI_nat h0 h, gI_nat1 h0 h]
 simp only [Bool.and_eq_true, decide_eq_true_eq, List.length_append, List.length_cons]
 constructor
 · exact fun h => h.2
 · exact fun z => ⟨by lia, z⟩
theorem mul_sgn {p q : Int} (hp : p ≠ 0) (hq : q ≠ 0) : 0 < p * q ↔ (0 < p ↔ 0 < q) := by
 rcases Int.lt_or_gt_of_ne hp with h | h <;> rcases Int.lt_or_gt_of_ne hq with g | g
 · exact ⟨fun _ => by lia, fun _ => Int.mul_pos_of_neg_of_neg h g⟩
 · exact ⟨fun z => absurd z (by have := Int.mul_neg_of_neg_of_pos h g; lia), fun z => by lia⟩
 · exact ⟨fun z => absurd z (by have := Int.mul_neg_of_pos_of_neg h g; lia), fun z => by lia⟩
 · exact ⟨fun _ => by lia, fun _ => Int.mul_pos h g⟩
noncomputable def ThreeOK (p q r : Int) : Prop := p.natAbs = r.natAbs ∧ (p.natAbs + 1 = q.natAbs ∨ q.natAbs + 1 = p.natAbs) ∧ (p = r → (0 < p ↔ 0 < q))
theorem off_one {a b : Nat} : ((((a : Int) - (b : Int)).natAbs : Nat) : Int) = 1 ↔ (a + 1 = b ∨ b + 1 = a) := by lia
theorem canThree_cons {A B : List Int} {p q r : Int} {a : Int} (h0 : 0 ≤ a) (h : A.length = a.toNat) (hp : p ≠ 0) (hq : q ≠ 0) : canThree (A ++ p :: q :: r :: B) a = true ↔ ThreeOK p q r := by
 unfold canThree ThreeOK
 rw [gI_nat h0 h, gI_nat1 h0 h, gI_nat2 h0 h]
 simp only [Bool.and_eq_true, decide_eq_true_eq, List.length_append, List.length_cons, Bool.or_eq_true, Bool.not_eq_true', decide_eq_false_iff_not, mul_sgn hp hq, off_one]
 constructor
 · rintro ⟨_, ⟨h1, h2⟩, h3⟩
   exact ⟨Int.ofNat.inj h1, h2, fun e => h3.resolve_left fun z => z e⟩
 · rintro ⟨h1, h2, h3⟩
   refine ⟨⟨h0, ?_⟩, ⟨congrArg _ h1, h2⟩, ?_⟩
   · clear hp hq h1 h2 h3
     lia
   · by_cases e : p = r
     · exact .inr (h3 e)
     · exact .inl e
theorem sgnL_abs (p q : Int) : (sgnL p q).natAbs = p.natAbs := by unfold sgnL; split <;> lia
theorem _root_.LM.WordOK.sub {n : Int} {u v : List Int} (h : WordOK n u) (g : ∀ x ∈ v, x ∈ u) : WordOK n v := fun x hx => h x (g x hx)
theorem _root_.LM.LetOK.abs {n x y : Int} (h : LetOK n x) (e : y.natAbs = x.natAbs) : LetOK n y := by unfold LetOK at h ⊢; rw [e]; exact h
theorem far_back {n : Int} {w : List Int} {a : Int} (h : canFar w a = true) (hw : WordOK n w) : canFar (swapN w a.toNat) a = true ∧ swapN (swapN w a.toNat) a.toNat = w ∧ WordOK n (swapN w a.toNat) ∧ (swapN w a.toNat).length = w.length := by
 have hb : 0 ≤ a ∧ a < (w.length : Int) - 1 := by
   unfold canFar at h
   simp only [Bool.and_eq_true, decide_eq_true_eq] at h
   exact h.1
 obtain ⟨A, p, q, B, rfl, hA⟩ := cut2 hb.1 hb.2
 rw [canFar_cons hb.1 hA] at h
 rw [swapN_cons hA, swapN_cons hA, canFar_cons hb.1 hA]
 refine ⟨by lia, rfl, hw.sub fun x hx => ?_, by simp⟩
 simp only [List.mem_append, List.mem_cons] at hx ⊢
 rcases hx with h | h | h | h <;> simp [h]
theorem out_back {n : Int} {w : List Int} {a : Int} (h : canOut w a = true) (hw : WordOK n w) : inL (w.take a.toNat ++ w.drop (a + 2).toNat) a (gI w a) = w ∧ WordOK n (w.take a.toNat ++ w.drop (a + 2).toNat) ∧ (w.take a.toNat ++ w.drop (a + 2).toNat).length + 2 = w.length ∧ 0 ≤ a ∧ a ≤ ((w.take a.toNat ++ w.drop (a + 2).toNat).length : Int) ∧ LetOK n (gI w a) ∧ a < w.length := by
 have hb : 0 ≤ a ∧ a < (w.length : Int) - 1 := by
   unfold canOut at h
   simp only [Bool.and_eq_true, decide_eq_true_eq] at h
   exact h.1
 obtain ⟨A, p, q, B, rfl, hA⟩ := cut2 hb.1 hb.2
 rw [canOut_cons hb.1 hA] at h
 rw [outL_cons hb.1 hA, inL_cons hA, gI_nat hb.1 hA]
 refine ⟨by rw [h]; simp, hw.sub fun x hx => ?_, by simp; lia, hb.1, by simp; lia, hw p (by simp), by simp; lia⟩
 simp only [List.mem_append, List.mem_cons] at hx ⊢
 rcases hx with h | h <;> simp [h]
theorem in_back {n : Int} {w : List Int} {a l : Int} (h0 : 0 ≤ a) (h1 : a ≤ (w.length : Int)) (hw : WordOK n w) (hl : LetOK n l) : canOut (inL w a l) a = true ∧ (inL w a l).take a.toNat ++ (inL w a l).drop (a + 2).toNat = w ∧ WordOK n (inL w a l) ∧ (inL w a l).length = w.length + 2 := by
 have e := List.take_append_drop a.toNat w
 have hA : (w.take a.toNat).length = a.toNat := by rw [List.length_take]; lia
 generalize w.take a.toNat = A at e hA
 generalize w.drop a.toNat = B at e
 subst e
 rw [inL_cons hA, outL_cons h0 hA, canOut_cons h0 hA]
 refine ⟨by lia, rfl, fun x hx => ?_, by simp; lia⟩
 simp only [List.mem_append, List.mem_cons] at hx
 rcases hx with h | h | h | h
 · exact hw x (by simp [h])
 · rw [h]; exact hl
 · rw [h]; exact hl.abs (by lia)
 · exact hw x (by simp [h])
end L2
namespace L2
open PySem PySem.Spec PyProof.Rows LM
inductive Stp where
 | far (a : Int)
 | three (a : Int)
 | out (a : Int)
 | inn (a l : Int)
noncomputable def inB (n : Int) (w : List Int) (a l : Int) : Bool := decide (0 ≤ a ∧ a ≤ (w.length : Int)) && isLet n l
noncomputable def outL (w : List Int) (a : Int) : List Int := w.take a.toNat ++ w.drop (a + 2).toNat
noncomputable def aft (n : Int) (w : List Int) : Stp → Option (List Int)
 | .far a => if canFar w a then some (swapN w a.toNat) else none
 | .three a => if canThree w a then some (threeL w a) else none
 | .out a => if canOut w a then some (outL w a) else none
 | .inn a l => if inB n w a l then some (inL w a l) else none
theorem threeL_length {w : List Int} {a : Int} (h0 : 0 ≤ a) (h1 : a < (w.length : Int) - 2) : (threeL w a).length = w.length := by
 unfold threeL
 rw [List.length_append, List.length_append, List.length_take, List.length_drop]
 simp only [List.length_cons, List.length_nil]
 lia
theorem three_keep {n : Int} {w : List Int} {a : Int} (h : canThree w a = true) (hw : WordOK n w) : WordOK n (threeL w a) ∧ (threeL w a).length = w.length := by
 have hb : 0 ≤ a ∧ a < (w.length : Int) - 2 := by
   unfold canThree at h
   simp only [Bool.and_eq_true, decide_eq_true_eq] at h
   exact h.1
 refine ⟨?_, threeL_length hb.1 hb.2⟩
 obtain ⟨A, p, q, r, B, rfl, hA⟩ := cut3 hb.1 hb.2
 have lp := hw p (by simp)
 have lq := hw q (by simp)
 rw [threeL_cons hb.1 hA]
 intro x hx
 simp only [List.mem_append, List.mem_cons] at hx
 rcases hx with h | h | h | h | h
 · exact hw x (by simp [h])
 · rw [h]; exact lq.abs (sgnL_abs q r)
 · rw [h]; exact lp.abs (sgnL_abs p q)
 · rw [h]; exact lq.abs (sgnL_abs q p)
 · exact hw x (by simp [h])
theorem aft_ok {n : Int} {w r : List Int} {s : Stp} (hw : WordOK n w) (h : aft n w s = some r) : WordOK n r ∧ r.length ≤ w.length + 2 := by
 cases s with
 | far a =>
   replace h : (if canFar w a = true then some (swapN w a.toNat) else none) = some r := h
   split at h
   · rename_i c
     obtain rfl := Option.some.inj h
     obtain ⟨_, _, h3, h4⟩ := far_back c hw
     exact ⟨h3, by lia⟩
   · cases h
 | three a =>
   replace h : (if canThree w a = true then some (threeL w a) else none) = some r := h
   split at h
   · rename_i c
     obtain rfl := Option.some.inj h
     obtain ⟨h3, h4⟩ := three_keep c hw
     exact ⟨h3, by lia⟩
   · cases h
 | out a =>
   replace h : (if canOut w a = true then some (outL w a) else none) = some r := h
   split at h
   · rename_i c
     obtain rfl := Option.some.inj h
     obtain ⟨_, h3, h4, _⟩ := out_back c hw
     exact ⟨h3, by unfold outL; lia⟩
   · cases h
 | inn a l =>
   replace h : (if inB n w a l = true then some (inL w a l) else none) = some r := h
   split at h
   · rename_i c
     obtain rfl := Option.some.inj h
     unfold inB at c
     simp only [Bool.and_eq_true, decide_eq_true_eq, isLet_iff] at c
     obtain ⟨_, _, h3, h4⟩ := in_back c.1.1 c.1.2 hw c.2
     exact ⟨h3, by lia⟩
   · cases h
end L2
namespace L2
open PySem PySem.Spec PyProof.Rows LM
noncomputable def aftL (n : Int) (w : List Int) : List Stp → Option (List Int)
 | [] => some w
 | s :: L => match aft n w s with
   | some r => aftL n r L
   | none => none
theorem aftL_cons (n : Int) (w : List Int) (s : Stp) (L : List Stp) : aftL n w (s :: L) = match aft n w s with | some r => aftL n r L | none => none := rfl
end L2
namespace L2
open PySem PySem.Spec PyProof.Rows LM
noncomputable def ptT (p : Int × List Int) : T := .tup [.int p.1, .tup (p.2.map .int)]
theorem snoc_of {w : List Int} (h : w ≠ []) : ∃ A y, w = A ++ [y] := by
 rcases List.eq_nil_or_concat w with e | ⟨A, y, e⟩
 · exact absurd e h
 · exact ⟨A, y, by rw [e, List.concat_eq_append]⟩
end L2
namespace L2
open PySem PySem.Spec PyProof.Rows LM
end L2
namespace L2
open PySem PySem.Spec PyProof.Rows LM
theorem rangeT_range0 (n : Int) : rangeT 0 n.toNat = (range0 n).map .int := by
 unfold rangeT range0
 rw [List.map_map]
 exact List.map_congr_left fun i _ => by show T.int (0 + (i : Nat)) = T.int (i : Nat); rw [Int.zero_add]
end L2
namespace L2
open PySem PySem.Spec PyProof.Rows LM
end L2
namespace L2
open PySem PySem.Spec PyProof.Rows LM
end L2
namespace L2
open PySem PySem.Spec PyProof.Rows LM
end L2
namespace L2
open PySem PySem.Spec PyProof.Rows LM
end L2
namespace L2
open PySem PySem.Spec PyProof.Rows LM
end L2
namespace L2
open PySem PySem.Spec PyProof.Rows LM
theorem seq_cut {a b : TS3} {D : Ends3} {ρ : En} {M : MH} (h : ∀ K : En → MH → Prop, K = b D → a { D with nx := K } ρ M) : tSeq3 a b D ρ M := h _ rfl
theorem seq_cut2 {a b c : TS3} {D : Ends3} {ρ : En} {M : MH} (h : ∀ K : En → MH → Prop, K = c D → tSeq3 a b { D with nx := K } ρ M) : tSeq3 a (tSeq3 b c) D ρ M := h _ rfl
theorem seq_cut3 {a b c d : TS3} {D : Ends3} {ρ : En} {M : MH} (h : ∀ K : En → MH → Prop, K = d D → tSeq3 a (tSeq3 b c) { D with nx := K } ρ M) : tSeq3 a (tSeq3 b (tSeq3 c d)) D ρ M := h _ rfl
theorem seq_cut4 {a b c d e : TS3} {D : Ends3} {ρ : En} {M : MH} (h : ∀ K : En → MH → Prop, K = e D → tSeq3 a (tSeq3 b (tSeq3 c d)) { D with nx := K } ρ M) : tSeq3 a (tSeq3 b (tSeq3 c (tSeq3 d e))) D ρ M := h _ rfl
end L2
namespace L2
open PySem PySem.Spec PyProof.Rows LM
end L2
namespace L2
open PySem PySem.Spec PyProof.Rows LM
end L2
namespace L2
open PySem PySem.Spec PyProof.Rows LM
end L2
namespace L2
open PySem PySem.Spec PyProof.Rows LM
end L2
namespace L2
open PySem PySem.Spec PyProof.Rows LM
theorem gI_get {u : List Int} {j : Nat} (h : j < u.length) : gI u j = u[j] := by
 unfold gI
 rw [Int.toNat_natCast, List.getD_eq_getElem?_getD, List.getElem?_eq_getElem h]
 rfl
theorem gI_range0 {n : Int} {k : Int} (h0 : 0 ≤ k) (h1 : k < n) : gI (range0 n) k = k := range0_get n k h0 h1
end L2
namespace L2
open PySem PySem.Spec PyProof.Rows LM
end L2
namespace L2
open PySem PySem.Spec PyProof.Rows LM
end L2
namespace L2
open PySem PySem.Spec PyProof.Rows LM
end L2
namespace L2
open PySem PySem.Spec PyProof.Rows LM
end L2
namespace L2
open PySem PySem.Spec PyProof.Rows LM
end L2
namespace L2
open PySem PySem.Spec PyProof.Rows LM
end L2
namespace L2
open PySem PySem.Spec PyProof.Rows LM
end L2
namespace L2
open PySem PySem.Spec PyProof.Rows LM
end L2
namespace L2
open PySem PySem.Spec PyProof.Rows LM
end L2
namespace L2
open PySem PySem.Spec PyProof.Rows LM
end L2
namespace L2
open PySem PySem.Spec PyProof.Rows LM
end L2
namespace LM
theorem WordOK.appl {n : Int} {w v : List Int} (h : WordOK n (w ++ v)) : WordOK n w := fun l hl => h l (List.mem_append_left _ hl)
theorem WordOK.one {n l : Int} (h : LetOK n l) : WordOK n [l] := fun x hx => by rw [List.mem_singleton.mp hx]; exact h
theorem WordOK.two {n a b : Int} (h : LetOK n a) (g : LetOK n b) : WordOK n [a, b] := fun l hl => by
 rcases List.mem_cons.mp hl with rfl | hl
 · exact h
 · rw [List.mem_singleton.mp hl]; exact g
theorem WordOK.three {n a b c : Int} (h : LetOK n a) (g : LetOK n b) (k : LetOK n c) : WordOK n [a, b, c] := fun l hl => by
 rcases List.mem_cons.mp hl with rfl | hl
 · exact h
 · exact WordOK.two g k l hl
end LM
namespace L2
open PySem PySem.Spec PyProof.Rows LM
end L2
namespace LM
theorem LetOK.lim {n l : Int} (h : LetOK n l) (h6 : n ≤ 6) : -6 < l ∧ l < 6 ∧ l ≠ 0 := by unfold LetOK at h; lia
end LM
namespace L2
open PySem PySem.Spec PyProof.Rows LM
theorem of_eqT_int {a b : Int} (h : eqT (T.int a) (T.int b) = true) : a = b := by rw [eqT_int] at h; exact of_decide_eq_true h
inductive RelW (n : Int) : List Int → List Int → Prop where
 | refl (w : List Int) : RelW n w w
 | symm {w v : List Int} : RelW n w v → RelW n v w
 | trans {w v x : List Int} : RelW n w v → RelW n v x → RelW n w x
 | ctx {w v : List Int} (a b : List Int) : WordOK n a → WordOK n b → RelW n w v → RelW n (a ++ w ++ b) (a ++ v ++ b)
 | far {a b : Int} : LetOK n a → LetOK n b → (a.natAbs + 1 < b.natAbs ∨ b.natAbs + 1 < a.natAbs) → RelW n [a, b] [b, a]
 | three {p q : Int} : LetOK n p → LetOK n q → p * q > 0 → (p - q).natAbs = 1 → RelW n [p, q, p] [q, p, q]
 | out {l : Int} : LetOK n l → RelW n [l, -l] []
section
variable {n : Int} (h6 : n ≤ 6)
include h6
end
end L2
namespace L2
open PySem PySem.Spec PyProof.Rows LM
end L2
namespace L2
open PySem PySem.Spec PyProof.Rows LM
end L2
namespace L2
open PySem PySem.Spec PyProof.Rows LM
end L2
namespace L2
open PySem PySem.Spec PyProof.Rows LM
end L2
namespace L2
open PySem PySem.Spec PyProof.Rows LM
theorem RelW.lf {n : Int} {a w v : List Int} (ha : WordOK n a) (h : RelW n w v) : RelW n (a ++ w) (a ++ v) := by
 have := RelW.ctx a [] ha .nil h
 rwa [List.append_nil, List.append_nil] at this
theorem RelW.rt {n : Int} {b w v : List Int} (hb : WordOK n b) (h : RelW n w v) : RelW n (w ++ b) (v ++ b) := RelW.ctx [] b .nil hb h
theorem RelW.bk {n : Int} : ∀ {w : List Int}, WordOK n w → RelW n (contrL w ++ w) []
 | [], _ => .refl _
 | l :: w, hw => by
   have hl : LetOK n l := hw l List.mem_cons_self
   have hw' : WordOK n w := fun x hx => hw x (List.mem_cons_of_mem _ hx)
   rw [contrL_cons, List.append_assoc]
   have o := RelW.out hl.neg
   rw [Int.neg_neg] at o
   have := RelW.ctx (contrL w) w hw'.contr hw' o
   rw [List.append_nil, List.append_assoc] at this
   exact this.trans (RelW.bk hw')
section
variable {n : Int}
end
end L2
namespace L2
open PySem PySem.Spec PyProof.Rows LM
section
variable {n : Int}
end
end L2
namespace L2
open PySem PySem.Spec PyProof.Rows LM
end L2
namespace L2
open PySem PySem.Spec PyProof.Rows LM
section
variable {n : Int}
end
end L2
namespace L2
open PySem PySem.Spec PyProof.Rows
noncomputable def rangeD (hi : Int) (n : Nat) : List T := (List.range n).map fun i => T.int (hi - (i : Nat))
section
variable {X : Cx} {a b c : Expr} {t : TA3} {pos : Pos}
noncomputable def iRng3_3 (t : TA3) : TI3 := fun ρ M R => t ρ M fun xs M1 => match xs with
 | [.int i, .int j, .int s] => (s = -1 ∧ -(2 ^ 62) ≤ i ∧ i < 2 ^ 62 ∧ -(2 ^ 62) ≤ j ∧ j < 2 ^ 62) ∧ R ⟨rangeD i (i - j).toNat, fun _ => True⟩ M1
 | _ => False
end
end L2
namespace L2
open PySem PySem.Spec PyProof.Rows
noncomputable def Itlr (K : PySem.W.Frag) (a : Addr) (n : Nat) : It :=
 ⟨fun i H => i < n ∧ ∃ xs, SqL K H a xs ∧ xs.length = n, fun i H x H' => H' = H ∧ ∀ xs, SqL K H a xs → xs.reverse[i]? = some x, fun i H => i = n⟩
theorem turn_revL {P : Program} {w : World} {K : PySem.W.Frag} {tg : Expr} (a it : Addr) (n : Nat) : Turn P w K tg (Itlr K a n) [it] it (fun i h => Heap.IsRevIter h it a ((n : Int) - 1 - (i : Int))) where
 mem := by simp
 obj := fun i h st b hb => by
   have e : b = it := by simpa using hb
   subst e
   obtain ⟨o, e, c, d⟩ := st
   exact ⟨o, e, fun v z => by rw [d] at z; cases z⟩
 keep := fun i h h' st k => st.at fun o e => k it (by simp) o e
 item := by
   intro X hP hw hK hc i pins s σ H E I hf st hg
   subst hP hw hK
   obtain ⟨hi, xs, hq, hxn⟩ := hg
   subst hxn
   obtain ⟨its, rv, p, hz⟩ := I.list hq
   have hl := rv.length
   obtain ⟨x, hx'⟩ : ∃ x, xs[xs.length - 1 - i]? = some x := ⟨_, List.getElem?_eq_getElem (by lia)⟩
   obtain ⟨u, hu, ru⟩ := rv.get hx'
   obtain ⟨f0, f1, f2, f3, f4, f5⟩ := hf it (by simp)
   have e1 : (xs.length : Int) - 1 - (i : Int) = ((xs.length - 1 - i : Nat) : Int) := by lia
   rw [e1] at st
   refine wpAny_pyNext_rev_item st p.isList (x := u) (by simpa using hu) fun h' st' sb => ?_
   have I1 : Inv X pins σ H { s with heap := h' } := I.turned (t' := s.toks) (fun b o hb e => (sb.2 b hb).trans e) f0 f1 f3 f4 f5
   have e2 : ((xs.length - 1 - i : Nat) : Int) - 1 = (xs.length : Int) - 1 - ((i + 1 : Nat) : Int) := by lia
   rw [e2] at st'
   obtain ⟨o, e, c, d⟩ := id st'
   exact ⟨u, rfl, go_of (s := { s with heap := h' }) e c d (by decide) ⟨x, H, I1, ru, ⟨rfl, fun ys hy => by rw [I.list_inj hy hq, List.getElem?_reverse hi]; exact hx'⟩, st', fun b hb => (hf b hb).1⟩⟩
 done := by
   intro X hP hw hK hc i pins s σ H E I hf st hg
   subst hP hw hK
   have hg' : i = n := hg
   subst hg'
   obtain ⟨f0, f1, f2, f3, f4, f5⟩ := hf it (by simp)
   have e1 : (i : Int) - 1 - (i : Int) = -1 := by lia
   rw [e1] at st
   exact wpAny_pyNext_rev_end (I.ok.hd hc) st fun h' eb => ⟨rfl, I.turned (t' := s.toks) (fun b o hb e => eb b o hb e) f0 f1 f3 f4 f5⟩
 self := fun _ _ _ _ _ st h => wpAny_pyIter_revIter st h
section
variable {X : Cx}
theorem itok_revL {K : PySem.W.Frag} {H : Hp} {a : Addr} {ts : List T} : ItOk K H (Itlr K a ts.length) ⟨ts.reverse, fun M' => M' a = some (.lst ts)⟩ := by
 refine ⟨fun H' M' k hh st => by show ts.reverse.length = _; rw [List.length_reverse], fun i x H' M' e k hh st => ?_⟩
 have e' : ts.reverse[i]? = some x := e
 have hi : i < ts.length := by have := (List.getElem?_eq_some_iff.mp e').1; simpa using this
 rw [List.getElem?_reverse hi] at e'
 obtain ⟨xs, g1, g2⟩ := hh _ _ st
 have hl := g2.length
 obtain ⟨v, e1, r1⟩ := g2.get e'
 refine ⟨⟨hi, xs, SqL.of g1, hl⟩, fun v' H'' y => ?_⟩
 obtain ⟨rfl, y⟩ := y
 have y2 := y xs (SqL.of g1)
 rw [List.getElem?_reverse (by lia), hl, e1] at y2
 cases y2
 exact ⟨Kp.refl, hh, r1⟩
noncomputable def iRevA (tl : TE3) : TI3 := fun ρ M R => tl ρ M fun x M1 => match x with
 | .tup ts => R ⟨ts.reverse, fun _ => True⟩ M1
 | .adr p => (match M1 p with | some (.lst ts) => R ⟨ts.reverse, fun M' => M' p = some (.lst ts)⟩ M1 | _ => False)
 | _ => False
theorem i_reversedA {tg l : Expr} {tl : TE3} {p : Pos} (hm : X.mg "reversed" = none) (hl : HE X l tl) (hg : Gl X "reversed" := by rfl) (hs : starEach [l] X.env = [(false, eval l X.env)] := by rfl) : HI X tg (.Call (.Name "reversed" p) [l] [] pos) (iRevA tl) := by
 intro ρ M R h pins s σ H R2 I b
 obtain ⟨hr, hh, en⟩ := b
 have pa := pa_cons (X := X) (hl.d (ρ := ρ)) pa_nil hs
 refine Call_ (ld_blt I hg hm PyProof.Rows.boot_reversed (PyProof.Rows.callWith_type1 (thn (pa pos pins s σ H (fun vs H1 => ∃ v t M1, vs = [v] ∧ Kp X.K H H1 ∧ HR X.K H1 M1 ∧ Rep X.K H1 v t ∧ (match t with
   | .tup ts => R ⟨ts.reverse, fun _ => True⟩ M1
   | .adr p => (match M1 p with | some (.lst ts) => R ⟨ts.reverse, fun M' => M' p = some (.lst ts)⟩ M1 | _ => False)
   | _ => False)) I ⟨M, _, h, hr, hh, fun t v M1 H1 k1 h1 r1 q1 => ⟨v, t, M1, rfl, k1, h1, r1, q1⟩⟩) fun us s1 ⟨vs, H1, I1, r1, v, t, M1, e, k1, h1, rt, q1⟩ => ?_) hs rfl))
 subst e
 cases r1 with
 | cons r rr =>
   cases rr
   split at q1
   · rename_i ts
     obtain ⟨a, xs, rfl, g1, g2⟩ := inv_tup rt
     cases r
     obtain ⟨its, rv, p, hz⟩ := I1.tuple g1
     have hlen := rv.length
     refine call_reversedT p (by simp; lia) fun h' tk kk e => ?_
     refine iter_rev (s := { s1 with heap := h', toks := tk }) e ?_
     refine ⟨s1.heap.objs.size, [s1.heap.objs.size], _, _, H1, rfl, I1.kept (t' := tk) kk, turn_rev a _ xs, ?_, fun b hb => ?_, en _ _ M1 H1 k1 h1 (itok_rev g1 g2) q1⟩
     · have e3 : ((its.toArray.size : Nat) : Int) - 1 = (xs.length : Int) - 1 - ((0 : Nat) : Int) := by
         have : its.toArray.size = its.length := by simp
         lia
       rw [e3] at e
       exact e
     · have e : b = s1.heap.objs.size := by simpa using hb
       subst e
       exact I1.fpOk (Nat.le_refl _) (I1.hok.fresh (Nat.le_refl _))
   · rename_i a
     obtain rfl := inv_adr rt
     cases r
     split at q1
     · rename_i ts e0
       obtain ⟨xs, g1, g2⟩ := h1 _ _ e0
       obtain ⟨its, rv, p, hz⟩ := I1.list (SqL.of g1)
       have hlen := rv.length
       have hl2 := g2.length
       refine call_reversed_list p.isList ?_
       have st0 : Heap.IsRevIter (s1.heap.push (revObj a ((its.toArray.size : Int) - 1))) s1.heap.objs.size a ((its.toArray.size : Int) - 1) := ⟨_, Heap.get?_push_size _ rfl, rfl, rfl⟩
       refine wpAny_pyIter_revIter (s := { s1 with heap := s1.heap.push (revObj a ((its.toArray.size : Int) - 1)) }) st0 ?_
       refine ⟨s1.heap.objs.size, [s1.heap.objs.size], _, _, H1, rfl, I1.kept (t' := s1.toks) fun b o e => Heap.get?_push_of_some _ e, turn_revL a _ ts.length, ?_, fun b hb => ?_, en _ _ M1 H1 k1 h1 itok_revL q1⟩
       · have e3 : ((its.toArray.size : Nat) : Int) - 1 = (ts.length : Int) - 1 - ((0 : Nat) : Int) := by
           have : its.toArray.size = its.length := by simp
           lia
         rw [e3] at st0 ⊢
         exact st0
       · have e : b = s1.heap.objs.size := by simpa using hb
         subst e
         exact I1.fpOk (Nat.le_refl _) (I1.hok.fresh (Nat.le_refl _))
     · exact q1.elim
   · exact q1.elim
end
end L2
namespace L2
open PySem PySem.Spec PyProof.Rows LM
end L2
namespace L2
open PySem PySem.Spec PyProof.Rows
theorem Inv.turnNew {X : Cx} {pins : List (Addr × Obj)} {σ : St} {H : Hp} {s : Shared} {h' : Heap} {t' : Nat} {e it T : Addr} {xs : List V} (I : Inv X pins σ H s) (fe : FpOk X pins H e) (fi : FpOk X pins H it)
   (k : ∀ b o, b ≠ e → b ≠ it → s.heap.get? b = some o → h'.get? b = some o) (hT : s.heap.objs.size ≤ T) (new : ObjOk X.prog X.w (upd H T (.tup xs)) h' T (.tup xs)) :
   Inv X pins σ (upd H T (.tup xs)) { s with heap := h', toks := t' } := by
 have hn : H T = none := I.hok.fresh hT
 have ne : ∀ b u, H b = some u → b ≠ e ∧ b ≠ it := fun b u q => ⟨fun z => (by rw [z, fe.1] at q; cases q), fun z => (by rw [z, fi.1] at q; cases q)⟩
 have nc : ∀ {b : Addr}, b ∉ [e, it] → b ≠ e ∧ b ≠ it := fun hc => ⟨fun z => hc (by simp [z]), fun z => hc (by simp [z])⟩
 refine I.step (g' := s.gens) (d' := s.drawn) (ch := [e, it]) (fun b hb => ?_) (fun b o _ _ hc q _ => k b o (nc hc).1 (nc hc).2 q) (fun b o _ _ hc q _ => ⟨o.slots, k b o (nc hc).1 (nc hc).2 q⟩)
   (fun b o _ q n => by rw [upd_ne (Nat.ne_of_lt (Nat.lt_of_lt_of_le (Heap.lt_size q) hT))]; exact n)
   (fun b o hc q => ⟨o, k b o (nc hc).1 (nc hc).2 q⟩) (fun b xs q => by rw [upd_ne (ne_of_none q hn)]; exact q) (fun b o u q => by rw [upd_ne (ne_of_none q hn)]; exact q) (fun b ps q => ⟨#[], by rw [upd_ne (ne_of_none q hn), q]; simp⟩) (fun m hm => ?_) (fun b u q => ?_) I.bare
 · have z : b = e ∨ b = it := by simpa using hb
   rcases z with rfl | rfl
   · exact ⟨fe.2.2.2.1, fe.2.1, fe.2.2.2.2.1, fe.2.2.2.2.2⟩
   · exact ⟨fi.2.2.2.1, fi.2.1, fi.2.2.2.2.1, fi.2.2.2.2.2⟩
 · obtain ⟨o, es, ep, ho, r⟩ := hm
   exact ⟨o, es, ep, k _ o (Ne.symm fe.2.1) (Ne.symm fi.2.1) ho, r⟩
 · by_cases hb : b = T
   · subst hb; rw [upd_same] at q; cases q; exact new
   · rw [upd_ne hb] at q
     refine (I.hok b u q).stay (fun c v hc z => ?_) (fun c z => by rw [upd_ne (ne_of_none z hn)]; exact z) fun c xs z => by rw [upd_ne (ne_of_none z hn)]; exact z
     rcases hc with y | y
     · rw [y] at z ⊢; exact k b v (ne b u q).1 (ne b u q).2 z
     · exact k c v (ne c _ y).1 (ne c _ y).2 z
noncomputable def Iten (K : PySem.W.Frag) (a : Addr) (n : Nat) : It :=
 ⟨fun i H => i < n ∧ ∃ xs, SqL K H a xs ∧ xs.length = n, fun i H x H' => ∃ T y, x = .ref T ∧ H T = none ∧ H' = upd H T (.tup [.int i, y]) ∧ ∀ xs, SqL K H a xs → xs[i]? = some y, fun i H => i = n ∧ ∃ xs, SqL K H a xs ∧ xs.length = n⟩
theorem turn_enum {P : Program} {w : World} {K : PySem.W.Frag} {es : List Expr} {x1} {tp : Pos} (a e it : Addr) (n : Nat) (hne : e ≠ it) : Turn P w K (.Tuple es x1 tp) (Iten K a n) [e, it] e (fun i h => (∃ old, IsEnum h e it (i : Int) old) ∧ Heap.IsListIter h it a i) where
 mem := by simp
 obj := fun i h st b hb => by
   obtain ⟨⟨old, he⟩, hit⟩ := st
   have z : b = e ∨ b = it := by simpa using hb
   rcases z with rfl | rfl
   · exact ⟨_, he, fun v z => by cases z⟩
   · obtain ⟨o, q, c, d⟩ := hit
     exact ⟨o, q, fun v z => by rw [d] at z; cases z⟩
 keep := fun i h h' st k => by
   obtain ⟨⟨old, he⟩, hit⟩ := st
   exact ⟨⟨old, k e (by simp) _ he⟩, hit.at fun o q => k it (by simp) o q⟩
 item := by
   intro X hP hw hK hc i pins s σ H E I hf st hg
   subst hP hw hK
   obtain ⟨⟨old, he⟩, hit⟩ := st
   obtain ⟨hi, xs, hq, hxn⟩ := hg
   subst hxn
   obtain ⟨its, rv, p, hz⟩ := I.list hq
   obtain ⟨x, hx⟩ : ∃ x, xs[i]? = some x := ⟨_, List.getElem?_eq_getElem hi⟩
   obtain ⟨u, hu, ru⟩ := rv.get hx
   have fe := hf e (by simp)
   have fi := hf it (by simp)
   refine wpAny_pyNext_enum_item he hit p.isList (x := u) (by simpa using hu) hne fun h1 ho hit1 hT hsz hk => ?_
   refine ⟨_, rfl, wpAny_letOwnedTupleGo_enum ho fun h2 he2 hs2 => ?_⟩
   have neT : s.heap.objs.size ≠ e := Nat.ne_of_gt (Heap.lt_size he)
   have k2 : ∀ b o, b ≠ e → b ≠ it → s.heap.get? b = some o → h2.get? b = some o := fun b o h3 h4 q => (hs2.2 b h3).trans (hk b o h3 h4 q)
   have hT2 : h2.get? s.heap.objs.size = some { cls := .type "tuple", data := .seq #[.int i s.toks, u] } := (hs2.2 _ neT).trans hT
   have hn : H s.heap.objs.size = none := I.hok.fresh (Nat.le_refl _)
   have I2 : Inv X pins σ (upd H s.heap.objs.size (.tup [.int i, x])) { s with heap := h2, toks := s.toks + 1 } := I.turnNew fe fi k2 (Nat.le_refl _)
     ⟨by simp only [List.length_cons, List.length_nil]; rw [sizeLine_eq]; decide, [.int i s.toks, u], .cons ⟨_, rfl⟩ (.cons ru .nil), _, hT2, rfl, rfl, _, rfl⟩
   refine ⟨.ref s.heap.objs.size, _, I2, rfl, ⟨_, x, rfl, hn, rfl, fun ys hy => by rw [I.list_inj hy hq]; exact hx⟩, ⟨⟨_, he2⟩, hit1.at fun o q => (hs2.2 it hne.symm).trans q⟩, fun b hb => ?_⟩
   have z : b = e ∨ b = it := by simpa using hb
   have hb' : b < s.heap.objs.size := by
     rcases z with rfl | rfl
     · exact Heap.lt_size he
     · obtain ⟨o, q, _⟩ := hit
       exact Heap.lt_size q
   rw [upd_ne (Nat.ne_of_lt hb')]
   exact (hf b hb).1
 done := by
   intro X hP hw hK hc i pins s σ H E I hf st hg
   subst hP hw hK
   obtain ⟨⟨old, he⟩, hit⟩ := st
   obtain ⟨hi, xs, hq, hxn⟩ := hg
   subst hi
   obtain ⟨its, rv, p, hz⟩ := I.list hq
   have hl := rv.length
   obtain ⟨f0, f1, f2, f3, f4, f5⟩ := hf it (by simp)
   exact wpAny_pyNext_enum_end (I.ok.hd hc) he hit p.isList (Array.getElem?_eq_none (by simp; lia)) fun h' eb => ⟨rfl, I.turned (t' := s.toks) (fun b o hb e => eb b o hb e) f0 f1 f3 f4 f5⟩
 self := fun A i s Q E st h => by
   obtain ⟨⟨old, he⟩, _⟩ := st
   exact wpAny_pyIter_enum he h
theorem for_cut {i : TI3} {g : TG3} {b : TS3} {D : Ends3} {ρ : En} {M : MH} (h : ∀ B : TS3, B = b → tFor3 i g B D ρ M) : tFor3 i g b D ρ M := h _ rfl
section
variable {X : Cx}
noncomputable def enT (ts : List T) : List T := (List.range ts.length).map fun i => .tup [.int (i : Nat), ts.getD i .non]
theorem enT_length (ts : List T) : (enT ts).length = ts.length := by unfold enT; rw [List.length_map, List.length_range]
theorem enT_get {ts : List T} {i : Nat} {x : T} (h : (enT ts)[i]? = some x) : ∃ t, ts[i]? = some t ∧ x = .tup [.int i, t] := by
 have hi : i < ts.length := by have := (List.getElem?_eq_some_iff.mp h).1; rwa [enT_length] at this
 unfold enT at h
 rw [List.getElem?_map, List.getElem?_range hi] at h
 refine ⟨ts[i], List.getElem?_eq_getElem hi, ?_⟩
 have e : ts.getD i .non = ts[i] := by rw [List.getD_eq_getElem?_getD, List.getElem?_eq_getElem hi]; rfl
 rw [← e]
 exact (Option.some.inj h).symm
theorem itok_enum {K : PySem.W.Frag} {H : Hp} {a : Addr} {ts : List T} : ItOk K H (Iten K a ts.length) ⟨enT ts, fun M' => M' a = some (.lst ts)⟩ := by
 refine ⟨fun H' M' k hh st => ?_, fun i x H' M' e k hh st => ?_⟩
 · obtain ⟨xs, g1, g2⟩ := hh _ _ st
   exact ⟨by show (enT ts).length = _; rw [enT_length], xs, SqL.of g1, g2.length⟩
 · obtain ⟨t, ht, rfl⟩ := enT_get e
   obtain ⟨xs, g1, g2⟩ := hh _ _ st
   obtain ⟨v, e1, r1⟩ := g2.get ht
   refine ⟨⟨(List.getElem?_eq_some_iff.mp ht).1, xs, SqL.of g1, g2.length⟩, fun v' H'' y => ?_⟩
   obtain ⟨p, y, rfl, hn, rfl, hy⟩ := y
   have e2 := hy xs (SqL.of g1)
   rw [e1] at e2
   cases e2
   refine ⟨Kp.new hn, hh.keep hn, rep_tup (SqT.of upd_same) ?_⟩
   unfold Reps
   refine ⟨_, _, rfl, rep_int, ?_⟩
   unfold Reps
   refine ⟨_, _, rfl, Rep.kp (Kp.new hn) _ _ r1, ?_⟩
   unfold Reps
   rfl
noncomputable def iEnum (tl : TE3) : TI3 := fun ρ M R => tl ρ M fun x M1 => match x with
 | .adr p => (match M1 p with | some (.lst ts) => R ⟨enT ts, fun M' => M' p = some (.lst ts)⟩ M1 | _ => False)
 | _ => False
theorem i_enum {es : List Expr} {x1} {tp pos : Pos} {l : Expr} {tl : TE3} {p : Pos} (hm : X.mg "enumerate" = none) (hl : HE X l tl) (hg : Gl X "enumerate" := by rfl) (hs : starEach [l] X.env = [(false, eval l X.env)] := by rfl) : HI X (.Tuple es x1 tp) (.Call (.Name "enumerate" p) [l] [] pos) (iEnum tl) := by
 intro ρ M R h pins s σ H R2 I b
 obtain ⟨hr, hh, en⟩ := b
 have pa := pa_cons (X := X) (hl.d (ρ := ρ)) pa_nil hs
 refine Call_ (ld_blt I hg hm PyProof.Rows.boot_enumerate (PyProof.Rows.callWith_type1 (thn (pa pos pins s σ H (fun vs H1 => ∃ v t M1, vs = [v] ∧ Kp X.K H H1 ∧ HR X.K H1 M1 ∧ Rep X.K H1 v t ∧ (match t with
   | .adr p => (match M1 p with | some (.lst ts) => R ⟨enT ts, fun M' => M' p = some (.lst ts)⟩ M1 | _ => False)
   | _ => False)) I ⟨M, _, h, hr, hh, fun t v M1 H1 k1 h1 r1 q1 => ⟨v, t, M1, rfl, k1, h1, r1, q1⟩⟩) fun us s1 ⟨vs, H1, I1, r1, v, t, M1, e, k1, h1, rt, q1⟩ => ?_) hs rfl))
 subst e
 cases r1 with
 | cons r rr =>
   cases rr
   split at q1
   · rename_i a
     obtain rfl := inv_adr rt
     cases r
     split at q1
     · rename_i ts e0
       obtain ⟨xs, g1, g2⟩ := h1 _ _ e0
       obtain ⟨its, rv, p, hz⟩ := I1.list (SqL.of g1)
       refine call_enumerate_list p.isList fun h' he hit hsz hk => ?_
       refine wpAny_pyIter_enum (s := { s1 with heap := h' }) he ?_
       refine ⟨s1.heap.objs.size + 1, [s1.heap.objs.size + 1, s1.heap.objs.size], _, _, H1, rfl, I1.kept (t' := s1.toks) hk, turn_enum a _ _ ts.length (Nat.succ_ne_self _), ⟨⟨_, he⟩, hit⟩, fun b hb => ?_, en _ _ M1 H1 k1 h1 itok_enum q1⟩
       have z : b = s1.heap.objs.size + 1 ∨ b = s1.heap.objs.size := by simpa using hb
       rcases z with rfl | rfl
       · exact I1.fpOk (Nat.le_succ _) (I1.hok.fresh (Nat.le_succ _))
       · exact I1.fpOk (Nat.le_refl _) (I1.hok.fresh (Nat.le_refl _))
     · exact q1.elim
   · exact q1.elim
end
end L2
namespace L2
open PySem PySem.Spec PyProof.Rows
section
variable {X : Cx} {pins : List (Addr × Obj)} {σ : St} {H : Hp} {s : Shared}
end
end L2
namespace L2
open PySem PySem.Spec PyProof.Rows
section
variable {X : Cx} {Ha : Hp} {a b c e : Expr} {es : List Expr} {st : Stmt} {rest ba bb body : List Stmt} {ta tb te : TE3} {tA : TT3} {t u : TS3} {pos : Pos}
end
section
variable {X : Cx} {Ha : Hp} {e : Expr} {es : List Expr} {t : TA3} {pos : Pos}
end
end L2
namespace L2
open PySem PySem.Spec PyProof.Rows
section
variable {X : Cx} {Ha : Hp} {e : Expr} {te : TE3} {pos : Pos}
end
section
variable {P : Program} {w : World} {K : PySem.W.Frag} {mg : Str → Option Value} {base : Heap}
end
end L2
namespace L2
open PySem PySem.Spec PyProof.Rows
section
variable {prog : Program} {w : World} {A : Around} {E : Value → Shared → Prop} {s : Shared} {h : Heap} {g : Array GenState} {d : Drawn} {t : Nat} {os : OsState} {a C : Addr} {o : Obj} {K : PySem.W.Frag}
local macro_rules | `(tactic| walk_at "xc") => `(tactic| (repeat any_goals (first | wp_step | assumption)))
end
end L2
namespace L2
open PySem PySem.Spec PyProof.Rows
end L2
namespace L2
open PySem PySem.Spec PyProof.Rows
section
variable {X : Cx} {pos : Pos}
end
end L2
namespace L2
open PySem PySem.Spec PyProof.Rows
section
variable {X : Cx} {pins : List (Addr × Obj)} {σ : St} {H : Hp} {s : Shared}
end
end L2
namespace L2
open PySem PySem.Spec PyProof.Rows
local macro_rules | `(tactic| walk_at "xc") => `(tactic| (repeat any_goals (first | wp_step | assumption)))
section
variable {X : Cx} {pos : Pos}
end
end L2
namespace L2
open PySem PySem.Spec PyProof.Rows
section
variable {X : Cx} {pins : List (Addr × Obj)} {σ σ' : St} {H : Hp} {s : Shared}
end
end L2
namespace L2
open PySem PySem.Spec PyProof.Rows
section
variable {X : Cx} {body : List Stmt}
end
end L2
namespace L2
open PySem PySem.Spec PyProof.Rows
section
variable {K : PySem.W.Frag} {mg : Str → Option Value} {P : Addr} {cs : List (Str × Addr)}
end
section
variable {X : Cx}
end
end L2
namespace L2
open PySem PySem.Spec PyProof.Rows
end L2
namespace L2
open PySem PySem.Spec PyProof.Rows
section
variable {X : Cx}
end
end L2
namespace L2
open PySem PySem.Spec PyProof.Rows
end L2
namespace L2
open PySem PySem.Spec PyProof.Rows
section
variable {X : Cx} {d : Addr} {ks : List (Str × Addr)}
end
section
variable {X : Cx} {d : Addr} {ks : List (Str × Addr)}
end
end L2
namespace L2
open PySem PySem.Spec PyProof.Rows
section
variable {X : Cx}
end
end L2
namespace L2
open PySem PySem.Spec PyProof.Rows
section
variable {X : Cx} {Ha : Hp} {body : List Stmt} {pos : Pos}
end
end L2
namespace L2
open PySem PySem.Spec PyProof.Rows
open AutoSeq1 (wpAny_loadPart')
section
variable {prog : Program} {w : World} {A : Around} {E : Value → Shared → Prop} {s : Shared}
end
section
variable {X : Cx}
end
theorem starEach_tup {es rest : List Expr} {x1} {pos : Pos} {env : Env} : starEach (.Tuple es x1 pos :: rest) env = (false, eval (.Tuple es x1 pos) env) :: starEach rest env := rfl
theorem a_consT {X : Cx} {es1 es : List Expr} {x1} {pos : Pos} {ta : TE3} {t : TA3} (ha : HE X (.Tuple es1 x1 pos) ta) (hr : HA X es t) : HA X (.Tuple es1 x1 pos :: es) (tCons3 ta t) := a_cons ha hr (hs := starEach_tup)
end L2
namespace L2
open PySem PySem.Spec PyProof.Rows
section
variable {prog : Program} {w : World} {A : Around} {E : Value → Shared → Prop} {s : Shared}
end
section
variable {X : Cx}
theorem ints_reps {K : PySem.W.Frag} {H : Hp} : ∀ ns : List Int, Reps K H (ns.map V.int) (ns.map .int)
 | [] => by rw [List.map_nil, List.map_nil]; unfold Reps; rfl
 | n :: ns => by
   rw [List.map_cons, List.map_cons]
   unfold Reps
   exact ⟨_, _, rfl, rep_int, ints_reps ns⟩
end
theorem len_1 {α : Type} {us : List α} {P : List α → Prop} (hl : us.length = 1) (h : ∀ a : α, P [a]) : P us := by
 obtain ⟨a, rfl⟩ := List.length_eq_one_iff.mp hl
 exact h a
theorem len_2 {α : Type} {us : List α} {P : List α → Prop} (hl : us.length = 2) (h : ∀ a b : α, P [a, b]) : P us := by
 obtain ⟨a, r, rfl⟩ := List.exists_cons_of_length_eq_add_one hl
 exact len_1 (P := fun r => P (a :: r)) (Nat.succ.inj hl) (h a)
theorem len_3 {α : Type} {us : List α} {P : List α → Prop} (hl : us.length = 3) (h : ∀ a b c : α, P [a, b, c]) : P us := by
 obtain ⟨a, r, rfl⟩ := List.exists_cons_of_length_eq_add_one hl
 exact len_2 (P := fun r => P (a :: r)) (Nat.succ.inj hl) (h a)
theorem len_4 {α : Type} {us : List α} {P : List α → Prop} (hl : us.length = 4) (h : ∀ a b c d : α, P [a, b, c, d]) : P us := by
 obtain ⟨a, r, rfl⟩ := List.exists_cons_of_length_eq_add_one hl
 exact len_3 (P := fun r => P (a :: r)) (Nat.succ.inj hl) (h a)
theorem len_5 {α : Type} {us : List α} {P : List α → Prop} (hl : us.length = 5) (h : ∀ a b c d e : α, P [a, b, c, d, e]) : P us := by
 obtain ⟨a, r, rfl⟩ := List.exists_cons_of_length_eq_add_one hl
 exact len_4 (P := fun r => P (a :: r)) (Nat.succ.inj hl) (h a)
end L2
namespace L2
open PySem PySem.Spec PyProof.Rows
section
variable {X : Cx}
end
end L2
namespace L2
open PySem PySem.Spec PyProof.Rows
section
variable {X : Cx}
theorem vals_intsA : ∀ {ns : List Int} {its : List Value}, Vals (ns.map V.int) its → IntsAre its ns
 | [], _, h => by cases h; exact .nil
 | n :: ns, _, h => by
   cases h with
   | cons r h =>
     obtain ⟨t, rfl⟩ := r
     exact .cons _ _ (vals_intsA h)
theorem call_sum_ints (hc : X.calm = true) : CallR X (.builtin "sum") (fun xs H Q => ∃ (p : Addr) (ns : List Int), xs = [.ref p] ∧ SqL X.K H p (ns.map V.int) ∧ Q (.int ns.sum) H) := by
 intro pins s σ H xs us Q I r h
 obtain ⟨p, ns, rfl, hq, q⟩ := h
 obtain ⟨u, rfl, rx⟩ := vals1 r
 cases rx
 obtain ⟨its, r', pl, hz⟩ := I.list hq
 have hi := vals_intsA r'
 obtain ⟨ys, e⟩ := hi.allInts.items
 have hl := pl.isList
 rw [e] at hl
 refine sum_intListG (I.ok.hd hc) hl fun h' tk t' hk => ?_
 have e2 : preSum (numAt ys) ys.size = ns.sum := by
   rw [preSum_eq, List.take_of_length_le (by simp), ← nums_intItems, ← e]
   show (numsOf its).sum = _
   rw [hi.numsOf]
 rw [e2]
 have I1 : Inv X pins σ H { s with heap := h', toks := tk } := I.kept hk
 exact ⟨.int _, H, I1, ⟨_, rfl⟩, q⟩
noncomputable def rSum3 : List T → MH → VK3 → Prop := fun xs M Q => match xs with
 | [.adr p] => (match M p with | some (.lst ts) => (match intsT ts with | some ns => Q (.int ns.sum) M | none => False) | _ => False)
 | _ => False
theorem call3_sum (hc : X.calm = true) : CallR3 X (.builtin "sum") rSum3 := by
 intro pins s σ H vs us Q2 I r h
 obtain ⟨xs, M, Q, rr, hh, q, en⟩ := h
 unfold rSum3 at q
 split at q
 · obtain ⟨v, rfl, r1⟩ := reps1 rr
   obtain rfl := inv_adr r1
   split at q
   · rename_i ts e0
     obtain ⟨ys, g1, g2⟩ := hh _ _ e0
     split at q
     · rename_i ns eb
       obtain rfl := intsT_some eb
       obtain rfl := Reps.ints g2
       exact call_sum_ints hc pins s σ H _ us Q2 I r ⟨_, ns, rfl, SqL.of g1, en _ _ M H Kp.refl hh rep_int q⟩
     · exact q.elim
   · exact q.elim
 · exact q.elim
end
end L2
namespace L2
open PySem PySem.Spec PyProof.Rows LM
section
variable {κ : Type} [DecidableEq κ]
end
section
variable {X : Cx}
end
end L2
namespace L2
open PySem PySem.Spec PyProof.Rows LM
noncomputable def g2 (tab : List (List Int)) (a b : Int) : Int := gI (tab.getD a.toNat []) b
noncomputable def InM (m c : Int) : Prop := 0 ≤ c ∧ c < m
structure TabQ (tab : List (List Int)) : Prop where
 l1 : 1 ≤ tab.length
 rows : ∀ r ∈ tab, r.length = tab.length
 idem : ∀ c, InM tab.length c → g2 tab c c = c
 col : ∀ c, InM tab.length c → (tab.map fun r => gI r c).Perm (range0 tab.length)
 third : ∀ a b c, InM tab.length a → InM tab.length b → InM tab.length c → g2 tab (g2 tab a b) c = g2 tab (g2 tab a c) (g2 tab b c)
structure TabOK (tab : List (List Int)) : Prop extends TabQ tab where
 l7 : tab.length ≤ 7
instance {tab : List (List Int)} : Coe (TabOK tab) (TabQ tab) := ⟨TabOK.toTabQ⟩
end L2
namespace L2
open PySem PySem.Spec PyProof.Rows LM
theorem rel_mix {n p q : Int} (hp : LetOK n p) (hq : LetOK n q) (s : p * q > 0) (d : (p - q).natAbs = 1) : RelW n [p, q, -p] [-q, p, q] := by
 have x1 := RelW.ctx (w := [-q, - -q]) (v := []) [] [p, q, -p] .nil (.three hp hq hp.neg) (RelW.out hq.neg)
 have x2 := RelW.ctx (w := [q, p, q]) (v := [p, q, p]) [-q] [-p] (.one hq.neg) (.one hp.neg) (RelW.three hp hq s d).symm
 have x3 := RelW.ctx (w := [p, -p]) (v := []) [-q, p, q] [] (.three hq.neg hp hq) .nil (RelW.out hp)
 rw [Int.neg_neg] at x1
 exact x1.symm.trans (x2.trans x3)
theorem sgn_pos {a l : Int} (h : 0 < l) : sgnL a l = (a.natAbs : Int) := if_neg (by lia)
theorem sgn_neg {a l : Int} (h : l < 0) : sgnL a l = -(a.natAbs : Int) := if_pos h
theorem rel_threeOK {n p q r : Int} (hp : LetOK n p) (hq : LetOK n q) (hr : LetOK n r) (h : ThreeOK p q r) : RelW n [p, q, r] [sgnL q r, sgnL p q, sgnL q p] := by
 obtain ⟨h1, h2, h3⟩ := h
 have ne1 := hp.ne
 have ne2 := hq.ne
 have pos : ∀ {x y : Int}, 0 < x → 0 < y → x * y > 0 := fun a b => Int.mul_pos a b
 have neg : ∀ {x y : Int}, x < 0 → y < 0 → x * y > 0 := fun a b => Int.mul_pos_of_neg_of_neg a b
 rcases (show r = p ∨ r = -p by lia) with rfl | rfl
 · have h3 := h3 rfl
   rcases Int.lt_or_le 0 r with z | z
   · have z2 := h3.mp z
     rw [sgn_pos z, sgn_pos z2, show (q.natAbs : Int) = q by lia, show (r.natAbs : Int) = r by lia]
     exact .three hp hq (pos z z2) (by lia)
   · have z2 : q < 0 := by
       rcases Int.lt_or_le 0 q with y | y
       · exact absurd (h3.mpr y) (by lia)
       · lia
     rw [sgn_neg (show r < 0 by lia), sgn_neg z2, show -(q.natAbs : Int) = q by lia, show -(r.natAbs : Int) = r by lia]
     exact .three hp hq (neg (by lia) z2) (by lia)
 · rcases Int.lt_or_le 0 p with z | z
   · rw [sgn_neg (show -p < 0 by lia), sgn_pos z]
     rcases Int.lt_or_le 0 q with y | y
     · rw [sgn_pos y, show (q.natAbs : Int) = q by lia, show (p.natAbs : Int) = p by lia]
       exact rel_mix hp hq (pos z y) (by lia)
     · rw [sgn_neg (show q < 0 by lia)]
       have := (rel_mix (p := q) (q := -p) hq hp.neg (neg (by lia) (by lia)) (by lia)).symm
       rw [Int.neg_neg] at this
       rw [show -(q.natAbs : Int) = q by lia, show -(p.natAbs : Int) = -p by lia, show (q.natAbs : Int) = -q by lia]
       exact this
   · rw [sgn_pos (show 0 < -p by lia), sgn_neg (show p < 0 by lia)]
     rcases Int.lt_or_le 0 q with y | y
     · rw [sgn_pos y]
       have := (rel_mix (p := q) (q := -p) hq hp.neg (pos (by lia) (by lia)) (by lia)).symm
       rw [Int.neg_neg] at this
       rw [show (q.natAbs : Int) = q by lia, show (p.natAbs : Int) = -p by lia]
       exact this
     · rw [sgn_neg (show q < 0 by lia)]
       rw [show (q.natAbs : Int) = -q by lia, show (p.natAbs : Int) = -p by lia, Int.neg_neg, Int.neg_neg]
       exact rel_mix hp hq (neg (by lia) (by lia)) (by lia)
theorem rel_ctx {n : Int} {A B w v : List Int} (hA : WordOK n A) (hB : WordOK n B) (h : RelW n w v) : RelW n (A ++ (w ++ B)) (A ++ (v ++ B)) := by
 have := RelW.ctx A B hA hB h
 rwa [List.append_assoc, List.append_assoc] at this
theorem aft_rel {n : Int} {w r : List Int} {s : Stp} (hw : WordOK n w) (h : aft n w s = some r) : RelW n w r := by
 cases s with
 | far a =>
   replace h : (if canFar w a = true then some (swapN w a.toNat) else none) = some r := h
   split at h
   · rename_i c
     obtain rfl := Option.some.inj h
     have c0 := c
     unfold canFar at c
     simp only [Bool.and_eq_true, decide_eq_true_eq] at c
     obtain ⟨A, p, q, B, rfl, hA⟩ := cut2 c.1.1 c.1.2
     have c2 := c.2
     rw [gI_nat c.1.1 hA, gI_nat1 c.1.1 hA] at c2
     rw [swapN_cons hA]
     have hp := hw p (by simp)
     have hq := hw q (by simp)
     exact rel_ctx (w := [p, q]) (v := [q, p]) hw.appl (fun x hx => hw x (by simp [hx])) (.far hp hq (by lia))
   · cases h
 | three a =>
   replace h : (if canThree w a = true then some (threeL w a) else none) = some r := h
   split at h
   · rename_i c
     obtain rfl := Option.some.inj h
     have hb : 0 ≤ a ∧ a < (w.length : Int) - 2 := by
       unfold canThree at c
       simp only [Bool.and_eq_true, decide_eq_true_eq] at c
       exact c.1
     obtain ⟨A, p, q, r, B, rfl, hA⟩ := cut3 hb.1 hb.2
     have hp := hw p (by simp)
     have hq := hw q (by simp)
     have hr := hw r (by simp)
     rw [canThree_cons hb.1 hA hp.ne hq.ne] at c
     rw [threeL_cons hb.1 hA]
     exact rel_ctx (w := [p, q, r]) (v := [_, _, _]) hw.appl (fun x hx => hw x (by simp [hx])) (rel_threeOK hp hq hr c)
   · cases h
 | out a =>
   replace h : (if canOut w a = true then some (outL w a) else none) = some r := h
   split at h
   · rename_i c
     obtain rfl := Option.some.inj h
     unfold canOut at c
     simp only [Bool.and_eq_true, decide_eq_true_eq] at c
     obtain ⟨A, p, q, B, rfl, hA⟩ := cut2 c.1.1 c.1.2
     have c2 := c.2
     rw [gI_nat c.1.1 hA, gI_nat1 c.1.1 hA] at c2
     have e : outL (A ++ p :: q :: B) a = A ++ ([] ++ B) := by
       unfold outL
       rw [← hA, show (a + 2).toNat = A.length + 2 by lia, List.take_left]
       congr 1
       rw [← List.drop_drop, List.drop_left]; rfl
     rw [e]
     obtain rfl : q = -p := by lia
     exact rel_ctx (w := [p, -p]) (v := []) hw.appl (fun x hx => hw x (by simp [hx])) (.out (hw p (by simp)))
   · cases h
 | inn a l =>
   replace h : (if inB n w a l = true then some (inL w a l) else none) = some r := h
   split at h
   · rename_i c
     obtain rfl := Option.some.inj h
     unfold inB at c
     simp only [Bool.and_eq_true, decide_eq_true_eq, isLet_iff] at c
     have := (RelW.ctx (w := [l, -l]) (v := []) (w.take a.toNat) (w.drop a.toNat) (WordOK.take hw _) (WordOK.drop hw _) (RelW.out c.2)).symm
     rw [List.append_nil, List.take_append_drop] at this
     exact this
   · cases h
theorem aftL_rel {n : Int} : ∀ {L : List Stp} {w r : List Int}, WordOK n w → aftL n w L = some r → RelW n w r
 | [], w, r, hw, h => by obtain rfl := Option.some.inj h; exact .refl _
 | s :: L, w, r, hw, h => by
   rw [aftL_cons] at h
   cases e : aft n w s with
   | none => rw [e] at h; cases h
   | some v => rw [e] at h; exact (aft_rel hw e).trans (aftL_rel (aft_ok hw e).1 h)
end L2
namespace L2
open PySem PySem.Spec PyProof.Rows LM
section
variable {X : Cx}
end
end L2
namespace L2
open PySem PySem.Spec PyProof.Rows LM
section
variable {prog : Program} {w : World} {A : Around} {E : Value → Shared → Prop} {s : Shared}
end
section
variable {X : Cx} {pos : Pos}
end
end L2
namespace L2
open PySem PySem.Spec PyProof.Rows LM
section
variable {X : Cx} {Ha : Hp} {a b : Expr} {ta tb : TE3} {tA : TT3} {pos : Pos}
end
section
variable {X : Cx} {Ha : Hp}
end
section
variable {X : Cx} {pos : Pos}
end
end L2
namespace L2
open PySem PySem.Spec PyProof.Rows LM
section
variable {X : Cx}
end
end L2
namespace L2
open PySem PySem.Spec PyProof.Rows LM
section
variable {X : Cx}
end
end L2
namespace L2
open PySem PySem.Spec PyProof.Rows LM
section
variable {X : Cx} {e : Expr} {te : TE3} {p p2 pos pos2 : Pos}
end
end L2
namespace L2
open PySem PySem.Spec PyProof.Rows LM
end L2
namespace L2
open PySem PySem.Spec PyProof.Rows LM
section
variable {X : Cx}
end
end L2
namespace L2
open PySem PySem.Spec PyProof.Rows LM
end L2
namespace L2
open PySem PySem.Spec PyProof.Rows LM
section
variable {P : Program} {w : World} {A : Around} {E : Value → Shared → Prop} {s : Shared}
end
section
variable {X : Cx}
end
end L2
namespace L2
open PySem PySem.Spec PyProof.Rows LM
end L2
namespace L2
open PySem PySem.Spec PyProof.Rows LM
end L2
namespace L2
open PySem PySem.Spec PyProof.Rows LM
section
variable {X : Cx}
end
end L2
namespace L2
open PySem PySem.Spec PyProof.Rows LM
end L2
namespace L2
open PySem PySem.Spec PyProof.Rows LM
end L2
namespace L2
open PySem PySem.Spec PyProof.Rows LM
section
variable {P : Program} {w : World} {A : Around} {E : Value → Shared → Prop} {s : Shared}
theorem noKeys_tuple : typeLookup (.type "tuple") "keys" = pure none := by rw [typeLookup_type, builtinLookup_eq_fast]; kernel_rfl
set_option maxRecDepth 8000 in
theorem asks_keys_tuple {a : Addr} {xs : Array Value} {k : Nat} {sl : Array (Option Value)} {Q : Option Value → Shared → Prop} (hx : s.heap.get? a = some { cls := .type "tuple", dict := none, data := .seq xs k, slots := sl }) (hA : A.handled = none)
   (h : ∀ h' tk, (∀ b o, s.heap.get? b = some o → h'.get? b = some o) → Q none { s with heap := h', toks := tk }) : wpAny (model P w) A (getAttr? (.ref a) "keys") Q E s := by
 obtain ⟨hp, g, d, tk, os⟩ := s
 have hT : ∀ tk', (⟨hp, g, d, tk', os⟩ : Shared).TypeIs (.ref a) "tuple" := fun _ => ⟨_, hx, rfl⟩
 have f1 := sub_AttributeError; have f3 := F.slot_tuple_getattribute.lookup; have f4 := F.slot_tuple_getattribute.bind (.ref a); have f5 := am_tuple_getattr_none
 have hname : (["__module__", "__name__", "__qualname__", "__doc__", "__annotations__"] : List Str).contains "keys" = false := by decide +kernel
 unfold getAttr? getAttrBy? getAttrBy
 repeat (any_goals (first | exact hT _ | assumption | ((with_reducible show wpAny _ _ (call (Value.builtin "tuple.__getattribute__") _ _) _ _ _); refine call_meets F.slot_tuple_getattribute (hT _) am_entry_tuple_getattribute (F.args_tuple_getattribute_2 _ _) (meets_getattribute_miss_tuple a xs k sl "keys" _ noKeys_tuple hname (by rw [sizeLine_eq]; decide +kernel)) ⟨hx, hA, fun h' tk' e hx' => ?_⟩) | wp_step))
 obtain ⟨t', u', he⟩ := hx'.there
 show wpAny _ _ (getattributeRaised _ _ _ _ _ _ _) _ _ _
 unfold getattributeRaised
 repeat (any_goals (first | wp_step | assumption))
 exact h _ _ hx'.of.keeps
theorem pairs_entry : entryFor table "dict.update.loop" = some Builtin.«dict.update.loop» := entryFor_of_tree (by kernel_rfl)
theorem pairs_plain : plainId "dict.update.loop" = true := by decide +kernel
theorem pairs_walk {K : Type} [DecidableEq K] {knd : KeyKind P w K} {I d : Addr} {fp wr : List Addr} {n : Nat} {V : Nat → Value → Prop} {St : Nat → Heap → Prop} (W : Walks P w A.in1 I fp wr n V St) (hdf : d ∉ fp) (res : Value) (ks : List (K × Value)) (hn : ks.length = n) (hz : n ≤ sizeLine) (h0 : Heap)
   (hV : ∀ i v, V i v → ∃ p k x key, v = .ref p ∧ ks[i]? = some (k, x) ∧ knd.is k key = true ∧ h0.IsTuple p #[key, x] ∧ p ≠ d ∧ p ∉ wr) {R : Result → Shared → Prop} :
   ∀ (m i : Nat) (s : Shared), n - i = m → i ≤ n → St i s.heap → s.heap.DictOf knd d (merged [] (ks.take i)) → (∀ b o, b ≠ d → b ∉ wr → h0.get? b = some o → s.heap.get? b = some o) →
     (∀ h' tk, h'.DictOf knd d (merged [] ks) → (∀ b o, b ≠ d → b ∉ wr → h0.get? b = some o → h'.get? b = some o) → R (.ok (.ret res)) { s with heap := h', toks := tk }) →
     codeAny (model P w) A (.builtin "dict.update.loop" ⟨[.ref d, .ref I, rawInt i, res], []⟩) R s
 | 0, i, s, hm, hi, st, hd, hk, hR => by
   obtain rfl : i = n := by lia
   refine codeAny_builtin pairs_entry ?_
   rw [Around.under_plainId pairs_plain _]
   show wpAny _ A.in1 (pyNext (.ref I) >>= _) _ _ s
   refine wpAny_bind (W.done s _ _ st fun h' tk hk' => ?_)
   show wpAny _ _ (Builtin.Dict.addKeywords d [] >>= _) _ _ _
   refine wpAny_bind (wpAny_pure (wpAny_pure (hR h' tk ?_ fun b o b1 b2 e => hk' b o b2 (hk b o b1 b2 e))))
   rw [← hn, List.take_length] at hd
   obtain ⟨o, es, ep, g, r⟩ := hd
   exact ⟨o, es, ep, hk' d o (fun z => hdf (W.sub _ z)) g, r⟩
 | m + 1, i, s, hm, hi, st, hd, hk, hR => by
   refine codeAny_builtin pairs_entry ?_
   rw [Around.under_plainId pairs_plain _]
   show wpAny _ A.in1 (pyNext (.ref I) >>= _) _ _ s
   refine wpAny_bind (W.item i s _ _ (by lia) st fun v h' tk hv st' hk' => ?_)
   obtain ⟨p, k, x, key, rfl, ek, hkey, hp, np1, np2⟩ := hV i v hv
   have hd' : h'.DictOf knd d (merged [] (ks.take i)) := by
     obtain ⟨o, es, ep, g, r⟩ := hd
     exact ⟨o, es, ep, hk' d o (fun z => hdf (W.sub _ z)) g, r⟩
   obtain ⟨o, ho, hc, nn, hdat⟩ := hp
   have ho' : h'.get? p = some o := hk' p o np2 (hk p o np1 np2 ho)
   show wpAny _ _ (holding [Value.ref p] _ >>= _) _ _ _
   refine wpAny_bind (wpAny_holding (wpAny_bind (wpAny_tryCatch ?_)))
   unfold Builtin.Dict.pairItems
   refine wpAny_bind (wpAny_typeOf (T := "tuple") ⟨o, ho', hc⟩ ?_)
   rw [if_pos (by decide)]
   refine wpAny_bind (wpAny_seqItems ho' hdat (wpAny_pure ?_))
   show wpAny _ _ (holding [key, x] (dictSet d key x)) _ _ _
   have hle : (merged [] (ks.take i)).length ≤ sizeLine := by
     have e1 := merged_length_le ([] : List (K × Value)) (ks.take i)
     have e2 : (ks.take i).length ≤ ks.length := by rw [List.length_take]; lia
     simp only [List.length_nil] at e1
     lia
   refine wpAny_holding (wpAny_dictSet_pairs (hsz := hle) hkey hd' fun h'' hd'' hs'' => ?_)
   refine wpAny_pure ⟨plainId_quiet pairs_plain _, ?_⟩
   have := pairs_walk W hdf res ks hn hz h0 hV (R := R) m (i + 1) { s with heap := h'', toks := tk + 1 } (by lia) (by lia) (W.frame _ _ _ st' fun b hb o e => ?_) ?_ (fun b o b1 b2 e => ?_) hR
   · exact this
   · exact (hs''.2 b (fun z => hdf (z ▸ hb))).trans e
   · rw [merged_take_succ [] ks i (k, x) ek]; exact hd''
   · exact (hs''.2 b b1).trans (hk' b o b2 (hk b o b1 b2 e))
end
end L2
namespace L2
open PySem PySem.Spec PyProof.Rows LM
section
variable {P : Program} {w : World} {A : Around} {E : Value → Shared → Prop} {s : Shared} {K : Type} [DecidableEq K] {knd : KeyKind P w K}
theorem dict_of_tuple {o : Addr} {vs : List Value} {kk : Nat} {sl : Array (Option Value)} {ks : List (K × Value)} {Q : Value → Shared → Prop} (ho : s.heap.get? o = some { cls := .type "tuple", dict := none, data := .seq vs.toArray kk, slots := sl }) (hA : A.handled = none)
   (hl : ks.length = vs.length) (hz : vs.length ≤ sizeLine) (hV : ∀ (i : Nat) (v : Value), vs[i]? = some v → ∃ p k x key, v = .ref p ∧ ks[i]? = some (k, x) ∧ knd.is k key = true ∧ s.heap.IsTuple p #[key, x])
   (h : ∀ h' tk, h'.DictOf knd s.heap.objs.size (merged [] ks) → (∀ b u, s.heap.get? b = some u → h'.get? b = some u) → Q (Value.ref s.heap.objs.size) { s with heap := h', toks := tk }) :
   wpAny (model P w) A (call (.type "dict") [.ref o]) Q E s := by
 refine callType_codes (Q₁ := fun obj s₁ => obj = Value.ref s.heap.objs.size ∧ s₁ = { s with heap := s.heap.push { cls := .type "dict", data := .dict #[] } }) F.kt_called_dict (F.kt_typeCall_dict_1 _) F.entry_dict_init (kt_code_dict_new _ ⟨rfl, rfl⟩) ?_
 rintro obj s₁ ⟨rfl, rfl⟩
 have hnew : (s.heap.push { cls := .type "dict", data := .dict #[] }).DictOf knd s.heap.objs.size [] := Heap.DictOf.new s.heap
 have hdo : s.heap.objs.size ≠ o := Nat.ne_of_gt (Heap.lt_size ho)
 have ho' := Heap.get?_push_of_some { cls := .type "dict", data := .dict #[] } ho
 refine ⟨hnew.typeIs, F.args_dict_init_2 _ _, ?_⟩
 unfold Builtin.«dict.__init__» Builtin.Dict.selfAndRest; refine wpAny_bind (wpAny_bind (wpAny_notOrdered_dict hnew.typeIs ?_))
 show wpAny _ _ (pure (s.heap.objs.size, [Value.ref o])) _ _ _; refine wpAny_pure ?_
 show wpAny _ _ (Builtin.Dict.updateFrom "dict.__init__" s.heap.objs.size (.ref o) [] .none) _ _ _; unfold Builtin.Dict.updateFrom
 refine wpAny_bind (wpAny_typeOf (T := "tuple") ⟨_, ho', rfl⟩ ?_); rw [if_pos (by decide)]
 refine wpAny_bind (asks_keys_tuple ho' hA fun h1 tk1 k1 => ?_); rw [if_pos (by rfl)]
 have ho1 := k1 _ _ ho'
 refine wpAny_bind (wpAny_rule (wpAny_bind (wpAny_pyIter_tuple (items := vs.toArray) ⟨_, ho1, rfl, kk, rfl⟩ ?_)))
 have hI : h1.objs.size ≠ o := Nat.ne_of_gt (Heap.lt_size ho1)
 have hd1 : h1.DictOf knd s.heap.objs.size [] := by
   obtain ⟨a, es, ep, g, r⟩ := hnew
   exact ⟨a, es, ep, k1 _ _ g, r⟩
 have hdI : s.heap.objs.size ≠ h1.objs.size := by
   obtain ⟨a, es, ep, g, r⟩ := hd1
   exact Nat.ne_of_lt (Heap.lt_size g)
 have W := Walks.tuple (prog := P) (w := w) (A := A.in1.in1) (by exact hA) h1.objs.size o (Ne.symm hI) vs.toArray
 refine wpAny_pure ⟨plainId_quiet pairs_plain _, pairs_walk (knd := knd) (A := A.in1) (h0 := s.heap) (W := W) (d := s.heap.objs.size) (by simp only [List.mem_cons, List.not_mem_nil, or_false, not_or]; exact ⟨hdI, hdo⟩) _ ks (by simpa using hl) (by simpa using hz) ?_ vs.toArray.size 0 _ rfl (Nat.zero_le _) ⟨⟨_, Heap.get?_push_size _ rfl, rfl, rfl⟩, ⟨_, Heap.get?_push_of_some _ ho1, rfl, kk, rfl⟩⟩ (hd1.push _) (fun b u _ _ e => Heap.get?_push_of_some _ (k1 _ _ (Heap.get?_push_of_some _ e))) fun h' tk hd' hk' => ?_⟩
 · intro i v hv
   obtain ⟨p, k, x, key, e1, e2, e3, e4⟩ := hV i v (by simpa using hv)
   obtain ⟨ob, g, c⟩ := id e4
   refine ⟨p, k, x, key, e1, e2, e3, e4, Nat.ne_of_lt (Heap.lt_size g), fun z => ?_⟩
   have z2 : p = h1.objs.size := by simpa using z
   exact absurd (Heap.lt_size (k1 _ _ (Heap.get?_push_of_some _ g))) (by rw [z2]; exact Nat.lt_irrefl _)
 · refine ⟨rfl, h h' tk hd' fun b u e => hk' b u (Nat.ne_of_lt (Heap.lt_size e)) (fun z => ?_) e⟩
   have z2 : b = h1.objs.size := by simpa using z
   exact absurd (Heap.lt_size (k1 _ _ (Heap.get?_push_of_some _ e))) (by rw [z2]; exact Nat.lt_irrefl _)
end
end L2
namespace L2
open PySem PySem.Spec PyProof.Rows LM
noncomputable def pairT (kv : Key × T) : T := .tup [keyT kv.1, kv.2]
noncomputable def rDictP : List T → MH → VK3 → Prop := fun xs M Q => match xs with
 | [.tup ts] => ∃ ks : List (Key × T), ts = ks.map pairT ∧ (ks.map Prod.fst).Nodup ∧ ∀ r, M r = none → Q (.adr r) (updM M r (.dk ks))
 | _ => False
section
variable {X : Cx}
theorem relv_key {k : Key} {key : Value} (r : RelV (kV k) key) : keyIs k key = true := by
 cases k with
 | inl i => obtain ⟨t, rfl⟩ := r; exact keyIs_int i t
 | inr x => obtain ⟨t, rfl⟩ := r; exact keyIs_str x t
theorem pairs_at {pins : List (Addr × Obj)} {σ : St} {H : Hp} {s : Shared} (I : Inv X pins σ H s) : ∀ {ks : List (Key × T)} {xs : List V} {its : List Value}, Reps X.K H xs (ks.map pairT) → Vals xs its →
   ∃ (vs : List (Key × Value)) (kv : List (Key × V)), vs.length = its.length ∧ KV kv vs ∧ KRep X.K H kv ks ∧ ∀ (i : Nat) (v : Value), its[i]? = some v → ∃ p k x key, v = .ref p ∧ vs[i]? = some (k, x) ∧ keyIs k key = true ∧ s.heap.IsTuple p #[key, x]
 | [], xs, its, r, rv => by
   rw [List.map_nil] at r
   unfold Reps at r
   subst r
   cases rv
   exact ⟨[], [], rfl, .nil, trivial, fun i v e => by simp at e⟩
 | (k, t) :: ks, xs, its, r, rv => by
   rw [List.map_cons] at r
   unfold Reps at r
   obtain ⟨v, w, rfl, r1, r2⟩ := r
   cases rv with
   | @cons _ u _ us h1 h2 =>
     obtain ⟨vs, kv, hl, hk, hr, hat⟩ := pairs_at I r2 h2
     obtain ⟨p, ys, rfl, g1, g2⟩ := inv_tup r1
     obtain ⟨y1, y2, rfl, q1, q2⟩ := reps2 g2
     obtain rfl := rep_key q1
     cases h1
     obtain ⟨js, jv, jt, jz⟩ := I.tuple g1
     cases jv with
     | @cons _ key _ js2 a1 a2 =>
       cases a2 with
       | @cons _ x _ js3 b1 b2 =>
         cases b2
         refine ⟨(k, x) :: vs, (k, y2) :: kv, by rw [List.length_cons, List.length_cons, hl], .cons ⟨rfl, b1⟩ hk, ⟨rfl, q2, hr⟩, fun i v e => ?_⟩
         cases i with
         | zero =>
           simp at e
           subst e
           exact ⟨p, k, x, key, rfl, rfl, relv_key a1, jt⟩
         | succ i =>
           obtain ⟨p', k', x', key', e1, e2, e3⟩ := hat i v (by simpa using e)
           exact ⟨p', k', x', key', e1, by simpa using e2, e3⟩
theorem krep_keys {K : PySem.W.Frag} {H : Hp} : ∀ {kv : List (Key × V)} {ks : List (Key × T)}, KRep K H kv ks → kv.map Prod.fst = ks.map Prod.fst
 | [], [], _ => rfl
 | p :: r, q :: u, h => by rw [List.map_cons, List.map_cons, h.1, krep_keys h.2.2]
 | [], q :: u, h => h.elim
 | p :: r, [], h => h.elim
theorem call3_dictP (hc : X.calm = true) : CallR3 X (.type "dict") rDictP := by
 intro pins s σ H vs us Q2 I r h
 obtain ⟨xs, M, Q, rr, hh, q, en⟩ := h
 unfold rDictP at q
 split at q
 · rename_i ts
   obtain ⟨ks, rfl, hnd, q⟩ := q
   obtain ⟨v, rfl, r1⟩ := reps1 rr
   obtain ⟨p, ys, rfl, g1, g2⟩ := inv_tup r1
   obtain ⟨u, rfl, rx⟩ := vals1 r
   cases rx
   obtain ⟨its, rv, ⟨ob, ho, hcl, hdd, nn, hdat⟩, hz⟩ := I.tuple0 g1
   obtain ⟨vs, kv, hl, hk, hr, hat⟩ := pairs_at I g2 rv
   have hlen := rv.length
   obtain ⟨c1, c2, c3, c4⟩ := ob
   simp only at hcl hdd hdat
   subst hcl hdd hdat
   have hndv : (vs.map (·.1)).Nodup := by
     have e1 := hk.keys
     have e2 := krep_keys hr
     rw [← e1]
     exact e2 ▸ hnd
   refine dict_of_tuple (knd := mixKind X.prog X.w) ho (I.ok.hd hc) hl (by lia) hat fun h' tk hd' hk' => ?_
   rw [merged_nil_of_nodup vs hndv] at hd'
   have hfr : H s.heap.objs.size = none := I.hok.fresh (Nat.le_refl _)
   have hsys : (s.heap.objs.size == sysModules) = false := by
     have := I.big
     simp only [beq_eq_false_iff_ne, ne_eq]
     exact fun z => absurd this (by rw [z]; exact Nat.lt_irrefl _)
   have kvl : kv.length ≤ sizeLine := by
     have := hk.length
     lia
   exact ⟨.ref s.heap.objs.size, _, I.laid (t' := tk) hk' (Nat.le_refl _) (show ObjOk X.prog X.w _ h' _ (.dK kv) from ⟨kvl, hsys, vs, hk, hd'⟩), rfl, en _ _ _ _ (Kp.new hfr) (hh.newK hfr hr) rep_adr (q _ (hh.free hfr))⟩
 · exact q.elim
noncomputable def rSortedD : List T → MH → VK3 → Prop := fun xs M Q => match xs with
 | [.adr p] => (match M p with | some (.dk kvs) => ∃ ns : List Int, kvs.map Prod.fst = ns.map Sum.inl ∧ ns.length < 64 ∧ ∀ ms : List Int, ms.Perm ns → ms.Pairwise (· ≤ ·) → ∀ r, M r = none → Q (.adr r) (updM M r (.lst (ms.map .int))) | _ => False)
 | _ => False
end
section
variable {P : Program} {w : World} {A : Around} {E : Value → Shared → Prop} {s : Shared}
theorem vals_get : ∀ {xs : List V} {us : List Value}, xs.length = us.length → (∀ (i : Nat) (x : V) (u : Value), xs[i]? = some x → us[i]? = some u → RelV x u) → Vals xs us
 | [], [], _, _ => .nil
 | [], u :: us, h, _ => by cases h
 | x :: xs, [], h, _ => by cases h
 | x :: xs, u :: us, h, f => .cons (f 0 x u rfl rfl) (vals_get (by rw [List.length_cons, List.length_cons] at h; lia) fun i x' u' h1 h2 => f (i + 1) x' u' (by simpa using h1) (by simpa using h2))
theorem sorted_dict {d : Addr} {kvs : List (Key × Value)} {ep : Nat} {ns : List Int} {Q : Value → Shared → Prop} (hA : A.handled = none) (hd : s.heap.DictAt (mixKind P w) d kvs ep) (lo : (d == sysModules) = false) (hk : kvs.map (·.1) = ns.map Sum.inl) (h64 : ns.length < 64)
   (h : ∀ (h1 h' : Heap) (tk : Nat) (out : Array Value) (ns' : List Int), (∀ b u, s.heap.get? b = some u → h1.get? b = some u) → (∀ b u, h1.get? b = some u → h'.get? b = some u) → (∃ e, h'.get? h1.objs.size = some (seqObj "list" out e)) → IntsAre out.toList ns' → ns'.Perm ns → ns'.Pairwise (· ≤ ·) → Q (.ref h1.objs.size) { s with heap := h', toks := tk }) :
   wpAny (model P w) A (call (.builtin "sorted") [.ref d]) Q E s := by
 have hl : kvs.length = ns.length := by
   have := congrArg List.length hk
   rwa [List.length_map, List.length_map] at this
 refine Calls.call_function_entry kind_sorted plain_sorted entry_sorted (args_sorted1 _) ?_
 unfold Builtin.«sorted»
 refine wpAny_bind (m := checkCount "sorted" 1 1 _) (wpAny_pure (wpAny_bind (PySem.W.kdu_collect (A := A.in1) (PySem.W.kdl_dict (knd := mixKind P w) (kvs := kvs) (ep := ep) lo) hA hd (by rw [hl, sizeLine_eq]; lia) fun h' tk acc hkp hacc => ?_)))
 obtain ⟨hsz, hat⟩ := hacc
 have hI : IntsAre acc.toList ns := intsAre_of (vals_get (by rw [List.length_map]; exact (hl.symm.trans hsz.symm).trans Array.length_toList.symm) fun i x u h1 h2 => by
   obtain ⟨k, y, e1, e2⟩ := hat i u (by rw [← Array.getElem?_toList]; exact h2)
   have e3 : (kvs.map (·.1))[i]? = some k := by rw [List.getElem?_map, e1]; rfl
   rw [hk, List.getElem?_map] at e3
   rw [List.getElem?_map] at h1
   cases en : ns[i]? with
   | none => rw [en] at h1; cases h1
   | some n =>
     rw [en] at e3 h1
     obtain rfl := Option.some.inj h1
     have e4 : Sum.inl n = k := Option.some.inj e3
     subst e4
     rw [mixKind_is] at e2
     rcases keyIs_shape e2 with ⟨j, t, z1, z2⟩ | ⟨j, t, z1, z2⟩
     · cases z1; exact ⟨t, z2⟩
     · cases z1)
 refine wpAny_bind (wpAny_newList ?_)
 have hoL : (h'.push (seqObj "list" acc.toList.toArray 0)).get? h'.objs.size = some (seqObj "list" acc.toList.toArray 0) := Heap.get?_push_size _ rfl
 refine wpAny_bind (wpAny_holding (wpAny_call_entry slot_list_sort ⟨_, hoL, rfl⟩ entry_list_sort (list_sort_tree hoL hI (by rw [Array.length_toList, hsz, hl]; exact h64) fun out ns' a1 a2 a3 => ⟨_, rfl, ?_⟩) (args_list_sort _)))
 exact wpAny_pure ⟨_, rfl, h h' _ _ out ns' hkp (fun b u e => (sortedHeap_old (Nat.ne_of_lt (Heap.lt_size e)) (Nat.lt_of_lt_of_le (Heap.lt_size e) (by show h'.objs.size ≤ (h'.push (seqObj "list" acc.toList.toArray 0)).objs.size; rw [size_push']; exact Nat.le_succ _))).trans (Heap.get?_push_of_some _ e)) (sortedHeap_at hoL) a1 a2 a3⟩
end
section
variable {X : Cx}
theorem call3_sortedD (hc : X.calm = true) : CallR3 X (.builtin "sorted") rSortedD := by
 intro pins s σ H vs us Q2 I r h
 obtain ⟨xs, M, Q, rr, hh, q, en⟩ := h
 unfold rSortedD at q
 split at q
 · obtain ⟨v, rfl, r1⟩ := reps1 rr
   obtain rfl := inv_adr r1
   obtain ⟨u, rfl, rx⟩ := vals1 r
   cases rx
   split at q
   · rename_i kvs e0
     obtain ⟨ns, hk, h64, q⟩ := q
     obtain ⟨kv, g1, g2⟩ := hh _ _ e0
     obtain ⟨kz, lo, vs, r1, dd⟩ := (show ObjOk X.prog X.w H s.heap _ (.dK kv) from I.hok _ _ g1)
     obtain ⟨ep, da⟩ := dd.dictAt
     have e1 : vs.map (·.1) = ns.map Sum.inl := by
       rw [← r1.keys]
       exact (krep_keys g2).trans hk
     refine sorted_dict (I.ok.hd hc) da lo e1 h64 fun h1 h' tk out ns' hkp hkp2 ⟨e, hg⟩ a1 a2 a3 => ?_
     have I1 : Inv X pins σ H { s with heap := h1, toks := s.toks } := I.kept hkp
     have hfr : H h1.objs.size = none := I1.hok.fresh (Nat.le_refl _)
     have hn : ns'.length ≤ sizeLine := by rw [a2.length_eq, sizeLine_eq]; lia
     exact ⟨.ref h1.objs.size, _, I1.laid (t' := tk) hkp2 (Nat.le_refl _) (show ObjOk X.prog X.w _ h' _ (.lst (ns'.map V.int)) from ⟨by rw [List.length_map]; exact hn, out.toList, e, vals_ints a1, by rw [Array.toArray_toList]; exact hg⟩), rfl, en _ _ _ _ (Kp.new hfr) (hh.newL hfr (ints_reps ns')) rep_adr (q ns' a2 a3 _ (hh.free hfr))⟩
   · exact q.elim
 · exact q.elim
end
end L2
namespace L2
open PySem PySem.Spec PyProof.Rows LM
noncomputable abbrev Po := List (Int × Int)
noncomputable def co : Po → Int → Int
 | [], _ => 0
 | x :: r, k => (if x.1 = k then x.2 else 0) + co r k
noncomputable def CanP (p : Po) : Prop := p.Pairwise (fun a b => a.1 < b.1) ∧ ∀ x ∈ p, x.2 ≠ 0
theorem co_append (p q : Po) (k : Int) : co (p ++ q) k = co p k + co q k := by
 induction p with
 | nil => show co q k = 0 + co q k; lia
 | cons x r ih =>
   show (if x.1 = k then x.2 else 0) + co (r ++ q) k = ((if x.1 = k then x.2 else 0) + co r k) + co q k
   rw [ih]; lia
theorem co_zero {p : Po} {k : Int} (h : ∀ x ∈ p, x.1 ≠ k) : co p k = 0 := by
 induction p with
 | nil => rfl
 | cons x r ih =>
   show (if x.1 = k then x.2 else 0) + co r k = 0
   rw [if_neg (h x (.head _)), ih fun y hy => h y (.tail _ hy)]; rfl
theorem co_mem {p : Po} (h : p.Pairwise (fun a b => a.1 < b.1)) {x : Int × Int} (hx : x ∈ p) : co p x.1 = x.2 := by
 induction p with
 | nil => cases hx
 | cons y r ih =>
   obtain ⟨h1, h2⟩ := List.pairwise_cons.mp h
   show (if y.1 = x.1 then y.2 else 0) + co r x.1 = x.2
   rcases List.mem_cons.mp hx with e | e
   · subst e
     rw [if_pos rfl, co_zero fun z hz => Int.ne_of_gt (h1 z hz)]; lia
   · rw [if_neg (Int.ne_of_lt (h1 x e)), ih h2 e]; lia
theorem canP_ext : ∀ {p q : Po}, CanP p → CanP q → (∀ k, co p k = co q k) → p = q
 | [], [], _, _, _ => rfl
 | [], y :: q, _, hq, h => by
   have e := co_mem hq.1 (List.mem_cons_self (a := y) (l := q))
   rw [← h] at e
   exact absurd e.symm (hq.2 y (.head _))
 | x :: p, [], hp, _, h => by
   have e := co_mem hp.1 (List.mem_cons_self (a := x) (l := p))
   rw [h] at e
   exact absurd e.symm (hp.2 x (.head _))
 | x :: p, y :: q, hp, hq, h => by
   obtain ⟨p1, p2⟩ := List.pairwise_cons.mp hp.1
   obtain ⟨q1, q2⟩ := List.pairwise_cons.mp hq.1
   have ex := co_mem hp.1 (List.mem_cons_self (a := x) (l := p))
   have ey := co_mem hq.1 (List.mem_cons_self (a := y) (l := q))
   have nx := hp.2 x (.head _)
   have ny := hq.2 y (.head _)
   have e1 : x.1 = y.1 := by
     rcases Int.lt_trichotomy x.1 y.1 with z | z | z
     · rw [h, co_zero] at ex
       · exact absurd ex.symm nx
       · intro w hw
         rcases List.mem_cons.mp hw with e | e
         · rw [e]; exact Int.ne_of_gt z
         · exact Int.ne_of_gt (Int.lt_trans z (q1 w e))
     · exact z
     · rw [← h, co_zero] at ey
       · exact absurd ey.symm ny
       · intro w hw
         rcases List.mem_cons.mp hw with e | e
         · rw [e]; exact Int.ne_of_gt z
         · exact Int.ne_of_gt (Int.lt_trans z (p1 w e))
   have e2 : x.2 = y.2 := by rw [← ex, ← ey, e1, h]
   have exy : x = y := Prod.ext e1 e2
   subst exy
   refine congrArg (x :: ·) (canP_ext ⟨p2, fun z hz => hp.2 z (.tail _ hz)⟩ ⟨q2, fun z hz => hq.2 z (.tail _ hz)⟩ fun k => ?_)
   have := h k
   have t : (if x.1 = k then x.2 else 0) + co p k = (if x.1 = k then x.2 else 0) + co q k := this
   lia
noncomputable def putP (k c : Int) : Po → Po
 | [] => if c = 0 then [] else [(k, c)]
 | x :: r => if k < x.1 then (if c = 0 then x :: r else (k, c) :: x :: r) else if k = x.1 then (if x.2 + c = 0 then r else (k, x.2 + c) :: r) else x :: putP k c r
noncomputable def norm : Po → Po
 | [] => []
 | x :: r => putP x.1 x.2 (norm r)
noncomputable def N1 : Po → Nat
 | [] => 0
 | x :: r => x.2.natAbs + N1 r
theorem co_putP (k c : Int) : ∀ (p : Po) (j : Int), co (putP k c p) j = (if k = j then c else 0) + co p j
 | [], j => by
   show co (if c = 0 then [] else [(k, c)]) j = (if k = j then c else 0) + 0
   by_cases h : c = 0
   · rw [if_pos h, h]
     show 0 = (if k = j then 0 else 0) + 0
     split <;> rfl
   · rw [if_neg h]; rfl
 | x :: r, j => by
   show co (if k < x.1 then (if c = 0 then x :: r else (k, c) :: x :: r) else if k = x.1 then (if x.2 + c = 0 then r else (k, x.2 + c) :: r) else x :: putP k c r) j = (if k = j then c else 0) + ((if x.1 = j then x.2 else 0) + co r j)
   by_cases h1 : k < x.1
   · rw [if_pos h1]
     by_cases h : c = 0
     · rw [if_pos h, h]
       show (if x.1 = j then x.2 else 0) + co r j = _
       split <;> split <;> lia
     · rw [if_neg h]; rfl
   · rw [if_neg h1]
     by_cases h2 : k = x.1
     · rw [if_pos h2]
       by_cases h : x.2 + c = 0
       · rw [if_pos h]
         split <;> split <;> lia
       · rw [if_neg h]
         show (if k = j then x.2 + c else 0) + co r j = _
         split <;> split <;> lia
     · rw [if_neg h2]
       show (if x.1 = j then x.2 else 0) + co (putP k c r) j = _
       rw [co_putP k c r j]; lia
theorem putP_lo {k c m : Int} (hk : m < k) : ∀ {p : Po}, (∀ x ∈ p, m < x.1) → ∀ x ∈ putP k c p, m < x.1
 | [], _, x, hx => by
   have hx : x ∈ (if c = 0 then [] else [(k, c)]) := hx
   split at hx
   · cases hx
   · rw [List.mem_singleton.mp hx]; exact hk
 | y :: r, h, x, hx => by
   have hx : x ∈ (if k < y.1 then (if c = 0 then y :: r else (k, c) :: y :: r) else if k = y.1 then (if y.2 + c = 0 then r else (k, y.2 + c) :: r) else y :: putP k c r) := hx
   split at hx
   · split at hx
     · exact h x hx
     · rcases List.mem_cons.mp hx with e | e
       · rw [e]; exact hk
       · exact h x e
   · split at hx
     · split at hx
       · exact h x (.tail _ hx)
       · rcases List.mem_cons.mp hx with e | e
         · rw [e]; exact hk
         · exact h x (.tail _ e)
     · rcases List.mem_cons.mp hx with e | e
       · rw [e]; exact h y (.head _)
       · exact putP_lo hk (fun z hz => h z (.tail _ hz)) x e
theorem canP_putP (k c : Int) : ∀ {p : Po}, CanP p → CanP (putP k c p)
 | [], _ => by
   show CanP (if c = 0 then [] else [(k, c)])
   split
   · exact ⟨.nil, fun _ h => absurd h List.not_mem_nil⟩
   · rename_i h
     exact ⟨List.pairwise_singleton _ _, fun x hx => by rw [List.mem_singleton.mp hx]; exact h⟩
 | y :: r, h => by
   obtain ⟨h1, h2⟩ := List.pairwise_cons.mp h.1
   show CanP (if k < y.1 then (if c = 0 then y :: r else (k, c) :: y :: r) else if k = y.1 then (if y.2 + c = 0 then r else (k, y.2 + c) :: r) else y :: putP k c r)
   split
   · rename_i a
     split
     · exact h
     · rename_i b
       refine ⟨List.pairwise_cons.mpr ⟨fun z hz => ?_, h.1⟩, fun z hz => ?_⟩
       · rcases List.mem_cons.mp hz with e | e
         · rw [e]; exact a
         · exact Int.lt_trans a (h1 z e)
       · rcases List.mem_cons.mp hz with e | e
         · rw [e]; exact b
         · exact h.2 z e
   · split
     · rename_i a b
       split
       · exact ⟨h2, fun z hz => h.2 z (.tail _ hz)⟩
       · rename_i d
         refine ⟨List.pairwise_cons.mpr ⟨fun z hz => by rw [b]; exact h1 z hz, h2⟩, fun z hz => ?_⟩
         rcases List.mem_cons.mp hz with e | e
         · rw [e]; exact d
         · exact h.2 z (.tail _ e)
     · rename_i a b
       have ih := canP_putP k c (p := r) ⟨h2, fun z hz => h.2 z (.tail _ hz)⟩
       refine ⟨List.pairwise_cons.mpr ⟨fun z hz => putP_lo (by lia) h1 z hz, ih.1⟩, fun z hz => ?_⟩
       rcases List.mem_cons.mp hz with e | e
       · rw [e]; exact h.2 y (.head _)
       · exact ih.2 z e
theorem N1_putP (k c : Int) : ∀ p : Po, N1 (putP k c p) ≤ c.natAbs + N1 p
 | [] => by
   show N1 (if c = 0 then [] else [(k, c)]) ≤ c.natAbs + 0
   split
   · exact Nat.zero_le _
   · exact Nat.le_refl _
 | x :: r => by
   have ih := N1_putP k c r
   show N1 (if k < x.1 then (if c = 0 then x :: r else (k, c) :: x :: r) else if k = x.1 then (if x.2 + c = 0 then r else (k, x.2 + c) :: r) else x :: putP k c r) ≤ c.natAbs + (x.2.natAbs + N1 r)
   split
   · split
     · show x.2.natAbs + N1 r ≤ _; lia
     · exact Nat.le_refl _
   · split
     · split
       · lia
       · show (x.2 + c).natAbs + N1 r ≤ _; lia
     · show x.2.natAbs + N1 (putP k c r) ≤ _; lia
theorem co_norm : ∀ (p : Po) (k : Int), co (norm p) k = co p k
 | [], _ => rfl
 | x :: r, k => by
   show co (putP x.1 x.2 (norm r)) k = (if x.1 = k then x.2 else 0) + co r k
   rw [co_putP, co_norm r]
theorem canP_norm : ∀ p : Po, CanP (norm p)
 | [] => ⟨.nil, fun _ h => absurd h List.not_mem_nil⟩
 | x :: r => canP_putP x.1 x.2 (canP_norm r)
theorem N1_norm : ∀ p : Po, N1 (norm p) ≤ N1 p
 | [] => Nat.le_refl _
 | x :: r => Nat.le_trans (N1_putP x.1 x.2 (norm r)) (Nat.add_le_add_left (N1_norm r) _)
theorem N1_append (p q : Po) : N1 (p ++ q) = N1 p + N1 q := by
 induction p with
 | nil => show N1 q = 0 + N1 q; lia
 | cons x r ih => show x.2.natAbs + N1 (r ++ q) = x.2.natAbs + N1 r + N1 q; lia
theorem putP_key {k c : Int} : ∀ {p : Po}, ∀ x ∈ putP k c p, x.1 = k ∨ ∃ y ∈ p, y.1 = x.1
 | [], x, hx => by
   have hx : x ∈ (if c = 0 then [] else [(k, c)]) := hx
   split at hx
   · cases hx
   · rw [List.mem_singleton.mp hx]; exact .inl rfl
 | y :: r, x, hx => by
   have hx : x ∈ (if k < y.1 then (if c = 0 then y :: r else (k, c) :: y :: r) else if k = y.1 then (if y.2 + c = 0 then r else (k, y.2 + c) :: r) else y :: putP k c r) := hx
   split at hx
   · split at hx
     · exact .inr ⟨x, hx, rfl⟩
     · rcases List.mem_cons.mp hx with e | e
       · rw [e]; exact .inl rfl
       · exact .inr ⟨x, e, rfl⟩
   · split at hx
     · split at hx
       · exact .inr ⟨x, .tail _ hx, rfl⟩
       · rcases List.mem_cons.mp hx with e | e
         · rw [e]; exact .inl rfl
         · exact .inr ⟨x, .tail _ e, rfl⟩
     · rcases List.mem_cons.mp hx with e | e
       · rw [e]; exact .inr ⟨y, .head _, rfl⟩
       · rcases putP_key x e with z | ⟨z, hz, ez⟩
         · exact .inl z
         · exact .inr ⟨z, .tail _ hz, ez⟩
theorem norm_key : ∀ {p : Po}, ∀ x ∈ norm p, ∃ y ∈ p, y.1 = x.1
 | [], x, hx => by cases hx
 | y :: r, x, hx => by
   rcases putP_key (k := y.1) (c := y.2) (p := norm r) x hx with z | ⟨z, hz, ez⟩
   · exact ⟨y, .head _, z.symm⟩
   · obtain ⟨u, hu, eu⟩ := norm_key z hz
     exact ⟨u, .tail _ hu, eu.trans ez⟩
noncomputable def addP (p q : Po) : Po := norm (p ++ q)
noncomputable def rawM (p q : Po) : Po := p.flatMap fun a => q.map fun b => (a.1 + b.1, a.2 * b.2)
noncomputable def mulP' (p q : Po) : Po := norm (rawM p q)
theorem N1_addP (p q : Po) : N1 (addP p q) ≤ N1 p + N1 q := Nat.le_trans (N1_norm _) (Nat.le_of_eq (N1_append p q))
theorem N1_row (a : Int × Int) : ∀ q : Po, N1 (q.map fun b => (a.1 + b.1, a.2 * b.2)) = a.2.natAbs * N1 q
 | [] => rfl
 | b :: q => by
   show (a.2 * b.2).natAbs + N1 (q.map fun b => (a.1 + b.1, a.2 * b.2)) = a.2.natAbs * (b.2.natAbs + N1 q)
   rw [N1_row a q, Int.natAbs_mul, Nat.mul_add]
theorem N1_raw (q : Po) : ∀ p : Po, N1 (rawM p q) = N1 p * N1 q
 | [] => (Nat.zero_mul _).symm
 | a :: p => by
   show N1 ((q.map fun b => (a.1 + b.1, a.2 * b.2)) ++ rawM p q) = (a.2.natAbs + N1 p) * N1 q
   rw [N1_append, N1_row, N1_raw q p, Nat.add_mul]
theorem N1_mulP (p q : Po) : N1 (mulP' p q) ≤ N1 p * N1 q := Nat.le_trans (N1_norm _) (Nat.le_of_eq (N1_raw q p))
theorem N1_mem {p : Po} {x : Int × Int} (h : x ∈ p) : x.2.natAbs ≤ N1 p := by
 induction p with
 | nil => cases h
 | cons y r ih =>
   show _ ≤ y.2.natAbs + N1 r
   rcases List.mem_cons.mp h with e | e
   · rw [e]; lia
   · have := ih e; lia
noncomputable def PwB (b : Nat) (p : Po) : Prop := ∀ x ∈ p, x.1.natAbs ≤ b
theorem PwB_add {b : Nat} {p q : Po} (hp : PwB b p) (hq : PwB b q) : PwB b (addP p q) := fun x hx => by
 obtain ⟨y, hy, e⟩ := norm_key x hx
 rw [← e]
 rcases List.mem_append.mp hy with z | z
 · exact hp y z
 · exact hq y z
theorem PwB_mul {a b : Nat} {p q : Po} (hp : PwB a p) (hq : PwB b q) : PwB (a + b) (mulP' p q) := fun x hx => by
 obtain ⟨y, hy, e⟩ := norm_key x hx
 rw [← e]
 obtain ⟨u, hu, hy⟩ := List.mem_flatMap.mp hy
 obtain ⟨v, hv, rfl⟩ := List.mem_map.mp hy
 have h1 := hp u hu
 have h2 := hq v hv
 show (u.1 + v.1).natAbs ≤ a + b
 lia
theorem PwB.mono {a b : Nat} {p : Po} (h : PwB a p) (hab : a ≤ b) : PwB b p := fun x hx => Nat.le_trans (h x hx) hab
noncomputable def near (b : Nat) : List Int := (List.range (2 * b + 1)).map fun (i : Nat) => ((i : Int) - (b : Int))
theorem near_len (b : Nat) : (near b).length = 2 * b + 1 := by unfold near; rw [List.length_map, List.length_range]
theorem mem_near {b : Nat} {x : Int} (h : x.natAbs ≤ b) : x ∈ near b := List.mem_map.mpr ⟨(x + (b : Int)).toNat, List.mem_range.mpr (by lia), by show (((x + (b : Int)).toNat : Nat) : Int) - (b : Int) = x; lia⟩
noncomputable def prT (x : Int × Int) : T := .tup [.int x.1, .int x.2]
noncomputable def poT (p : Po) : T := .tup (p.map prT)
noncomputable def dkI (m : Po) : List (Key × T) := m.map fun x => (.inl x.1, .int x.2)
theorem dkI_pair (m : Po) : (dkI m).map pairT = m.map prT := by unfold dkI; rw [List.map_map]; rfl
theorem dkI_keys (m : Po) : (dkI m).map Prod.fst = (m.map Prod.fst).map Sum.inl := by unfold dkI; rw [List.map_map, List.map_map]; rfl
theorem dkI_len (m : Po) : (dkI m).length = m.length := by unfold dkI; rw [List.length_map]
noncomputable def setP (k v : Int) : Po → Po
 | [] => [(k, v)]
 | x :: r => if x.1 = k then (k, v) :: r else x :: setP k v r
theorem setP_keys (k v : Int) : ∀ m : Po, (setP k v m).map Prod.fst = if k ∈ m.map Prod.fst then m.map Prod.fst else m.map Prod.fst ++ [k]
 | [] => rfl
 | x :: r => by
   show ((if x.1 = k then (k, v) :: r else x :: setP k v r).map Prod.fst) = _
   by_cases h : x.1 = k
   · rw [if_pos h, if_pos (by rw [List.map_cons, h]; exact .head _), List.map_cons, List.map_cons, h]
   · rw [if_neg h, List.map_cons, setP_keys k v r, List.map_cons]
     by_cases g : k ∈ r.map Prod.fst
     · rw [if_pos g, if_pos (.tail _ g)]
     · rw [if_neg g, if_neg (fun z => (List.mem_cons.mp z).elim (fun e => h e.symm) g)]; rfl
theorem nodup_setP {k v : Int} {m : Po} (h : (m.map Prod.fst).Nodup) : ((setP k v m).map Prod.fst).Nodup := by
 rw [setP_keys]
 split
 · exact h
 · rename_i g
   rw [List.nodup_append]
   exact ⟨h, List.pairwise_singleton _ _, fun a ha b hb => by rw [List.mem_singleton.mp hb]; exact fun z => g (z ▸ ha)⟩
theorem putT_dkI {k v : Int} : ∀ {m : Po}, (m.map Prod.fst).Nodup → putT (dkI m) (.inl k) (.int v) = dkI (setP k v m)
 | [], _ => rfl
 | x :: r, h => by
   rw [List.map_cons, List.nodup_cons] at h
   have ih := putT_dkI (k := k) (v := v) h.2
   show putT ((.inl x.1, .int x.2) :: dkI r) (.inl k) (.int v) = dkI (if x.1 = k then (k, v) :: r else x :: setP k v r)
   by_cases e : x.1 = k
   · rw [if_pos e]
     unfold putT
     rw [if_pos (by rw [List.any_cons, decide_eq_true (show (Sum.inl x.1 : Key) = .inl k by rw [e])]; rfl)]
     rw [List.map_cons, if_pos (show (Sum.inl x.1 : Key) = .inl k by rw [e])]
     show _ = (Sum.inl k, T.int v) :: dkI r
     rw [e]
     congr 1
     unfold dkI
     rw [List.map_map]
     refine List.map_congr_left fun y hy => ?_
     show (if (Sum.inl y.1 : Key) = .inl k then ((Sum.inl y.1 : Key), T.int v) else (Sum.inl y.1, T.int y.2)) = _
     rw [if_neg (fun z => h.1 (by rw [e, ← Sum.inl.inj z]; exact List.mem_map.mpr ⟨y, hy, rfl⟩))]
   · have ne : ¬ (Sum.inl x.1 : Key) = .inl k := fun z => e (Sum.inl.inj z)
     rw [if_neg e]
     show _ = (Sum.inl x.1, T.int x.2) :: dkI (setP k v r)
     rw [← ih]
     unfold putT
     rw [List.any_cons, decide_eq_false ne, Bool.false_or]
     split
     · rw [List.map_cons, if_neg ne]
     · rfl
theorem valT_dkI (k : Int) : ∀ {m : Po}, (m.map Prod.fst).Nodup → (valT (dkI m) (.inl k)).getD (.int 0) = .int (co m k)
 | [], _ => rfl
 | x :: r, h => by
   rw [List.map_cons, List.nodup_cons] at h
   show (valT ((.inl x.1, .int x.2) :: dkI r) (.inl k)).getD (.int 0) = .int ((if x.1 = k then x.2 else 0) + co r k)
   rw [valT_cons]
   by_cases e : x.1 = k
   · rw [if_pos (show (Sum.inl x.1 : Key) = .inl k by rw [e]), if_pos e, co_zero (fun y hy z => h.1 (by rw [e, ← z]; exact List.mem_map.mpr ⟨y, hy, rfl⟩)), Int.add_zero]; rfl
   · rw [if_neg (fun z => e (Sum.inl.inj z)), if_neg e, Int.zero_add]
     exact valT_dkI k h.2
theorem valT_dkI_mem {k : Int} : ∀ {m : Po}, (m.map Prod.fst).Nodup → k ∈ m.map Prod.fst → valT (dkI m) (.inl k) = some (.int (co m k))
 | [], _, z => by cases z
 | x :: r, h, z => by
   rw [List.map_cons, List.nodup_cons] at h
   show valT ((.inl x.1, .int x.2) :: dkI r) (.inl k) = some (.int ((if x.1 = k then x.2 else 0) + co r k))
   rw [valT_cons]
   by_cases e : x.1 = k
   · rw [if_pos (show (Sum.inl x.1 : Key) = .inl k by rw [e]), if_pos e, co_zero (fun y hy z => h.1 (by rw [e, ← z]; exact List.mem_map.mpr ⟨y, hy, rfl⟩)), Int.add_zero]
   · rw [if_neg (fun z => e (Sum.inl.inj z)), if_neg e, Int.zero_add]
     rw [List.map_cons] at z
     exact valT_dkI_mem h.2 ((List.mem_cons.mp z).resolve_left fun y => e y.symm)
theorem co_setP (k v : Int) : ∀ {m : Po}, (m.map Prod.fst).Nodup → ∀ j, co (setP k v m) j = if j = k then v else co m j
 | [], _, j => by
   show (if k = j then v else 0) + 0 = if j = k then v else 0
   by_cases e : j = k
   · rw [if_pos e, if_pos e.symm]; lia
   · rw [if_neg e, if_neg (fun z => e z.symm)]; rfl
 | x :: r, h, j => by
   rw [List.map_cons, List.nodup_cons] at h
   show co (if x.1 = k then (k, v) :: r else x :: setP k v r) j = if j = k then v else (if x.1 = j then x.2 else 0) + co r j
   by_cases e : x.1 = k
   · rw [if_pos e]
     show (if k = j then v else 0) + co r j = _
     by_cases f : j = k
     · rw [if_pos f, if_pos f.symm, co_zero (fun y hy z => h.1 (by rw [e, ← f, ← z]; exact List.mem_map.mpr ⟨y, hy, rfl⟩))]; lia
     · rw [if_neg f, if_neg (fun z => f z.symm), if_neg (fun z => f (z.symm.trans e))]
   · rw [if_neg e]
     show (if x.1 = j then x.2 else 0) + co (setP k v r) j = _
     rw [co_setP k v h.2 j]
     by_cases f : j = k
     · rw [if_pos f, if_pos f, if_neg (fun z => e (z.trans f))]; lia
     · rw [if_neg f, if_neg f]
theorem norm_sorted {m : Po} {ms : List Int} (hm : (m.map Prod.fst).Nodup) (hp : ms.Perm (m.map Prod.fst)) (hs : ms.Pairwise (· ≤ ·)) : ((ms.filter fun k => decide (co m k ≠ 0)).map fun k => (k, co m k)) = norm m := by
 have hnd : ms.Nodup := hp.nodup_iff.mpr hm
 have hst : ms.Pairwise (· < ·) := hs.imp₂ (fun a b h1 h2 => Int.lt_iff_le_and_ne.mpr ⟨h1, h2⟩) hnd
 have hc : CanP ((ms.filter fun k => decide (co m k ≠ 0)).map fun k => (k, co m k)) := by
   refine ⟨List.pairwise_map.mpr (hst.filter _), fun x hx => ?_⟩
   obtain ⟨k, hk, rfl⟩ := List.mem_map.mp hx
   exact of_decide_eq_true (List.mem_filter.mp hk).2
 refine canP_ext hc (canP_norm m) fun k => ?_
 rw [co_norm]
 by_cases h : k ∈ ms ∧ co m k ≠ 0
 · exact co_mem hc.1 (x := (k, co m k)) (List.mem_map.mpr ⟨k, List.mem_filter.mpr ⟨h.1, decide_eq_true h.2⟩, rfl⟩)
 · rw [co_zero]
   · by_cases g : k ∈ ms
     · exact (Classical.not_not.mp fun z => h ⟨g, z⟩).symm
     · exact (co_zero fun x hx z => g (hp.mem_iff.mpr (List.mem_map.mpr ⟨x, hx, z⟩))).symm
   · intro x hx z
     obtain ⟨j, hj, rfl⟩ := List.mem_map.mp hx
     obtain rfl : j = k := z
     exact h ⟨(List.mem_filter.mp hj).1, of_decide_eq_true (List.mem_filter.mp hj).2⟩
end L2
namespace L2
open PySem PySem.Spec PyProof.Rows LM
theorem reps_nil' {K : PySem.W.Frag} {H : Hp} : Reps K H [] [] := by unfold Reps; rfl
theorem reps_cons' {K : PySem.W.Frag} {H : Hp} {v : V} {t : T} {vs : List V} {ts : List T} (a : Rep K H v t) (b : Reps K H vs ts) : Reps K H (v :: vs) (t :: ts) := by unfold Reps; exact ⟨v, vs, rfl, a, b⟩
theorem rep_const {K : PySem.W.Frag} {H : Hp} {u : Addr} {xs : List V} {its : Array Value} {n : Nat} {sl : Array (Option Value)} {ts : List T} (l : K.lookup u = some ⟨.type "tuple", none, .seq its n, sl⟩) (hz : its.size ≤ 1000) (v : Vals xs its.toList) (r : Reps K H xs ts) : Rep K H (.ref u) (.tup ts) :=
 rep_tup (.inr ⟨_, its, n, l, rfl, rfl, rfl, by rw [sizeLine_eq]; lia, v⟩) r
section
variable {X : Cx}
theorem h_globT {x : Str} {a : Addr} {t : T} {pos : Pos} (c : X.mg x = some (.ref a) ∧ ∀ H, Rep X.K H (.ref a) t) (hg : Gl X x := by rfl) (hd : (x == ("__debug__" : Str)) = false := by decide) : HE X (.Name x pos) (tK t) := fun ρ M Q q => (pe_glob (v := .ref a) hg c.1 rfl hd).imp fun σ H Q2 ⟨hr, hh, en⟩ => en t _ M H Kp.refl hh (c.2 H) q
theorem hss_false {st : List Stmt} : HSs X st (fun _ _ _ => False) := fun D ρ M h => h.elim
end
end L2
namespace L2
open PySem PySem.Spec PyProof.Rows LM
section
variable {X : Cx} {a b e : Expr} {pos : Pos}
noncomputable def tLRng2 (t : TA3) : TE3 := fun ρ M Q => t ρ M fun xs M1 => match xs with
 | [.int i, .int j] => (-(2 ^ 62) ≤ i ∧ i < 2 ^ 62 ∧ -(2 ^ 62) ≤ j ∧ j < 2 ^ 62 ∧ j - i < 2 ^ 24) ∧ ∀ p, M1 p = none → Q (.adr p) (updM M1 p (.lst (rangeT i (j - i).toNat)))
 | _ => False
theorem h_listRange2 {t : TA3} {p p' pos' : Pos} (hm : X.mg "list" = none) (hm' : X.mg "range" = none) (ha : HA X [a, b] t) (hc : X.calm = true := by rfl) (hg : Gl X "list" := by rfl) (hg' : Gl X "range" := by rfl) (hs : starEach [a, b] X.env = [(false, eval a X.env), (false, eval b X.env)] := by rfl) (hs2 : starEach [b] X.env = [(false, eval b X.env)] := by rfl)
   (he : starEach [.Call (.Name "range" p') [a, b] [] pos'] X.env = (false, eval (.Call (.Name "range" p') [a, b] [] pos') X.env) :: starEach [] X.env := by rfl) :
   HE X (.Call (.Name "list" p) [.Call (.Name "range" p') [a, b] [] pos'] [] pos) (tLRng2 t) := by
 intro ρ M Q h pins s σ H Q2 I bb
 obtain ⟨hr, hh, en⟩ := bb
 refine wpAny_Call_Name_kw (ld_blt I hg hm boot_list ?_ (by decide) (by decide))
 refine PyProof.Rows.callWith_type1 ?_ he rfl
 rw [he]
 refine Calls.spliced_cons ?_
 refine Call_ (ld_blt I hg' hm' boot_range (PyProof.Rows.callWith_type1 (thn (ha ρ M _ h pos' pins s σ H (fun vs H1 => ∃ i j M1, vs = [V.int i, V.int j] ∧ HR X.K H1 M1 ∧ Kp X.K H H1 ∧ (-(2 ^ 62) ≤ i ∧ i < 2 ^ 62 ∧ -(2 ^ 62) ≤ j ∧ j < 2 ^ 62 ∧ j - i < 2 ^ 24) ∧ ∀ p, M1 p = none → Q (.adr p) (updM M1 p (.lst (rangeT i (j - i).toNat)))) I
   ⟨hr, hh, fun ts vs M1 H1 k1 h1 r1 q1 => by
     dsimp only at q1
     split at q1
     · rename_i i j
       obtain ⟨v, w', rfl, rv, rw'⟩ := reps2 r1
       obtain rfl := inv_int rv
       obtain rfl := inv_int rw'
       exact ⟨i, j, M1, rfl, h1, k1, q1.1, q1.2⟩
     · exact q1.elim⟩) fun us s1 ⟨vs, H1, I1, rv, i, j, M1, e1, h1, k1, hj, q1⟩ => ?_) (by rw [hs, hs2]) (by rw [hs2]; rfl)))
 subst e1
 obtain ⟨u, u2, rfl, ⟨t0, rfl⟩, t', rfl⟩ := rv.two
 refine call_range_2 (Calls.spliced_nil ?_)
 have I2 : Inv X pins σ H1 { s1 with heap := s1.heap.push { cls := .type "range", data := .fields #[.int i t0, .int j t', .int 1 s1.toks] }, toks := s1.toks + 1 } := I1.kept fun b o e => Heap.get?_push_of_some _ e
 have hn : Builtin.Range.rangeSize i j 1 = (((j - i).toNat : Nat) : Int) := by rw [rangeSize_one]; split <;> lia
 refine call_list_range (I1.ok.hd hc) (IsRange.new ..) (small_one (by lia) (by lia) (by lia) (by lia)) hn (by lia) fun h' tk acc' c' kp e ito => ?_
 have hz : (j - i).toNat ≤ sizeLine := by rw [sizeLine_eq]; lia
 have vr : Vals (rangeV i (j - i).toNat) acc'.toList := by
   refine vals_of_get (by unfold rangeV; simp [ito.1]) fun k x ex => ?_
   have hi : k < (j - i).toNat := by have := (List.getElem?_eq_some_iff.mp ex).1; simpa [rangeV] using this
   have hi' : k < acc'.size := by rw [ito.1]; exact hi
   have ea : acc'[k]? = some acc'[k] := Array.getElem?_eq_getElem hi'
   obtain ⟨tt, et⟩ := ito.2 k _ ea
   refine ⟨acc'[k], by rw [Array.getElem?_toList]; exact ea, ?_⟩
   unfold rangeV at ex
   rw [List.getElem?_map, List.getElem?_range hi] at ex
   have := Option.some.inj ex
   subst this
   exact ⟨tt, by rw [et, Int.mul_one]⟩
 have I3 := I2.laid (a := { s1 with heap := s1.heap.push { cls := .type "range", data := .fields #[.int i t0, .int j t', .int 1 s1.toks] }, toks := s1.toks + 1 }.heap.objs.size) (o := .lst (rangeV i (j - i).toNat)) (t' := tk) kp (Nat.le_refl _)
   (show ObjOk X.prog X.w _ h' _ (.lst (rangeV i (j - i).toNat)) from ⟨by unfold rangeV; simpa using hz, acc'.toList, c', vr, by simpa using e⟩)
 have hf := I2.hok.fresh (Nat.le_refl _)
 exact ⟨.ref _, _, I3, rfl, en _ _ _ _ (k1.trans (Kp.new hf)) (h1.newL hf (rangeV_reps i (j - i).toNat)) rep_adr (q1 _ (h1.free hf))⟩
end
end L2
namespace L2
open PySem PySem.Spec PyProof.Rows LM
section
variable {X : Cx} {Ha : Hp} {e : Expr} {te : TE3} {pos : Pos}
end
end L2
namespace L2
open PySem PySem.Spec PyProof.Rows LM
section
variable {X : Cx}
end
section
variable {X : Cx}
end
end L2
namespace L2
open PySem PySem.Spec PyProof.Rows LM
noncomputable def plusL (p q : Po) (c : Int) : Po := norm (p ++ q.map fun x => (x.1, c * x.2))
theorem co_scale (c : Int) (k : Int) : ∀ q : Po, co (q.map fun x => (x.1, c * x.2)) k = c * co q k
 | [] => by show (0 : Int) = c * 0; rw [Int.mul_zero]
 | x :: q => by
   show (if x.1 = k then c * x.2 else 0) + co (q.map fun x => (x.1, c * x.2)) k = c * ((if x.1 = k then x.2 else 0) + co q k)
   rw [co_scale c k q, Int.mul_add]
   split
   · rfl
   · rw [Int.mul_zero]
theorem co_plusL (p q : Po) (c k : Int) : co (plusL p q c) k = co p k + c * co q k := by
 unfold plusL
 rw [co_norm, co_append, co_scale]
theorem co_raw1 (a b k : Int) : ∀ p : Po, co (rawM p [(a, b)]) k = co p (k - a) * b
 | [] => by show (0 : Int) = 0 * b; rw [Int.zero_mul]
 | x :: p => by
   show (if x.1 + a = k then x.2 * b else 0) + co (rawM p [(a, b)]) k = ((if x.1 = k - a then x.2 else 0) + co p (k - a)) * b
   rw [co_raw1 a b k p, Int.add_mul]
   by_cases h : x.1 + a = k
   · rw [if_pos h, if_pos (by lia)]
   · rw [if_neg h, if_neg (by lia), Int.zero_mul]
theorem co_raw2 (a b c d k : Int) : ∀ p : Po, co (rawM p [(a, b), (c, d)]) k = co p (k - a) * b + co p (k - c) * d
 | [] => by show (0 : Int) = 0 * b + 0 * d; rw [Int.zero_mul, Int.zero_mul]; rfl
 | x :: p => by
   show (if x.1 + a = k then x.2 * b else 0) + ((if x.1 + c = k then x.2 * d else 0) + co (rawM p [(a, b), (c, d)]) k) = ((if x.1 = k - a then x.2 else 0) + co p (k - a)) * b + ((if x.1 = k - c then x.2 else 0) + co p (k - c)) * d
   rw [co_raw2 a b c d k p, Int.add_mul, Int.add_mul]
   by_cases h : x.1 + a = k <;> by_cases g : x.1 + c = k
   · rw [if_pos h, if_pos g, if_pos (by lia), if_pos (by lia)]; lia
   · rw [if_pos h, if_neg g, if_pos (by lia), if_neg (by lia), Int.zero_mul]; lia
   · rw [if_neg h, if_pos g, if_neg (by lia), if_pos (by lia), Int.zero_mul]; lia
   · rw [if_neg h, if_neg g, if_neg (by lia), if_neg (by lia), Int.zero_mul, Int.zero_mul]; lia
end L2
namespace L2
open PySem PySem.Spec PyProof.Rows LM
section
variable {X : Cx}
end
end L2
namespace L2
open PySem PySem.Spec PyProof.Rows LM
section
variable {X : Cx}
end
end L2
namespace L2
open PySem PySem.Spec PyProof.Rows LM
noncomputable abbrev Rw := Nat → Int → Int
noncomputable def wlR (R : Rw) (k : Nat) (up : Bool) : Rw := fun j c => if j = k then (if up then R k c - R k (c - 1) + R (k + 1) c else R (k + 1) (c + 1)) else if j = k + 1 then (if up then R k (c - 1) else R k c + R (k + 1) c - R (k + 1) (c + 1)) else R j c
theorem wlR_far {R : Rw} {a b : Nat} {u v : Bool} (h : a + 1 < b ∨ b + 1 < a) : wlR (wlR R a u) b v = wlR (wlR R b v) a u := by
 funext j c
 cases u <;> cases v <;> (unfold wlR; simp only [if_true, if_false, Bool.false_eq_true]; (repeat' split) <;> first | rfl | lia | (subst_vars; first | lia | rfl))
theorem wlR_out {R : Rw} {a : Nat} {u : Bool} : wlR (wlR R a u) a (!u) = R := by
 funext j c
 have n1 : ¬ a + 1 = a := by lia
 cases u
 · show wlR (wlR R a false) a true j c = R j c
   unfold wlR
   simp only [if_true, if_false, Bool.false_eq_true, n1]
   by_cases h : j = a
   · subst h
     simp only [if_true]
     rw [show c - 1 + 1 = c by lia]; lia
   · rw [if_neg h]
     by_cases g : j = a + 1
     · rw [if_pos g, g, show c - 1 + 1 = c by lia]
     · rw [if_neg g, if_neg h, if_neg g]
 · show wlR (wlR R a true) a false j c = R j c
   unfold wlR
   simp only [if_true, if_false, Bool.false_eq_true, n1]
   by_cases h : j = a
   · subst h
     simp only [if_true]
     rw [show c + 1 - 1 = c by lia]
   · rw [if_neg h]
     by_cases g : j = a + 1
     · rw [if_pos g, g, show c + 1 - 1 = c by lia]; lia
     · rw [if_neg g, if_neg h, if_neg g]
theorem wlR_three {R : Rw} {a : Nat} {u : Bool} : wlR (wlR (wlR R a u) (a + 1) u) a u = wlR (wlR (wlR R (a + 1) u) a u) (a + 1) u := by
 funext j c
 have n1 : ¬ a + 1 = a := by lia
 have n2 : ¬ a = a + 1 := by lia
 have n3 : ¬ a + 1 + 1 = a := by lia
 have n4 : ¬ a + 1 + 1 = a + 1 := by lia
 have n5 : ¬ a = a + 1 + 1 := by lia
 have n6 : ¬ a + 1 = a + 1 + 1 := by lia
 by_cases h1 : j = a
 · subst h1
   cases u <;> (simp only [wlR, if_true, if_false, Bool.false_eq_true, n1, n2, n3, n4, n5, n6]; try lia)
 · by_cases h2 : j = a + 1
   · subst h2
     cases u <;> (simp only [wlR, if_true, if_false, Bool.false_eq_true, n1, n2, n3, n4, n5, n6]; try lia)
   · by_cases h3 : j = a + 1 + 1
     · subst h3
       cases u <;> (simp only [wlR, if_true, if_false, Bool.false_eq_true, n1, n2, n3, n4, n5, n6]; try lia)
     · cases u <;> (simp only [wlR, if_true, if_false, Bool.false_eq_true, h1, h2, h3])
noncomputable def wdR (R : Rw) : List Int → Rw
 | [] => R
 | l :: w => wdR (wlR R (l.natAbs - 1) (decide (0 < l))) w
theorem wdR_append : ∀ (w v : List Int) (R : Rw), wdR R (w ++ v) = wdR (wdR R w) v
 | [], v, R => rfl
 | l :: w, v, R => wdR_append w v _
theorem wdR_rel {n : Int} {w v : List Int} (h : RelW n w v) : ∀ R, wdR R w = wdR R v := by
 induction h with
 | refl w => intro R; rfl
 | symm _ ih => intro R; exact (ih R).symm
 | trans _ _ i1 i2 => intro R; exact (i1 R).trans (i2 R)
 | ctx a b _ _ _ ih => intro R; rw [wdR_append, wdR_append, wdR_append, wdR_append, ih]
 | @far a b ha hb hab =>
   intro R
   obtain ⟨a1, a2⟩ := ha
   obtain ⟨b1, b2⟩ := hb
   exact wlR_far (by lia)
 | @three p q hp hq hs hd =>
   intro R
   obtain ⟨p1, p2⟩ := hp
   obtain ⟨q1, q2⟩ := hq
   have hsg : decide (0 < p) = decide (0 < q) := by
     have : (0 < p ∧ 0 < q) ∨ (p < 0 ∧ q < 0) := by
       rcases Int.lt_trichotomy p 0 with c | c | c
       · rcases Int.lt_trichotomy q 0 with d | d | d
         · exact .inr ⟨c, d⟩
         · lia
         · exact absurd (Int.mul_neg_of_neg_of_pos c d) (by lia)
       · lia
       · rcases Int.lt_trichotomy q 0 with d | d | d
         · exact absurd (Int.mul_neg_of_pos_of_neg c d) (by lia)
         · lia
         · exact .inl ⟨c, d⟩
     rcases this with ⟨c, d⟩ | ⟨c, d⟩
     · rw [decide_eq_true c, decide_eq_true d]
     · rw [decide_eq_false (by lia), decide_eq_false (by lia)]
   show wlR (wlR (wlR R (p.natAbs - 1) (decide (0 < p))) (q.natAbs - 1) (decide (0 < q))) (p.natAbs - 1) (decide (0 < p)) = wlR (wlR (wlR R (q.natAbs - 1) (decide (0 < q))) (p.natAbs - 1) (decide (0 < p))) (q.natAbs - 1) (decide (0 < q))
   rw [hsg]
   rcases (show q.natAbs - 1 = p.natAbs - 1 + 1 ∨ p.natAbs - 1 = q.natAbs - 1 + 1 by
     have : p.natAbs + 1 = q.natAbs ∨ q.natAbs + 1 = p.natAbs := by
       by_cases c : 0 < p
       · have : 0 < q := by have := of_decide_eq_true (hsg ▸ decide_eq_true c : decide (0 < q) = true); exact this
         lia
       · have : ¬ 0 < q := fun d => by rw [decide_eq_true d, decide_eq_false c] at hsg; cases hsg
         lia
     lia) with e | e
   · rw [e]; exact wlR_three
   · rw [e]; exact wlR_three.symm
 | @out l hl =>
   intro R
   obtain ⟨l1, l2⟩ := hl
   show wlR (wlR R (l.natAbs - 1) (decide (0 < l))) ((-l).natAbs - 1) (decide (0 < -l)) = R
   rw [Int.natAbs_neg, show decide (0 < -l) = !decide (0 < l) by by_cases c : 0 < l; rw [decide_eq_true c, decide_eq_false (by lia)]; rfl; rw [decide_eq_false c, decide_eq_true (by lia)]; rfl]
   exact wlR_out
noncomputable def rowF (ps : List Po) : Rw := fun j c => co (ps.getD j []) c
theorem getD_set {α : Type} {ps : List α} {k j : Nat} {u z : α} (hk : k < ps.length) : (ps.set k u).getD j z = if j = k then u else ps.getD j z := by
 rw [List.getD_eq_getElem?_getD, List.getD_eq_getElem?_getD]
 by_cases c : j = k
 · subst c
   rw [if_pos rfl, List.getElem?_set_self hk]; rfl
 · rw [if_neg c, List.getElem?_set_ne (fun z => c z.symm)]
end L2
namespace L2
open PySem PySem.Spec PyProof.Rows LM
noncomputable def oneP (r c : Int) : Po := if r = c then [(0, 1)] else []
noncomputable def upP : Po := [(1, 1)]
noncomputable def downP : Po := [(-1, 1)]
noncomputable def lupP : Po := [(0, 1), (1, -1)]
noncomputable def ldownP : Po := [(-1, -1), (0, 1)]
noncomputable def GdP (b B : Nat) (p : Po) : Prop := CanP p ∧ PwB b p ∧ N1 p ≤ B
theorem CanP.len {p : Po} (h : CanP p) {b : Nat} (hb : PwB b p) : p.length ≤ 2 * b + 1 := by
 have h1 : (p.map Prod.fst).Nodup := List.pairwise_map.mpr (h.1.imp fun h z => Int.ne_of_lt h z)
 have h2 : (p.map Prod.fst).length ≤ (near b).length := List.Nodup.length_le_of_subset h1 fun k hk => by
   obtain ⟨x, hx, rfl⟩ := List.mem_map.mp hk
   exact mem_near (hb x hx)
 rwa [List.length_map, near_len] at h2
noncomputable def wl1 (l : Int) (a b : Po) : Po := if 0 < l then addP (mulP' a lupP) b else mulP' b downP
noncomputable def wl2 (l : Int) (a b : Po) : Po := if 0 < l then mulP' a upP else addP a (mulP' b ldownP)
noncomputable def wlP (ps : List Po) (l : Int) : List Po := ps.take (l.natAbs - 1) ++ ([wl1 l (ps.getD (l.natAbs - 1) []) (ps.getD l.natAbs []), wl2 l (ps.getD (l.natAbs - 1) []) (ps.getD l.natAbs [])] ++ ps.drop (l.natAbs + 1))
theorem GdP.add {b B C : Nat} {p q : Po} (hp : GdP b B p) (hq : GdP b C q) : GdP b (B + C) (addP p q) := ⟨canP_norm _, PwB_add hp.2.1 hq.2.1, Nat.le_trans (N1_addP p q) (Nat.add_le_add hp.2.2 hq.2.2)⟩
theorem GdP.mul {a b B C : Nat} {p q : Po} (hp : GdP a B p) (hq : GdP b C q) : GdP (a + b) (B * C) (mulP' p q) := ⟨canP_norm _, PwB_mul hp.2.1 hq.2.1, Nat.le_trans (N1_mulP p q) (Nat.mul_le_mul hp.2.2 hq.2.2)⟩
theorem GdP.mono {a b B C : Nat} {p : Po} (hp : GdP a B p) (h1 : a ≤ b) (h2 : B ≤ C) : GdP b C p := ⟨hp.1, hp.2.1.mono h1, Nat.le_trans hp.2.2 h2⟩
theorem good_up : GdP 1 1 upP := ⟨⟨by decide, by decide⟩, by unfold PwB; decide, by decide⟩
theorem good_down : GdP 1 1 downP := ⟨⟨by decide, by decide⟩, by unfold PwB; decide, by decide⟩
theorem good_lup : GdP 1 2 lupP := ⟨⟨by decide, by decide⟩, by unfold PwB; decide, by decide⟩
theorem good_ldown : GdP 1 2 ldownP := ⟨⟨by decide, by decide⟩, by unfold PwB; decide, by decide⟩
theorem sum_near {a b : Nat} {p q : Po} (hp : PwB a p) (hq : PwB b q) : ∀ x ∈ p, ∀ y ∈ q, x.1 + y.1 ∈ near (a + b) := fun x hx y hy => mem_near (by
 have h1 := hp x hx
 have h2 := hq y hy
 lia)
theorem pwb_near {a : Nat} {p : Po} (hp : PwB a p) : ∀ x ∈ p, x.1 ∈ near a := fun x hx => mem_near (hp x hx)
theorem n1_lt {p : Po} {b B : Nat} (h : GdP b B p) (hB : B < 2 ^ 64) : ∀ x ∈ p, x.2.natAbs < 2 ^ 64 := fun x hx => Nat.lt_of_le_of_lt (Nat.le_trans (N1_mem hx) h.2.2) hB
theorem good_wl1 {b B : Nat} {l : Int} {p q : Po} (hp : GdP b B p) (hq : GdP b B q) : GdP (b + 1) (3 * B) (wl1 l p q) := by
 unfold wl1
 split
 · exact ((hp.mul good_lup).add (hq.mono (by lia) (Nat.le_refl _))).mono (Nat.le_refl _) (by lia)
 · exact (hq.mul good_down).mono (Nat.le_refl _) (by lia)
theorem good_wl2 {b B : Nat} {l : Int} {p q : Po} (hp : GdP b B p) (hq : GdP b B q) : GdP (b + 1) (3 * B) (wl2 l p q) := by
 unfold wl2
 split
 · exact (hp.mul good_up).mono (Nat.le_refl _) (by lia)
 · exact ((hp.mono (b := b + 1) (by lia) (Nat.le_refl _)).add (hq.mul good_ldown)).mono (Nat.le_refl _) (by lia)
theorem wlP_len {ps : List Po} {l : Int} (h1 : 1 ≤ l.natAbs) (h2 : l.natAbs < ps.length) : (wlP ps l).length = ps.length := by
 unfold wlP
 rw [List.length_append, List.length_append, List.length_take, List.length_drop]
 simp only [List.length_cons, List.length_nil]
 lia
theorem getD_good {b B : Nat} {ps : List Po} (h : ∀ p ∈ ps, GdP b B p) {i : Nat} (hi : i < ps.length) : GdP b B (ps.getD i []) := h _ (by rw [List.getD_eq_getElem?_getD, List.getElem?_eq_getElem hi]; exact List.getElem_mem _)
theorem wlP_good {b B : Nat} {ps : List Po} {l : Int} (h : ∀ p ∈ ps, GdP b B p) (h1 : 1 ≤ l.natAbs) (h2 : l.natAbs < ps.length) : ∀ p ∈ wlP ps l, GdP (b + 1) (3 * B) p := fun p hp => by
 unfold wlP at hp
 have g0 := getD_good h (i := l.natAbs - 1) (by lia)
 have g1 := getD_good h (i := l.natAbs) h2
 rcases List.mem_append.mp hp with z | z
 · exact (h p (List.mem_of_mem_take z)).mono (by lia) (by lia)
 rcases List.mem_append.mp z with z | z
 · rcases List.mem_cons.mp z with e | z
   · rw [e]; exact good_wl1 g0 g1
   · rw [List.mem_singleton.mp z]; exact good_wl2 g0 g1
 · exact (h p (List.mem_of_mem_drop z)).mono (by lia) (by lia)
noncomputable def idP (n : Int) : List (List Po) := (range0 n).map fun r => (range0 n).map fun c => oneP r c
noncomputable def tabP (n : Int) (ws : List Int) : List (List Po) := ws.foldl (fun rs l => rs.map fun ps => wlP ps l) (idP n)
noncomputable def GoodT (n : Nat) (b B : Nat) (rs : List (List Po)) : Prop := rs.length = n ∧ ∀ ps ∈ rs, ps.length = n ∧ ∀ p ∈ ps, GdP b B p
theorem good_one (r c : Int) : GdP 0 1 (oneP r c) := by
 unfold oneP
 split
 · exact ⟨⟨by decide, by decide⟩, by unfold PwB; decide, by decide⟩
 · exact ⟨⟨by decide, by decide⟩, by unfold PwB; decide, by decide⟩
theorem good_id (n : Int) : GoodT n.toNat 0 1 (idP n) := by
 unfold idP
 refine ⟨by rw [List.length_map, range0_length], fun ps hps => ?_⟩
 obtain ⟨r, _, rfl⟩ := List.mem_map.mp hps
 refine ⟨by rw [List.length_map, range0_length], fun p hp => ?_⟩
 obtain ⟨c, _, rfl⟩ := List.mem_map.mp hp
 exact good_one r c
theorem good_step {n b B : Nat} {rs : List (List Po)} (h : GoodT n b B rs) {l : Int} (h1 : 1 ≤ l.natAbs) (h2 : l.natAbs < n) : GoodT n (b + 1) (3 * B) (rs.map fun ps => wlP ps l) := by
 refine ⟨by rw [List.length_map]; exact h.1, fun ps hps => ?_⟩
 obtain ⟨qs, hq, rfl⟩ := List.mem_map.mp hps
 obtain ⟨g1, g2⟩ := h.2 qs hq
 exact ⟨by rw [wlP_len h1 (by rw [g1]; exact h2)]; exact g1, wlP_good g2 h1 (by rw [g1]; exact h2)⟩
theorem good_fold {n : Nat} : ∀ (ws : List Int) {b B : Nat} {rs : List (List Po)}, GoodT n b B rs → (∀ l ∈ ws, 1 ≤ l.natAbs ∧ l.natAbs < n) → GoodT n (b + ws.length) (3 ^ ws.length * B) (ws.foldl (fun rs l => rs.map fun ps => wlP ps l) rs)
 | [], b, B, rs, h, _ => by
   show GoodT n (b + 0) (3 ^ 0 * B) rs
   rw [Nat.pow_zero, Nat.one_mul]; exact h
 | l :: w, b, B, rs, h, hw => by
   have h2 := good_fold w (good_step h (hw l (.head _)).1 (hw l (.head _)).2) (fun x hx => hw x (.tail _ hx))
   have e : 3 ^ w.length * (3 * B) = 3 ^ (w.length + 1) * B := by rw [Nat.pow_succ, Nat.mul_assoc]
   rw [e, Nat.add_assoc, Nat.add_comm 1] at h2
   exact h2
theorem tabP_good {n : Int} {ws : List Int} (hw : WordOK n ws) : GoodT n.toNat ws.length (3 ^ ws.length) (tabP n ws) := by
 have h := good_fold ws (good_id n) (fun l hl => by obtain ⟨a, b⟩ := hw l hl; exact ⟨by lia, by lia⟩)
 rwa [Nat.zero_add, Nat.mul_one] at h
theorem tabP_snoc (n : Int) (ws : List Int) (l : Int) : tabP n (ws ++ [l]) = (tabP n ws).map fun ps => wlP ps l := by unfold tabP; rw [List.foldl_append]; rfl
noncomputable def RowsP (M : MH) (as : List Addr) (rs : List (List Po)) : Prop := as.length = rs.length ∧ ∀ (i : Nat) (a : Addr) (ps : List Po), as[i]? = some a → rs[i]? = some ps → M a = some (.lst (ps.map poT))
theorem RowsP.sub {M M' : MH} {as : List Addr} {rs : List (List Po)} (h : RowsP M as rs) (s : Sub M M') : RowsP M' as rs := ⟨h.1, fun i a l h1 h2 => s _ _ (h.2 i a l h1 h2)⟩
theorem RowsP.nil {M : MH} : RowsP M [] [] := ⟨rfl, fun i a l z => by simp at z⟩
theorem RowsP.snoc {M : MH} {as : List Addr} {rs : List (List Po)} {a : Addr} {ps : List Po} (h : RowsP M as rs) (ha : M a = some (.lst (ps.map poT))) : RowsP M (as ++ [a]) (rs ++ [ps]) := by
 refine ⟨by rw [List.length_append, List.length_append, h.1]; rfl, fun i b k h1 h2 => ?_⟩
 by_cases z : i < as.length
 · rw [List.getElem?_append_left z] at h1
   rw [List.getElem?_append_left (by rw [← h.1]; exact z)] at h2
   exact h.2 i b k h1 h2
 · rw [List.getElem?_append_right (by lia)] at h1
   rw [List.getElem?_append_right (by rw [← h.1]; lia), ← h.1] at h2
   obtain ⟨l1, e1⟩ := List.getElem?_eq_some_iff.mp h1
   have e : i - as.length = 0 := by rw [List.length_singleton] at l1; lia
   rw [e] at h1 h2
   obtain rfl := Option.some.inj h1
   obtain rfl := Option.some.inj h2
   exact ha
noncomputable def FrP (M : MH) (as : List Addr) : Prop := ∀ a ∈ as, M a = none
theorem FrP.snoc {M : MH} {as : List Addr} {a : Addr} (h : FrP M as) (ha : M a = none) : FrP M (as ++ [a]) := fun b hb => by
 rcases List.mem_append.mp hb with z | z
 · exact h b z
 · rw [List.mem_singleton.mp z]; exact ha
theorem set_mid {α : Type} (u x : α) (r : List α) : ∀ A : List α, (A ++ x :: r).set A.length u = A ++ u :: r
 | [] => rfl
 | a :: A => by
   show a :: ((A ++ x :: r).set A.length u) = a :: (A ++ u :: r)
   rw [set_mid u x r A]
theorem wlP_set {ps : List Po} {k : Nat} {l : Int} (hk : l.natAbs = k + 1) (h2 : k + 1 < ps.length) : wlP ps l = (ps.set k (wl1 l (ps.getD k []) (ps.getD (k + 1) []))).set (k + 1) (wl2 l (ps.getD k []) (ps.getD (k + 1) [])) := by
 unfold wlP
 rw [hk, Nat.add_sub_cancel]
 generalize wl1 l (ps.getD k []) (ps.getD (k + 1) []) = u
 generalize wl2 l (ps.getD k []) (ps.getD (k + 1) []) = v
 have e1 : ps.drop k = ps[k] :: ps.drop (k + 1) := List.drop_eq_getElem_cons (by lia)
 have e2 : ps.drop (k + 1) = ps[k + 1] :: ps.drop (k + 2) := List.drop_eq_getElem_cons (by lia)
 have e : ps = ps.take k ++ ps[k] :: ps[k + 1] :: ps.drop (k + 2) := by rw [← e2, ← e1, List.take_append_drop]
 have hA : (ps.take k).length = k := by rw [List.length_take]; lia
 generalize ps.take k = A at e hA ⊢
 generalize ps.drop (k + 2) = B at e ⊢
 generalize ps[k] = x at e
 generalize ps[k + 1] = y at e
 subst hA
 rw [e, set_mid u x (y :: B) A]
 have e3 : A ++ u :: y :: B = (A ++ [u]) ++ y :: B := by rw [List.append_assoc]; rfl
 have e4 := set_mid v y B (A ++ [u])
 rw [List.length_append, List.length_singleton] at e4
 rw [e3, e4, List.append_assoc]; rfl
theorem RowsP.nd {M : MH} {as : List Addr} {rs : List (List Po)} {a : Addr} (h : RowsP M as rs) (hN : as.Nodup) (ha : M a = none) : (as ++ [a]).Nodup := List.nodup_append.mpr ⟨hN, List.pairwise_singleton _ _, fun b hb c hc z => by
 rw [List.mem_singleton.mp hc] at z
 obtain ⟨q, hq⟩ := List.getElem?_of_mem hb
 obtain ⟨l, el⟩ : ∃ l, rs[q]? = some l := ⟨_, List.getElem?_eq_getElem (by rw [← h.1]; exact (List.getElem?_eq_some_iff.mp hq).1)⟩
 rw [← z, h.2 q b l hq el] at ha; cases ha⟩
end L2
namespace L2
open PySem PySem.Spec PyProof.Rows LM
theorem rowF_wl {ps : List Po} {l : Int} (h1 : 1 ≤ l.natAbs) (h2 : l.natAbs < ps.length) : rowF (wlP ps l) = wlR (rowF ps) (l.natAbs - 1) (decide (0 < l)) := by
 obtain ⟨k, hk⟩ : ∃ k : Nat, l.natAbs = k + 1 := ⟨l.natAbs - 1, by lia⟩
 rw [wlP_set hk (by lia)]
 funext j c
 have hk1 : l.natAbs - 1 = k := by lia
 rw [hk1]
 unfold rowF wlR
 rw [getD_set (by rw [List.length_set]; lia), getD_set (by lia)]
 have n2 : ¬ k + 1 = k := by lia
 by_cases a : j = k
 · have b : ¬ j = k + 1 := by lia
   subst a
   simp only [b, if_true, if_false]
   unfold wl1
   by_cases u : 0 < l
   · rw [if_pos u, decide_eq_true u, if_pos rfl]
     unfold addP mulP' lupP
     rw [co_norm, co_append, co_norm, co_raw2, Int.sub_zero]; lia
   · rw [if_neg u, decide_eq_false u, if_neg (by decide)]
     unfold mulP' downP
     rw [co_norm, co_raw1, show c - -1 = c + 1 by lia]; lia
 · by_cases b : j = k + 1
   · subst b
     simp only [n2, if_true, if_false]
     unfold wl2
     by_cases u : 0 < l
     · rw [if_pos u, decide_eq_true u, if_pos rfl]
       unfold mulP' upP
       rw [co_norm, co_raw1]; lia
     · rw [if_neg u, decide_eq_false u, if_neg (by decide)]
       unfold addP mulP' ldownP
       rw [co_norm, co_append, co_norm, co_raw2, Int.sub_zero, show c - -1 = c + 1 by lia]; lia
   · rw [if_neg b, if_neg a, if_neg a, if_neg b]
noncomputable def wdP (ps : List Po) (ws : List Int) : List Po := ws.foldl wlP ps
theorem wdP_len {n : Nat} : ∀ (ws : List Int) (ps : List Po), ps.length = n → (∀ l ∈ ws, 1 ≤ l.natAbs ∧ l.natAbs < n) → (wdP ps ws).length = n
 | [], ps, h, _ => h
 | l :: w, ps, h, hw => by
   obtain ⟨a, b⟩ := hw l (.head _)
   exact wdP_len w (wlP ps l) (by rw [wlP_len a (by lia)]; exact h) fun x hx => hw x (.tail _ hx)
theorem rowF_wd {n : Nat} : ∀ (ws : List Int) (ps : List Po), ps.length = n → (∀ l ∈ ws, 1 ≤ l.natAbs ∧ l.natAbs < n) → rowF (wdP ps ws) = wdR (rowF ps) ws
 | [], ps, _, _ => rfl
 | l :: w, ps, h, hw => by
   obtain ⟨a, b⟩ := hw l (.head _)
   show rowF (wdP (wlP ps l) w) = wdR (wlR (rowF ps) (l.natAbs - 1) (decide (0 < l))) w
   rw [← rowF_wl a (by lia)]
   exact rowF_wd w (wlP ps l) (by rw [wlP_len a (by lia)]; exact h) fun x hx => hw x (.tail _ hx)
theorem tabP_rows (n : Int) (ws : List Int) : tabP n ws = (idP n).map fun ps => wdP ps ws := by
 have key : ∀ (ws : List Int) (rs : List (List Po)), ws.foldl (fun rs l => rs.map fun ps => wlP ps l) rs = rs.map fun ps => wdP ps ws := fun ws => by
   induction ws with
   | nil => intro rs; exact (List.map_id rs).symm
   | cons l w ih =>
     intro rs
     rw [List.foldl_cons, ih, List.map_map]; rfl
 exact key ws (idP n)
theorem rows_ext : ∀ {p q : List Po}, p.length = q.length → (∀ x ∈ p, CanP x) → (∀ x ∈ q, CanP x) → rowF p = rowF q → p = q := fun {p q} hl hp hq h => by
 refine List.ext_getElem hl fun i h1 h2 => ?_
 refine canP_ext (hp _ (List.getElem_mem _)) (hq _ (List.getElem_mem _)) fun c => ?_
 have e := congrFun (congrFun h i) c
 unfold rowF at e
 rw [List.getD_eq_getElem?_getD, List.getD_eq_getElem?_getD, List.getElem?_eq_getElem h1, List.getElem?_eq_getElem h2] at e
 exact e
theorem word_nat {n : Int} {ws : List Int} (h : WordOK n ws) : ∀ l ∈ ws, 1 ≤ l.natAbs ∧ l.natAbs < n.toNat := fun l hl => by
 obtain ⟨a, b⟩ := h l hl
 exact ⟨by lia, by lia⟩
theorem tab_rel {n : Int} {w v : List Int} (h : RelW n w v) (hw : WordOK n w) (hv : WordOK n v) : tabP n w = tabP n v := by
 have g1 := tabP_good hw
 have g2 := tabP_good hv
 rw [tabP_rows] at g1 g2
 rw [tabP_rows, tabP_rows]
 refine List.map_congr_left fun ps hps => ?_
 have hl : ps.length = n.toNat := ((good_id n).2 ps hps).1
 refine rows_ext (by rw [wdP_len w ps hl (word_nat hw), wdP_len v ps hl (word_nat hv)]) (fun x hx => ((g1.2 _ (List.mem_map.mpr ⟨ps, hps, rfl⟩)).2 x hx).1) (fun x hx => ((g2.2 _ (List.mem_map.mpr ⟨ps, hps, rfl⟩)).2 x hx).1) ?_
 rw [rowF_wd w ps hl (word_nat hw), rowF_wd v ps hl (word_nat hv), wdR_rel h]
noncomputable def SuN : Nat → (Nat → Int) → Int
 | 0, _ => 0
 | m + 1, g => SuN m g + g m
theorem SuN_congr {m : Nat} {f g : Nat → Int} (h : ∀ i, i < m → f i = g i) : SuN m f = SuN m g := by
 induction m with
 | zero => rfl
 | succ m ih =>
   show SuN m f + f m = SuN m g + g m
   rw [ih fun i hi => h i (by lia), h m (by lia)]
theorem SuN_two {m k : Nat} {f g : Nat → Int} (hk : k + 1 < m) (h : ∀ i, i ≠ k → i ≠ k + 1 → f i = g i) (h2 : f k + f (k + 1) = g k + g (k + 1)) : SuN m f = SuN m g := by
 induction m with
 | zero => lia
 | succ m ih =>
   show SuN m f + f m = SuN m g + g m
   by_cases c : k + 1 < m
   · rw [ih c, h m (by lia) (by lia)]
   · obtain rfl : m = k + 1 := by lia
     show (SuN k f + f k) + f (k + 1) = (SuN k g + g k) + g (k + 1)
     rw [SuN_congr (fun i hi => h i (by lia) (by lia))]; lia
theorem wd_sum {m : Nat} : ∀ (ws : List Int) (R : Rw) (c : Int), (∀ l ∈ ws, 1 ≤ l.natAbs ∧ l.natAbs < m) → SuN m (fun j => wdR R ws j c) = SuN m fun j => R j c
 | [], R, c, _ => rfl
 | l :: w, R, c, hw => by
   obtain ⟨a, b⟩ := hw l (.head _)
   show SuN m (fun j => wdR (wlR R (l.natAbs - 1) (decide (0 < l))) w j c) = _
   rw [wd_sum w _ c fun x hx => hw x (.tail _ hx)]
   refine SuN_two (k := l.natAbs - 1) (by lia) (fun i h1 h2 => by unfold wlR; rw [if_neg h1, if_neg h2]) ?_
   have n1 : ¬ l.natAbs - 1 + 1 = l.natAbs - 1 := by lia
   cases decide (0 < l) <;> (simp only [wlR, if_true, if_false, Bool.false_eq_true, n1]; lia)
noncomputable def cv : Po → (Int → Int) → Int → Int
 | [], _, _ => 0
 | x :: a, f, c => x.2 * f (c - x.1) + cv a f c
theorem co_shift (x : Int × Int) (c : Int) : ∀ b : Po, co (b.map fun y => (x.1 + y.1, x.2 * y.2)) c = x.2 * co b (c - x.1)
 | [] => by show (0 : Int) = x.2 * 0; rw [Int.mul_zero]
 | y :: b => by
   show (if x.1 + y.1 = c then x.2 * y.2 else 0) + co (b.map fun y => (x.1 + y.1, x.2 * y.2)) c = x.2 * ((if y.1 = c - x.1 then y.2 else 0) + co b (c - x.1))
   rw [co_shift x c b, Int.mul_add]
   by_cases h : x.1 + y.1 = c
   · rw [if_pos h, if_pos (by lia)]
   · rw [if_neg h, if_neg (by lia), Int.mul_zero]
theorem co_mul (b : Po) (c : Int) : ∀ a : Po, co (rawM a b) c = cv a (co b) c
 | [] => rfl
 | x :: a => by
   show co ((b.map fun y => (x.1 + y.1, x.2 * y.2)) ++ rawM a b) c = x.2 * co b (c - x.1) + cv a (co b) c
   rw [co_append, co_shift, co_mul b c a]
theorem cv_up (f g : Int → Int) (c : Int) : ∀ a : Po, cv a (fun c => f c - f (c - 1) + g c) c = cv a f c - cv a f (c - 1) + cv a g c
 | [] => rfl
 | x :: a => by
   show x.2 * (f (c - x.1) - f (c - x.1 - 1) + g (c - x.1)) + cv a (fun c => f c - f (c - 1) + g c) c = (x.2 * f (c - x.1) + cv a f c) - (x.2 * f (c - 1 - x.1) + cv a f (c - 1)) + (x.2 * g (c - x.1) + cv a g c)
   rw [cv_up f g c a, Int.mul_add, Int.mul_sub, show c - x.1 - 1 = c - 1 - x.1 by lia]; lia
theorem cv_dn (f g : Int → Int) (c : Int) : ∀ a : Po, cv a (fun c => f c + g c - g (c + 1)) c = cv a f c + cv a g c - cv a g (c + 1)
 | [] => rfl
 | x :: a => by
   show x.2 * (f (c - x.1) + g (c - x.1) - g (c - x.1 + 1)) + cv a (fun c => f c + g c - g (c + 1)) c = (x.2 * f (c - x.1) + cv a f c) + (x.2 * g (c - x.1) + cv a g c) - (x.2 * g (c + 1 - x.1) + cv a g (c + 1))
   rw [cv_dn f g c a, Int.mul_sub, Int.mul_add, show c - x.1 + 1 = c + 1 - x.1 by lia]; lia
theorem cv_sh (f : Int → Int) (s c : Int) : ∀ a : Po, cv a (fun c => f (c + s)) c = cv a f (c + s)
 | [] => rfl
 | x :: a => by
   show x.2 * f (c - x.1 + s) + cv a (fun c => f (c + s)) c = x.2 * f (c + s - x.1) + cv a f (c + s)
   rw [cv_sh f s c a, show c - x.1 + s = c + s - x.1 by lia]
theorem SuN_lin3 (m : Nat) (f g h : Nat → Int) : SuN m (fun i => f i - g i + h i) = SuN m f - SuN m g + SuN m h := by
 induction m with
 | zero => rfl
 | succ m ih => show SuN m (fun i => f i - g i + h i) + (f m - g m + h m) = (SuN m f + f m) - (SuN m g + g m) + (SuN m h + h m); rw [ih]; lia
theorem SuN_lin3' (m : Nat) (f g h : Nat → Int) : SuN m (fun i => f i + g i - h i) = SuN m f + SuN m g - SuN m h := by
 induction m with
 | zero => rfl
 | succ m ih => show SuN m (fun i => f i + g i - h i) + (f m + g m - h m) = (SuN m f + f m) + (SuN m g + g m) - (SuN m h + h m); rw [ih]; lia
noncomputable def mrow (r : List Po) (T : Nat → Rw) (m : Nat) : Rw := fun j c => SuN m fun i => cv (r.getD i []) (T i j) c
theorem mrow_wl (r : List Po) (T : Nat → Rw) (m k : Nat) (u : Bool) : mrow r (fun i => wlR (T i) k u) m = wlR (mrow r T m) k u := by
 have n1 : ¬ k + 1 = k := by lia
 funext j c
 by_cases h1 : j = k
 · subst h1
   cases u
   · have e : ∀ i, wlR (T i) j false j = fun c => T i (j + 1) (c + 1) := fun i => by funext c; unfold wlR; rw [if_pos rfl, if_neg (by decide)]
     unfold mrow
     simp only [e, cv_sh]
     unfold wlR
     rw [if_pos rfl, if_neg (by decide)]
   · have e : ∀ i, wlR (T i) j true j = fun c => T i j c - T i j (c - 1) + T i (j + 1) c := fun i => by funext c; unfold wlR; rw [if_pos rfl, if_pos rfl]
     unfold mrow
     simp only [e, cv_up, SuN_lin3]
     unfold wlR
     rw [if_pos rfl, if_pos rfl]
 · by_cases h2 : j = k + 1
   · subst h2
     cases u
     · have e : ∀ i, wlR (T i) k false (k + 1) = fun c => T i k c + T i (k + 1) c - T i (k + 1) (c + 1) := fun i => by funext c; unfold wlR; rw [if_neg n1, if_pos rfl, if_neg (by decide)]
       unfold mrow
       simp only [e, cv_dn, SuN_lin3']
       unfold wlR
       rw [if_neg n1, if_pos rfl, if_neg (by decide)]
     · have e : ∀ i, wlR (T i) k true (k + 1) = fun c => T i k (c + -1) := fun i => by funext c; unfold wlR; rw [if_neg n1, if_pos rfl, if_pos rfl]; rfl
       unfold mrow
       simp only [e]
       unfold wlR
       rw [if_neg n1, if_pos rfl, if_pos rfl]
       exact SuN_congr fun i _ => cv_sh (T i k) (-1) c _
   · have e : ∀ i, wlR (T i) k u j = T i j := fun i => by funext c; unfold wlR; rw [if_neg h1, if_neg h2]
     unfold mrow
     simp only [e]
     unfold wlR
     rw [if_neg h1, if_neg h2]
theorem mrow_wd (r : List Po) (m : Nat) : ∀ (vs : List Int) (T : Nat → Rw), mrow r (fun i => wdR (T i) vs) m = wdR (mrow r T m) vs
 | [], T => rfl
 | l :: v, T => by
   show mrow r (fun i => wdR (wlR (T i) (l.natAbs - 1) (decide (0 < l))) v) m = wdR (wlR (mrow r T m) (l.natAbs - 1) (decide (0 < l))) v
   rw [mrow_wd r m v, mrow_wl]
theorem SuN_one {m j : Nat} {g : Nat → Int} (h : ∀ i, i < m → i ≠ j → g i = 0) : SuN m g = if j < m then g j else 0 := by
 induction m with
 | zero => rfl
 | succ m ih =>
   show SuN m g + g m = _
   rw [ih fun i hi hn => h i (by lia) hn]
   by_cases c : j < m
   · rw [if_pos c, if_pos (by lia), h m (by lia) (by lia)]; lia
   · rw [if_neg c]
     by_cases d : j = m
     · rw [if_pos (by lia), d]; lia
     · rw [if_neg (by lia), h m (by lia) (fun z => d z.symm)]; rfl
theorem cv_nil (c : Int) : ∀ a : Po, cv a (co []) c = 0
 | [] => rfl
 | x :: a => by
   show x.2 * 0 + cv a (co []) c = 0
   rw [cv_nil c a]; lia
theorem cv_one (c : Int) : ∀ a : Po, cv a (co [(0, 1)]) c = co a c
 | [] => rfl
 | x :: a => by
   show x.2 * ((if (0 : Int) = c - x.1 then 1 else 0) + 0) + cv a (co [(0, 1)]) c = (if x.1 = c then x.2 else 0) + co a c
   rw [cv_one c a]
   by_cases h : x.1 = c
   · rw [if_pos h, if_pos (by lia)]; lia
   · rw [if_neg h, if_neg (by lia)]; lia
theorem id_get {n : Int} {i j : Nat} (hi : i < n.toNat) : rowF ((idP n).getD i []) j = co (if j < n.toNat then oneP i j else []) := by
 have e : (idP n).getD i [] = (range0 n).map fun c => oneP i c := by
   unfold idP
   rw [List.getD_eq_getElem?_getD, List.getElem?_map, List.getElem?_eq_getElem (by rw [range0_length]; exact hi)]
   have : (range0 n)[i]'(by rw [range0_length]; exact hi) = (i : Int) := by rw [← gI_get]; exact gI_range0 (by lia) (by lia)
   rw [this]; rfl
 funext c
 unfold rowF
 rw [e, List.getD_eq_getElem?_getD, List.getElem?_map]
 by_cases h : j < n.toNat
 · rw [if_pos h, List.getElem?_eq_getElem (by rw [range0_length]; exact h)]
   have : (range0 n)[j]'(by rw [range0_length]; exact h) = (j : Int) := by rw [← gI_get]; exact gI_range0 (by lia) (by lia)
   rw [this]; rfl
 · rw [if_neg h, List.getElem?_eq_none (by rw [range0_length]; lia)]; rfl
theorem mrow_id {n : Int} {r : List Po} (hr : r.length = n.toNat) : mrow r (fun i => rowF ((idP n).getD i [])) n.toNat = rowF r := by
 funext j c
 unfold mrow
 rw [SuN_one (j := j) (fun i hi hne => by
   dsimp only
   rw [id_get hi]
   split
   · have e : oneP (i : Int) (j : Int) = [] := by unfold oneP; rw [if_neg (by lia)]
     rw [e, cv_nil]
   · rw [cv_nil])]
 by_cases h : j < n.toNat
 · rw [if_pos h]
   dsimp only
   rw [id_get h, if_pos h]
   have e : oneP (j : Int) (j : Int) = [(0, 1)] := by unfold oneP; rw [if_pos rfl]
   rw [e, cv_one]; rfl
 · rw [if_neg h]
   unfold rowF
   rw [List.getD_eq_getElem?_getD, List.getElem?_eq_none (by lia)]; rfl
theorem wd_mrow {n : Int} {r : List Po} {vs : List Int} (hr : r.length = n.toNat) (hv : WordOK n vs) : wdR (rowF r) vs = mrow r (fun i => rowF ((tabP n vs).getD i [])) n.toNat := by
 rw [← mrow_id hr, ← mrow_wd]
 funext j c
 unfold mrow
 refine SuN_congr fun i hi => ?_
 have e : (tabP n vs).getD i [] = wdP ((idP n).getD i []) vs := by
   rw [tabP_rows, List.getD_eq_getElem?_getD, List.getElem?_map, List.getD_eq_getElem?_getD, List.getElem?_eq_getElem (by rw [(good_id n).1]; exact hi)]; rfl
 have hl : ((idP n).getD i []).length = n.toNat := ((good_id n).2 _ (by rw [List.getD_eq_getElem?_getD, List.getElem?_eq_getElem (by rw [(good_id n).1]; exact hi)]; exact List.getElem_mem _)).1
 dsimp only
 rw [e, rowF_wd vs _ hl (word_nat hv)]
end L2
namespace L2
open PySem PySem.Spec PyProof.Rows LM
noncomputable def sumP (g : Nat → Po) : Nat → Po
 | 0 => []
 | m + 1 => plusL (sumP g m) (g m) 1
theorem co_sumP (g : Nat → Po) (c : Int) : ∀ m, co (sumP g m) c = SuN m fun i => co (g i) c
 | 0 => rfl
 | m + 1 => by
   show co (plusL (sumP g m) (g m) 1) c = SuN m (fun i => co (g i) c) + co (g m) c
   rw [co_plusL, co_sumP g c m]; lia
theorem can_sumP (g : Nat → Po) : ∀ m, CanP (sumP g m)
 | 0 => ⟨.nil, fun _ h => absurd h List.not_mem_nil⟩
 | m + 1 => canP_norm _
noncomputable def matE (r : List Po) (T : List (List Po)) (m j : Nat) : Po := sumP (fun k => mulP' (r.getD k []) ((T.getD k []).getD j [])) m
noncomputable def matP (m : Nat) (A T : List (List Po)) : List (List Po) := A.map fun r => (List.range m).map fun j => matE r T m j
theorem tab_mul {n : Int} {ws vs : List Int} (hw : WordOK n ws) (hv : WordOK n vs) : tabP n (ws ++ vs) = matP n.toNat (tabP n ws) (tabP n vs) := by
 have hwv := hw.append hv
 have g := tabP_good hwv
 have gw := tabP_good hw
 rw [tabP_rows] at g gw
 unfold matP
 rw [tabP_rows n (ws ++ vs), tabP_rows n ws, List.map_map]
 refine List.map_congr_left fun ps hps => ?_
 show wdP ps (ws ++ vs) = (List.range n.toNat).map fun j => matE (wdP ps ws) (tabP n vs) n.toNat j
 have hl : ps.length = n.toNat := ((good_id n).2 ps hps).1
 have hl2 := wdP_len ws ps hl (word_nat hw)
 have e1 : wdP ps (ws ++ vs) = wdP (wdP ps ws) vs := by unfold wdP; rw [List.foldl_append]
 refine rows_ext (by rw [wdP_len (ws ++ vs) ps hl (word_nat hwv), List.length_map, List.length_range]) (fun x hx => ((g.2 _ (List.mem_map.mpr ⟨ps, hps, rfl⟩)).2 x hx).1) (fun x hx => ?_) ?_
 · obtain ⟨j, _, rfl⟩ := List.mem_map.mp hx
   exact can_sumP _ _
 · rw [e1, rowF_wd vs _ hl2 (word_nat hv), wd_mrow hl2 hv]
   funext j c
   unfold rowF mrow
   rw [List.getD_eq_getElem?_getD, List.getElem?_map]
   by_cases h : j < n.toNat
   · rw [List.getElem?_range h]
     show _ = co (matE (wdP ps ws) (tabP n vs) n.toNat j) c
     unfold matE
     rw [co_sumP]
     refine SuN_congr fun i hi => ?_
     unfold mulP'
     rw [co_norm, co_mul]
   · rw [List.getElem?_eq_none (by rw [List.length_range]; lia)]
     show _ = (0 : Int)
     have e : (fun i => cv ((wdP ps ws).getD i []) (fun c => co (((tabP n vs).getD i []).getD j []) c) c) = fun i => (0 : Int) := by
       funext i
       have gv := tabP_good hv
       have e2 : ((tabP n vs).getD i []).getD j [] = [] := by
         by_cases hi : i < (tabP n vs).length
         · have := (gv.2 ((tabP n vs).getD i []) (by rw [List.getD_eq_getElem?_getD, List.getElem?_eq_getElem hi]; exact List.getElem_mem _)).1
           rw [List.getD_eq_getElem?_getD, List.getElem?_eq_none (by lia)]; rfl
         · rw [List.getD_eq_getElem?_getD (l := tabP n vs), List.getElem?_eq_none (by lia)]; rfl
       rw [e2]
       exact cv_nil c _
     rw [e]
     have z : ∀ m, SuN m (fun _ => (0 : Int)) = 0 := fun m => by
       induction m with
       | zero => rfl
       | succ m ih => show SuN m (fun _ => (0 : Int)) + 0 = 0; rw [ih]; rfl
     exact z _
theorem can_one (k : Int) : CanP [(k, 1)] := ⟨List.pairwise_singleton _ _, fun x hx => by rw [List.mem_singleton.mp hx]; show (1 : Int) ≠ 0; decide⟩
theorem row_sum {n : Int} {ws : List Int} (hw : WordOK n ws) {r : List Po} (hr : r ∈ tabP n ws) : sumP (fun j => r.getD j []) n.toNat = [(0, 1)] := by
 rw [tabP_rows] at hr
 obtain ⟨ps, hps, rfl⟩ := List.mem_map.mp hr
 have hl : ps.length = n.toNat := ((good_id n).2 ps hps).1
 refine canP_ext (can_sumP _ _) (can_one 0) fun c => ?_
 rw [co_sumP]
 have e : (fun j => co ((wdP ps ws).getD j []) c) = fun j => wdR (rowF ps) ws j c := by
   funext j
   have := congrFun (congrFun (rowF_wd ws ps hl (word_nat hw)) j) c
   exact this
 rw [e, wd_sum ws _ c (word_nat hw)]
 obtain ⟨i, hi, ei⟩ := List.getElem_of_mem hps
 have hin : i < n.toNat := by rw [(good_id n).1] at hi; exact hi
 have e2 : ps = (idP n).getD i [] := by rw [List.getD_eq_getElem?_getD, List.getElem?_eq_getElem hi]; exact ei.symm
 rw [e2, SuN_one (j := i) (fun j hj hne => by
   rw [id_get hin, if_pos hj]
   unfold oneP
   rw [if_neg (by lia)]; rfl), if_pos hin, id_get hin, if_pos hin]
 unfold oneP
 rw [if_pos rfl]
noncomputable def stepsP (n : Nat) : List Po := (List.range n).map fun (j : Nat) => [((j : Int), 1)]
theorem steps_get {n j : Nat} (h : j < n) : (stepsP n).getD j [] = [((j : Int), 1)] := by
 unfold stepsP
 rw [List.getD_eq_getElem?_getD, List.getElem?_map, List.getElem?_range h]; rfl
theorem steps_wl {n k : Nat} (h : k + 1 < n) (u : Bool) : wlR (rowF (stepsP n)) k u = rowF (stepsP n) := by
 funext j c
 have n1 : ¬ k + 1 = k := by lia
 have g0 : ∀ c, rowF (stepsP n) k c = if (k : Int) = c then 1 else 0 := fun c => by
   unfold rowF; rw [steps_get (by lia)]
   show (if (k : Int) = c then 1 else 0) + 0 = _
   rw [Int.add_zero]
 have g1 : ∀ c, rowF (stepsP n) (k + 1) c = if ((k + 1 : Nat) : Int) = c then 1 else 0 := fun c => by
   unfold rowF; rw [steps_get h]
   show (if ((k + 1 : Nat) : Int) = c then 1 else 0) + 0 = _
   rw [Int.add_zero]
 unfold wlR
 by_cases a : j = k
 · subst a
   simp only [if_true, g0, g1]
   cases u
   · rw [if_neg (by decide)]
     by_cases z : (j : Int) = c
     · rw [if_pos z, if_pos (by lia)]
     · rw [if_neg z, if_neg (by lia)]
   · rw [if_pos rfl]
     by_cases z : (j : Int) = c
     · rw [if_pos z, if_neg (by lia), if_neg (by lia)]; lia
     · rw [if_neg z]
       by_cases y : (j : Int) = c - 1
       · rw [if_pos y, if_pos (by lia)]; lia
       · rw [if_neg y, if_neg (by lia)]; lia
 · rw [if_neg a]
   by_cases b : j = k + 1
   · subst b
     simp only [if_true, g0, g1]
     cases u
     · rw [if_neg (by decide)]
       by_cases z : (k : Int) = c
       · rw [if_pos z, if_neg (by lia), if_pos (by lia)]; lia
       · rw [if_neg z]
         by_cases y : ((k + 1 : Nat) : Int) = c
         · rw [if_pos y, if_neg (by lia)]; lia
         · rw [if_neg y, if_neg (by lia)]; lia
     · rw [if_pos rfl]
       by_cases y : ((k + 1 : Nat) : Int) = c
       · rw [if_pos y, if_pos (by lia)]
       · rw [if_neg y, if_neg (by lia)]
   · rw [if_neg b]
theorem steps_wd {n : Nat} : ∀ (ws : List Int), (∀ l ∈ ws, 1 ≤ l.natAbs ∧ l.natAbs < n) → wdR (rowF (stepsP n)) ws = rowF (stepsP n)
 | [], _ => rfl
 | l :: w, hw => by
   obtain ⟨a, b⟩ := hw l (.head _)
   show wdR (wlR (rowF (stepsP n)) (l.natAbs - 1) (decide (0 < l))) w = _
   rw [steps_wl (by lia)]
   exact steps_wd w fun x hx => hw x (.tail _ hx)
theorem col_sum {n : Int} {ws : List Int} (hw : WordOK n ws) {k : Nat} (hk : k < n.toNat) : sumP (fun j => mulP' [(((j : Nat) : Int), 1)] (((tabP n ws).getD j []).getD k [])) n.toNat = [((k : Int), 1)] := by
 refine canP_ext (can_sumP _ _) (can_one k) fun c => ?_
 have hl : (stepsP n.toNat).length = n.toNat := by unfold stepsP; rw [List.length_map, List.length_range]
 have e := congrFun (congrFun ((wd_mrow hl hw).symm.trans (steps_wd ws (word_nat hw))) k) c
 rw [co_sumP]
 unfold mrow at e
 have e3 : rowF (stepsP n.toNat) k c = co [((k : Int), 1)] c := by unfold rowF; rw [steps_get hk]
 rw [← e3, ← e]
 refine SuN_congr fun i hi => ?_
 rw [steps_get hi]
 unfold mulP'
 rw [co_norm, co_mul]; rfl
end L2
namespace L2
open PySem PySem.Spec PyProof.Rows LM
theorem cv_append (f : Int → Int) (c : Int) : ∀ p q : Po, cv (p ++ q) f c = cv p f c + cv q f c
 | [], q => by show cv q f c = 0 + cv q f c; lia
 | x :: p, q => by
   show x.2 * f (c - x.1) + cv (p ++ q) f c = x.2 * f (c - x.1) + cv p f c + cv q f c
   rw [cv_append f c p q]; lia
theorem cv_add (f g : Int → Int) (c : Int) : ∀ p : Po, cv p (fun c => f c + g c) c = cv p f c + cv p g c
 | [] => rfl
 | x :: p => by
   show x.2 * (f (c - x.1) + g (c - x.1)) + cv p (fun c => f c + g c) c = (x.2 * f (c - x.1) + cv p f c) + (x.2 * g (c - x.1) + cv p g c)
   rw [cv_add f g c p, Int.mul_add]; lia
theorem cv_shift (x : Int × Int) (f : Int → Int) (c : Int) : ∀ q : Po, cv (q.map fun y => (x.1 + y.1, x.2 * y.2)) f c = x.2 * cv q f (c - x.1)
 | [] => by show (0 : Int) = x.2 * 0; rw [Int.mul_zero]
 | y :: q => by
   show x.2 * y.2 * f (c - (x.1 + y.1)) + cv (q.map fun y => (x.1 + y.1, x.2 * y.2)) f c = x.2 * (y.2 * f (c - x.1 - y.1) + cv q f (c - x.1))
   rw [cv_shift x f c q, Int.mul_add, Int.mul_assoc, show c - (x.1 + y.1) = c - x.1 - y.1 by lia]
theorem cv_raw (q : Po) (f : Int → Int) (c : Int) : ∀ p : Po, cv (rawM p q) f c = cv p (cv q f) c
 | [] => rfl
 | x :: p => by
   show cv ((q.map fun y => (x.1 + y.1, x.2 * y.2)) ++ rawM p q) f c = x.2 * cv q f (c - x.1) + cv p (cv q f) c
   rw [cv_append, cv_shift, cv_raw q f c p]
theorem cv_putP (k v : Int) (f : Int → Int) (c : Int) : ∀ p : Po, cv (putP k v p) f c = v * f (c - k) + cv p f c
 | [] => by
   show cv (if v = 0 then [] else [(k, v)]) f c = v * f (c - k) + 0
   split
   · rename_i h; subst h; show (0 : Int) = _; rw [Int.zero_mul]; rfl
   · rfl
 | x :: r => by
   have ih := cv_putP k v f c r
   show cv (if k < x.1 then (if v = 0 then x :: r else (k, v) :: x :: r) else if k = x.1 then (if x.2 + v = 0 then r else (k, x.2 + v) :: r) else x :: putP k v r) f c = _
   split
   · split
     · rename_i h; subst h; rw [Int.zero_mul, Int.zero_add]
     · rfl
   · split
     · rename_i h; subst h
       split
       · rename_i h
         show cv r f c = v * f (c - x.1) + (x.2 * f (c - x.1) + cv r f c)
         rw [← Int.add_assoc, ← Int.add_mul, show v + x.2 = 0 by lia, Int.zero_mul, Int.zero_add]
       · show (x.2 + v) * f (c - x.1) + cv r f c = v * f (c - x.1) + (x.2 * f (c - x.1) + cv r f c)
         rw [Int.add_mul]; lia
     · show x.2 * f (c - x.1) + cv (putP k v r) f c = v * f (c - k) + (x.2 * f (c - x.1) + cv r f c)
       rw [ih]; lia
theorem cv_norm (f : Int → Int) (c : Int) : ∀ p : Po, cv (norm p) f c = cv p f c
 | [] => rfl
 | x :: p => by
   show cv (putP x.1 x.2 (norm p)) f c = x.2 * f (c - x.1) + cv p f c
   rw [cv_putP, cv_norm f c p]
theorem co_raw_cons (x : Int × Int) (p : Po) (c : Int) : ∀ q : Po, co (rawM q (x :: p)) c = co (q.map fun y => (x.1 + y.1, x.2 * y.2)) c + co (rawM q p) c
 | [] => rfl
 | y :: q => by
   show co (((y.1 + x.1, y.2 * x.2) :: p.map fun b => (y.1 + b.1, y.2 * b.2)) ++ rawM q (x :: p)) c = ((if x.1 + y.1 = c then x.2 * y.2 else 0) + co (q.map fun y => (x.1 + y.1, x.2 * y.2)) c) + co ((p.map fun b => (y.1 + b.1, y.2 * b.2)) ++ rawM q p) c
   rw [co_append, co_append, co_raw_cons x p c q]
   show ((if y.1 + x.1 = c then y.2 * x.2 else 0) + _) + _ = _
   rw [Int.add_comm y.1, Int.mul_comm y.2]; lia
theorem co_raw_comm (c : Int) (q : Po) : ∀ p : Po, co (rawM p q) c = co (rawM q p) c
 | [] => by
   have : ∀ q : Po, rawM q [] = [] := fun q => by
     induction q with
     | nil => rfl
     | cons y q ih => show [] ++ rawM q [] = []; rw [ih]; rfl
   rw [this]; rfl
 | x :: p => by
   show co ((q.map fun y => (x.1 + y.1, x.2 * y.2)) ++ rawM p q) c = _
   rw [co_append, co_raw_cons, co_raw_comm c q p]
theorem co_addP (p q : Po) (c : Int) : co (addP p q) c = co p c + co q c := by unfold addP; rw [co_norm, co_append]
theorem co_mulP (p q : Po) (c : Int) : co (mulP' p q) c = cv p (co q) c := by unfold mulP'; rw [co_norm, co_mul]
noncomputable abbrev Lp := {p : Po // CanP p}
noncomputable def toL (p : Po) : Lp := ⟨norm p, canP_norm p⟩
theorem toL_ext {p q : Po} (h : ∀ c, co p c = co q c) : toL p = toL q := Subtype.ext (canP_ext (canP_norm p) (canP_norm q) fun c => (co_norm p c).trans ((h c).trans (co_norm q c).symm))
noncomputable instance : Add Lp := ⟨fun p q => toL (addP p.1 q.1)⟩
noncomputable instance : Mul Lp := ⟨fun p q => toL (mulP' p.1 q.1)⟩
noncomputable def zL : Lp := toL []
noncomputable def eL : Lp := toL [(0, 1)]
theorem Lp.ext2 {p q : Lp} (h : ∀ c, co p.1 c = co q.1 c) : p = q := Subtype.ext (canP_ext p.2 q.2 h)
theorem co_L (p : Po) (c : Int) : co (toL p).1 c = co p c := co_norm p c
theorem co_addL (p q : Lp) (c : Int) : co (p + q).1 c = co p.1 c + co q.1 c := (co_L _ c).trans (co_addP _ _ c)
theorem co_mulL (p q : Lp) (c : Int) : co (p * q).1 c = cv p.1 (co q.1) c := (co_L _ c).trans (co_mulP _ _ c)
theorem cv_L (p : Po) (f : Int → Int) (c : Int) : cv (toL p).1 f c = cv p f c := cv_norm f c p
theorem toL_add (p q : Po) : toL (addP p q) = toL p + toL q := Lp.ext2 fun c => by rw [co_addL, co_L, co_addP, co_L, co_L]
theorem toL_mul (p q : Po) : toL (mulP' p q) = toL p * toL q := Lp.ext2 fun c => by
 rw [co_mulL, co_L, co_mulP, cv_L]
 have e : co (toL q).1 = co q := funext fun c => co_L q c
 rw [e]
theorem addL_comm (p q : Lp) : p + q = q + p := Lp.ext2 fun c => by rw [co_addL, co_addL]; lia
theorem addL_assoc (p q r : Lp) : p + q + r = p + (q + r) := Lp.ext2 fun c => by rw [co_addL, co_addL, co_addL, co_addL]; lia
theorem addL_z (p : Lp) : p + zL = p := Lp.ext2 fun c => by
 rw [co_addL]; show co p.1 c + co (norm []) c = co p.1 c
 rw [co_norm]; show _ + 0 = _; lia
theorem mulL_comm (p q : Lp) : p * q = q * p := Lp.ext2 fun c => by rw [co_mulL, co_mulL, ← co_mul, ← co_mul, co_raw_comm]
theorem mulL_assoc (p q r : Lp) : p * q * r = p * (q * r) := Lp.ext2 fun c => by
 rw [co_mulL, co_mulL]
 have e : co (q * r).1 = cv q.1 (co r.1) := funext fun c => co_mulL q r c
 rw [e, ← cv_raw]
 show cv (toL (mulP' p.1 q.1)).1 (co r.1) c = _
 rw [cv_L]; unfold mulP'; rw [cv_norm]
theorem mulL_e (p : Lp) : p * eL = p := Lp.ext2 fun c => by
 rw [co_mulL]
 have e : co eL.1 = co [(0, 1)] := funext fun c => co_L _ c
 rw [e, cv_one]
theorem mulL_z (p : Lp) : p * zL = zL := Lp.ext2 fun c => by
 rw [co_mulL]
 have e : co zL.1 = co [] := funext fun c => co_L _ c
 rw [e, cv_nil]; rfl
theorem distL (p q r : Lp) : p * (q + r) = p * q + p * r := Lp.ext2 fun c => by
 rw [co_mulL, co_addL, co_mulL, co_mulL, ← cv_add]
 have e : co (q + r).1 = fun c => co q.1 c + co r.1 c := funext fun c => co_addL q r c
 rw [e]
instance : Std.Associative (α := Lp) (· * ·) := ⟨mulL_assoc⟩
instance : Std.Commutative (α := Lp) (· * ·) := ⟨mulL_comm⟩
instance : Std.Associative (α := Lp) (· + ·) := ⟨addL_assoc⟩
instance : Std.Commutative (α := Lp) (· + ·) := ⟨addL_comm⟩
noncomputable def Su : Nat → (Nat → Lp) → Lp
 | 0, _ => zL
 | m + 1, g => Su m g + g m
theorem Su_congr {m : Nat} {f g : Nat → Lp} (h : ∀ i, i < m → f i = g i) : Su m f = Su m g := by
 induction m with
 | zero => rfl
 | succ m ih => show Su m f + f m = Su m g + g m; rw [ih fun i hi => h i (by lia), h m (by lia)]
noncomputable def sk (r i : Nat) : Nat := if i < r then i else i + 1
noncomputable def Drow (sg : Nat → Lp) : Nat → (Nat → Nat → Lp) → Lp
 | 0, _ => eL
 | m + 1, A => Su (m + 1) fun c => sg c * A 0 c * Drow sg m fun i j => A (i + 1) (sk c j)
theorem Drow_congr (sg : Nat → Lp) : ∀ (m : Nat) {A B : Nat → Nat → Lp}, (∀ i j, i < m → j < m → A i j = B i j) → Drow sg m A = Drow sg m B
 | 0, _, _, _ => rfl
 | m + 1, A, B, h => Su_congr fun c hc => by
   rw [h 0 c (by lia) hc, Drow_congr sg m (A := fun i j => A (i + 1) (sk c j)) (B := fun i j => B (i + 1) (sk c j)) fun i j hi hj => h _ _ (by lia) (by unfold sk; split <;> lia)]
end L2
namespace L2
open PySem PySem.Spec PyProof.Rows LM
noncomputable def dropC (c : Nat) (rs : List (List Po)) : List (List Po) := rs.map fun ps => ps.take c ++ ps.drop (c + 1)
noncomputable def sgnP : Nat → Po
 | 0 => [(0, 1)]
 | c + 1 => mulP' (sgnP c) [(0, -1)]
noncomputable def stepD (ps : List Po) (f : Nat → Po) (acc : Po) (c : Nat) : Po := if ps.getD c [] = [] then acc else addP acc (mulP' (mulP' (ps.getD c []) (f c)) (sgnP c))
noncomputable def detP : Nat → List (List Po) → Po
 | 0, _ => []
 | _ + 1, [] => [(0, 1)]
 | k + 1, ps :: rs => (List.range ps.length).foldl (stepD ps fun c => detP k (dropC c rs)) []
theorem good_sgn : ∀ c, GdP 0 1 (sgnP c)
 | 0 => ⟨⟨by decide, by decide⟩, by unfold PwB; decide, by decide⟩
 | c + 1 => (good_sgn c).mul (q := [(0, -1)]) (b := 0) (C := 1) ⟨⟨by decide, by decide⟩, by unfold PwB; decide, by decide⟩
theorem fold_range {α : Type} (f : α → Nat → α) (z : α) (c : Nat) : (List.range (c + 1)).foldl f z = f ((List.range c).foldl f z) c := by rw [List.range_succ, List.foldl_append]; rfl
noncomputable def fromP : Po → Po
 | [] => []
 | x :: p => mulP' (x :: p) [(-x.1, if 0 < x.2 then 1 else -1)]
noncomputable def lessT (n : Int) (ws : List Int) : List (List Po) := (List.range (n.toNat - 1)).map fun r => (List.range (n.toNat - 1)).map fun c => addP (oneP ((r + 1 : Nat) : Int) ((c + 1 : Nat) : Int)) (mulP' (((tabP n ws).getD (r + 1) []).getD (c + 1) []) [(0, -1)])
noncomputable def closP (n : Int) (ws : List Int) : Po := fromP (detP n.toNat (lessT n ws))
theorem lessT_good {n : Int} {ws : List Int} (ok : PlOK n ws) : GoodT (n.toNat - 1) ws.length (1 + 3 ^ ws.length) (lessT n ws) := by
 obtain ⟨o1, o2, o3, o4⟩ := ok
 have hG := tabP_good (n := n) o4
 unfold lessT
 refine ⟨by rw [List.length_map, List.length_range], fun ps hps => ?_⟩
 obtain ⟨i, hi, rfl⟩ := List.mem_map.mp hps
 refine ⟨by rw [List.length_map, List.length_range], fun q hq => ?_⟩
 obtain ⟨j, hj, rfl⟩ := List.mem_map.mp hq
 have h1 := List.mem_range.mp hi
 have h2 := List.mem_range.mp hj
 obtain ⟨g1, g2⟩ := hG.2 ((tabP n ws).getD (i + 1) []) (by rw [List.getD_eq_getElem?_getD, List.getElem?_eq_getElem (by rw [hG.1]; lia)]; exact List.getElem_mem _)
 have gj := getD_good g2 (i := j + 1) (by rw [g1]; lia)
 exact ((good_one ((i + 1 : Nat) : Int) ((j + 1 : Nat) : Int)).mono (b := ws.length + 0) (by lia) (Nat.le_refl _)).add (gj.mul (q := [(0, -1)]) (b := 0) (C := 1) ⟨⟨by decide, by decide⟩, by unfold PwB; decide, by decide⟩) |>.mono (by lia) (by lia)
theorem putP_len (k c : Int) : ∀ p : Po, (putP k c p).length ≤ p.length + 1
 | [] => by
   show (if c = 0 then [] else [(k, c)]).length ≤ 1
   split
   · exact Nat.zero_le _
   · exact Nat.le_refl _
 | x :: r => by
   have ih := putP_len k c r
   show (if k < x.1 then (if c = 0 then x :: r else (k, c) :: x :: r) else if k = x.1 then (if x.2 + c = 0 then r else (k, x.2 + c) :: r) else x :: putP k c r).length ≤ r.length + 1 + 1
   split
   · split
     · rw [List.length_cons]; lia
     · rw [List.length_cons, List.length_cons]; lia
   · split
     · split
       · lia
       · rw [List.length_cons]; lia
     · rw [List.length_cons]; lia
theorem norm_len : ∀ p : Po, (norm p).length ≤ p.length
 | [] => Nat.le_refl _
 | x :: r => Nat.le_trans (putP_len x.1 x.2 (norm r)) (Nat.succ_le_succ (norm_len r))
theorem raw_one (c : Int × Int) : ∀ p : Po, (rawM p [c]).length = p.length
 | [] => rfl
 | x :: p => by
   show ([(x.1 + c.1, x.2 * c.2)] ++ rawM p [c]).length = p.length + 1
   rw [List.length_append, raw_one c p]
   show 1 + p.length = p.length + 1
   lia
theorem fromP_len (p : Po) : (fromP p).length ≤ p.length := by
 cases p with
 | nil => exact Nat.le_refl _
 | cons x p =>
   refine Nat.le_trans (norm_len _) ?_
   rw [raw_one]; exact Nat.le_refl _
end L2
namespace L2
open PySem PySem.Spec PyProof.Rows LM
noncomputable def sgL (c : Nat) : Lp := toL (sgnP c)
noncomputable def eltL (rs : List (List Po)) (i j : Nat) : Lp := toL ((rs.getD i []).getD j [])
theorem step_L (ps : List Po) (f : Nat → Po) (acc : Po) (c : Nat) : toL (stepD ps f acc c) = toL acc + sgL c * toL (ps.getD c []) * toL (f c) := by
 unfold stepD
 split
 · rename_i h
   rw [h]
   show toL acc = toL acc + sgL c * zL * toL (f c)
   rw [mulL_z, mulL_comm, mulL_z, addL_z]
 · rw [toL_add, toL_mul, toL_mul]
   show _ + toL (ps.getD c []) * toL (f c) * sgL c = _
   congr 1; ac_rfl
theorem fold_L (ps : List Po) (f : Nat → Po) : ∀ c, toL ((List.range c).foldl (stepD ps f) []) = Su c fun c => sgL c * toL (ps.getD c []) * toL (f c)
 | 0 => rfl
 | c + 1 => by
   rw [fold_range, step_L, fold_L ps f c]; rfl
theorem getD_drop {ps : List Po} {c j : Nat} (hc : c < ps.length) : (ps.take c ++ ps.drop (c + 1)).getD j [] = ps.getD (sk c j) [] := by
 have hl : (ps.take c).length = c := by rw [List.length_take]; lia
 rw [List.getD_eq_getElem?_getD, List.getD_eq_getElem?_getD]
 unfold sk
 by_cases h : j < c
 · rw [if_pos h, List.getElem?_append_left (by rw [hl]; exact h), List.getElem?_take_of_lt h]
 · rw [if_neg h, List.getElem?_append_right (by rw [hl]; lia), hl, List.getElem?_drop, show c + 1 + (j - c) = j + 1 by lia]
theorem det_row : ∀ (m : Nat) (rs : List (List Po)), rs.length = m → (∀ ps ∈ rs, ps.length = m) → toL (detP (m + 1) rs) = Drow sgL m (eltL rs)
 | 0, [], _, _ => rfl
 | 0, _ :: _, h, _ => by simp at h
 | m + 1, [], h, _ => by simp at h
 | m + 1, ps :: rs, h, h2 => by
   have hl : rs.length = m := by rw [List.length_cons] at h; lia
   have g1 := h2 ps (.head _)
   show toL ((List.range ps.length).foldl (stepD ps fun c => detP (m + 1) (dropC c rs)) []) = _
   rw [fold_L, g1]
   refine Su_congr fun c hc => ?_
   have hd : (dropC c rs).length = m := by unfold dropC; rw [List.length_map]; exact hl
   have hd2 : ∀ qs ∈ dropC c rs, qs.length = m := fun qs hq => by
     unfold dropC at hq
     obtain ⟨q, hq2, rfl⟩ := List.mem_map.mp hq
     have := h2 q (List.mem_cons_of_mem _ hq2)
     rw [List.length_append, List.length_take, List.length_drop]; lia
   rw [det_row m (dropC c rs) hd hd2]
   rw [Drow_congr sgL m (A := eltL (dropC c rs)) (B := fun i j => eltL (ps :: rs) (i + 1) (sk c j)) fun i j hi hj => by
     unfold eltL
     show toL (((dropC c rs).getD i []).getD j []) = toL ((rs.getD i []).getD (sk c j) [])
     have hi2 : i < rs.length := by lia
     have e1 : (dropC c rs).getD i [] = (rs.getD i []).take c ++ (rs.getD i []).drop (c + 1) := by
       unfold dropC
       rw [List.getD_eq_getElem?_getD, List.getElem?_map, List.getD_eq_getElem?_getD, List.getElem?_eq_getElem hi2]; rfl
     have hlen : (rs.getD i []).length = m + 1 := by
       rw [List.getD_eq_getElem?_getD, List.getElem?_eq_getElem hi2]
       exact h2 _ (.tail _ (List.getElem_mem _))
     rw [e1, getD_drop (by rw [hlen]; exact hc)]]
   rfl
noncomputable def turnI (j : Nat) : Int := if j % 2 = 0 then 1 else -1
noncomputable def sgU (s : Int) : Lp := toL [(0, s)]
theorem co_one (s c : Int) : co [(0, s)] c = if 0 = c then s else 0 := by
 show (if (0 : Int) = c then s else 0) + 0 = _
 rw [Int.add_zero]
theorem sgU_mul (a b : Int) : sgU a * sgU b = sgU (a * b) := by
 unfold sgU
 rw [← toL_mul]
 refine toL_ext fun c => ?_
 rw [co_mulP, co_one]
 show a * co [(0, b)] (c - 0) + 0 = _
 rw [Int.sub_zero, co_one]
 by_cases h : (0 : Int) = c
 · rw [if_pos h, if_pos h, Int.add_zero]
 · rw [if_neg h, if_neg h, Int.mul_zero, Int.add_zero]
theorem sgL_turn : ∀ c, sgL c = sgU (turnI c)
 | 0 => rfl
 | c + 1 => by
   show toL (mulP' (sgnP c) [(0, -1)]) = _
   rw [toL_mul]
   show sgL c * sgU (-1) = _
   rw [sgL_turn c, sgU_mul]
   congr 1
   unfold turnI
   by_cases h : c % 2 = 0
   · rw [if_pos h, if_neg (by lia)]; rfl
   · rw [if_neg h, if_pos (by lia)]; rfl
theorem toL_plus1 (p q : Po) : toL (plusL p q 1) = toL p + toL q := Lp.ext2 fun c => by rw [co_addL, co_L, co_plusL, co_L, co_L, Int.one_mul]
theorem toL_sumP (g : Nat → Po) : ∀ m, toL (sumP g m) = Su m fun i => toL (g i)
 | 0 => rfl
 | m + 1 => by show toL (plusL (sumP g m) (g m) 1) = Su m (fun i => toL (g i)) + toL (g m); rw [toL_plus1, toL_sumP g m]
noncomputable def wtI (x : Int × Int) : Int := if x.1 % 2 = 0 then x.2 else -x.2
noncomputable def weightP (p : Po) : Int := ((p.map wtI).sum.natAbs : Nat)
end L2
namespace L2
open PySem PySem.Spec PyProof.Rows LM
section
variable {P : Program} {w : World} {A : Around} {E : Value → Shared → Prop} {s : Shared}
end
section
variable {X : Cx}
end
end L2
namespace L2
open PySem PySem.Spec PyProof.Rows LM
noncomputable def twT : List (Int × Int × List Stp) := [(2, 1, []), (2, -1, [.inn 0 (-1), .out 2]), (3, 1, [.three 0]), (3, -1, [.inn 0 (-2), .three 1, .out 4]), (3, 2, [.three 1]), (3, -2, [.inn 0 (-1), .three 2, .out 4]), (4, 1, [.three 3, .three 1, .far 0]), (4, -1, [.inn 0 (-3), .far 1, .three 2, .three 4, .out 7]), (4, 2, [.far 2, .three 0, .three 4]), (4, -2, [.inn 0 (-2), .three 5, .three 1, .far 3, .out 7]), (4, 3, [.far 2, .far 5, .three 3, .three 1, .far 3]), (4, -3, [.inn 0 (-1), .far 4, .three 2, .three 4, .far 6, .far 3, .out 7]), (5, 1, [.three 7, .three 5, .far 4, .three 2, .far 1, .far 0]), (5, -1, [.inn 0 (-4), .far 1, .far 2, .three 3, .far 5, .three 6, .three 8, .out 11]), (5, 2, [.far 6, .three 4, .three 8, .far 3, .three 1, .far 0]), (5, -2, [.inn 0 (-3), .far 1, .three 2, .far 4, .three 9, .three 5, .far 7, .out 11]), (5, 3, [.far 6, .far 9, .three 7, .three 5, .far 3, .far 2, .three 0, .far 7]), (5, -3, [.inn 0 (-2), .far 8, .three 1, .far 3, .far 4, .three 6, .three 8, .far 10, .far 7, .out 11]), (5, 4, [.far 3, .far 2, .far 4, .far 9, .far 8, .far 7, .three 5, .three 3, .three 1, .far 5, .far 3, .far 4]), (5, -4, [.inn 0 (-1), .far 5, .far 4, .far 6, .three 2, .three 4, .three 6, .far 8, .far 9, .far 10, .far 5, .far 3, .far 4, .out 11]), (6, 1, [.three 12, .three 10, .far 9, .three 7, .far 6, .far 5, .three 3, .far 2, .far 1, .far 0]), (6, -1, [.inn 0 (-5), .far 1, .far 2, .far 3, .three 4, .far 6, .far 7, .three 8, .far 10, .three 11, .three 13, .out 16]), (6, 2, [.far 11, .three 9, .far 8, .three 6, .three 13, .far 5, .far 4, .three 2, .far 1, .far 0]), (6, -2, [.inn 0 (-4), .far 1, .far 2, .three 3, .far 5, .far 6, .three 14, .three 7, .far 9, .three 10, .far 12, .out 16]), (6, 3, [.far 8, .far 7, .far 11, .far 14, .three 12, .three 10, .three 5, .far 4, .far 3, .three 1, .far 12, .far 0]), (6, -3, [.inn 0 (-3), .far 1, .far 13, .three 2, .far 4, .far 5, .three 6, .three 11, .three 13, .far 15, .far 12, .far 8, .far 9, .out 16]), (6, 4, [.far 8, .far 7, .far 9, .far 14, .far 13, .far 12, .three 10, .three 8, .three 6, .far 4, .far 3, .far 2, .three 0, .far 10, .far 8, .far 9]), (6, -4, [.inn 0 (-2), .far 10, .far 9, .far 11, .three 1, .far 3, .far 4, .far 5, .three 7, .three 9, .three 11, .far 13, .far 14, .far 15, .far 10, .far 8, .far 9, .out 16]), (6, 5, [.far 4, .far 5, .far 6, .far 14, .far 13, .far 12, .far 11, .far 10, .far 9, .three 7, .far 3, .far 4, .three 5, .far 2, .three 3, .three 1, .far 7, .far 5, .far 6, .far 3, .far 4, .far 5]), (6, -5, [.inn 0 (-1), .far 6, .far 5, .far 4, .far 7, .far 6, .far 8, .three 2, .three 4, .far 3, .three 6, .far 5, .far 4, .three 8, .far 10, .far 11, .far 12, .far 13, .far 14, .far 15, .far 7, .far 6, .far 5, .out 16])]
theorem twT_ok : ∀ x ∈ twT, aftL x.1 (twF x.1 ++ [x.2.1]) x.2.2 = some ([flipL x.1 x.2.1] ++ twF x.1) := by decide +kernel
theorem twT_all : ∀ n ∈ [(2 : Int), 3, 4, 5, 6], ∀ k ∈ List.range (n - 1).toNat, (twT.any fun x => decide (x.1 = n) && decide (x.2.1 = ((k : Nat) : Int) + 1)) = true ∧ (twT.any fun x => decide (x.1 = n) && decide (x.2.1 = -(((k : Nat) : Int) + 1))) = true := by decide +kernel
theorem tw_letter {n l : Int} (h1 : 2 ≤ n) (h2 : n ≤ 6) (ht : WordOK n (twF n)) (hl : LetOK n l) : RelW n (twF n ++ [l]) ([flipL n l] ++ twF n) := by
 have hn : n ∈ [(2 : Int), 3, 4, 5, 6] := by
   rcases (show n = 2 ∨ n = 3 ∨ n = 4 ∨ n = 5 ∨ n = 6 by lia) with rfl | rfl | rfl | rfl | rfl <;> decide
 obtain ⟨a1, a2⟩ := hl
 obtain ⟨b1, b2⟩ := twT_all n hn (l.natAbs - 1) (List.mem_range.mpr (by lia))
 have key : ∃ x ∈ twT, x.1 = n ∧ x.2.1 = l := by
   by_cases c : 0 < l
   · obtain ⟨x, hx, e⟩ := List.any_eq_true.mp b1
     rw [Bool.and_eq_true, decide_eq_true_eq, decide_eq_true_eq] at e
     exact ⟨x, hx, e.1, by lia⟩
   · obtain ⟨x, hx, e⟩ := List.any_eq_true.mp b2
     rw [Bool.and_eq_true, decide_eq_true_eq, decide_eq_true_eq] at e
     exact ⟨x, hx, e.1, by lia⟩
 obtain ⟨x, hx, rfl, rfl⟩ := key
 exact aftL_rel (ht.append (wordOK_one ⟨a1, a2⟩)) (twT_ok x hx)
theorem tw_rel {n : Int} (h1 : 2 ≤ n) (h2 : n ≤ 6) (ht : WordOK n (twF n)) : ∀ {w : List Int}, WordOK n w → RelW n (twF n ++ w) (w.map (flipL n) ++ twF n)
 | [], _ => by rw [List.append_nil]; exact .refl _
 | l :: w, hw => by
   have hl := hw l (.head _)
   have hw' : WordOK n w := fun x hx => hw x (.tail _ hx)
   have a := (tw_letter h1 h2 ht hl).rt hw'
   rw [List.append_assoc] at a
   have b := RelW.lf (wordOK_one hl.flip) (tw_rel h1 h2 ht hw')
   rw [List.append_assoc] at a
   exact a.trans b
end L2
namespace L2
open PySem PySem.Spec PyProof.Rows LM
end L2
namespace L2
open PySem PySem.Spec PyProof.Rows LM
end L2
namespace L2
open PySem PySem.Spec PyProof.Rows LM
end L2
namespace L2
open PySem PySem.Spec PyProof.Rows LM
noncomputable def PwI (a b : Nat) (p : Po) : Prop := ∀ x ∈ p, -(a : Int) ≤ x.1 ∧ x.1 ≤ b
theorem PwI.mono {a b c d : Nat} {p : Po} (h : PwI a b p) (h1 : a ≤ c) (h2 : b ≤ d) : PwI c d p := fun x hx => by have := h x hx; lia
theorem PwI_add {a b : Nat} {p q : Po} (hp : PwI a b p) (hq : PwI a b q) : PwI a b (addP p q) := fun x hx => by
 have key : ∀ (m : Po), (∀ y ∈ m, -(a : Int) ≤ y.1 ∧ y.1 ≤ b) → ∀ y ∈ norm m, -(a : Int) ≤ y.1 ∧ y.1 ≤ b := fun m hm y hy => by
   have h1 : co (norm m) y.1 = y.2 := co_mem (canP_norm m).1 hy
   by_cases c : ∃ z ∈ m, z.1 = y.1
   · obtain ⟨z, hz, e⟩ := c
     rw [← e]; exact hm z hz
   · rw [co_norm, co_zero fun z hz e => c ⟨z, hz, e⟩] at h1
     exact absurd h1.symm ((canP_norm m).2 y hy)
 unfold addP at hx
 refine key _ (fun y hy => ?_) x hx
 rcases List.mem_append.mp hy with z | z
 · exact hp y z
 · exact hq y z
theorem PwI_norm {a b : Nat} {m : Po} (hm : PwI a b m) : PwI a b (norm m) := fun y hy => by
 have h1 : co (norm m) y.1 = y.2 := co_mem (canP_norm m).1 hy
 by_cases c : ∃ z ∈ m, z.1 = y.1
 · obtain ⟨z, hz, e⟩ := c
   rw [← e]; exact hm z hz
 · rw [co_norm, co_zero fun z hz e => c ⟨z, hz, e⟩] at h1
   exact absurd h1.symm ((canP_norm m).2 y hy)
theorem PwI_mul {a b c d : Nat} {p q : Po} (hp : PwI a b p) (hq : PwI c d q) : PwI (a + c) (b + d) (mulP' p q) := by
 unfold mulP'
 refine PwI_norm fun y hy => ?_
 unfold rawM at hy
 obtain ⟨u, hu, hy⟩ := List.mem_flatMap.mp hy
 obtain ⟨v, hv, rfl⟩ := List.mem_map.mp hy
 have h1 := hp u hu
 have h2 := hq v hv
 dsimp only
 lia
noncomputable def span (a b : Nat) : List Int := (List.range (a + b + 1)).map fun (i : Nat) => ((i : Int) - (a : Int))
theorem span_len (a b : Nat) : (span a b).length = a + b + 1 := by unfold span; rw [List.length_map, List.length_range]
theorem mem_span {a b : Nat} {x : Int} (h : -(a : Int) ≤ x ∧ x ≤ b) : x ∈ span a b := List.mem_map.mpr ⟨(x + (a : Int)).toNat, List.mem_range.mpr (by lia), by show (((x + (a : Int)).toNat : Nat) : Int) - (a : Int) = x; lia⟩
theorem CanP.lenI {p : Po} (h : CanP p) {a b : Nat} (hb : PwI a b p) : p.length ≤ a + b + 1 := by
 have h1 : (p.map Prod.fst).Nodup := List.pairwise_map.mpr (h.1.imp fun h z => Int.ne_of_lt h z)
 have h2 : (p.map Prod.fst).length ≤ (span a b).length := List.Nodup.length_le_of_subset h1 fun k hk => by
   obtain ⟨x, hx, rfl⟩ := List.mem_map.mp hk
   exact mem_span (hb x hx)
 rwa [List.length_map, span_len] at h2
noncomputable def Sml (p : Po) : Prop := ∀ x ∈ p, x.2.natAbs < 2 ^ 64
theorem sum_span {a b c d : Nat} {p q : Po} (hp : PwI a b p) (hq : PwI c d q) : ∀ x ∈ p, ∀ y ∈ q, x.1 + y.1 ∈ span (a + c) (b + d) := fun x hx y hy => mem_span (by
 have h1 := hp x hx
 have h2 := hq y hy
 lia)
noncomputable def GdI (a b : Nat) (p : Po) : Prop := CanP p ∧ PwI a b p
theorem GdI.add {a b : Nat} {p q : Po} (hp : GdI a b p) (hq : GdI a b q) : GdI a b (addP p q) := ⟨canP_norm _, PwI_add hp.2 hq.2⟩
theorem GdI.mul {a b c d : Nat} {p q : Po} (hp : GdI a b p) (hq : GdI c d q) : GdI (a + c) (b + d) (mulP' p q) := ⟨canP_norm _, PwI_mul hp.2 hq.2⟩
theorem GdI.mono {a b c d : Nat} {p : Po} (hp : GdI a b p) (h1 : a ≤ c) (h2 : b ≤ d) : GdI c d p := ⟨hp.1, hp.2.mono h1 h2⟩
theorem gdi_sgn : ∀ c, GdI 0 0 (sgnP c) := fun c => by
 obtain ⟨h1, h2, _⟩ := good_sgn c
 exact ⟨h1, fun x hx => by have := h2 x hx; lia⟩
theorem gdi_less : GdI 0 0 [(0, -1)] := ⟨⟨by decide, by decide⟩, by unfold PwI; decide⟩
theorem gdi_nil (a b : Nat) : GdI a b [] := ⟨⟨.nil, fun _ z => absurd z List.not_mem_nil⟩, fun _ z => absurd z List.not_mem_nil⟩
theorem gdi_one (r c : Int) : GdI 0 0 (oneP r c) := by
 unfold oneP
 split
 · exact ⟨⟨by decide, by decide⟩, by unfold PwI; decide⟩
 · exact ⟨⟨by decide, by decide⟩, by unfold PwI; decide⟩
noncomputable def GoodI (n a b : Nat) (rs : List (List Po)) : Prop := rs.length = n ∧ ∀ ps ∈ rs, ps.length = n ∧ ∀ p ∈ ps, GdI a b p ∧ Sml p
theorem dropC_goodI {n a b c : Nat} {rs : List (List Po)} (h : ∀ ps ∈ rs, ps.length = n + 1 ∧ ∀ p ∈ ps, GdI a b p ∧ Sml p) (hc : c < n + 1) (hl : rs.length = n) : GoodI n a b (dropC c rs) := by
 refine ⟨by unfold dropC; rw [List.length_map]; exact hl, fun ps hps => ?_⟩
 unfold dropC at hps
 obtain ⟨qs, hq, rfl⟩ := List.mem_map.mp hps
 obtain ⟨h1, h2⟩ := h qs hq
 refine ⟨by rw [List.length_append, List.length_take, List.length_drop, h1]; lia, fun p hp => ?_⟩
 rcases List.mem_append.mp hp with z | z
 · exact h2 p (List.mem_of_mem_take z)
 · exact h2 p (List.mem_of_mem_drop z)
theorem foldD_goodI {a b m : Nat} {ps : List Po} {f : Nat → Po} (hp : ∀ p ∈ ps, GdI a b p ∧ Sml p) (hf : ∀ c, c < ps.length → GdI (m * a) (m * b) (f c)) : ∀ c, c ≤ ps.length → GdI ((m + 1) * a) ((m + 1) * b) ((List.range c).foldl (stepD ps f) [])
 | 0, _ => gdi_nil _ _
 | c + 1, h => by
   rw [fold_range]
   have ih := foldD_goodI hp hf c (by lia)
   unfold stepD
   split
   · exact ih
   · have hpc : GdI a b (ps.getD c []) := by
       rw [List.getD_eq_getElem?_getD, List.getElem?_eq_getElem (by lia : c < ps.length)]
       exact (hp _ (List.getElem_mem _)).1
     have h1 := (hpc.mul (hf c (by lia))).mul (gdi_sgn c)
     exact ih.add (h1.mono (by rw [Nat.add_mul]; lia) (by rw [Nat.add_mul]; lia))
theorem detP_goodI {a b : Nat} : ∀ (m : Nat) {rs : List (List Po)}, GoodI m a b rs → GdI (m * a) (m * b) (detP (m + 1) rs)
 | 0, rs, h => by
   obtain rfl := List.eq_nil_of_length_eq_zero h.1
   show GdI (0 * a) (0 * b) [(0, 1)]
   rw [Nat.zero_mul, Nat.zero_mul]
   exact ⟨⟨by decide, by decide⟩, by unfold PwI; decide⟩
 | m + 1, rs, h => by
   cases rs with
   | nil => exact absurd h.1 (by simp)
   | cons ps rs =>
     obtain ⟨g1, g2⟩ := h.2 ps (.head _)
     have hl : rs.length = m := by have := h.1; rw [List.length_cons] at this; lia
     have hr : ∀ qs ∈ rs, qs.length = m + 1 ∧ ∀ p ∈ qs, GdI a b p ∧ Sml p := fun qs hq => h.2 qs (.tail _ hq)
     show GdI ((m + 1) * a) ((m + 1) * b) ((List.range ps.length).foldl (stepD ps fun c => detP (m + 1) (dropC c rs)) [])
     exact foldD_goodI g2 (fun c hc => detP_goodI m (dropC_goodI hr (by rw [← g1]; exact hc) hl)) _ (Nat.le_refl _)
noncomputable def nU : List Int → Nat
 | [] => 0
 | l :: w => (if 0 < l then 1 else 0) + nU w
noncomputable def nD : List Int → Nat
 | [] => 0
 | l :: w => (if 0 < l then 0 else 1) + nD w
theorem nU_nD : ∀ w : List Int, nD w + nU w = w.length
 | [] => rfl
 | l :: w => by
   have := nU_nD w
   show (if 0 < l then 0 else 1) + nD w + ((if 0 < l then 1 else 0) + nU w) = w.length + 1
   split <;> lia
theorem gdi_wl {a b : Nat} {l : Int} {p q : Po} (hp : GdI a b p) (hq : GdI a b q) : GdI (a + if 0 < l then 0 else 1) (b + if 0 < l then 1 else 0) (wl1 l p q) ∧ GdI (a + if 0 < l then 0 else 1) (b + if 0 < l then 1 else 0) (wl2 l p q) := by
 have u : GdI 0 1 upP := ⟨⟨by decide, by decide⟩, by unfold PwI; decide⟩
 have lu : GdI 0 1 lupP := ⟨⟨by decide, by decide⟩, by unfold PwI; decide⟩
 have d : GdI 1 0 downP := ⟨⟨by decide, by decide⟩, by unfold PwI; decide⟩
 have ld : GdI 1 0 ldownP := ⟨⟨by decide, by decide⟩, by unfold PwI; decide⟩
 unfold wl1 wl2
 split
 · exact ⟨(hp.mul lu).add (hq.mono (by lia) (by lia)), hp.mul u⟩
 · exact ⟨hq.mul d, (hp.mono (by lia) (by lia)).add (hq.mul ld)⟩
theorem tabI {n : Nat} : ∀ (ws : List Int) {a b : Nat} {rs : List (List Po)}, (rs.length = n ∧ ∀ ps ∈ rs, ps.length = n ∧ ∀ p ∈ ps, GdI a b p) → (∀ l ∈ ws, 1 ≤ l.natAbs ∧ l.natAbs < n) → ((ws.foldl (fun rs l => rs.map fun ps => wlP ps l) rs).length = n ∧ ∀ ps ∈ ws.foldl (fun rs l => rs.map fun ps => wlP ps l) rs, ps.length = n ∧ ∀ p ∈ ps, GdI (a + nD ws) (b + nU ws) p)
 | [], a, b, rs, h, _ => h
 | l :: w, a, b, rs, h, hw => by
   obtain ⟨l1, l2⟩ := hw l (.head _)
   have hstep : (rs.map fun ps => wlP ps l).length = n ∧ ∀ ps ∈ rs.map fun ps => wlP ps l, ps.length = n ∧ ∀ p ∈ ps, GdI (a + if 0 < l then 0 else 1) (b + if 0 < l then 1 else 0) p := by
     refine ⟨by rw [List.length_map]; exact h.1, fun ps hps => ?_⟩
     obtain ⟨qs, hq, rfl⟩ := List.mem_map.mp hps
     obtain ⟨g1, g2⟩ := h.2 qs hq
     refine ⟨by rw [wlP_len l1 (by rw [g1]; exact l2)]; exact g1, fun p hp => ?_⟩
     have up : ∀ {p : Po}, GdI a b p → GdI (a + if 0 < l then 0 else 1) (b + if 0 < l then 1 else 0) p := fun z => z.mono (by lia) (by lia)
     have gg : ∀ i, i < qs.length → GdI a b (qs.getD i []) := fun i hi => by
       rw [List.getD_eq_getElem?_getD, List.getElem?_eq_getElem hi]; exact g2 _ (List.getElem_mem _)
     have gw := gdi_wl (l := l) (gg (l.natAbs - 1) (by lia)) (gg l.natAbs (by lia))
     unfold wlP at hp
     rcases List.mem_append.mp hp with z | z
     · exact up (g2 p (List.mem_of_mem_take z))
     rcases List.mem_append.mp z with z | z
     · rcases List.mem_cons.mp z with e | z
       · rw [e]; exact gw.1
       · rw [List.mem_singleton.mp z]; exact gw.2
     · exact up (g2 p (List.mem_of_mem_drop z))
   have := tabI w hstep fun x hx => hw x (.tail _ hx)
   have e1 : nD (l :: w) = (if 0 < l then 0 else 1) + nD w := rfl
   have e2 : nU (l :: w) = (if 0 < l then 1 else 0) + nU w := rfl
   rw [e1, e2, ← Nat.add_assoc, ← Nat.add_assoc]
   exact this
theorem tabP_goodI {n : Int} {ws : List Int} (hw : WordOK n ws) : ∀ ps ∈ tabP n ws, ∀ p ∈ ps, GdI (nD ws) (nU ws) p := by
 have h := tabI (n := n.toNat) ws (a := 0) (b := 0) (rs := idP n) ⟨(good_id n).1, fun ps hps => ⟨((good_id n).2 ps hps).1, fun p hp => by
   unfold idP at hps
   obtain ⟨r, _, rfl⟩ := List.mem_map.mp hps
   obtain ⟨c, _, rfl⟩ := List.mem_map.mp hp
   exact gdi_one r c⟩⟩ (fun l hl => by obtain ⟨a, b⟩ := hw l hl; exact ⟨by lia, by lia⟩)
 rw [Nat.zero_add, Nat.zero_add] at h
 exact fun ps hps => (h.2 ps hps).2
theorem lessT_goodI {n : Int} {ws : List Int} (ok : PlOK n ws) : GoodI (n.toNat - 1) (nD ws) (nU ws) (lessT n ws) := by
 have hG := lessT_good ok
 have hp : 1 + 3 ^ ws.length < 2 ^ 64 := by
   have : 3 ^ ws.length ≤ 3 ^ 16 := Nat.pow_le_pow_right (by decide) ok.2.2.1
   have : 1 + 3 ^ 16 < 2 ^ 64 := by decide
   lia
 refine ⟨hG.1, fun ps hps => ⟨(hG.2 ps hps).1, fun p hpp => ⟨?_, n1_lt ((hG.2 ps hps).2 p hpp) hp⟩⟩⟩
 unfold lessT at hps
 obtain ⟨r, hr, rfl⟩ := List.mem_map.mp hps
 obtain ⟨c, hc, rfl⟩ := List.mem_map.mp hpp
 have hr := List.mem_range.mp hr
 have hc := List.mem_range.mp hc
 have hT := tabP_good (n := n) ok.2.2.2
 have g : GdI (nD ws) (nU ws) (((tabP n ws).getD (r + 1) []).getD (c + 1) []) := by
   have hl : r + 1 < (tabP n ws).length := by rw [hT.1]; lia
   have hm : (tabP n ws).getD (r + 1) [] ∈ tabP n ws := by
     rw [List.getD_eq_getElem?_getD, List.getElem?_eq_getElem hl]; exact List.getElem_mem _
   refine tabP_goodI ok.2.2.2 _ hm _ ?_
   have hl2 : c + 1 < ((tabP n ws).getD (r + 1) []).length := by rw [(hT.2 _ hm).1]; lia
   rw [List.getD_eq_getElem?_getD (i := c + 1), List.getElem?_eq_getElem hl2]; exact List.getElem_mem _
 exact ((gdi_one _ _).mono (Nat.zero_le _) (Nat.zero_le _)).add ((g.mul gdi_less).mono (by lia) (by lia))
noncomputable def SmallI (n : Int) (ws : List Int) : Prop := (n.toNat - 1) * ws.length ≤ 62
theorem small_det {n : Int} {ws : List Int} (ok : PlOK n ws) (h : SmallI n ws) : GdI ((n.toNat - 1) * nD ws) ((n.toNat - 1) * nU ws) (detP (n.toNat - 1 + 1) (lessT n ws)) ∧ (n.toNat - 1) * nD ws + (n.toNat - 1) * nU ws ≤ 62 := ⟨detP_goodI _ (lessT_goodI ok), by rw [← Nat.mul_add, nU_nD]; exact h⟩
theorem closP_lenI {n : Int} {ws : List Int} (ok : PlOK n ws) (h : SmallI n ws) : (closP n ws).length ≤ 63 := by
 obtain ⟨h1, h2⟩ := small_det ok h
 have := h1.1.lenI h1.2
 unfold closP
 refine Nat.le_trans (fromP_len _) ?_
 have := ok.1
 rw [show n.toNat = n.toNat - 1 + 1 by lia]
 lia
end L2
namespace L2
open PySem PySem.Spec PyProof.Rows LM
theorem toL_nought : toL [(0, 0)] = zL := Lp.ext2 fun c => by
 rw [co_L]
 show (if (0 : Int) = c then (0 : Int) else 0) + 0 = co (toL []).1 c
 rw [co_L]
 split <;> rfl
noncomputable instance : NatCast Lp := ⟨fun n => sgU n⟩
noncomputable instance {n : Nat} : OfNat Lp n := ⟨sgU n⟩
noncomputable instance : IntCast Lp := ⟨sgU⟩
noncomputable instance : Neg Lp := ⟨fun a => sgU (-1) * a⟩
noncomputable instance : _root_.Sub Lp := ⟨fun a b => a + sgU (-1) * b⟩
noncomputable instance : SMul Nat Lp := ⟨fun n a => sgU n * a⟩
noncomputable instance : SMul Int Lp := ⟨fun n a => sgU n * a⟩
noncomputable def powL (a : Lp) : Nat → Lp
 | 0 => sgU 1
 | n + 1 => powL a n * a
noncomputable instance : HPow Lp Nat Lp := ⟨powL⟩
theorem sgU_add (a b : Int) : sgU (a + b) = sgU a + sgU b := Lp.ext2 fun c => by
 unfold sgU
 rw [co_addL, co_L, co_L, co_L, co_one, co_one, co_one]
 split <;> lia
theorem sgU_0 : sgU 0 = zL := toL_nought
noncomputable instance : Lean.Grind.CommRing Lp where
 add_zero a := by show a + sgU ((0 : Nat) : Int) = a; exact (by rw [show ((0 : Nat) : Int) = 0 from rfl, sgU_0, addL_z])
 add_comm := addL_comm
 add_assoc := addL_assoc
 mul_assoc := mulL_assoc
 mul_one a := by show a * sgU ((1 : Nat) : Int) = a; exact mulL_e a
 one_mul a := by show sgU ((1 : Nat) : Int) * a = a; rw [mulL_comm]; exact mulL_e a
 left_distrib := distL
 right_distrib a b c := by rw [mulL_comm, distL, mulL_comm c, mulL_comm c]
 zero_mul a := by show sgU ((0 : Nat) : Int) * a = sgU ((0 : Nat) : Int); rw [show ((0 : Nat) : Int) = 0 from rfl, sgU_0, mulL_comm, mulL_z]
 mul_zero a := by show a * sgU ((0 : Nat) : Int) = sgU ((0 : Nat) : Int); rw [show ((0 : Nat) : Int) = 0 from rfl, sgU_0, mulL_z]
 pow_zero a := rfl
 pow_succ a n := rfl
 ofNat_succ n := by
   show sgU ((n + 1 : Nat) : Int) = sgU (n : Int) + sgU ((1 : Nat) : Int)
   rw [Int.natCast_add, sgU_add]
 ofNat_eq_natCast n := rfl
 nsmul_eq_natCast_mul n a := rfl
 neg_add_cancel a := by
   show sgU (-1) * a + a = sgU ((0 : Nat) : Int)
   have e : sgU (-1) * a + a = sgU (-1) * a + sgU 1 * a := by rw [show sgU 1 * a = a from by rw [mulL_comm]; exact mulL_e a]
   rw [e, mulL_comm, mulL_comm (sgU 1), ← distL, ← sgU_add, show (-1 : Int) + 1 = 0 by decide, sgU_0, mulL_z]
   exact sgU_0.symm
 sub_eq_add_neg a b := rfl
 neg_zsmul i a := by
   show sgU (-i) * a = sgU (-1) * (sgU i * a)
   rw [← mulL_assoc, sgU_mul, show -1 * i = -i by lia]
 zsmul_natCast_eq_nsmul n a := rfl
 intCast_ofNat n := rfl
 intCast_neg i := by
   show sgU (-i) = sgU (-1) * sgU i
   rw [sgU_mul, show -1 * i = -i by lia]
 mul_comm := mulL_comm
theorem zL_eq : zL = (0 : Lp) := sgU_0.symm
theorem sgU_neg1 : sgU (-1) = (-1 : Lp) := by
 show sgU (-1) = sgU (-1) * sgU ((1 : Nat) : Int)
 exact (mulL_e _).symm
section
variable {R : Type} [Lean.Grind.CommRing R]
noncomputable def M2d (a b c d : R) : R := a * d - b * c
noncomputable def M3d (a b c d e f g h i : R) : R := a * (e * i - f * h) - b * (d * i - f * g) + c * (d * h - e * g)
noncomputable def D1 (A : Nat → Nat → R) : R := A 0 0
noncomputable def D2 (A : Nat → Nat → R) : R := M2d (A 0 0) (A 0 1) (A 1 0) (A 1 1)
noncomputable def D3 (A : Nat → Nat → R) : R := M3d (A 0 0) (A 0 1) (A 0 2) (A 1 0) (A 1 1) (A 1 2) (A 2 0) (A 2 1) (A 2 2)
noncomputable def D4 (A : Nat → Nat → R) : R := A 0 0 * M3d (A 1 1) (A 1 2) (A 1 3) (A 2 1) (A 2 2) (A 2 3) (A 3 1) (A 3 2) (A 3 3) - A 0 1 * M3d (A 1 0) (A 1 2) (A 1 3) (A 2 0) (A 2 2) (A 2 3) (A 3 0) (A 3 2) (A 3 3) + A 0 2 * M3d (A 1 0) (A 1 1) (A 1 3) (A 2 0) (A 2 1) (A 2 3) (A 3 0) (A 3 1) (A 3 3) - A 0 3 * M3d (A 1 0) (A 1 1) (A 1 2) (A 2 0) (A 2 1) (A 2 2) (A 3 0) (A 3 1) (A 3 2)
noncomputable def DD : Nat → (Nat → Nat → R) → R
 | 0, _ => 1
 | 1, A => D1 A
 | 2, A => D2 A
 | 3, A => D3 A
 | _, A => D4 A
noncomputable def SR : Nat → (Nat → R) → R
 | 0, _ => 0
 | m + 1, g => SR m g + g m
noncomputable def mmul (m : Nat) (A B : Nat → Nat → R) : Nat → Nat → R := fun i j => SR m fun k => A i k * B k j
theorem M3d_mul (a b c d e f g h i a' b' c' d' e' f' g' h' i' : R) : M3d (a * a' + b * d' + c * g') (a * b' + b * e' + c * h') (a * c' + b * f' + c * i') (d * a' + e * d' + f * g') (d * b' + e * e' + f * h') (d * c' + e * f' + f * i') (g * a' + h * d' + i * g') (g * b' + h * e' + i * h') (g * c' + h * f' + i * i') = M3d a b c d e f g h i * M3d a' b' c' d' e' f' g' h' i' := by
 unfold M3d; grind
theorem M2d_mul (a b c d a' b' c' d' : R) : M2d (a * a' + b * c') (a * b' + b * d') (c * a' + d * c') (c * b' + d * d') = M2d a b c d * M2d a' b' c' d' := by
 unfold M2d; grind
theorem SR1 (g : Nat → R) : SR 1 g = g 0 := by unfold SR SR; grind
theorem SR2 (g : Nat → R) : SR 2 g = g 0 + g 1 := by unfold SR; rw [SR1]
theorem SR3 (g : Nat → R) : SR 3 g = g 0 + g 1 + g 2 := by unfold SR; rw [SR2]
theorem DD_mul {m : Nat} (hm : m ≤ 3) (A B : Nat → Nat → R) : DD m (mmul m A B) = DD m A * DD m B := by
 match m, hm with
 | 0, _ => show (1 : R) = 1 * 1; grind
 | 1, _ => show SR 1 (fun k => A 0 k * B k 0) = A 0 0 * B 0 0; rw [SR1]
 | 2, _ =>
   show M2d (SR 2 _) (SR 2 _) (SR 2 _) (SR 2 _) = _
   rw [SR2, SR2, SR2, SR2]
   exact M2d_mul ..
 | 3, _ =>
   show M3d (SR 3 _) (SR 3 _) (SR 3 _) (SR 3 _) (SR 3 _) (SR 3 _) (SR 3 _) (SR 3 _) (SR 3 _) = _
   rw [SR3, SR3, SR3, SR3, SR3, SR3, SR3, SR3, SR3]
   exact M3d_mul ..
theorem DD_congr {m : Nat} (hm : m ≤ 4) {A B : Nat → Nat → R} (h : ∀ i j, i < m → j < m → A i j = B i j) : DD m A = DD m B := by
 match m, hm with
 | 0, _ => rfl
 | 1, _ => exact h 0 0 (by decide) (by decide)
 | 2, _ =>
   show M2d _ _ _ _ = M2d _ _ _ _
   rw [h 0 0 (by decide) (by decide), h 0 1 (by decide) (by decide), h 1 0 (by decide) (by decide), h 1 1 (by decide) (by decide)]
 | 3, _ =>
   show M3d _ _ _ _ _ _ _ _ _ = M3d _ _ _ _ _ _ _ _ _
   rw [h 0 0 (by decide) (by decide), h 0 1 (by decide) (by decide), h 0 2 (by decide) (by decide), h 1 0 (by decide) (by decide), h 1 1 (by decide) (by decide), h 1 2 (by decide) (by decide), h 2 0 (by decide) (by decide), h 2 1 (by decide) (by decide), h 2 2 (by decide) (by decide)]
 | 4, _ =>
   show D4 A = D4 B
   unfold D4
   rw [h 0 0 (by decide) (by decide), h 0 1 (by decide) (by decide), h 0 2 (by decide) (by decide), h 0 3 (by decide) (by decide), h 1 0 (by decide) (by decide), h 1 1 (by decide) (by decide), h 1 2 (by decide) (by decide), h 1 3 (by decide) (by decide), h 2 0 (by decide) (by decide), h 2 1 (by decide) (by decide), h 2 2 (by decide) (by decide), h 2 3 (by decide) (by decide), h 3 0 (by decide) (by decide), h 3 1 (by decide) (by decide), h 3 2 (by decide) (by decide), h 3 3 (by decide) (by decide)]
noncomputable def sgN : Nat → R
 | 0 => 1
 | 1 => -1
 | 2 => 1
 | _ => -1
noncomputable def vP (v : Nat → R) : Nat → R
 | 0 => 1
 | 1 => v 0
 | 2 => v 0 * v 1
 | _ => v 0 * v 1 * v 2
theorem DD_scale {m : Nat} (hm : m ≤ 3) (v : Nat → R) (A B : Nat → Nat → R) (h : ∀ i j, i < m → j < m → v i * A i j = v j * B j i) : vP v m * DD m A = vP v m * DD m B := by
 match m, hm with
 | 0, _ => rfl
 | 1, _ => exact h 0 0 (by decide) (by decide)
 | 2, _ =>
   have e1 : v 0 * v 1 * M2d (A 0 0) (A 0 1) (A 1 0) (A 1 1) = M2d (v 0 * A 0 0) (v 0 * A 0 1) (v 1 * A 1 0) (v 1 * A 1 1) := by unfold M2d; grind
   show v 0 * v 1 * M2d (A 0 0) (A 0 1) (A 1 0) (A 1 1) = v 0 * v 1 * M2d (B 0 0) (B 0 1) (B 1 0) (B 1 1)
   rw [e1, h 0 0 (by decide) (by decide), h 0 1 (by decide) (by decide), h 1 0 (by decide) (by decide), h 1 1 (by decide) (by decide)]
   unfold M2d; grind
 | 3, _ =>
   have e1 : v 0 * v 1 * v 2 * M3d (A 0 0) (A 0 1) (A 0 2) (A 1 0) (A 1 1) (A 1 2) (A 2 0) (A 2 1) (A 2 2) = M3d (v 0 * A 0 0) (v 0 * A 0 1) (v 0 * A 0 2) (v 1 * A 1 0) (v 1 * A 1 1) (v 1 * A 1 2) (v 2 * A 2 0) (v 2 * A 2 1) (v 2 * A 2 2) := by unfold M3d; grind
   show v 0 * v 1 * v 2 * M3d (A 0 0) (A 0 1) (A 0 2) (A 1 0) (A 1 1) (A 1 2) (A 2 0) (A 2 1) (A 2 2) = v 0 * v 1 * v 2 * M3d (B 0 0) (B 0 1) (B 0 2) (B 1 0) (B 1 1) (B 1 2) (B 2 0) (B 2 1) (B 2 2)
   rw [e1, h 0 0 (by decide) (by decide), h 0 1 (by decide) (by decide), h 0 2 (by decide) (by decide), h 1 0 (by decide) (by decide), h 1 1 (by decide) (by decide), h 1 2 (by decide) (by decide), h 2 0 (by decide) (by decide), h 2 1 (by decide) (by decide), h 2 2 (by decide) (by decide)]
   unfold M3d; grind
theorem DD_more {m : Nat} (hm : m ≤ 3) (v : Nat → R) (A E : Nat → Nat → R) (h : ∀ i j, i < m → j < m → E i j = A i j + SR m fun k => v k * A k j) : DD m E = (1 + SR m v) * DD m A := by
 match m, hm with
 | 0, _ => show (1 : R) = (1 + 0) * 1; grind
 | 1, _ =>
   show E 0 0 = (1 + SR 1 v) * A 0 0
   rw [h 0 0 (by decide) (by decide), SR1, SR1]; grind
 | 2, _ =>
   show M2d (E 0 0) (E 0 1) (E 1 0) (E 1 1) = (1 + SR 2 v) * M2d (A 0 0) (A 0 1) (A 1 0) (A 1 1)
   rw [h 0 0 (by decide) (by decide), h 0 1 (by decide) (by decide), h 1 0 (by decide) (by decide), h 1 1 (by decide) (by decide)]
   simp only [SR2]
   unfold M2d; grind
 | 3, _ =>
   show M3d (E 0 0) (E 0 1) (E 0 2) (E 1 0) (E 1 1) (E 1 2) (E 2 0) (E 2 1) (E 2 2) = (1 + SR 3 v) * M3d (A 0 0) (A 0 1) (A 0 2) (A 1 0) (A 1 1) (A 1 2) (A 2 0) (A 2 1) (A 2 2)
   rw [h 0 0 (by decide) (by decide), h 0 1 (by decide) (by decide), h 0 2 (by decide) (by decide), h 1 0 (by decide) (by decide), h 1 1 (by decide) (by decide), h 1 2 (by decide) (by decide), h 2 0 (by decide) (by decide), h 2 1 (by decide) (by decide), h 2 2 (by decide) (by decide)]
   simp only [SR3]
   unfold M3d; grind
theorem DD_neg {m : Nat} (hm : m ≤ 3) (A : Nat → Nat → R) : DD m (fun i j => -A i j) = sgN m * DD m A := by
 match m, hm with
 | 0, _ => show (1 : R) = 1 * 1; grind
 | 1, _ => show -A 0 0 = -1 * A 0 0; grind
 | 2, _ => show M2d _ _ _ _ = 1 * M2d _ _ _ _; unfold M2d; grind
 | 3, _ => show M3d _ _ _ _ _ _ _ _ _ = -1 * M3d _ _ _ _ _ _ _ _ _; unfold M3d; grind
end
end L2
namespace L2
open PySem PySem.Spec PyProof.Rows LM
noncomputable def BL (n : Int) (w : List Int) (i j : Nat) : Lp := toL (((tabP n w).getD i []).getD j [])
theorem Su_SR (m : Nat) (g : Nat → Lp) : Su m g = SR m g := by
 induction m with
 | zero => exact zL_eq
 | succ m ih => show Su m g + g m = SR m g + g m; rw [ih]
theorem SR_congr {R : Type} [Lean.Grind.CommRing R] {m : Nat} {f g : Nat → R} (h : ∀ i, i < m → f i = g i) : SR m f = SR m g := by
 induction m with
 | zero => rfl
 | succ m ih => show SR m f + f m = SR m g + g m; rw [ih fun i hi => h i (by lia), h m (by lia)]
theorem SR_sub {R : Type} [Lean.Grind.CommRing R] (m : Nat) (f g : Nat → R) : SR m (fun i => f i - g i) = SR m f - SR m g := by
 induction m with
 | zero => show (0 : R) = 0 - 0; grind
 | succ m ih => show SR m (fun i => f i - g i) + (f m - g m) = (SR m f + f m) - (SR m g + g m); rw [ih]; grind
theorem SR_mul {R : Type} [Lean.Grind.CommRing R] (a : R) (m : Nat) (f : Nat → R) : SR m (fun i => a * f i) = a * SR m f := by
 induction m with
 | zero => show (0 : R) = a * 0; grind
 | succ m ih => show SR m (fun i => a * f i) + a * f m = a * (SR m f + f m); rw [ih]; grind
theorem SR_mulr {R : Type} [Lean.Grind.CommRing R] (a : R) (m : Nat) (f : Nat → R) : SR m (fun i => f i * a) = SR m f * a := by
 induction m with
 | zero => show (0 : R) = 0 * a; grind
 | succ m ih => show SR m (fun i => f i * a) + f m * a = (SR m f + f m) * a; rw [ih]; grind
theorem SR_head {R : Type} [Lean.Grind.CommRing R] (m : Nat) (f : Nat → R) : SR (m + 1) f = f 0 + SR m fun i => f (i + 1) := by
 induction m with
 | zero => show (0 : R) + f 0 = f 0 + 0; grind
 | succ m ih => show SR (m + 1) f + f (m + 1) = f 0 + (SR m (fun i => f (i + 1)) + f (m + 1)); rw [ih]; grind
theorem SR_one {R : Type} [Lean.Grind.CommRing R] {m i : Nat} (hi : i < m) (f : Nat → R) : SR m (fun k => (if i = k then 1 else 0) * f k) = f i := by
 induction m with
 | zero => lia
 | succ m ih =>
   show SR m (fun k => (if i = k then 1 else 0) * f k) + (if i = m then 1 else 0) * f m = f i
   by_cases c : i = m
   · subst c
     rw [if_pos rfl, SR_congr (g := fun _ => (0 : R)) fun k hk => by rw [if_neg (by lia)]; grind]
     have : ∀ k, SR k (fun _ => (0 : R)) = 0 := fun k => by
       induction k with
       | zero => rfl
       | succ k ih => show SR k (fun _ => (0 : R)) + 0 = 0; rw [ih]; grind
     rw [this]; grind
   · rw [if_neg c, ih (by lia)]; grind
theorem BL_mul {n : Int} {u v : List Int} (hu : WordOK n u) (hv : WordOK n v) {i j : Nat} (hi : i < n.toNat) (hj : j < n.toNat) : BL n (u ++ v) i j = SR n.toNat fun k => BL n u i k * BL n v k j := by
 unfold BL
 rw [tab_mul hu hv]
 have hlen := (tabP_good hu).1
 have e : ((matP n.toNat (tabP n u) (tabP n v)).getD i []).getD j [] = matE ((tabP n u).getD i []) (tabP n v) n.toNat j := by
   unfold matP
   rw [List.getD_eq_getElem?_getD (i := i), List.getElem?_map, List.getElem?_eq_getElem (by lia : i < (tabP n u).length)]
   show ((List.range n.toNat).map fun j => matE (tabP n u)[i] (tabP n v) n.toNat j).getD j [] = _
   rw [List.getD_eq_getElem?_getD, List.getElem?_map, List.getElem?_range hj]
   show matE (tabP n u)[i] _ _ _ = _
   rw [List.getD_eq_getElem?_getD, List.getElem?_eq_getElem (by lia : i < (tabP n u).length)]; rfl
 rw [e]
 unfold matE
 rw [toL_sumP, Su_SR]
 exact SR_congr fun k hk => toL_mul _ _
theorem BL_row {n : Int} {w : List Int} (hw : WordOK n w) {i : Nat} (hi : i < n.toNat) : SR n.toNat (fun j => BL n w i j) = 1 := by
 have hlen := (tabP_good hw).1
 have hr : (tabP n w).getD i [] ∈ tabP n w := by
   rw [List.getD_eq_getElem?_getD, List.getElem?_eq_getElem (by lia : i < (tabP n w).length)]; exact List.getElem_mem _
 have h := congrArg toL (row_sum hw hr)
 rw [toL_sumP, Su_SR] at h
 exact h
noncomputable def tL (k : Nat) : Lp := toL [((k : Int), 1)]
theorem BL_col {n : Int} {w : List Int} (hw : WordOK n w) {k : Nat} (hk : k < n.toNat) : SR n.toNat (fun j => tL j * BL n w j k) = tL k := by
 have h := congrArg toL (col_sum hw hk)
 rw [toL_sumP, Su_SR] at h
 rw [← show toL [((k : Int), 1)] = tL k from rfl, ← h]
 exact SR_congr fun j _ => (toL_mul _ _).symm
theorem BL_nil {n : Int} {i j : Nat} (hi : i < n.toNat) (hj : j < n.toNat) : BL n [] i j = if i = j then 1 else 0 := by
 unfold BL
 show toL (((idP n).getD i []).getD j []) = _
 have h1 := range0_length n
 have e0 : (range0 n)[i]? = some (i : Int) := by unfold range0; rw [List.getElem?_map, List.getElem?_range hi]; rfl
 have e1 : (range0 n)[j]? = some (j : Int) := by unfold range0; rw [List.getElem?_map, List.getElem?_range hj]; rfl
 have e : ((idP n).getD i []).getD j [] = oneP i j := by
   unfold idP
   rw [List.getD_eq_getElem?_getD (i := i), List.getElem?_map, e0]
   show ((range0 n).map fun c => oneP i c).getD j [] = _
   rw [List.getD_eq_getElem?_getD, List.getElem?_map, e1]; rfl
 rw [e]
 unfold oneP
 by_cases c : i = j
 · rw [if_pos c, if_pos (by rw [c])]; rfl
 · rw [if_neg c, if_neg (by lia)]; exact zL_eq
theorem BL_rel {n : Int} {w v : List Int} (h : RelW n w v) (hw : WordOK n w) (hv : WordOK n v) (i j : Nat) : BL n w i j = BL n v i j := by
 unfold BL; rw [tab_rel h hw hv]
noncomputable def AL1 (n : Int) (w : List Int) (i j : Nat) : Lp := (if i = j then 1 else 0) - BL n w (i + 1) (j + 1)
theorem less_AL {n : Int} {w : List Int} {i j : Nat} (hi : i < n.toNat - 1) (hj : j < n.toNat - 1) : eltL (lessT n w) i j = AL1 n w i j := by
 unfold eltL lessT AL1 BL
 rw [List.getD_eq_getElem?_getD (i := i), List.getElem?_map, List.getElem?_range hi]
 show toL (((List.range (n.toNat - 1)).map fun c => addP (oneP ((i + 1 : Nat) : Int) ((c + 1 : Nat) : Int)) (mulP' (((tabP n w).getD (i + 1) []).getD (c + 1) []) [(0, -1)])).getD j []) = _
 rw [List.getD_eq_getElem?_getD, List.getElem?_map, List.getElem?_range hj]
 show toL (addP (oneP ((i + 1 : Nat) : Int) ((j + 1 : Nat) : Int)) (mulP' (((tabP n w).getD (i + 1) []).getD (j + 1) []) [(0, -1)])) = _
 rw [toL_add, toL_mul]
 have e1 : toL (oneP ((i + 1 : Nat) : Int) ((j + 1 : Nat) : Int)) = if i = j then (1 : Lp) else 0 := by
   unfold oneP
   by_cases c : i = j
   · rw [if_pos c, if_pos (by rw [c])]; rfl
   · rw [if_neg c, if_neg (by lia)]; exact zL_eq
 rw [e1, show toL [(0, -1)] = (-1 : Lp) from sgU_neg1]
 grind
theorem sgL_0 : sgL 0 = (1 : Lp) := by rw [sgL_turn]; rfl
theorem sgL_1 : sgL 1 = (-1 : Lp) := by rw [sgL_turn]; exact sgU_neg1
theorem sgL_2 : sgL 2 = (1 : Lp) := by rw [sgL_turn]; rfl
theorem sgL_3 : sgL 3 = (-1 : Lp) := by rw [sgL_turn]; exact sgU_neg1
theorem Drow_0 (A : Nat → Nat → Lp) : Drow sgL 0 A = 1 := rfl
theorem Drow_1 (A : Nat → Nat → Lp) : Drow sgL 1 A = A 0 0 := by
 show zL + sgL 0 * A 0 0 * Drow sgL 0 _ = _
 rw [Drow_0, sgL_0, zL_eq]; grind
theorem Drow_2 (A : Nat → Nat → Lp) : Drow sgL 2 A = D2 A := by
 show zL + sgL 0 * A 0 0 * Drow sgL 1 _ + sgL 1 * A 0 1 * Drow sgL 1 _ = _
 rw [Drow_1, Drow_1, sgL_0, sgL_1, zL_eq]
 show 0 + 1 * A 0 0 * A 1 1 + -1 * A 0 1 * A 1 0 = M2d _ _ _ _
 unfold M2d; grind
theorem Drow_3 (A : Nat → Nat → Lp) : Drow sgL 3 A = D3 A := by
 show zL + sgL 0 * A 0 0 * Drow sgL 2 _ + sgL 1 * A 0 1 * Drow sgL 2 _ + sgL 2 * A 0 2 * Drow sgL 2 _ = _
 rw [Drow_2, Drow_2, Drow_2, sgL_0, sgL_1, sgL_2, zL_eq]
 show 0 + 1 * A 0 0 * M2d (A 1 1) (A 1 2) (A 2 1) (A 2 2) + -1 * A 0 1 * M2d (A 1 0) (A 1 2) (A 2 0) (A 2 2) + 1 * A 0 2 * M2d (A 1 0) (A 1 1) (A 2 0) (A 2 1) = M3d _ _ _ _ _ _ _ _ _
 unfold M2d M3d; grind
theorem Drow_4 (A : Nat → Nat → Lp) : Drow sgL 4 A = D4 A := by
 show zL + sgL 0 * A 0 0 * Drow sgL 3 _ + sgL 1 * A 0 1 * Drow sgL 3 _ + sgL 2 * A 0 2 * Drow sgL 3 _ + sgL 3 * A 0 3 * Drow sgL 3 _ = _
 rw [Drow_3, Drow_3, Drow_3, Drow_3, sgL_0, sgL_1, sgL_2, sgL_3, zL_eq]
 show 0 + 1 * A 0 0 * M3d (A 1 1) (A 1 2) (A 1 3) (A 2 1) (A 2 2) (A 2 3) (A 3 1) (A 3 2) (A 3 3) + -1 * A 0 1 * M3d (A 1 0) (A 1 2) (A 1 3) (A 2 0) (A 2 2) (A 2 3) (A 3 0) (A 3 2) (A 3 3) + 1 * A 0 2 * M3d (A 1 0) (A 1 1) (A 1 3) (A 2 0) (A 2 1) (A 2 3) (A 3 0) (A 3 1) (A 3 3) + -1 * A 0 3 * M3d (A 1 0) (A 1 1) (A 1 2) (A 2 0) (A 2 1) (A 2 2) (A 3 0) (A 3 1) (A 3 2) = D4 A
 unfold D4
 generalize M3d (A 1 1) (A 1 2) (A 1 3) (A 2 1) (A 2 2) (A 2 3) (A 3 1) (A 3 2) (A 3 3) = x0
 generalize M3d (A 1 0) (A 1 2) (A 1 3) (A 2 0) (A 2 2) (A 2 3) (A 3 0) (A 3 2) (A 3 3) = x1
 generalize M3d (A 1 0) (A 1 1) (A 1 3) (A 2 0) (A 2 1) (A 2 3) (A 3 0) (A 3 1) (A 3 3) = x2
 generalize M3d (A 1 0) (A 1 1) (A 1 2) (A 2 0) (A 2 1) (A 2 2) (A 3 0) (A 3 1) (A 3 2) = x3
 grind
theorem Drow_DD {m : Nat} (hm : m ≤ 4) (A : Nat → Nat → Lp) : Drow sgL m A = DD m A := by
 match m, hm with
 | 0, _ => rfl
 | 1, _ => exact Drow_1 A
 | 2, _ => exact Drow_2 A
 | 3, _ => exact Drow_3 A
 | 4, _ => exact Drow_4 A
theorem det_DD {n : Int} {w : List Int} (h1 : 1 ≤ n) (h5 : n ≤ 5) : toL (detP n.toNat (lessT n w)) = DD (n.toNat - 1) (AL1 n w) := by
 have hl : (lessT n w).length = n.toNat - 1 := by unfold lessT; rw [List.length_map, List.length_range]
 have hl2 : ∀ ps ∈ lessT n w, ps.length = n.toNat - 1 := fun ps hp => by
   unfold lessT at hp
   obtain ⟨r, _, rfl⟩ := List.mem_map.mp hp
   rw [List.length_map, List.length_range]
 have e : n.toNat = n.toNat - 1 + 1 := by lia
 conv => lhs; rw [e]
 rw [det_row _ _ hl hl2, Drow_DD (by lia)]
 exact DD_congr (by lia) fun i j hi hj => less_AL hi hj
end L2
namespace L2
open PySem PySem.Spec PyProof.Rows LM
noncomputable def RL (n : Int) (w : List Int) (i j : Nat) : Lp := BL n w (i + 1) (j + 1) - BL n w 0 (j + 1)
theorem RL_mul {n : Int} (h1 : 1 ≤ n) {u v : List Int} (hu : WordOK n u) (hv : WordOK n v) {i j : Nat} (hi : i < n.toNat - 1) (hj : j < n.toNat - 1) : RL n (u ++ v) i j = mmul (n.toNat - 1) (RL n u) (RL n v) i j := by
 obtain ⟨m, hm⟩ : ∃ m, n.toNat = m + 1 := ⟨n.toNat - 1, by lia⟩
 unfold RL mmul
 rw [BL_mul hu hv (by lia : i + 1 < n.toNat) (by lia : j + 1 < n.toNat), BL_mul hu hv (by lia : 0 < n.toNat) (by lia : j + 1 < n.toNat)]
 have r1 := BL_row hu (i := i + 1) (by lia)
 have r0 := BL_row hu (i := 0) (by lia)
 rw [hm, SR_head] at r1 r0
 rw [hm, Nat.add_sub_cancel, SR_head, SR_head]
 have e : SR m (fun k => RL n u i k * RL n v k j) = SR m (fun k => BL n u (i + 1) (k + 1) * BL n v (k + 1) (j + 1)) - SR m (fun k => BL n u 0 (k + 1) * BL n v (k + 1) (j + 1)) - (SR m (fun k => BL n u (i + 1) (k + 1)) - SR m (fun k => BL n u 0 (k + 1))) * BL n v 0 (j + 1) := by
   rw [← SR_sub, ← SR_sub, ← SR_mulr, ← SR_sub]
   exact SR_congr fun k _ => by unfold RL; grind
 show _ = SR m (fun k => RL n u i k * RL n v k j)
 rw [e]
 generalize SR m (fun k => BL n u (i + 1) (k + 1) * BL n v (k + 1) (j + 1)) = X
 generalize SR m (fun k => BL n u 0 (k + 1) * BL n v (k + 1) (j + 1)) = Y
 generalize SR m (fun k => BL n u (i + 1) (k + 1)) = s1 at r1 ⊢
 generalize SR m (fun k => BL n u 0 (k + 1)) = s0 at r0 ⊢
 grind
theorem RL_nil {n : Int} {i j : Nat} (hi : i < n.toNat - 1) (hj : j < n.toNat - 1) : RL n [] i j = if i = j then 1 else 0 := by
 unfold RL
 rw [BL_nil (by lia) (by lia), BL_nil (by lia) (by lia), if_neg (by lia : ¬ 0 = j + 1)]
 by_cases c : i = j
 · rw [if_pos c, if_pos (by lia)]; grind
 · rw [if_neg c, if_neg (by lia)]; grind
theorem RL_rel {n : Int} {w v : List Int} (h : RelW n w v) (hw : WordOK n w) (hv : WordOK n v) (i j : Nat) : RL n w i j = RL n v i j := by
 unfold RL; rw [BL_rel h hw hv, BL_rel h hw hv]
noncomputable def EL (n : Int) (w : List Int) (i j : Nat) : Lp := (if i = j then 1 else 0) - RL n w i j
theorem EL_AL {n : Int} (h1 : 1 ≤ n) (h4 : n ≤ 4) {w : List Int} (hw : WordOK n w) : DD (n.toNat - 1) (EL n w) = SR n.toNat tL * DD (n.toNat - 1) (AL1 n w) := by
 obtain ⟨m, hm⟩ : ∃ m, n.toNat = m + 1 := ⟨n.toNat - 1, by lia⟩
 have t0 : tL 0 = (1 : Lp) := rfl
 rw [hm, Nat.add_sub_cancel, SR_head, t0]
 refine DD_more (by lia) (fun k => tL (k + 1)) _ _ fun i j hi hj => ?_
 have hc := BL_col hw (k := j + 1) (by lia)
 rw [hm, SR_head, t0] at hc
 have e : SR m (fun k => tL (k + 1) * AL1 n w k j) = tL (j + 1) - SR m (fun k => tL (k + 1) * BL n w (k + 1) (j + 1)) := by
   have e1 : SR m (fun k => (if j = k then 1 else 0) * tL (k + 1)) = tL (j + 1) := SR_one hj (fun k => tL (k + 1))
   rw [← e1, ← SR_sub]
   refine SR_congr fun k _ => ?_
   unfold AL1
   by_cases c : j = k
   · rw [if_pos c, if_pos c.symm]; grind
   · rw [if_neg c, if_neg (fun z => c z.symm)]; grind
 rw [e]
 unfold EL RL AL1
 generalize SR m (fun k => tL (k + 1) * BL n w (k + 1) (j + 1)) = X at hc ⊢
 grind
theorem DD_RL_mul {n : Int} (h1 : 1 ≤ n) (h4 : n ≤ 4) {u v : List Int} (hu : WordOK n u) (hv : WordOK n v) : DD (n.toNat - 1) (RL n (u ++ v)) = DD (n.toNat - 1) (RL n u) * DD (n.toNat - 1) (RL n v) := by
 rw [← DD_mul (by lia)]
 exact DD_congr (by lia) fun i j hi hj => RL_mul h1 hu hv hi hj
noncomputable def idF (i j : Nat) : Lp := if i = j then 1 else 0
theorem DD_id {m : Nat} (hm : m ≤ 3) : DD m idF = 1 := by
 match m, hm with
 | 0, _ => rfl
 | 1, _ => rfl
 | 2, _ => show M2d (1 : Lp) 0 0 1 = 1; unfold M2d; grind
 | 3, _ => show M3d (1 : Lp) 0 0 0 1 0 0 0 1 = 1; unfold M3d; grind
theorem DD_RL_nil {n : Int} (h1 : 1 ≤ n) (h4 : n ≤ 4) : DD (n.toNat - 1) (RL n []) = 1 := by
 rw [← DD_id (show n.toNat - 1 ≤ 3 by lia)]
 exact DD_congr (by lia) fun i j hi hj => RL_nil hi hj
theorem mmul_idr {m : Nat} {A : Nat → Nat → Lp} {i j : Nat} (hi : i < m) (hj : j < m) : mmul m A idF i j = A i j := by
 unfold mmul
 have := SR_one hj (fun k => A i k)
 rw [← this]
 refine SR_congr fun k _ => ?_
 unfold idF
 by_cases c : j = k
 · rw [if_pos c, if_pos c.symm]; grind
 · rw [if_neg c, if_neg (fun z => c z.symm)]; grind
theorem DD_EL_conj {n : Int} (h1 : 1 ≤ n) (h4 : n ≤ 4) {u v : List Int} (hu : WordOK n u) (hv : WordOK n v) : DD (n.toNat - 1) (EL n (u ++ v)) = DD (n.toNat - 1) (EL n (v ++ u)) := by
 -- (1 - UV) U = U (1 - VU), and U can be taken away
 have hm : n.toNat - 1 ≤ 3 := by lia
 have e1 : DD (n.toNat - 1) (EL n (u ++ v)) * DD (n.toNat - 1) (RL n u) = DD (n.toNat - 1) (RL n u) * DD (n.toNat - 1) (EL n (v ++ u)) := by
   rw [← DD_mul hm, ← DD_mul hm]
   refine DD_congr (by lia) fun i j hi hj => ?_
   have a1 : mmul (n.toNat - 1) (RL n (u ++ v)) (RL n u) i j = RL n (u ++ v ++ u) i j := (RL_mul h1 (hu.append hv) hu hi hj).symm
   have a2 : mmul (n.toNat - 1) (RL n u) (RL n (v ++ u)) i j = RL n (u ++ (v ++ u)) i j := (RL_mul h1 hu (hv.append hu) hi hj).symm
   rw [← List.append_assoc] at a2
   have b1 : mmul (n.toNat - 1) (EL n (u ++ v)) (RL n u) i j = RL n u i j - RL n (u ++ v ++ u) i j := by
     rw [← a1]
     unfold mmul
     rw [← SR_one hi (fun k => RL n u k j), ← SR_sub]
     exact SR_congr fun k _ => by unfold EL; grind
   have b2 : mmul (n.toNat - 1) (RL n u) (EL n (v ++ u)) i j = RL n u i j - RL n (u ++ v ++ u) i j := by
     rw [← a2]
     have := mmul_idr (A := RL n u) hi hj
     rw [← this]
     unfold mmul
     rw [← SR_sub]
     exact SR_congr fun k _ => by unfold EL idF; grind
   rw [b1, b2]
 have hinv : DD (n.toNat - 1) (RL n u) * DD (n.toNat - 1) (RL n (contrL u)) = 1 := by
   rw [← DD_RL_mul h1 h4 hu hu.contr, ← DD_RL_nil h1 h4]
   have r := RelW.bk hu.contr
   rw [contrL_contr] at r
   exact DD_congr (by lia) fun i j _ _ => RL_rel r (hu.append hu.contr) .nil i j
 generalize DD (n.toNat - 1) (EL n (u ++ v)) = x at e1 ⊢
 generalize DD (n.toNat - 1) (EL n (v ++ u)) = y at e1 ⊢
 generalize DD (n.toNat - 1) (RL n u) = d at e1 hinv
 generalize DD (n.toNat - 1) (RL n (contrL u)) = d' at hinv
 grind
theorem DD_EL_contr {n : Int} (h1 : 1 ≤ n) (h4 : n ≤ 4) {w : List Int} (hw : WordOK n w) : DD (n.toNat - 1) (EL n (contrL w)) = sgN (n.toNat - 1) * DD (n.toNat - 1) (RL n (contrL w)) * DD (n.toNat - 1) (EL n w) := by
 have hm : n.toNat - 1 ≤ 3 := by lia
 have r := RelW.bk hw
 -- 1 - W' = -(W' (1 - W))
 have e : DD (n.toNat - 1) (EL n (contrL w)) = DD (n.toNat - 1) (fun i j => -(mmul (n.toNat - 1) (RL n (contrL w)) (EL n w) i j)) := by
   refine DD_congr (by lia) fun i j hi hj => ?_
   have a1 : mmul (n.toNat - 1) (RL n (contrL w)) (RL n w) i j = if i = j then 1 else 0 := by
     rw [← RL_mul h1 hw.contr hw hi hj, RL_rel r (hw.contr.append hw) .nil, RL_nil hi hj]
   have b2 : mmul (n.toNat - 1) (RL n (contrL w)) (EL n w) i j = RL n (contrL w) i j - if i = j then 1 else 0 := by
     rw [← a1]
     have := mmul_idr (A := RL n (contrL w)) hi hj
     conv => rhs; rw [← this]
     unfold mmul
     rw [← SR_sub]
     exact SR_congr fun k _ => by unfold EL idF; grind
   rw [b2]
   unfold EL
   split <;> grind
 rw [e, DD_neg hm, DD_mul hm]
 grind
end L2
namespace L2
open PySem PySem.Spec PyProof.Rows LM
noncomputable def UnL (u : Lp) : Prop := ∃ k s : Int, (s = 1 ∨ s = -1) ∧ u = toL [(k, s)]
theorem mono_mul (k l s t : Int) : toL [(k, s)] * toL [(l, t)] = toL [(k + l, s * t)] := by
 rw [← toL_mul]
 refine toL_ext fun c => ?_
 unfold mulP'
 rw [co_norm]
 rfl
theorem UnL.one : UnL 1 := ⟨0, 1, .inl rfl, rfl⟩
theorem UnL.neg1 : UnL (-1) := ⟨0, -1, .inr rfl, sgU_neg1.symm⟩
theorem UnL.tL (k : Nat) : UnL (tL k) := ⟨k, 1, .inl rfl, rfl⟩
theorem UnL.mul {u v : Lp} (h : UnL u) (g : UnL v) : UnL (u * v) := by
 obtain ⟨k, s, hs, rfl⟩ := h
 obtain ⟨l, t, ht, rfl⟩ := g
 refine ⟨k + l, s * t, ?_, mono_mul ..⟩
 rcases hs with rfl | rfl <;> rcases ht with rfl | rfl <;> decide
theorem UnL.inv {u : Lp} (h : UnL u) : ∃ v, UnL v ∧ v * u = 1 := by
 obtain ⟨k, s, hs, rfl⟩ := h
 refine ⟨toL [(-k, s)], ⟨-k, s, hs, rfl⟩, ?_⟩
 rw [mono_mul, show -k + k = 0 by lia, show s * s = 1 by rcases hs with rfl | rfl <;> rfl]; rfl
theorem UnL.cancel {u x y : Lp} (h : UnL u) (e : u * x = u * y) : x = y := by
 obtain ⟨v, _, hv⟩ := h.inv
 have : v * (u * x) = v * (u * y) := by rw [e]
 grind
theorem UnL.sgN : ∀ m, UnL (sgN m)
 | 0 => .one
 | 1 => .neg1
 | 2 => .one
 | _ + 3 => .neg1
theorem UnL.vP (k : Nat) : ∀ m, UnL (vP (fun i => L2.tL (i + k)) m)
 | 0 => .one
 | 1 => .tL _
 | 2 => (UnL.tL _).mul (.tL _)
 | _ + 3 => ((UnL.tL _).mul (.tL _)).mul (.tL _)
theorem co_t (k : Nat) (z : Lp) (c : Int) : co (L2.tL k * z).1 c = co z.1 (c - k) := by
 rw [co_mulL]
 unfold L2.tL
 rw [cv_L]
 show 1 * co z.1 (c - k) + 0 = _
 lia
theorem co_SR (z : Lp) (c : Int) : ∀ m, co (SR m L2.tL * z).1 c = SuN m fun k => co z.1 (c - k)
 | 0 => by
   show co ((0 : Lp) * z).1 c = 0
   have e : (0 : Lp) * z = 0 := by grind
   rw [e]
   show co (sgU 0).1 c = 0
   rw [sgU_0]
   show co (toL []).1 c = 0
   rw [co_L]; rfl
 | m + 1 => by
   show co ((SR m L2.tL + L2.tL m) * z).1 c = SuN m (fun k => co z.1 (c - k)) + co z.1 (c - m)
   have e : (SR m L2.tL + L2.tL m) * z = SR m L2.tL * z + L2.tL m * z := by grind
   rw [e, co_addL, co_SR z c m, co_t]
theorem SuN_head {m : Nat} {g : Nat → Int} (h : ∀ k, 1 ≤ k → g k = 0) : SuN (m + 1) g = g 0 := by
 induction m with
 | zero => show 0 + g 0 = g 0; lia
 | succ m ih => show SuN (m + 1) g + g (m + 1) = g 0; rw [ih, h (m + 1) (by lia)]; lia
theorem SR_zero {m : Nat} (z : Lp) (h : SR (m + 1) L2.tL * z = 0) : z = 0 := by
 obtain ⟨p, hp⟩ := z
 cases p with
 | nil => exact Subtype.ext (by show [] = (sgU 0).1; rw [sgU_0]; rfl)
 | cons x p =>
   obtain ⟨p1, p2⟩ := List.pairwise_cons.mp hp.1
   have hz : co (SR (m + 1) L2.tL * ⟨x :: p, hp⟩ : Lp).1 x.1 = 0 := by
     rw [h]
     show co (sgU 0).1 x.1 = 0
     rw [sgU_0]
     show co (toL []).1 x.1 = 0
     rw [co_L]; rfl
   rw [co_SR, SuN_head fun k hk => co_zero fun y hy => ?_] at hz
   · have : co (x :: p) x.1 = x.2 := co_mem hp.1 (.head _)
     rw [show x.1 - ((0 : Nat) : Int) = x.1 by lia, this] at hz
     exact absurd hz (hp.2 x (.head _))
   · rcases List.mem_cons.mp hy with e | e
     · rw [e]; lia
     · have := p1 y e; lia
theorem SR_cancel {n : Nat} (hn : 1 ≤ n) {x y : Lp} (h : SR n L2.tL * x = SR n L2.tL * y) : x = y := by
 obtain ⟨m, rfl⟩ : ∃ m, n = m + 1 := ⟨n - 1, by lia⟩
 have := SR_zero (x - y) (m := m) (by grind)
 grind
theorem co_fromP {x : Int × Int} {p : Po} (c : Int) : co (fromP (x :: p)) c = (if 0 < x.2 then 1 else -1) * co (x :: p) (c + x.1) := by
 show co (mulP' (x :: p) [(-x.1, if 0 < x.2 then 1 else -1)]) c = _
 unfold mulP'
 rw [co_norm, co_raw_comm, co_mul]
 show (if 0 < x.2 then 1 else -1) * co (x :: p) (c - -x.1) + 0 = _
 rw [show c - -x.1 = c + x.1 by lia]; lia
theorem canP_fromP : ∀ p : Po, CanP (fromP p)
 | [] => ⟨.nil, fun _ z => absurd z List.not_mem_nil⟩
 | x :: p => canP_norm _
theorem co_sh2 (k s c : Int) : ∀ q : Po, co (q.map fun z => (z.1 + k, s * z.2)) c = s * co q (c - k)
 | [] => by show (0 : Int) = s * 0; lia
 | z :: q => by
   show (if z.1 + k = c then s * z.2 else 0) + co (q.map fun z => (z.1 + k, s * z.2)) c = s * ((if z.1 = c - k then z.2 else 0) + co q (c - k))
   rw [co_sh2 k s c q, Int.mul_add]
   by_cases h : z.1 + k = c
   · rw [if_pos h, if_pos (by lia)]
   · rw [if_neg h, if_neg (by lia), Int.mul_zero]
theorem fromP_unit {p q : Po} (hp : CanP p) (hq : CanP q) {u : Lp} (hu : UnL u) (h : toL p = u * toL q) : fromP p = fromP q := by
 obtain ⟨k, s, hs, rfl⟩ := hu
 have hco : ∀ c, co p c = s * co q (c - k) := fun c => by
   have e := congrArg (fun r : Lp => co r.1 c) h
   rw [co_L, co_mulL, cv_L] at e
   rw [e]
   show s * co (toL q).1 (c - k) + 0 = _
   rw [co_L]; lia
 have hs0 : s ≠ 0 := by rcases hs with rfl | rfl <;> decide
 have e : p = q.map fun z => (z.1 + k, s * z.2) := by
   refine canP_ext hp ⟨List.pairwise_map.mpr (hq.1.imp fun h => by lia), fun x hx => ?_⟩ fun c => by rw [hco, co_sh2]
   obtain ⟨z, hz, rfl⟩ := List.mem_map.mp hx
   exact Int.mul_ne_zero hs0 (hq.2 z hz)
 cases q with
 | nil => rw [e]; rfl
 | cons y q =>
   refine canP_ext (canP_fromP _) (canP_fromP _) fun c => ?_
   have hy := hq.2 y (.head _)
   rw [e, List.map_cons, co_fromP, co_fromP]
   have e2 := co_sh2 k s (c + (y.1 + k)) (y :: q)
   rw [List.map_cons] at e2
   dsimp only at e2 ⊢
   rw [e2, show c + (y.1 + k) - k = c + y.1 by lia]
   rcases hs with rfl | rfl
   · rw [Int.one_mul, Int.one_mul]
   · by_cases c0 : 0 < y.2
     · rw [if_pos c0, if_neg (by lia)]; lia
     · rw [if_neg c0, if_pos (by lia)]; lia
theorem clos_unit {n m : Int} {w v : List Int} (hw : PlOK n w) (hv : PlOK m v) (n5 : n ≤ 5) (m5 : m ≤ 5) {u : Lp} (hu : UnL u) (h : DD (n.toNat - 1) (AL1 n w) = u * DD (m.toNat - 1) (AL1 m v)) : closP n w = closP m v := by
 unfold closP
 have c1 := (detP_goodI _ (lessT_goodI hw)).1
 have c2 := (detP_goodI _ (lessT_goodI hv)).1
 have n1 := hw.1
 have m1 := hv.1
 rw [show n.toNat - 1 + 1 = n.toNat by lia] at c1
 rw [show m.toNat - 1 + 1 = m.toNat by lia] at c2
 exact fromP_unit c1 c2 hu (by rw [det_DD n1 n5, det_DD m1 m5, h])
theorem clos_EL {n : Int} {w v : List Int} (hw : PlOK n w) (hv : PlOK n v) (n4 : n ≤ 4) {u : Lp} (hu : UnL u) (h : DD (n.toNat - 1) (EL n w) = u * DD (n.toNat - 1) (EL n v)) : closP n w = closP n v := by
 refine clos_unit hw hv (by lia) (by lia) hu (SR_cancel (n := n.toNat) (by have := hw.1; lia) ?_)
 rw [← EL_AL hw.1 n4 hw.2.2.2, h, EL_AL hv.1 n4 hv.2.2.2]
 grind
theorem clos_conj {n : Int} {u v : List Int} (h : PlOK n (u ++ v)) (h2 : PlOK n (v ++ u)) (n4 : n ≤ 4) : closP n (u ++ v) = closP n (v ++ u) := by
 have hu : WordOK n u := fun x hx => h.2.2.2 x (List.mem_append.mpr (.inl hx))
 have hv : WordOK n v := fun x hx => h.2.2.2 x (List.mem_append.mpr (.inr hx))
 refine clos_EL h h2 n4 .one ?_
 rw [DD_EL_conj h.1 n4 hu hv]; grind
theorem clos_rel {n : Int} {w v : List Int} (h : PlOK n w) (h2 : PlOK n v) (r : RelW n w v) : closP n w = closP n v := by
 unfold closP lessT
 rw [tab_rel r h.2.2.2 h2.2.2.2]
theorem EL_rel {n : Int} {w v : List Int} (h : RelW n w v) (hw : WordOK n w) (hv : WordOK n v) (m : Nat) (hm : m ≤ 4) : DD m (EL n w) = DD m (EL n v) := DD_congr hm fun i j _ _ => by unfold EL; rw [RL_rel h hw hv]
theorem clos_flip {n : Int} {w : List Int} (h : PlOK n w) (h2 : PlOK n (w.map (flipL n))) (n4 : n ≤ 4) : closP n (w.map (flipL n)) = closP n w := by
 by_cases c : 2 ≤ n
 · have ht := twF_ok c n4
   have hw := h.2.2.2
   have hf := h2.2.2.2
   have r := tw_rel c (by lia) ht hw
   have e1 : RelW n (twF n ++ (w ++ contrL (twF n))) (w.map (flipL n)) := by
     have a := r.rt ht.contr
     have b : RelW n (w.map (flipL n) ++ twF n ++ contrL (twF n)) (w.map (flipL n)) := by
       rw [List.append_assoc]
       have c := RelW.bk ht.contr
       rw [contrL_contr] at c
       have d := RelW.lf hf c
       rwa [List.append_nil] at d
     rw [← List.append_assoc]
     exact a.trans b
   have e2 : RelW n (w ++ contrL (twF n) ++ twF n) w := by
     rw [List.append_assoc]
     have d := RelW.lf hw (RelW.bk ht)
     rwa [List.append_nil] at d
   have k := DD_EL_conj h.1 n4 ht (hw.append ht.contr)
   rw [EL_rel e1 (ht.append (hw.append ht.contr)) hf _ (by lia), EL_rel e2 ((hw.append ht.contr).append ht) hw _ (by lia)] at k
   exact clos_EL h2 h n4 .one (by rw [k]; grind)
 · have : w = [] := by
     cases w with
     | nil => rfl
     | cons l w => have := h.2.2.2 l (.head _); have := this.1; have := (h.2.2.2 l (.head _)).2; lia
   subst this; rfl
noncomputable def letA : List (Int × Int) := [(2, 1), (3, 1), (3, 2), (4, 1), (4, 2), (4, 3)]
theorem letA_mem {n l : Int} (h : LetOK n l) (n4 : n ≤ 4) : (n, (l.natAbs : Int)) ∈ letA := by
 obtain ⟨a, b⟩ := h
 have hn : n = 2 ∨ n = 3 ∨ n = 4 := by lia
 generalize (l.natAbs : Int) = k at a b
 have hk : k = 1 ∨ k = 2 ∨ k = 3 := by lia
 rcases hn with rfl | rfl | rfl <;> rcases hk with rfl | rfl | rfl <;> first | decide | lia
theorem letA_det : ∀ x ∈ letA, (DD (x.1.toNat - 1) (RL x.1 [x.2])).1 = [(1, -1)] ∧ (DD (x.1.toNat - 1) (RL x.1 [-x.2])).1 = [(-1, -1)] := by decide +kernel
theorem det_letter {n l : Int} (h : LetOK n l) (n4 : n ≤ 4) : UnL (DD (n.toNat - 1) (RL n [l])) := by
 obtain ⟨a, b⟩ := letA_det _ (letA_mem h n4)
 dsimp only at a b
 by_cases c : 0 < l
 · rw [show (l.natAbs : Int) = l by lia] at a
   exact ⟨1, -1, .inr rfl, Subtype.ext (a.trans rfl)⟩
 · rw [show -(l.natAbs : Int) = l by lia] at b
   exact ⟨-1, -1, .inr rfl, Subtype.ext (b.trans rfl)⟩
theorem det_word {n : Int} (n1 : 1 ≤ n) (n4 : n ≤ 4) : ∀ {w : List Int}, WordOK n w → UnL (DD (n.toNat - 1) (RL n w))
 | [], _ => by rw [DD_RL_nil n1 n4]; exact .one
 | l :: w, hw => by
   have hl : WordOK n [l] := wordOK_one (hw l (.head _))
   have hw' : WordOK n w := fun x hx => hw x (.tail _ hx)
   rw [show l :: w = [l] ++ w from rfl, DD_RL_mul n1 n4 hl hw']
   exact (det_letter (hw l (.head _)) n4).mul (det_word n1 n4 hw')
theorem clos_contr {n : Int} {w : List Int} (h : PlOK n w) (h2 : PlOK n (contrL w)) (n4 : n ≤ 4) : closP n (contrL w) = closP n w :=
 clos_EL h2 h n4 ((UnL.sgN _).mul (det_word h.1 n4 h2.2.2.2)) (DD_EL_contr h.1 n4 h.2.2.2)
theorem letA_turn : ∀ x ∈ letA, ∀ i ∈ List.range x.1.toNat, ∀ j ∈ List.range x.1.toNat, (L2.tL i * BL x.1 [x.2] i j).1 = (L2.tL j * BL x.1 [x.2] j i).1 ∧ (L2.tL i * BL x.1 [-x.2] i j).1 = (L2.tL j * BL x.1 [-x.2] j i).1 := by decide +kernel
theorem turn_letter {n l : Int} (h : LetOK n l) (n4 : n ≤ 4) {i j : Nat} (hi : i < n.toNat) (hj : j < n.toNat) : L2.tL i * BL n [l] i j = L2.tL j * BL n [l] j i := by
 obtain ⟨a, b⟩ := letA_turn _ (letA_mem h n4) i (List.mem_range.mpr hi) j (List.mem_range.mpr hj)
 dsimp only at a b
 by_cases c : 0 < l
 · rw [show (l.natAbs : Int) = l by lia] at a; exact Subtype.ext a
 · rw [show -(l.natAbs : Int) = l by lia] at b; exact Subtype.ext b
theorem turn_word {n : Int} (n1 : 1 ≤ n) (n4 : n ≤ 4) : ∀ {w : List Int}, WordOK n w → ∀ {i j : Nat}, i < n.toNat → j < n.toNat → L2.tL i * BL n w.reverse i j = L2.tL j * BL n w j i
 | [], _, i, j, hi, hj => by
   show L2.tL i * BL n [] i j = _
   rw [BL_nil hi hj, BL_nil hj hi]
   by_cases c : i = j
   · rw [c]
   · rw [if_neg c, if_neg (fun z => c z.symm)]; grind
 | l :: w, hw, i, j, hi, hj => by
   have hl := hw l (.head _)
   have hl1 : WordOK n [l] := wordOK_one hl
   have hw' : WordOK n w := fun x hx => hw x (.tail _ hx)
   have hr : WordOK n w.reverse := fun x hx => hw' x (List.mem_reverse.mp hx)
   rw [List.reverse_cons, BL_mul hr hl1 hi hj, show l :: w = [l] ++ w from rfl, BL_mul hl1 hw' hj hi, ← SR_mul, ← SR_mul]
   refine SR_congr fun k hk => ?_
   have a := turn_word n1 n4 hw' hi hk
   have b := turn_letter hl n4 hk hj
   grind
theorem clos_turn {n : Int} {w : List Int} (h : PlOK n w) (h2 : PlOK n w.reverse) (n4 : n ≤ 4) : closP n w.reverse = closP n w := by
 refine clos_unit h2 h (by lia) (by lia) .one ?_
 have e : DD (n.toNat - 1) (AL1 n w.reverse) = DD (n.toNat - 1) (AL1 n w) := by
   refine (UnL.vP 1 (n.toNat - 1)).cancel (DD_scale (by lia) (fun i => L2.tL (i + 1)) _ _ fun i j hi hj => ?_)
   have := turn_word h.1 n4 h.2.2.2 (i := i + 1) (j := j + 1) (by lia) (by lia)
   unfold AL1
   by_cases c : i = j
   · subst c
     rw [if_pos rfl]; grind
   · rw [if_neg c, if_neg (fun z => c z.symm)]; grind
 rw [e]; grind
theorem mirror_contr (w : List Int) : w.map (fun l => -l) = contrL w.reverse := by
 unfold contrL
 rw [List.reverse_reverse]
theorem clos_mirror {n : Int} {w : List Int} (h : PlOK n w) (h2 : PlOK n (w.map fun l => -l)) (n4 : n ≤ 4) : closP n (w.map fun l => -l) = closP n w := by
 have hr : PlOK n w.reverse := ⟨h.1, h.2.1, by rw [List.length_reverse]; exact h.2.2.1, fun x hx => h.2.2.2 x (List.mem_reverse.mp hx)⟩
 rw [mirror_contr] at h2 ⊢
 rw [clos_contr hr h2 n4, clos_turn h hr n4]
end L2
namespace L2
open PySem PySem.Spec PyProof.Rows LM
theorem tab_rows {n : Int} {w : List Int} (hw : WordOK n w) {i : Nat} (hi : i < n.toNat) : ((tabP n w).getD i []).length = n.toNat := by
 have h := tabP_good hw
 refine (h.2 _ ?_).1
 rw [List.getD_eq_getElem?_getD, List.getElem?_eq_getElem (by rw [h.1]; exact hi)]; exact List.getElem_mem _
theorem BL_snoc {n : Int} {w : List Int} {l : Int} (hw : WordOK n w) (hl : LetOK n l) {k : Nat} (hk : l.natAbs = k + 1) {i : Nat} (hi : i < n.toNat) (j : Nat) : BL n (w ++ [l]) i j = if j = k then (if 0 < l then BL n w i k * toL lupP + BL n w i (k + 1) else BL n w i (k + 1) * toL downP) else if j = k + 1 then (if 0 < l then BL n w i k * toL upP else BL n w i k + BL n w i (k + 1) * toL ldownP) else BL n w i j := by
 have hr := tab_rows hw hi
 have h1 := (tabP_good hw).1
 have hkn : k + 1 < n.toNat := by obtain ⟨a, b⟩ := hl; lia
 unfold BL
 have e : (tabP n (w ++ [l])).getD i [] = wlP ((tabP n w).getD i []) l := by
   rw [tabP_snoc, List.getD_eq_getElem?_getD, List.getElem?_map, List.getElem?_eq_getElem (by lia : i < (tabP n w).length), List.getD_eq_getElem?_getD, List.getElem?_eq_getElem (by lia : i < (tabP n w).length)]; rfl
 rw [e]
 generalize (tabP n w).getD i [] = ps at hr
 rw [wlP_set hk (by rw [hr]; exact hkn), getD_set (by rw [List.length_set, hr]; exact hkn), getD_set (by rw [hr]; lia)]
 by_cases c1 : j = k
 · subst c1
   rw [if_neg (by lia), if_pos rfl, if_pos rfl]
   unfold wl1
   split
   · rw [toL_add, toL_mul]
   · rw [toL_mul]
 · rw [if_neg c1, if_neg c1]
   by_cases c2 : j = k + 1
   · rw [if_pos c2, if_pos c2]
     unfold wl2
     split
     · rw [toL_mul]
     · rw [toL_add, toL_mul]
   · rw [if_neg c2, if_neg c2]
theorem BL_far {n : Int} {w : List Int} (hw : WordOK n w) {i j : Nat} (hi : i < n.toNat) (hj : n.toNat ≤ j) : BL n w i j = 0 := by
 unfold BL
 rw [List.getD_eq_getElem?_getD (i := j), List.getElem?_eq_none (by rw [tab_rows hw hi]; exact hj)]
 exact zL_eq
theorem snoc_ind {P : List Int → Prop} (h0 : P []) (h1 : ∀ w l, P w → P (w ++ [l])) : ∀ w, P w := fun w => by
 have : ∀ k (w : List Int), w.length = k → P w := fun k => by
   induction k with
   | zero => intro w hw; obtain rfl := List.eq_nil_of_length_eq_zero hw; exact h0
   | succ k ih =>
     intro w hw
     have hne : w ≠ [] := fun z => by rw [z] at hw; cases hw
     obtain ⟨A, y, rfl⟩ := snoc_of hne
     exact h1 A y (ih A (by rw [List.length_append, List.length_singleton] at hw; lia))
 exact this _ w rfl
theorem BL_up {n : Int} (n1 : 1 ≤ n) {w : List Int} : WordOK n w → ∀ {i : Nat}, i < n.toNat → ∀ {j : Nat}, j ≤ n.toNat → BL (n + 1) w i j = BL n w i j := by
 refine snoc_ind (P := fun w => WordOK n w → ∀ {i : Nat}, i < n.toNat → ∀ {j : Nat}, j ≤ n.toNat → BL (n + 1) w i j = BL n w i j) (fun _ i hi j hj => ?_) (fun w l ih hw i hi j hj => ?_) w
 · rw [BL_nil (by lia) (by lia)]
   by_cases c : j < n.toNat
   · rw [BL_nil hi c]
   · rw [BL_far (fun _ z => absurd z List.not_mem_nil) hi (by lia), if_neg (by lia)]
 · have hw' : WordOK n w := fun x hx => hw x (List.mem_append.mpr (.inl hx))
   have hl : LetOK n l := hw l (List.mem_append.mpr (.inr (.head _)))
   have up : ∀ {x}, LetOK n x → LetOK (n + 1) x := fun z => ⟨z.1, by have := z.2; lia⟩
   obtain ⟨k, hk⟩ : ∃ k : Nat, l.natAbs = k + 1 := ⟨l.natAbs - 1, by have := hl.1; lia⟩
   have hkn : k + 1 < n.toNat := by have := hl.2; lia
   rw [BL_snoc (fun x hx => up (hw' x hx)) (up hl) hk (by lia), BL_snoc hw' hl hk hi, ih hw' hi (by lia : k ≤ n.toNat), ih hw' hi (by lia : k + 1 ≤ n.toNat), ih hw' hi hj]
theorem BL_new {n : Int} (n1 : 1 ≤ n) {w : List Int} : WordOK n w → ∀ {j : Nat}, j ≤ n.toNat → BL (n + 1) w n.toNat j = if j = n.toNat then 1 else 0 := by
 refine snoc_ind (P := fun w => WordOK n w → ∀ {j : Nat}, j ≤ n.toNat → BL (n + 1) w n.toNat j = if j = n.toNat then 1 else 0) (fun _ j hj => ?_) (fun w l ih hw j hj => ?_) w
 · rw [BL_nil (by lia) (by lia)]
   by_cases c : j = n.toNat
   · rw [if_pos c, if_pos c.symm]
   · rw [if_neg c, if_neg (fun z => c z.symm)]
 · have hw' : WordOK n w := fun x hx => hw x (List.mem_append.mpr (.inl hx))
   have hl : LetOK n l := hw l (List.mem_append.mpr (.inr (.head _)))
   have up : ∀ {x}, LetOK n x → LetOK (n + 1) x := fun z => ⟨z.1, by have := z.2; lia⟩
   obtain ⟨k, hk⟩ : ∃ k : Nat, l.natAbs = k + 1 := ⟨l.natAbs - 1, by have := hl.1; lia⟩
   have hkn : k + 1 < n.toNat := by have := hl.2; lia
   rw [BL_snoc (fun x hx => up (hw' x hx)) (up hl) hk (by lia), ih hw' (by lia : k ≤ n.toNat), ih hw' (by lia : k + 1 ≤ n.toNat), ih hw' hj, if_neg (by lia : ¬ k = n.toNat), if_neg (by lia : ¬ k + 1 = n.toNat)]
   by_cases c : j = k
   · rw [if_pos c, if_neg (by lia : ¬ j = n.toNat)]; split <;> grind
   · rw [if_neg c]
     by_cases c2 : j = k + 1
     · rw [if_pos c2, if_neg (by lia : ¬ j = n.toNat)]; split <;> grind
     · rw [if_neg c2]
theorem up_lup : toL lupP = 1 - toL upP := by
 have e : toL lupP = toL (addP [(0, 1)] [(1, -1)]) := rfl
 rw [e, toL_add]
 have e2 : toL [(1, -1)] = toL [(0, -1)] * toL upP := by rw [show upP = [(1, 1)] from rfl, mono_mul]; rfl
 rw [e2, show toL [(0, -1)] = (-1 : Lp) from sgU_neg1, show toL [(0, 1)] = (1 : Lp) from rfl]
 grind
theorem down_ldown : toL ldownP = 1 - toL downP := by
 have e : toL ldownP = toL (addP [(-1, -1)] [(0, 1)]) := rfl
 rw [e, toL_add]
 have e2 : toL [(-1, -1)] = toL [(0, -1)] * toL downP := by rw [show downP = [(-1, 1)] from rfl, mono_mul]; rfl
 rw [e2, show toL [(0, -1)] = (-1 : Lp) from sgU_neg1, show toL [(0, 1)] = (1 : Lp) from rfl]
 grind
theorem AL_more {n : Int} (n1 : 1 ≤ n) {w : List Int} (hw : WordOK n w) {l : Int} (hl : (l.natAbs : Int) = n) {i j : Nat} (hi : i < n.toNat) (hj : j < n.toNat) :
   AL1 (n + 1) (w ++ [l]) i j = if i + 1 < n.toNat then (if j + 1 < n.toNat - 1 then AL1 n w i j else if j + 1 = n.toNat - 1 then (if 0 < l then (if i = j then 1 else 0) - BL n w (i + 1) (j + 1) * (1 - toL upP) else (if i = j then 1 else 0)) else (if 0 < l then -(BL n w (i + 1) j * toL upP) else -BL n w (i + 1) j)) else (if j + 1 < n.toNat - 1 then 0 else if j + 1 = n.toNat - 1 then (if 0 < l then -1 else -toL downP) else (if 0 < l then 1 else toL downP)) := by
 have up : ∀ {x}, LetOK n x → LetOK (n + 1) x := fun z => ⟨z.1, by have := z.2; lia⟩
 have hwu : WordOK (n + 1) w := fun x hx => up (hw x hx)
 have hlu : LetOK (n + 1) l := ⟨by lia, by lia⟩
 obtain ⟨k, hk⟩ : ∃ k : Nat, l.natAbs = k + 1 := ⟨l.natAbs - 1, by lia⟩
 have hkn : k + 1 = n.toNat := by lia
 unfold AL1
 rw [BL_snoc hwu hlu hk (by lia : i + 1 < (n + 1).toNat), up_lup, down_ldown]
 by_cases c : i + 1 < n.toNat
 · rw [if_pos c, BL_up n1 hw c (by lia : k ≤ n.toNat), BL_up n1 hw c (by lia : k + 1 ≤ n.toNat), BL_up n1 hw c (by lia : j + 1 ≤ n.toNat), BL_far hw c (by lia : n.toNat ≤ k + 1)]
   by_cases c1 : j + 1 < n.toNat - 1
   · rw [if_pos c1, if_neg (by lia : ¬ j + 1 = k), if_neg (by lia : ¬ j + 1 = k + 1)]
   · rw [if_neg c1]
     by_cases c2 : j + 1 = n.toNat - 1
     · rw [if_pos c2, if_pos (by lia : j + 1 = k), show k = j + 1 by lia]
       split <;> grind
     · rw [if_neg c2, if_neg (by lia : ¬ j + 1 = k), if_pos (by lia : j + 1 = k + 1), if_neg (by lia : ¬ i = j), show k = j by lia]
       split <;> grind
 · have hin : i + 1 = n.toNat := by lia
   rw [if_neg c, hin, BL_new n1 hw (by lia : k ≤ n.toNat), BL_new n1 hw (by lia : k + 1 ≤ n.toNat), BL_new n1 hw (by lia : j + 1 ≤ n.toNat), if_neg (by lia : ¬ k = n.toNat), if_pos hkn]
   by_cases c1 : j + 1 < n.toNat - 1
   · rw [if_pos c1, if_neg (by lia : ¬ j + 1 = k), if_neg (by lia : ¬ j + 1 = k + 1), if_neg (by lia : ¬ i = j), if_neg (by lia : ¬ j + 1 = n.toNat)]; grind
   · rw [if_neg c1]
     by_cases c2 : j + 1 = n.toNat - 1
     · rw [if_pos c2, if_pos (by lia : j + 1 = k), if_neg (by lia : ¬ i = j)]
       split <;> grind
     · rw [if_neg c2, if_neg (by lia : ¬ j + 1 = k), if_pos (by lia : j + 1 = k + 1), if_pos (by lia : i = j)]
       split <;> grind
theorem D4_last {R : Type} [Lean.Grind.CommRing R] (a b c d e f g h i j k l m : R) : a * M3d f g h j k l 0 (-m) m - b * M3d e g h i k l 0 (-m) m + c * M3d e f h i j l 0 0 m - d * M3d e f g i j k 0 0 (-m) = m * M3d a b (c + d) e f (g + h) i j (k + l) := by
 unfold M3d; grind
theorem col_two (c : Prop) [Decidable c] (d b t : Lp) : (if c then d - b * (1 - t) else d) + (if c then -(b * t) else -b) = d - b := by split <;> grind
theorem D3_last {R : Type} [Lean.Grind.CommRing R] (a b c d e f m : R) : M3d a b c d e f 0 (-m) m = m * M2d a (b + c) d (e + f) := by
 unfold M3d M2d; grind
theorem D2_last {R : Type} [Lean.Grind.CommRing R] (a b m : R) : M2d a b (-m) m = m * (a + b) := by
 unfold M2d; grind
theorem DD_more_up {n : Int} (n1 : 1 ≤ n) (n4 : n ≤ 4) {w : List Int} (hw : WordOK n w) {l : Int} (hl : (l.natAbs : Int) = n) : DD n.toNat (AL1 (n + 1) (w ++ [l])) = (if 0 < l then 1 else toL downP) * DD (n.toNat - 1) (AL1 n w) := by
 have key := fun (i j : Nat) (hi : i < n.toNat) (hj : j < n.toNat) => AL_more n1 hw hl hi hj
 have p1 : ∀ i j, i + 1 < n.toNat → j + 2 < n.toNat → AL1 (n + 1) (w ++ [l]) i j = AL1 n w i j := fun i j hi hj => by
   rw [key i j (by lia) (by lia), if_pos hi, if_pos (show j + 1 < n.toNat - 1 by lia)]
 have p2 : ∀ i j, i + 1 < n.toNat → j + 2 = n.toNat → AL1 (n + 1) (w ++ [l]) i j + AL1 (n + 1) (w ++ [l]) i (j + 1) = AL1 n w i j := fun i j hi hj => by
   rw [key i j (by lia) (by lia), key i (j + 1) (by lia) (by lia), if_pos hi, if_pos hi, if_neg (show ¬ j + 1 < n.toNat - 1 by lia), if_pos (show j + 1 = n.toNat - 1 by lia), if_neg (show ¬ j + 1 + 1 < n.toNat - 1 by lia), if_neg (show ¬ j + 1 + 1 = n.toNat - 1 by lia), col_two]; rfl
 have p3 : ∀ i j, i + 1 = n.toNat → j + 2 < n.toNat → AL1 (n + 1) (w ++ [l]) i j = 0 := fun i j hi hj => by
   rw [key i j (by lia) (by lia), if_neg (show ¬ i + 1 < n.toNat by lia), if_pos (show j + 1 < n.toNat - 1 by lia)]
 have p5 : ∀ i j, i + 1 = n.toNat → j + 1 = n.toNat → AL1 (n + 1) (w ++ [l]) i j = if 0 < l then 1 else toL downP := fun i j hi hj => by
   rw [key i j (by lia) (by lia), if_neg (show ¬ i + 1 < n.toNat by lia), if_neg (show ¬ j + 1 < n.toNat - 1 by lia), if_neg (show ¬ j + 1 = n.toNat - 1 by lia)]
 have p4 : ∀ i j, i + 1 = n.toNat → j + 2 = n.toNat → AL1 (n + 1) (w ++ [l]) i j = -(if 0 < l then 1 else toL downP) := fun i j hi hj => by
   rw [key i j (by lia) (by lia), if_neg (show ¬ i + 1 < n.toNat by lia), if_neg (show ¬ j + 1 < n.toNat - 1 by lia), if_pos (show j + 1 = n.toNat - 1 by lia)]
   split <;> rfl
 clear key
 generalize (if 0 < l then (1 : Lp) else toL downP) = d at p4 p5 ⊢
 generalize AL1 (n + 1) (w ++ [l]) = A at p1 p2 p3 p4 p5 ⊢
 generalize AL1 n w = B at p1 p2 ⊢
 have hn : n = 1 ∨ n = 2 ∨ n = 3 ∨ n = 4 := by lia
 rcases hn with rfl | rfl | rfl | rfl
 · show A 0 0 = _ * 1
   rw [p5 0 0 rfl rfl]; grind
 · show M2d (A 0 0) (A 0 1) (A 1 0) (A 1 1) = _ * B 0 0
   rw [p5 1 1 rfl rfl, p4 1 0 rfl rfl, D2_last, p2 0 0 (by decide) rfl]
 · show M3d (A 0 0) (A 0 1) (A 0 2) (A 1 0) (A 1 1) (A 1 2) (A 2 0) (A 2 1) (A 2 2) = _ * M2d (B 0 0) (B 0 1) (B 1 0) (B 1 1)
   rw [p5 2 2 rfl rfl, p4 2 1 rfl rfl, p3 2 0 rfl (by decide), D3_last, p2 0 1 (by decide) rfl, p2 1 1 (by decide) rfl, p1 0 0 (by decide) (by decide), p1 1 0 (by decide) (by decide)]
 · show D4 A = _ * M3d (B 0 0) (B 0 1) (B 0 2) (B 1 0) (B 1 1) (B 1 2) (B 2 0) (B 2 1) (B 2 2)
   unfold D4
   rw [p5 3 3 rfl rfl, p4 3 2 rfl rfl, p3 3 0 rfl (by decide), p3 3 1 rfl (by decide), D4_last, p2 0 2 (by decide) rfl, p2 1 2 (by decide) rfl, p2 2 2 (by decide) rfl, p1 0 0 (by decide) (by decide), p1 1 0 (by decide) (by decide), p1 2 0 (by decide) (by decide), p1 0 1 (by decide) (by decide), p1 1 1 (by decide) (by decide), p1 2 1 (by decide) (by decide)]
theorem clos_more {n : Int} {w : List Int} (h : PlOK n w) (n4 : n ≤ 4) {l : Int} (hl : (l.natAbs : Int) = n) (h2 : PlOK (n + 1) (w ++ [l])) : closP (n + 1) (w ++ [l]) = closP n w := by
 refine clos_unit h2 h (by lia) (by lia) (u := if 0 < l then 1 else toL downP) ?_ ?_
 · split
   · exact .one
   · exact ⟨-1, 1, .inl rfl, rfl⟩
 · rw [show (n + 1).toNat - 1 = n.toNat by have := h.1; lia]
   exact DD_more_up h.1 n4 h.2.2.2 hl
end L2
namespace L2
open PySem PySem.Spec PyProof.Rows LM
local macro_rules | `(tactic| walk_at "rd") => `(tactic| (try simp only [ rSum3, tRet3, tChain3, tCB3, tCons3, tNil3, tVar3, tK, tOp3, tUn3, tSeq3, tSet3, tNext3, tIfS3, tDrop3, tAsg3, tTest3, tTru3, tNot3, tAnd3, tOr3, tIf3, tComp3, tTup3, tLst3, tCall3, tLM3, tLRng1, tLRng2, tGet3, isDic, tDicE, tDGK, sDPK, tYes3,
 gName3, gCons3, gNil3, gTup3, gSub3, strsT_map, tSl3, tNo3, tPt3, iSeq3, rDictP, rSortedD, iRevA, iEnum, iRng1_3, iRng2_3, iRng3_3, rAdd3, rSub3, rMul3, rDiv3, rMod3, rPow3, rInt, rNeg3, rIx3, rLen3, rAbs3, rTuple3, rAll3, rApp3, rLt3, rLe3, rGt3, rGe3, rCmp3, rEq3, rNe3, rEqv, truT, isLst,
 start3_cons, start3_none, start3_nil, pick3_none, pick3_some, pick3_nil, join_some, List.getElem?_cons_zero, List.getElem?_cons_succ, List.set_cons_zero, List.set_cons_succ, List.length_cons, List.length_nil, List.map_nil, List.isEmpty_cons, List.isEmpty_nil, updM_same, updM_updM, atI_0, atI_1, atI_2, ixN_0, bools_map, intsT_map,
 pureT_int, pureT_bl, pureT_tup, pureTs_cons, pureTs_nil, pureTs_ints, depT_int, depT_bl, depT_tup, depTs_cons, depTs_nil, depTs_ints, eqT_tup, eqT_int, eqTs_cons, eqTs_nil, eqTs_ints, id, Bool.not_true, Bool.not_false, Bool.and_true, Bool.true_and, Bool.or_false, Bool.false_or,
 decide_eq_true_eq, Bool.not_eq_true', decide_eq_false_iff_not, Bool.false_eq_true, ↓reduceIte, if_true, if_false, true_and, and_true, and_self, Nat.zero_le, not_true_eq_false, not_false_eq_true, List.length_map, List.length_append, List.length_singleton]))
noncomputable abbrev top (i : Nat) : Stmt := PySem.Challenge.pw_loopwright_k88_whole_moves_keep_the_sum.main.body.getD i (.Pass ⟨0, 0, 0, 0⟩)
noncomputable abbrev s_is_letter : Stmt := top 6
noncomputable abbrev s_is_word : Stmt := top 7
noncomputable abbrev s_is_plait : Stmt := top 8
noncomputable abbrev s_looked : Stmt := top 9
noncomputable abbrev s_contrary : Stmt := top 10
noncomputable abbrev s_turned : Stmt := top 11
noncomputable abbrev s_mirrored : Stmt := top 12
noncomputable abbrev s_flipped_letter : Stmt := top 13
noncomputable abbrev s_flipped : Stmt := top 14
noncomputable abbrev s_without_noughts : Stmt := top 19
noncomputable abbrev s_added : Stmt := top 20
noncomputable abbrev s_multiplied : Stmt := top 21
noncomputable abbrev s_one_where_same : Stmt := top 27
noncomputable abbrev s_with_letter : Stmt := top 28
noncomputable abbrev s_table_of : Stmt := top 29
noncomputable abbrev s_determinant : Stmt := top 30
noncomputable abbrev s_from_nought : Stmt := top 31
noncomputable abbrev s_closed_sum : Stmt := top 32
noncomputable abbrev s_closed_weight : Stmt := top 33
noncomputable abbrev s__law_cell_at : Stmt := top 35
noncomputable abbrev s__law_state : Stmt := top 36
noncomputable abbrev s__law_choice : Stmt := top 37
noncomputable abbrev s__law_word : Stmt := top 38
noncomputable abbrev s__law_plait : Stmt := top 39
noncomputable abbrev s__law_stepped : Stmt := top 40
noncomputable abbrev s__law_led : Stmt := top 41
noncomputable abbrev s_law : Stmt := top 42
theorem sc_is_letter : FnScope ["strands", "letter"] ["strands", "letter"] (defScope s_is_letter) := ⟨rfl, rfl, rfl, by decide +kernel, rfl, by decide +kernel, by decide +kernel⟩
theorem sc_is_word : FnScope ["strands", "word", "most"] ["strands", "word", "most"] (defScope s_is_word) := ⟨rfl, rfl, rfl, by decide +kernel, rfl, by decide +kernel, by decide +kernel⟩
theorem sc_is_plait : FnScope ["plait"] ["plait"] (defScope s_is_plait) := ⟨rfl, rfl, rfl, by decide +kernel, rfl, by decide +kernel, by decide +kernel⟩
theorem sc_looked : FnScope ["plait"] ["plait"] (defScope s_looked) := ⟨rfl, rfl, rfl, by decide +kernel, rfl, by decide +kernel, by decide +kernel⟩
theorem sc_contrary : FnScope ["word"] ["word"] (defScope s_contrary) := ⟨rfl, rfl, rfl, by decide +kernel, rfl, by decide +kernel, by decide +kernel⟩
theorem sc_turned : FnScope ["plait"] ["plait"] (defScope s_turned) := ⟨rfl, rfl, rfl, by decide +kernel, rfl, by decide +kernel, by decide +kernel⟩
theorem sc_mirrored : FnScope ["plait"] ["plait"] (defScope s_mirrored) := ⟨rfl, rfl, rfl, by decide +kernel, rfl, by decide +kernel, by decide +kernel⟩
theorem sc_flipped_letter : FnScope ["strands", "letter"] ["strands", "letter"] (defScope s_flipped_letter) := ⟨rfl, rfl, rfl, by decide +kernel, rfl, by decide +kernel, by decide +kernel⟩
theorem sc_flipped : FnScope ["plait", "strands"] ["plait"] (defScope s_flipped) := ⟨rfl, rfl, rfl, by decide +kernel, rfl, by decide +kernel, by decide +kernel⟩
theorem sc_without_noughts : FnScope ["counts"] ["counts"] (defScope s_without_noughts) := ⟨rfl, rfl, rfl, by decide +kernel, rfl, by decide +kernel, by decide +kernel⟩
theorem sc_added : FnScope ["one", "other", "counts", "power", "count"] ["one", "other"] (defScope s_added) := ⟨rfl, rfl, rfl, by decide +kernel, rfl, by decide +kernel, by decide +kernel⟩
theorem sc_multiplied : FnScope ["one", "other", "counts", "power", "count", "other_power", "other_count", "both"] ["one", "other"] (defScope s_multiplied) := ⟨rfl, rfl, rfl, by decide +kernel, rfl, by decide +kernel, by decide +kernel⟩
theorem sc_one_where_same : FnScope ["row", "column"] ["row", "column"] (defScope s_one_where_same) := ⟨rfl, rfl, rfl, by decide +kernel, rfl, by decide +kernel, by decide +kernel⟩
theorem sc_with_letter : FnScope ["row", "letter", "at", "left", "right", "pair"] ["row", "letter"] (defScope s_with_letter) := ⟨rfl, rfl, rfl, by decide +kernel, rfl, by decide +kernel, by decide +kernel⟩
theorem sc_table_of : FnScope ["plait", "places", "rows", "letter"] ["plait"] (defScope s_table_of) := ⟨rfl, rfl, rfl, by decide +kernel, rfl, by decide +kernel, by decide +kernel⟩
theorem sc_determinant : FnScope ["rows", "whole", "sign", "column", "here", "rest"] ["rows"] (defScope s_determinant) := ⟨rfl, rfl, rfl, by decide +kernel, rfl, by decide +kernel, by decide +kernel⟩
theorem sc_from_nought : FnScope ["whole", "least", "sign"] ["whole"] (defScope s_from_nought) := ⟨rfl, rfl, rfl, by decide +kernel, rfl, by decide +kernel, by decide +kernel⟩
theorem sc_closed_sum : FnScope ["plait", "table", "places", "rows", "row"] ["plait"] (defScope s_closed_sum) := ⟨rfl, rfl, rfl, by decide +kernel, rfl, by decide +kernel, by decide +kernel⟩
theorem sc_closed_weight : FnScope ["plait"] ["plait"] (defScope s_closed_weight) := ⟨rfl, rfl, rfl, by decide +kernel, rfl, by decide +kernel, by decide +kernel⟩
theorem sc__law_cell_at : FnScope ["script", "k"] ["script", "k"] (defScope s__law_cell_at) := ⟨rfl, rfl, rfl, by decide +kernel, rfl, by decide +kernel, by decide +kernel⟩
theorem sc__law_state : FnScope ["script", "k", "cell"] ["script", "k"] (defScope s__law_state) := ⟨rfl, rfl, rfl, by decide +kernel, rfl, by decide +kernel, by decide +kernel⟩
theorem sc__law_choice : FnScope ["state", "many", "found", "mixed"] ["state", "many"] (defScope s__law_choice) := ⟨rfl, rfl, rfl, by decide +kernel, rfl, by decide +kernel, by decide +kernel⟩
theorem sc__law_word : FnScope ["state", "strands", "count"] ["state", "strands", "count"] (defScope s__law_word) := ⟨rfl, rfl, rfl, by decide +kernel, rfl, by decide +kernel, by decide +kernel⟩
theorem sc__law_plait : FnScope ["state", "least", "most", "letters", "strands"] ["state", "least", "most", "letters"] (defScope s__law_plait) := ⟨rfl, rfl, rfl, by decide +kernel, rfl, by decide +kernel, by decide +kernel⟩
theorem sc__law_stepped : FnScope ["state", "strands", "word", "kind", "at", "letter", "places", "count", "row"] ["state", "strands", "word"] (defScope s__law_stepped) := ⟨rfl, rfl, rfl, by decide +kernel, rfl, by decide +kernel, by decide +kernel⟩
theorem sc__law_led : FnScope ["state", "strands", "word", "steps", "most", "k", "more"] ["state", "strands", "word", "steps", "most"] (defScope s__law_led) := ⟨rfl, rfl, rfl, by decide +kernel, rfl, by decide +kernel, by decide +kernel⟩
theorem sc_law : FnScope ["script", "state", "strands", "word", "plait", "due", "more", "some", "one"] ["script"] (defScope s_law) := ⟨rfl, rfl, rfl, by decide +kernel, rfl, by decide +kernel, by decide +kernel⟩
structure Zs (K : PySem.W.Frag) (mg : Str → Option Value) : Prop where
 b_abs : mg "abs" = none
 b_all : mg "all" = none
 b_dict : mg "dict" = none
 b_enumerate : mg "enumerate" = none
 b_len : mg "len" = none
 b_list : mg "list" = none
 b_range : mg "range" = none
 b_reversed : mg "reversed" = none
 b_sorted : mg "sorted" = none
 b_sum : mg "sum" = none
 b_tuple : mg "tuple" = none
 c_DOWN : ∃ u : Addr, mg "DOWN" = some (.ref u) ∧ ∀ H, Rep K H (.ref u) (.tup [.tup [.int (-1), .int (1)]])
 c_LESS_DOWN : ∃ u : Addr, mg "LESS_DOWN" = some (.ref u) ∧ ∀ H, Rep K H (.ref u) (.tup [.tup [.int (-1), .int (-1)], .tup [.int (0), .int (1)]])
 c_LESS_ONE : ∃ u : Addr, mg "LESS_ONE" = some (.ref u) ∧ ∀ H, Rep K H (.ref u) (.tup [.tup [.int (0), .int (-1)]])
 c_LESS_UP : ∃ u : Addr, mg "LESS_UP" = some (.ref u) ∧ ∀ H, Rep K H (.ref u) (.tup [.tup [.int (0), .int (1)], .tup [.int (1), .int (-1)]])
 c_MOST_LETTERS : ∃ tk, mg "MOST_LETTERS" = some (.int 16 tk)
 c_MOST_STRANDS : ∃ tk, mg "MOST_STRANDS" = some (.int 6 tk)
 c_NOUGHT : ∃ u : Addr, mg "NOUGHT" = some (.ref u) ∧ ∀ H, Rep K H (.ref u) (.tup [])
 c_ONE : ∃ u : Addr, mg "ONE" = some (.ref u) ∧ ∀ H, Rep K H (.ref u) (.tup [.tup [.int (0), .int (1)]])
 c_UP : ∃ u : Addr, mg "UP" = some (.ref u) ∧ ∀ H, Rep K H (.ref u) (.tup [.tup [.int (1), .int (1)]])
noncomputable def sp_is_letter : Sp3 := fun ts M Q => match ts with
 | [.int n, .int l] => Q (.bl (isLet n l)) M
 | _ => False
theorem ok_is_letter {P : Program} {w : World} {K : PySem.W.Frag} {mg : Str → Option Value} {base : Heap} {f : Addr} {fd : FuncData} {n : Nat}  (F : Fun K "is_letter" "is_letter" s_is_letter f fd) (hm : mg "is_letter" = some (.ref f)) (hb : Binds K fd ["strands", "letter"] []) (Z : Zs K mg)  : Df P w K mg base (n + 1) "is_letter" ["strands", "letter"] sp_is_letter := by
 refine F.dfn hm hb sc_is_letter (by intro ts M Q h; unfold sp_is_letter at h; first | (split at h <;> first | rfl | exact h.elim) | (obtain ⟨_, _, _, _, _, rfl, _⟩ := h; rfl) | (obtain ⟨_, _, _, _, rfl, _⟩ := h; rfl) | (obtain ⟨_, _, _, rfl, _⟩ := h; rfl) | (obtain ⟨_, _, rfl, _⟩ := h; rfl) | (obtain ⟨_, rfl, _⟩ := h; rfl)) ⟨_, fun cdv A outer s H E hr => (ss_one (s_ret (h_chain op3_le op3_lt h_int (h_callB call3_abs Z.b_abs PyProof.Rows.boot_abs (a_cons (hv 1) a_nil)) (hv 0)))), fun ts M Q h => ?_⟩
 unfold sp_is_letter isLet at h
 split at h
 · rename_i n l
   walk_at "rd"
   refine ite2 (fun c => rt3_here ?_) (fun c => rt3_here ?_)
   · simpa [show 1 ≤ l.natAbs by lia] using h
   · simpa [show ¬ 1 ≤ l.natAbs by lia] using h
 · exact h.elim
noncomputable def sp_is_word : Sp3 := fun ts M Q => match ts with
 | [.int n, .tup w, .int k] => ∃ ws : List Int, w = ws.map .int ∧ ws.length < 10000 ∧ Q (.bl (isWd n ws k)) M
 | _ => False
theorem ok_is_word {P : Program} {w : World} {K : PySem.W.Frag} {mg : Str → Option Value} {base : Heap} {f : Addr} {fd : FuncData} {n : Nat}  (F : Fun K "is_word" "is_word" s_is_word f fd) (hm : mg "is_word" = some (.ref f)) (hb : Binds K fd ["strands", "word", "most"] []) (Z : Zs K mg) (D_is_letter : Df P w K mg base n "is_letter" ["strands", "letter"] sp_is_letter) : Df P w K mg base (n + 1) "is_word" ["strands", "word", "most"] sp_is_word := by
 obtain ⟨tk_MOST_STRANDS, c_MOST_STRANDS⟩ := Z.c_MOST_STRANDS
 refine F.dfn hm hb sc_is_word (by intro ts M Q h; unfold sp_is_word at h; first | (split at h <;> first | rfl | exact h.elim) | (obtain ⟨_, _, _, _, _, rfl, _⟩ := h; rfl) | (obtain ⟨_, _, _, _, rfl, _⟩ := h; rfl) | (obtain ⟨_, _, _, rfl, _⟩ := h; rfl) | (obtain ⟨_, _, rfl, _⟩ := h; rfl) | (obtain ⟨_, rfl, _⟩ := h; rfl)) ⟨_, fun cdv A outer s H E hr => (ss_cons (s_if (HW.ht (w_or (h_not (h_tchain op3_le op3_le h_int (hv 0) (h_globI c_MOST_STRANDS))) (w_or1 (h_tcmp op3_gt (h_callB call3_len Z.b_len PySem.boot_len (a_cons (hv 1) a_nil)) (hv 2) (nomark _))))) (ss_one (s_ret h_bl)) ss_nil) (ss_one (s_ret (h_callB (call3_all rfl) Z.b_all PyProof.Rows.boot_all (a_cons (h_comp rfl (i_seq (hv 1)) (blk_scope (outer := defScope s_is_word) (N := ["strands", "word", "most"]) (N' := ["letter", "strands"]) (ix := [none, some 0]) (by decide +kernel) rfl rfl) bt_name (fun _ _ _ _ _ => pg_name (i := 0) (show List.Nodup (["letter", "strands"] : List Str) by decide +kernel) rfl (Or.inl rfl) (Or.inr rfl)) (fun _ _ _ _ _ => ts_nil) (fun _ _ _ _ _ => (h_call D_is_letter hr (a_cons (hv 1) (a_cons (hv 0) a_nil))))) a_nil))))), fun ts M Q h => ?_⟩
 unfold sp_is_word at h
 split at h
 · rename_i n w k
   obtain ⟨ws, rfl, hl, h⟩ := h
   unfold isWd at h
   walk_at "rd"
   refine ite2 (fun c1 => ite2 (fun c2 => ?_) fun c2 => ite2 (fun c3 => ?_) fun c3 => ?_) fun c1 => ?_
   · rw [decide_eq_false c2, Bool.and_false, Bool.false_and] at h
     exact rt3_here h
   · rw [decide_eq_false (show ¬ (ws.length : Int) ≤ k by lia), Bool.and_false, Bool.false_and] at h
     exact rt3_here h
   · rw [decide_eq_true c1, decide_eq_true (show n ≤ 6 by lia), decide_eq_true (show (ws.length : Int) ≤ k by lia)] at h
     refine ⟨fun i ys M' => ys = ((ws.take i).map (isLet n)).map T.bl ∧ M' = M, ⟨rfl, rfl⟩, fun _ _ _ _ => trivial, Nat.lt_of_le_of_lt (by lia : ws.length ≤ 10000) (by decide), ?_, ?_⟩
     · rintro i x ys M' hx ⟨rfl, rfl⟩
       obtain ⟨l, hl', rfl⟩ := get_map_int hx
       unfold sp_is_letter
       refine ⟨?_, rfl⟩
       rw [← take_succ_map (isLet n) hl', List.map_append]; rfl
     · rintro ys M' ⟨rfl, rfl⟩ p hp
       rw [List.take_length, bools_map]
       refine rt3_sub (M0 := M') ?_ (Sub.new hp)
       rw [List.all_map]
       exact h
   · rw [decide_eq_false c1, Bool.false_and, Bool.false_and, Bool.false_and] at h
     exact rt3_here h
 · exact h.elim
noncomputable def sp_is_plait : Sp3 := fun ts M Q => match ts with
 | [.tup [.int n, .tup w]] => ∃ ws : List Int, w = ws.map .int ∧ ws.length < 10000 ∧ Q (.bl (isPl n ws)) M
 | _ => False
theorem ok_is_plait {P : Program} {w : World} {K : PySem.W.Frag} {mg : Str → Option Value} {base : Heap} {f : Addr} {fd : FuncData} {n : Nat}  (F : Fun K "is_plait" "is_plait" s_is_plait f fd) (hm : mg "is_plait" = some (.ref f)) (hb : Binds K fd ["plait"] []) (Z : Zs K mg) (D_is_word : Df P w K mg base n "is_word" ["strands", "word", "most"] sp_is_word) : Df P w K mg base (n + 1) "is_plait" ["plait"] sp_is_plait := by
 obtain ⟨tk_MOST_LETTERS, c_MOST_LETTERS⟩ := Z.c_MOST_LETTERS
 refine F.dfn hm hb sc_is_plait (by intro ts M Q h; unfold sp_is_plait at h; first | (split at h <;> first | rfl | exact h.elim) | (obtain ⟨_, _, _, _, _, rfl, _⟩ := h; rfl) | (obtain ⟨_, _, _, _, rfl, _⟩ := h; rfl) | (obtain ⟨_, _, _, rfl, _⟩ := h; rfl) | (obtain ⟨_, _, rfl, _⟩ := h; rfl) | (obtain ⟨_, rfl, _⟩ := h; rfl)) ⟨_, fun cdv A outer s H E hr => (ss_one (s_ret (h_call D_is_word hr (a_cons (h_ix (hv 0) h_int) (a_cons (h_ix (hv 0) h_int) (a_cons (h_globI c_MOST_LETTERS) a_nil)))))), fun ts M Q h => ?_⟩
 unfold sp_is_plait at h
 split at h
 · rename_i n w
   obtain ⟨ws, rfl, hl, h⟩ := h
   walk_at "rd"
   refine ⟨ws, rfl, hl, ?_⟩
   rw [isWd_16]
   exact rt3_here h
 · exact h.elim
noncomputable def sp_looked : Sp3 := fun ts M Q => match ts with
 | [.tup [.int n, .tup w]] => ∃ ws : List Int, w = ws.map .int ∧ PlOK n ws ∧ Q (.int ws.length) M
 | _ => False
theorem ok_looked {P : Program} {w : World} {K : PySem.W.Frag} {mg : Str → Option Value} {base : Heap} {f : Addr} {fd : FuncData} {n : Nat}  (F : Fun K "looked" "looked" s_looked f fd) (hm : mg "looked" = some (.ref f)) (hb : Binds K fd ["plait"] []) (Z : Zs K mg) (D_is_plait : Df P w K mg base n "is_plait" ["plait"] sp_is_plait) : Df P w K mg base (n + 1) "looked" ["plait"] sp_looked := by
 refine F.dfn hm hb sc_looked (by intro ts M Q h; unfold sp_looked at h; first | (split at h <;> first | rfl | exact h.elim) | (obtain ⟨_, _, _, _, _, rfl, _⟩ := h; rfl) | (obtain ⟨_, _, _, _, rfl, _⟩ := h; rfl) | (obtain ⟨_, _, _, rfl, _⟩ := h; rfl) | (obtain ⟨_, _, rfl, _⟩ := h; rfl) | (obtain ⟨_, rfl, _⟩ := h; rfl)) ⟨_, fun cdv A outer s H E hr => (ss_cons (s_if (h_not (h_truth (h_call D_is_plait hr (a_cons (hv 0) a_nil)))) (ss_one s_never) ss_nil) (ss_one (s_ret (h_callB call3_len Z.b_len PySem.boot_len (a_cons (h_ix (hv 0) h_int) a_nil))))), fun ts M Q h => ?_⟩
 unfold sp_looked at h
 split at h
 · rename_i n w
   obtain ⟨ws, rfl, ok, h⟩ := h
   walk_at "rd"
   refine ⟨ws, rfl, by have := ok.2.2.1; lia, ?_⟩
   rw [ok.is]
   walk_at "rd"
   exact rt3_here (M := M) h
 · exact h.elim
noncomputable def sp_contrary : Sp3 := fun ts M Q => match ts with
 | [.tup w] => ∃ ws : List Int, w = ws.map .int ∧ ws.length < 10000 ∧ Q (.tup ((contrL ws).map .int)) M
 | _ => False
theorem ok_contrary {P : Program} {w : World} {K : PySem.W.Frag} {mg : Str → Option Value} {base : Heap} {f : Addr} {fd : FuncData} {n : Nat}  (F : Fun K "contrary" "contrary" s_contrary f fd) (hm : mg "contrary" = some (.ref f)) (hb : Binds K fd ["word"] []) (Z : Zs K mg)  : Df P w K mg base (n + 1) "contrary" ["word"] sp_contrary := by
 refine F.dfn hm hb sc_contrary (by intro ts M Q h; unfold sp_contrary at h; first | (split at h <;> first | rfl | exact h.elim) | (obtain ⟨_, _, _, _, _, rfl, _⟩ := h; rfl) | (obtain ⟨_, _, _, _, rfl, _⟩ := h; rfl) | (obtain ⟨_, _, _, rfl, _⟩ := h; rfl) | (obtain ⟨_, _, rfl, _⟩ := h; rfl) | (obtain ⟨_, rfl, _⟩ := h; rfl)) ⟨_, fun cdv A outer s H E hr => (ss_one (s_ret (h_callT call3_tuple Z.b_tuple PyProof.Rows.boot_tuple (a_cons (h_comp rfl (i_reversedA Z.b_reversed (hv 0)) (blk_scope (outer := defScope s_contrary) (N := ["word"]) (N' := ["letter"]) (ix := [none]) (by decide +kernel) rfl rfl) bt_name (fun _ _ _ _ _ => pg_name (i := 0) (show List.Nodup (["letter"] : List Str) by decide +kernel) rfl (Or.inl rfl) (Or.inr rfl)) (fun _ _ _ _ _ => ts_nil) (fun _ _ _ _ _ => (h_un un3_neg (hv 0)))) a_nil)))), fun ts M Q h => ?_⟩
 unfold sp_contrary at h
 split at h
 · rename_i w
   obtain ⟨ws, rfl, hl, h⟩ := h
   walk_at "rd"
   refine ⟨fun i ys M' => ys = ((ws.reverse.take i).map (fun l => -l)).map T.int ∧ M' = M, ⟨rfl, rfl⟩, fun _ _ _ _ => trivial, ?_, ?_, ?_⟩
   · rw [List.length_reverse, List.length_map]; exact Nat.lt_of_le_of_lt (by lia : ws.length ≤ 10000) (by decide)
   · rintro i x ys M' hx ⟨rfl, rfl⟩
     rw [← List.map_reverse] at hx
     obtain ⟨l, hl', rfl⟩ := get_map_int hx
     walk_at "rd"
     rw [← take_succ_map (fun l : Int => -l) hl', List.map_append]; rfl
   · rintro ys M' ⟨rfl, rfl⟩ p hp
     rw [← List.map_reverse, List.length_map, List.take_length]
     exact rt3_sub (M0 := M') h (Sub.new hp)
 · exact h.elim
noncomputable def sp_turned : Sp3 := fun ts M Q => match ts with
 | [.tup [.int n, .tup w]] => ∃ ws : List Int, w = ws.map .int ∧ PlOK n ws ∧ Q (.tup [.int n, .tup ((contrL ws).map .int)]) M
 | _ => False
theorem ok_turned {P : Program} {w : World} {K : PySem.W.Frag} {mg : Str → Option Value} {base : Heap} {f : Addr} {fd : FuncData} {n : Nat}  (F : Fun K "turned" "turned" s_turned f fd) (hm : mg "turned" = some (.ref f)) (hb : Binds K fd ["plait"] []) (Z : Zs K mg) (D_looked : Df P w K mg base n "looked" ["plait"] sp_looked) (D_contrary : Df P w K mg base n "contrary" ["word"] sp_contrary) : Df P w K mg base (n + 1) "turned" ["plait"] sp_turned := by
 refine F.dfn hm hb sc_turned (by intro ts M Q h; unfold sp_turned at h; first | (split at h <;> first | rfl | exact h.elim) | (obtain ⟨_, _, _, _, _, rfl, _⟩ := h; rfl) | (obtain ⟨_, _, _, _, rfl, _⟩ := h; rfl) | (obtain ⟨_, _, _, rfl, _⟩ := h; rfl) | (obtain ⟨_, _, rfl, _⟩ := h; rfl) | (obtain ⟨_, rfl, _⟩ := h; rfl)) ⟨_, fun cdv A outer s H E hr => (ss_cons (s_expr (h_call D_looked hr (a_cons (hv 0) a_nil))) (ss_one (s_ret (h_tup (a_cons (h_ix (hv 0) h_int) (a_cons (h_call D_contrary hr (a_cons (h_ix (hv 0) h_int) a_nil)) a_nil)))))), fun ts M Q h => ?_⟩
 unfold sp_turned at h
 split at h
 · rename_i n w
   obtain ⟨ws, rfl, ok, h⟩ := h
   walk_at "rd"
   refine ⟨ws, rfl, ok, ?_⟩
   walk_at "rd"
   refine ⟨ws, rfl, by have := ok.2.2.1; lia, ?_⟩
   walk_at "rd"
   exact ⟨by decide, rt3_here h⟩
 · exact h.elim
noncomputable def sp_mirrored : Sp3 := fun ts M Q => match ts with
 | [.tup [.int n, .tup w]] => ∃ ws : List Int, w = ws.map .int ∧ PlOK n ws ∧ Q (.tup [.int n, .tup ((ws.map fun l => -l).map .int)]) M
 | _ => False
theorem ok_mirrored {P : Program} {w : World} {K : PySem.W.Frag} {mg : Str → Option Value} {base : Heap} {f : Addr} {fd : FuncData} {n : Nat}  (F : Fun K "mirrored" "mirrored" s_mirrored f fd) (hm : mg "mirrored" = some (.ref f)) (hb : Binds K fd ["plait"] []) (Z : Zs K mg) (D_looked : Df P w K mg base n "looked" ["plait"] sp_looked) : Df P w K mg base (n + 1) "mirrored" ["plait"] sp_mirrored := by
 refine F.dfn hm hb sc_mirrored (by intro ts M Q h; unfold sp_mirrored at h; first | (split at h <;> first | rfl | exact h.elim) | (obtain ⟨_, _, _, _, _, rfl, _⟩ := h; rfl) | (obtain ⟨_, _, _, _, rfl, _⟩ := h; rfl) | (obtain ⟨_, _, _, rfl, _⟩ := h; rfl) | (obtain ⟨_, _, rfl, _⟩ := h; rfl) | (obtain ⟨_, rfl, _⟩ := h; rfl)) ⟨_, fun cdv A outer s H E hr => (ss_cons (s_expr (h_call D_looked hr (a_cons (hv 0) a_nil))) (ss_one (s_ret (h_tup (a_cons (h_ix (hv 0) h_int) (a_cons (h_callT call3_tuple Z.b_tuple PyProof.Rows.boot_tuple (a_cons (h_comp rfl (i_seq (h_ix (hv 0) h_int)) (blk_scope (outer := defScope s_mirrored) (N := ["plait"]) (N' := ["letter"]) (ix := [none]) (by decide +kernel) rfl rfl) bt_name (fun _ _ _ _ _ => pg_name (i := 0) (show List.Nodup (["letter"] : List Str) by decide +kernel) rfl (Or.inl rfl) (Or.inr rfl)) (fun _ _ _ _ _ => ts_nil) (fun _ _ _ _ _ => (h_un un3_neg (hv 0)))) a_nil)) a_nil)))))), fun ts M Q h => ?_⟩
 unfold sp_mirrored at h
 split at h
 · rename_i n w
   obtain ⟨ws, rfl, ok, h⟩ := h
   have hl : ws.length < 10000 := by have := ok.2.2.1; lia
   walk_at "rd"
   refine ⟨ws, rfl, ok, ?_⟩
   walk_at "rd"
   refine ⟨fun i ys M' => ys = ((ws.take i).map (fun l => -l)).map T.int ∧ M' = M, ⟨rfl, rfl⟩, fun _ _ _ _ => trivial, ?_, ?_, ?_⟩
   · exact Nat.lt_of_le_of_lt (by lia : ws.length ≤ 10000) (by decide)
   · rintro i x ys M' hx ⟨rfl, rfl⟩
     obtain ⟨l, hl', rfl⟩ := get_map_int hx
     walk_at "rd"
     rw [← take_succ_map (fun l : Int => -l) hl', List.map_append]; rfl
   · rintro ys M' ⟨rfl, rfl⟩ p hp
     rw [List.take_length]
     exact ⟨by decide, rt3_sub (M0 := M') h (Sub.new hp)⟩
 · exact h.elim
noncomputable def sp_flipped_letter : Sp3 := fun ts M Q => match ts with
 | [.int n, .int l] => n.natAbs < 1000000 ∧ l.natAbs < 1000000 ∧ Q (.int (flipL n l)) M
 | _ => False
theorem ok_flipped_letter {P : Program} {w : World} {K : PySem.W.Frag} {mg : Str → Option Value} {base : Heap} {f : Addr} {fd : FuncData} {n : Nat}  (F : Fun K "flipped_letter" "flipped_letter" s_flipped_letter f fd) (hm : mg "flipped_letter" = some (.ref f)) (hb : Binds K fd ["strands", "letter"] []) (Z : Zs K mg)  : Df P w K mg base (n + 1) "flipped_letter" ["strands", "letter"] sp_flipped_letter := by
 refine F.dfn hm hb sc_flipped_letter (by intro ts M Q h; unfold sp_flipped_letter at h; first | (split at h <;> first | rfl | exact h.elim) | (obtain ⟨_, _, _, _, _, rfl, _⟩ := h; rfl) | (obtain ⟨_, _, _, _, rfl, _⟩ := h; rfl) | (obtain ⟨_, _, _, rfl, _⟩ := h; rfl) | (obtain ⟨_, _, rfl, _⟩ := h; rfl) | (obtain ⟨_, rfl, _⟩ := h; rfl)) ⟨_, fun cdv A outer s H E hr => (ss_cons (s_if (h_tcmp op3_lt (hv 1) h_int (nomark _)) (ss_one (s_ret (h_un un3_neg (h_bin op3_add (hv 0) (hv 1))))) ss_nil) (ss_one (s_ret (h_bin op3_sub (hv 0) (hv 1))))), fun ts M Q h => ?_⟩
 unfold sp_flipped_letter at h
 split at h
 · rename_i n l
   obtain ⟨h1, h2, h⟩ := h
   unfold flipL at h
   walk_at "rd"
   refine ite2 (fun c1 => ?_) (fun c1 => ?_)
   · rw [if_pos c1] at h
     exact rt3_here h
   · rw [if_neg c1] at h
     exact rt3_here h
 · exact h.elim
noncomputable def sp_flipped : Sp3 := fun ts M Q => match ts with
 | [.tup [.int n, .tup w]] => ∃ ws : List Int, w = ws.map .int ∧ PlOK n ws ∧ Q (.tup [.int n, .tup ((ws.map (flipL n)).map .int)]) M
 | _ => False
theorem ok_flipped {P : Program} {w : World} {K : PySem.W.Frag} {mg : Str → Option Value} {base : Heap} {f : Addr} {fd : FuncData} {n : Nat}  (F : Fun K "flipped" "flipped" s_flipped f fd) (hm : mg "flipped" = some (.ref f)) (hb : Binds K fd ["plait"] []) (Z : Zs K mg) (D_looked : Df P w K mg base n "looked" ["plait"] sp_looked) (D_flipped_letter : Df P w K mg base n "flipped_letter" ["strands", "letter"] sp_flipped_letter) : Df P w K mg base (n + 1) "flipped" ["plait"] sp_flipped := by
 refine F.dfn hm hb sc_flipped (by intro ts M Q h; unfold sp_flipped at h; first | (split at h <;> first | rfl | exact h.elim) | (obtain ⟨_, _, _, _, _, rfl, _⟩ := h; rfl) | (obtain ⟨_, _, _, _, rfl, _⟩ := h; rfl) | (obtain ⟨_, _, _, rfl, _⟩ := h; rfl) | (obtain ⟨_, _, rfl, _⟩ := h; rfl) | (obtain ⟨_, rfl, _⟩ := h; rfl)) ⟨_, fun cdv A outer s H E hr => (ss_cons (s_expr (h_call D_looked hr (a_cons (hv 0) a_nil))) (ss_cons (s_set (i := 1) (h_ix (hv 0) h_int) sc_flipped.nd) (ss_one (s_ret (h_tup (a_cons (hv 1) (a_cons (h_callT call3_tuple Z.b_tuple PyProof.Rows.boot_tuple (a_cons (h_comp rfl (i_seq (h_ix (hv 0) h_int)) (blk_scope (outer := defScope s_flipped) (N := ["plait", "strands"]) (N' := ["letter", "strands"]) (ix := [none, some 1]) (by decide +kernel) rfl rfl) bt_name (fun _ _ _ _ _ => pg_name (i := 0) (show List.Nodup (["letter", "strands"] : List Str) by decide +kernel) rfl (Or.inl rfl) (Or.inr rfl)) (fun _ _ _ _ _ => ts_nil) (fun _ _ _ _ _ => (h_call D_flipped_letter hr (a_cons (hv 1) (a_cons (hv 0) a_nil))))) a_nil)) a_nil))))))), fun ts M Q h => ?_⟩
 unfold sp_flipped at h
 split at h
 · rename_i n w
   obtain ⟨ws, rfl, ok, h⟩ := h
   have hl : ws.length < 10000 := by have := ok.2.2.1; lia
   walk_at "rd"
   refine ⟨ws, rfl, ok, ?_⟩
   walk_at "rd"
   refine ⟨fun i ys M' => ys = ((ws.take i).map (flipL n)).map T.int ∧ M' = M, ⟨rfl, rfl⟩, fun _ _ _ _ => trivial, ?_, ?_, ?_⟩
   · exact Nat.lt_of_le_of_lt (by lia : ws.length ≤ 10000) (by decide)
   · rintro i x ys M' hx ⟨rfl, rfl⟩
     obtain ⟨l, hl', rfl⟩ := get_map_int hx
     obtain ⟨l1, l2⟩ := ok.2.2.2 l (List.mem_of_getElem? hl')
     have := ok.1
     have := ok.2.1
     unfold sp_flipped_letter
     refine ⟨by lia, by lia, ?_, rfl⟩
     rw [← take_succ_map (flipL n) hl', List.map_append]; rfl
   · rintro ys M' ⟨rfl, rfl⟩ p hp
     rw [List.take_length]
     exact ⟨by decide, rt3_sub (M0 := M') h (Sub.new hp)⟩
 · exact h.elim
noncomputable def sp_without_noughts : Sp3 := fun ts M Q => match ts with
 | [.adr d] => ∃ m : Po, M d = some (.dk (dkI m)) ∧ (m.map Prod.fst).Nodup ∧ m.length < 64 ∧ Q (poT (norm m)) M
 | _ => False
theorem ok_without_noughts {P : Program} {w : World} {K : PySem.W.Frag} {mg : Str → Option Value} {base : Heap} {f : Addr} {fd : FuncData} {n : Nat}  (F : Fun K "without_noughts" "without_noughts" s_without_noughts f fd) (hm : mg "without_noughts" = some (.ref f)) (hb : Binds K fd ["counts"] []) (Z : Zs K mg)  : Df P w K mg base (n + 1) "without_noughts" ["counts"] sp_without_noughts := by
 refine F.dfn hm hb sc_without_noughts (by intro ts M Q h; unfold sp_without_noughts at h; first | (split at h <;> first | rfl | exact h.elim) | (obtain ⟨_, _, _, _, _, rfl, _⟩ := h; rfl) | (obtain ⟨_, _, _, _, rfl, _⟩ := h; rfl) | (obtain ⟨_, _, _, rfl, _⟩ := h; rfl) | (obtain ⟨_, _, rfl, _⟩ := h; rfl) | (obtain ⟨_, rfl, _⟩ := h; rfl)) ⟨_, fun cdv A outer s H E hr => (ss_one (s_ret (h_callT call3_tuple Z.b_tuple PyProof.Rows.boot_tuple (a_cons (h_comp rfl (i_seq (h_callB (call3_sortedD rfl) Z.b_sorted PyProof.Rows.boot_sorted (a_cons (hv 0) a_nil))) (blk_scope (outer := defScope s_without_noughts) (N := ["counts"]) (N' := ["power", "counts"]) (ix := [none, some 0]) (by decide +kernel) rfl rfl) bt_name (fun _ _ _ _ _ => pg_name (i := 0) (show List.Nodup (["power", "counts"] : List Str) by decide +kernel) rfl (Or.inl rfl) (Or.inr rfl)) (fun _ _ _ _ _ => ts_one (h_tcmp (op3_ne hr.units) (h_dgk hr.units (hv 1) (hv 0)) h_int (nomark _))) (fun _ _ _ _ _ => (h_tup (a_cons (hv 0) (a_cons (h_dgk hr.units (hv 1) (hv 0)) a_nil))))) a_nil)))), fun ts M Q h => ?_⟩
 unfold sp_without_noughts at h
 split at h
 · rename_i d
   obtain ⟨m, hd, hnd, h64, h⟩ := h
   walk_at "rd"
   rw [hd]
   dsimp only
   refine ⟨m.map Prod.fst, dkI_keys m, by rw [List.length_map]; exact h64, fun ms hp hs r hr => ?_⟩
   have hS := Sub.new hr (o := MO.lst (ms.map T.int))
   have hM1 : (updM M r (MO.lst (ms.map T.int))) r = some (.lst (ms.map T.int)) := updM_same
   have hd1 := hS _ _ hd
   generalize updM M r (MO.lst (ms.map T.int)) = M1 at hS hM1 hd1 ⊢
   have hml : ms.length < 64 := by rw [hp.length_eq, List.length_map]; exact h64
   refine ⟨fun i ys M' => ys = ((((ms.take i).filter fun k => decide (co m k ≠ 0)).map fun k => (k, co m k)).map prT) ∧ M' = M1, ⟨rfl, rfl⟩, ?_, line_len (by lia), ?_, ?_⟩
   · rintro i ys M' ⟨_, rfl⟩
     exact hM1
   · rintro i x ys M' hx ⟨rfl, rfl⟩
     obtain ⟨k, hx2, rfl⟩ := get_map_int hx
     have hk : k ∈ m.map Prod.fst := hp.mem_iff.mp (List.mem_of_getElem? hx2)
     have hv := valT_dkI_mem hnd hk
     rw [hd1]
     dsimp only
     refine ⟨.inl k, _, rfl, hv, rfl, by rw [depT_int]; decide, ?_⟩
     have ht : ms.take (i + 1) = ms.take i ++ [k] := by rw [List.take_add_one, hx2]; rfl
     rw [eqT_int, ht, List.filter_append]
     by_cases c : co m k = 0
     · rw [decide_eq_true c, if_neg (by decide)]
       refine ⟨?_, rfl⟩
       rw [List.filter_cons, if_neg (by simpa using c), List.filter_nil, List.append_nil]
     · rw [decide_eq_false c, if_pos rfl]
       refine ⟨.inl k, _, rfl, hv, by decide, ?_, rfl⟩
       rw [List.filter_cons, if_pos (by simpa using c), List.filter_nil, List.map_append, List.map_append]; rfl
   · rintro ys M' ⟨rfl, rfl⟩ q hq
     rw [List.take_length, norm_sorted hnd hp hs]
     exact rt3_sub h (hS.newr hq)
 · exact h.elim
theorem keys_bound {m : Po} {L : List Int} (hn : (m.map Prod.fst).Nodup) (hs : ∀ x ∈ m, x.1 ∈ L) : m.length ≤ L.length := by
 have h1 : (m.map Prod.fst).length ≤ L.length := List.Nodup.length_le_of_subset hn fun k hk => by
   obtain ⟨x, hx, rfl⟩ := List.mem_map.mp hk
   exact hs x hx
 rwa [List.length_map] at h1
theorem setP_mem {k v : Int} {m : Po} {L : List Int} (hk : k ∈ L) (hs : ∀ x ∈ m, x.1 ∈ L) : ∀ x ∈ setP k v m, x.1 ∈ L := fun x hx => by
 have h1 : x.1 ∈ (setP k v m).map Prod.fst := List.mem_map.mpr ⟨x, hx, rfl⟩
 rw [setP_keys] at h1
 split at h1
 · obtain ⟨y, hy, e⟩ := List.mem_map.mp h1
   rw [← e]; exact hs y hy
 · rcases List.mem_append.mp h1 with z | z
   · obtain ⟨y, hy, e⟩ := List.mem_map.mp z
     rw [← e]; exact hs y hy
   · rw [List.mem_singleton.mp z]; exact hk
theorem norm_ext {p q : Po} (h : ∀ k, co p k = co q k) : norm p = norm q := canP_ext (canP_norm p) (canP_norm q) fun k => by rw [co_norm, co_norm, h]
noncomputable def sp_added : Sp3 := fun ts M Q => match ts with
 | [.tup a, .tup b] => ∃ (p q : Po) (L : List Int), a = p.map prT ∧ b = q.map prT ∧ CanP p ∧ L.length < 64 ∧ (∀ x ∈ p, x.1 ∈ L) ∧ (∀ x ∈ q, x.1 ∈ L) ∧ q.length ≤ 5000 ∧ Q (poT (addP p q)) M
 | _ => False
theorem ok_added {P : Program} {w : World} {K : PySem.W.Frag} {mg : Str → Option Value} {base : Heap} {f : Addr} {fd : FuncData} {n : Nat}  (F : Fun K "added" "added" s_added f fd) (hm : mg "added" = some (.ref f)) (hb : Binds K fd ["one", "other"] []) (Z : Zs K mg) (D_without_noughts : Df P w K mg base n "without_noughts" ["counts"] sp_without_noughts) : Df P w K mg base (n + 1) "added" ["one", "other"] sp_added := by
 refine F.dfn hm hb sc_added (by intro ts M Q h; unfold sp_added at h; first | (split at h <;> first | rfl | exact h.elim) | (obtain ⟨_, _, _, _, _, rfl, _⟩ := h; rfl) | (obtain ⟨_, _, _, _, rfl, _⟩ := h; rfl) | (obtain ⟨_, _, _, rfl, _⟩ := h; rfl) | (obtain ⟨_, _, rfl, _⟩ := h; rfl) | (obtain ⟨_, rfl, _⟩ := h; rfl)) ⟨_, fun cdv A outer s H E hr => (ss_cons (s_set (i := 2) (h_callT (call3_dictP rfl) Z.b_dict PyProof.Rows.boot_dict (a_cons (hv 0) a_nil)) sc_added.nd) (ss_cons (s_for PassesOwn.never rfl (i_seq (hv 1)) (g_tup (n := 2) rfl (gs_cons (g_name (i := 3) sc_added.nd) (gs_cons (g_name (i := 4) sc_added.nd) gs_nil))) (ss_one (s_dpk hr.units (h_bin op3_add (h_get2 hr.units (hv 2) (hv 3) h_int) (hv 4)) (hv 2) (hv 3)))) (ss_one (s_ret (h_call D_without_noughts hr (a_cons (hv 2) a_nil)))))), fun ts M Q h => ?_⟩
 unfold sp_added at h
 split at h
 · rename_i a b
   obtain ⟨p, q, L, rfl, rfl, hp, hL, hpL, hqL, hql, h⟩ := h
   have hnd0 : (p.map Prod.fst).Nodup := List.pairwise_map.mpr (hp.1.imp fun h z => Int.ne_of_lt h z)
   refine seq_cut fun K1 hK1 => ?_
   walk_at "rd"
   refine ⟨dkI p, (dkI_pair p).symm, by rw [dkI_keys]; exact List.pairwise_map.mpr (hnd0.imp fun h z => h (Sum.inl.inj z)), fun d hd => ?_⟩
   have hMd : (updM M d (MO.dk (dkI p))) d = some (.dk (dkI p)) := updM_same
   have hS := Sub.new hd (o := MO.dk (dkI p))
   generalize updM M d (MO.dk (dkI p)) = M1 at hMd hS ⊢
   rw [hK1]; clear hK1
   refine seq_cut fun K2 hK2 => ?_
   refine for_cut fun B hB => ?_
   unfold tFor3
   walk_at "rd"
   refine ⟨fun i ρ M' => (∃ (x3 x4 : Option T), ρ = [some (T.tup (p.map prT)), some (T.tup (q.map prT)), some (T.adr d), x3, x4]) ∧ (∃ m : Po, M' d = some (.dk (dkI m)) ∧ (m.map Prod.fst).Nodup ∧ (∀ x ∈ m, x.1 ∈ L) ∧ ∀ k, co m k = co (p ++ q.take i) k) ∧ Sub M M', ⟨⟨_, _, rfl⟩, ⟨p, hMd, hnd0, hpL, fun k => by rw [List.take_zero, List.append_nil]⟩, hS⟩, fun _ _ _ _ => trivial, ?_, ?_⟩
   · rintro i x ρ M' hx ⟨⟨x3, x4, rfl⟩, ⟨m, hm, hnd, hmL, hco⟩, hS1⟩
     obtain ⟨⟨y1, y2⟩, hx2, rfl⟩ : ∃ y, q[i]? = some y ∧ prT y = x := by
       rw [List.getElem?_map] at hx
       exact Option.map_eq_some_iff.mp hx
     have hyL := hqL _ (List.mem_of_getElem? hx2)
     unfold prT
     dsimp only
     rw [hB]; clear hB
     walk_at "rd"
     rw [hm]
     refine ⟨trivial, ?_⟩
     dsimp only
     refine ⟨.inl y1, rfl, ?_⟩
     rw [valT_dkI y1 hnd]
     dsimp only
     have hml := keys_bound hnd hmL
     refine ⟨.inl y1, rfl, line_len (by rw [dkI_len]; lia), ⟨_, _, rfl⟩, ⟨setP y1 (co m y1 + y2) m, by rw [putT_dkI hnd], nodup_setP hnd, setP_mem hyL hmL, fun k => ?_⟩, hS1.updF hd⟩
     have ht : q.take (i + 1) = q.take i ++ [(y1, y2)] := by rw [List.take_add_one, hx2]; rfl
     rw [co_setP y1 _ hnd, ht, ← List.append_assoc, co_append, ← hco]
     show _ = co m k + ((if y1 = k then y2 else 0) + 0)
     by_cases e : k = y1
     · rw [if_pos e, if_pos e.symm, e]; lia
     · rw [if_neg e, if_neg (fun z => e z.symm)]; lia
   · rintro ρ M' ⟨⟨x3, x4, rfl⟩, ⟨m, hm, hnd, hmL, hco⟩, hS1⟩
     try rw [List.length_map] at hco
     rw [List.take_length] at hco
     rw [hK2]; clear hK2
     walk_at "rd"
     refine ⟨m, hm, hnd, Nat.lt_of_le_of_lt (keys_bound hnd hmL) hL, ?_⟩
     rw [norm_ext hco]
     exact rt3_sub h hS1
 · exact h.elim
noncomputable def sp_multiplied : Sp3 := fun ts M Q => match ts with
 | [.tup a, .tup b] => ∃ (p q : Po) (L : List Int), a = p.map prT ∧ b = q.map prT ∧ L.length < 64 ∧ (∀ x ∈ p, ∀ y ∈ q, x.1 + y.1 ∈ L) ∧ (Sml p ∨ Sml q) ∧ p.length ≤ 5000 ∧ q.length ≤ 5000 ∧ Q (poT (mulP' p q)) M
 | _ => False
theorem raw_take {p q : Po} {i : Nat} {x : Int × Int} (h : p[i]? = some x) (k : Int) : co (rawM (p.take (i + 1)) q) k = co (rawM (p.take i) q) k + co (q.map fun b => (x.1 + b.1, x.2 * b.2)) k := by
 rw [List.take_add_one, h]
 unfold rawM
 rw [List.flatMap_append, co_append]
 show _ + co ([x].flatMap fun a => q.map fun b => (a.1 + b.1, a.2 * b.2)) k = _
 rw [List.flatMap_cons, List.flatMap_nil, List.append_nil]
theorem ok_multiplied {P : Program} {w : World} {K : PySem.W.Frag} {mg : Str → Option Value} {base : Heap} {f : Addr} {fd : FuncData} {n : Nat}  (F : Fun K "multiplied" "multiplied" s_multiplied f fd) (hm : mg "multiplied" = some (.ref f)) (hb : Binds K fd ["one", "other"] []) (Z : Zs K mg) (D_without_noughts : Df P w K mg base n "without_noughts" ["counts"] sp_without_noughts) : Df P w K mg base (n + 1) "multiplied" ["one", "other"] sp_multiplied := by
 refine F.dfn hm hb sc_multiplied (by intro ts M Q h; unfold sp_multiplied at h; first | (split at h <;> first | rfl | exact h.elim) | (obtain ⟨_, _, _, _, _, rfl, _⟩ := h; rfl) | (obtain ⟨_, _, _, _, rfl, _⟩ := h; rfl) | (obtain ⟨_, _, _, rfl, _⟩ := h; rfl) | (obtain ⟨_, _, rfl, _⟩ := h; rfl) | (obtain ⟨_, rfl, _⟩ := h; rfl)) ⟨_, fun cdv A outer s H E hr => (ss_cons (s_set (i := 2) h_dicK sc_multiplied.nd) (ss_cons (s_for PassesOwn.never rfl (i_seq (hv 0)) (g_tup (n := 2) rfl (gs_cons (g_name (i := 3) sc_multiplied.nd) (gs_cons (g_name (i := 4) sc_multiplied.nd) gs_nil))) (ss_one (s_for PassesOwn.never rfl (i_seq (hv 1)) (g_tup (n := 2) rfl (gs_cons (g_name (i := 5) sc_multiplied.nd) (gs_cons (g_name (i := 6) sc_multiplied.nd) gs_nil))) (ss_cons (s_set (i := 7) (h_bin op3_add (hv 3) (hv 5)) sc_multiplied.nd) (ss_one (s_dpk hr.units (h_bin op3_add (h_get2 hr.units (hv 2) (hv 7) h_int) (h_bin op3_mul (hv 4) (hv 6))) (hv 2) (hv 7))))))) (ss_one (s_ret (h_call D_without_noughts hr (a_cons (hv 2) a_nil)))))), fun ts M Q h => ?_⟩
 unfold sp_multiplied at h
 split at h
 · rename_i a b
   obtain ⟨p, q, L, rfl, rfl, hL, hpq, hsz, hpl, hql, h⟩ := h
   refine seq_cut fun K1 hK1 => ?_
   walk_at "rd"
   intro d hd
   have hMd : (updM M d (MO.dk [])) d = some (.dk (dkI [])) := updM_same
   have hS := Sub.new hd (o := MO.dk [])
   generalize updM M d (MO.dk []) = M1 at hMd hS ⊢
   rw [hK1]; clear hK1
   refine seq_cut fun K2 hK2 => ?_
   refine for_cut fun B hB => ?_
   unfold tFor3
   walk_at "rd"
   refine ⟨fun i ρ M' => (∃ (x3 x4 x5 x6 x7 : Option T), ρ = [some (T.tup (p.map prT)), some (T.tup (q.map prT)), some (T.adr d), x3, x4, x5, x6, x7]) ∧ (∃ m : Po, M' d = some (.dk (dkI m)) ∧ (m.map Prod.fst).Nodup ∧ (∀ x ∈ m, x.1 ∈ L) ∧ ∀ k, co m k = co (rawM (p.take i) q) k) ∧ Sub M M', ⟨⟨_, _, _, _, _, rfl⟩, ⟨[], hMd, .nil, fun _ z => absurd z List.not_mem_nil, fun k => rfl⟩, hS⟩, fun _ _ _ _ => trivial, ?_, ?_⟩
   · rintro i x ρ M' hx ⟨⟨x3, x4, x5, x6, x7, rfl⟩, ⟨m, hm, hnd, hmL, hco⟩, hS1⟩
     obtain ⟨⟨y1, y2⟩, hx2, rfl⟩ : ∃ y, p[i]? = some y ∧ prT y = x := by
       rw [List.getElem?_map] at hx
       exact Option.map_eq_some_iff.mp hx
     have hyp := List.mem_of_getElem? hx2
     rw [show prT (y1, y2) = T.tup [T.int y1, T.int y2] from rfl]
     dsimp only
     refine ⟨rfl, rfl, ?_⟩
     rw [hB]; clear hB
     refine for_cut fun B2 hB2 => ?_
     unfold tFor3
     walk_at "rd"
     refine ⟨fun j ρ M2 => (∃ (x5 x6 x7 : Option T), ρ = [some (T.tup (p.map prT)), some (T.tup (q.map prT)), some (T.adr d), some (T.int y1), some (T.int y2), x5, x6, x7]) ∧ (∃ m2 : Po, M2 d = some (.dk (dkI m2)) ∧ (m2.map Prod.fst).Nodup ∧ (∀ x ∈ m2, x.1 ∈ L) ∧ ∀ k, co m2 k = co m k + co ((q.take j).map fun b => (y1 + b.1, y2 * b.2)) k) ∧ Sub M M2, ⟨⟨_, _, _, rfl⟩, ⟨m, hm, hnd, hmL, fun k => by show _ = co m k + 0; rw [Int.add_zero]⟩, hS1⟩, fun _ _ _ _ => trivial, ?_, ?_⟩
     · rintro j z ρ M2 hz ⟨⟨x5, x6, x7, rfl⟩, ⟨m2, hm2, hnd2, hmL2, hco2⟩, hS2⟩
       obtain ⟨⟨z1, z2⟩, hz2, rfl⟩ : ∃ y, q[j]? = some y ∧ prT y = z := by
         rw [List.getElem?_map] at hz
         exact Option.map_eq_some_iff.mp hz
       have hzL := hpq _ hyp _ (List.mem_of_getElem? hz2)
       have hy2 : CMul y2 z2 := by
         rcases hsz with s | s
         · have := s _ hyp
           exact .inl ⟨by lia, by lia⟩
         · have := s _ (List.mem_of_getElem? hz2)
           exact .inr ⟨by lia, by lia⟩
       dsimp only at hzL
       rw [show prT (z1, z2) = T.tup [T.int z1, T.int z2] from rfl]
       dsimp only
       refine ⟨rfl, rfl, ?_⟩
       rw [hB2]; clear hB2
       refine seq_cut fun K5 hK5 => ?_
       walk_at "rd"
       rw [hK5]; clear hK5
       walk_at "rd"
       rw [hm2]
       refine ⟨trivial, ?_⟩
       dsimp only
       refine ⟨.inl (y1 + z1), rfl, hy2, ?_⟩
       rw [valT_dkI (y1 + z1) hnd2]
       dsimp only
       have hml := keys_bound hnd2 hmL2
       refine ⟨.inl (y1 + z1), rfl, line_len (by rw [dkI_len]; lia), ⟨_, _, _, rfl⟩, ⟨setP (y1 + z1) (co m2 (y1 + z1) + y2 * z2) m2, by rw [putT_dkI hnd2], nodup_setP hnd2, setP_mem hzL hmL2, fun k => ?_⟩, hS2.updF hd⟩
       have ht : q.take (j + 1) = q.take j ++ [(z1, z2)] := by rw [List.take_add_one, hz2]; rfl
       rw [co_setP (y1 + z1) _ hnd2, ht, List.map_append, co_append, ← Int.add_assoc, ← hco2]
       show _ = co m2 k + ((if y1 + z1 = k then y2 * z2 else 0) + 0)
       by_cases e : k = y1 + z1
       · rw [if_pos e, if_pos e.symm, e]; lia
       · rw [if_neg e, if_neg (fun z => e z.symm)]; lia
     · rintro ρ M2 ⟨⟨x5, x6, x7, rfl⟩, ⟨m2, hm2, hnd2, hmL2, hco2⟩, hS2⟩
       refine ⟨⟨_, _, _, _, _, rfl⟩, ⟨m2, hm2, hnd2, hmL2, fun k => ?_⟩, hS2⟩
       try rw [List.length_map] at hco2
       rw [List.take_length] at hco2
       rw [hco2 k, hco k, raw_take hx2]
   · rintro ρ M' ⟨⟨x3, x4, x5, x6, x7, rfl⟩, ⟨m, hm, hnd, hmL, hco⟩, hS1⟩
     try rw [List.length_map] at hco
     rw [List.take_length] at hco
     rw [hK2]; clear hK2
     walk_at "rd"
     refine ⟨m, hm, hnd, Nat.lt_of_le_of_lt (keys_bound hnd hmL) hL, ?_⟩
     have e := norm_ext hco
     rw [e]
     exact rt3_sub h hS1
 · exact h.elim
noncomputable def sp_one_where_same : Sp3 := fun ts M Q => match ts with
 | [.int r, .int c] => Q (poT (oneP r c)) M
 | _ => False
theorem ok_one_where_same {P : Program} {w : World} {K : PySem.W.Frag} {mg : Str → Option Value} {base : Heap} {f : Addr} {fd : FuncData} {n : Nat}  (F : Fun K "one_where_same" "one_where_same" s_one_where_same f fd) (hm : mg "one_where_same" = some (.ref f)) (hb : Binds K fd ["row", "column"] []) (Z : Zs K mg)  : Df P w K mg base (n + 1) "one_where_same" ["row", "column"] sp_one_where_same := by
 obtain ⟨tk_ONE, c_ONE⟩ := Z.c_ONE
 obtain ⟨tk_NOUGHT, c_NOUGHT⟩ := Z.c_NOUGHT
 refine F.dfn hm hb sc_one_where_same (by intro ts M Q h; unfold sp_one_where_same at h; first | (split at h <;> first | rfl | exact h.elim) | (obtain ⟨_, _, _, _, _, rfl, _⟩ := h; rfl) | (obtain ⟨_, _, _, _, rfl, _⟩ := h; rfl) | (obtain ⟨_, _, _, rfl, _⟩ := h; rfl) | (obtain ⟨_, _, rfl, _⟩ := h; rfl) | (obtain ⟨_, rfl, _⟩ := h; rfl)) ⟨_, fun cdv A outer s H E hr => (ss_one (s_ret (h_ifx (h_tcmp (op3_eq hr.units) (hv 0) (hv 1) (nomark _)) (h_globT c_ONE) (h_globT c_NOUGHT)))), fun ts M Q h => ?_⟩
 unfold sp_one_where_same at h
 split at h
 · rename_i r c
   walk_at "rd"
   unfold oneP at h
   refine ite2 (fun z => ?_) (fun z => ?_)
   · rw [if_pos z] at h; exact rt3_here h
   · rw [if_neg z] at h; exact rt3_here h
 · exact h.elim
theorem mul_call {a b B C : Nat} {p q : Po} {M : MH} {Q : VK3} (hp : GdP a B p) (hq : GdP b C q) (hab : a + b ≤ 31) (hB : B < 2 ^ 64) (h : Q (poT (mulP' p q)) M) : sp_multiplied [poT p, poT q] M Q :=
 ⟨p, q, near (a + b), rfl, rfl, by rw [near_len]; lia, sum_near hp.2.1 hq.2.1, .inl (n1_lt hp hB), by have := hp.1.len hp.2.1; lia, by have := hq.1.len hq.2.1; lia, h⟩
theorem add_call {a B C : Nat} {p q : Po} {M : MH} {Q : VK3} (hp : GdP a B p) (hq : GdP a C q) (ha : a ≤ 31) (h : Q (poT (addP p q)) M) : sp_added [poT p, poT q] M Q :=
 ⟨p, q, near a, rfl, rfl, hp.1, by rw [near_len]; lia, pwb_near hp.2.1, pwb_near hq.2.1, by have := hq.1.len hq.2.1; lia, h⟩
theorem mul_callI {a b c d : Nat} {p q : Po} {M : MH} {Q : VK3} (hp : GdI a b p) (hq : GdI c d q) (hab : a + c + (b + d) ≤ 62) (hB : Sml p ∨ Sml q) (h : Q (poT (mulP' p q)) M) : sp_multiplied [poT p, poT q] M Q :=
 ⟨p, q, span (a + c) (b + d), rfl, rfl, by rw [span_len]; lia, sum_span hp.2 hq.2, hB, by have := hp.1.lenI hp.2; lia, by have := hq.1.lenI hq.2; lia, h⟩
theorem add_callI {a b : Nat} {p q : Po} {M : MH} {Q : VK3} (hp : GdI a b p) (hq : GdI a b q) (ha : a + b ≤ 62) (h : Q (poT (addP p q)) M) : sp_added [poT p, poT q] M Q :=
 ⟨p, q, span a b, rfl, rfl, hp.1, by rw [span_len]; lia, fun x hx => mem_span (hp.2 x hx), fun x hx => mem_span (hq.2 x hx), by have := hq.1.lenI hq.2; lia, h⟩
noncomputable def sp_with_letter : Sp3 := fun ts M Q => match ts with
 | [.adr r, .int l] => ∃ (ps : List Po) (b B : Nat), M r = some (.lst (ps.map poT)) ∧ 1 ≤ l.natAbs ∧ l.natAbs < ps.length ∧ ps.length ≤ 6 ∧ (∀ p ∈ ps, GdP b B p) ∧ b ≤ 29 ∧ B < 2 ^ 60 ∧ ∀ (t : Addr) (M' : MH), M t = none → Sub M M' → M' t = some (.lst ((wlP ps l).map poT)) → Q (.adr t) M'
 | _ => False
theorem ok_with_letter {P : Program} {w : World} {K : PySem.W.Frag} {mg : Str → Option Value} {base : Heap} {f : Addr} {fd : FuncData} {n : Nat}  (F : Fun K "with_letter" "with_letter" s_with_letter f fd) (hm : mg "with_letter" = some (.ref f)) (hb : Binds K fd ["row", "letter"] []) (Z : Zs K mg) (D_added : Df P w K mg base n "added" ["one", "other"] sp_added) (D_multiplied : Df P w K mg base n "multiplied" ["one", "other"] sp_multiplied) : Df P w K mg base (n + 1) "with_letter" ["row", "letter"] sp_with_letter := by
 obtain ⟨tk_LESS_UP, c_LESS_UP⟩ := Z.c_LESS_UP
 obtain ⟨tk_UP, c_UP⟩ := Z.c_UP
 obtain ⟨tk_DOWN, c_DOWN⟩ := Z.c_DOWN
 obtain ⟨tk_LESS_DOWN, c_LESS_DOWN⟩ := Z.c_LESS_DOWN
 refine F.dfn hm hb sc_with_letter (by intro ts M Q h; unfold sp_with_letter at h; first | (split at h <;> first | rfl | exact h.elim) | (obtain ⟨_, _, _, _, _, rfl, _⟩ := h; rfl) | (obtain ⟨_, _, _, _, rfl, _⟩ := h; rfl) | (obtain ⟨_, _, _, rfl, _⟩ := h; rfl) | (obtain ⟨_, _, rfl, _⟩ := h; rfl) | (obtain ⟨_, rfl, _⟩ := h; rfl)) ⟨_, fun cdv A outer s H E hr => (ss_cons (s_set (i := 2) (h_bin op3_sub (h_callB call3_abs Z.b_abs PyProof.Rows.boot_abs (a_cons (hv 1) a_nil)) h_int) sc_with_letter.nd) (ss_cons (s_set (i := 3) (h_ix (hv 0) (hv 2)) sc_with_letter.nd) (ss_cons (s_set (i := 4) (h_ix (hv 0) (h_bin op3_add (hv 2) h_int)) sc_with_letter.nd) (ss_cons (s_if (h_tcmp op3_gt (hv 1) h_int (nomark _)) (ss_one (s_set (i := 5) (h_lst (a_cons (h_call D_added hr (a_cons (h_call D_multiplied hr (a_cons (hv 3) (a_cons (h_globT c_LESS_UP) a_nil))) (a_cons (hv 4) a_nil))) (a_cons (h_call D_multiplied hr (a_cons (hv 3) (a_cons (h_globT c_UP) a_nil))) a_nil))) sc_with_letter.nd)) (ss_one (s_set (i := 5) (h_lst (a_cons (h_call D_multiplied hr (a_cons (hv 4) (a_cons (h_globT c_DOWN) a_nil))) (a_cons (h_call D_added hr (a_cons (hv 3) (a_cons (h_call D_multiplied hr (a_cons (hv 4) (a_cons (h_globT c_LESS_DOWN) a_nil))) a_nil))) a_nil))) sc_with_letter.nd))) (ss_one (s_ret (h_bin op3_add (h_bin op3_add (h_slice (hv 0) o_none (o_some (hv 2))) (hv 5)) (h_slice (hv 0) (o_some (h_bin op3_add (hv 2) h_int)) o_none)))))))), fun ts M Q h => ?_⟩
 unfold sp_with_letter at h
 split at h
 · rename_i r l
   obtain ⟨ps, b, B, hr, h1, h2, h6, hg, hb, hB, h⟩ := h
   obtain ⟨k, hk⟩ : ∃ k : Nat, l.natAbs = k + 1 := ⟨l.natAbs - 1, by lia⟩
   have hG0 : GdP b B (ps.getD k []) := hg _ (by rw [List.getD_eq_getElem?_getD, List.getElem?_eq_getElem (by lia)]; exact List.getElem_mem _)
   have hG1 : GdP b B (ps.getD (k + 1) []) := hg _ (by rw [List.getD_eq_getElem?_getD, List.getElem?_eq_getElem (by lia)]; exact List.getElem_mem _)
   have a0 : atI (ps.map poT) (k : Int) = some (poT (ps.getD k [])) := atI_nat (by rw [List.getElem?_map, List.getD_eq_getElem?_getD, List.getElem?_eq_getElem (by lia : k < ps.length)]; rfl)
   have a1 : atI (ps.map poT) ((k : Int) + 1) = some (poT (ps.getD (k + 1) [])) := by
     rw [show (k : Int) + 1 = ((k + 1 : Nat) : Int) by lia]
     exact atI_nat (by rw [List.getElem?_map, List.getD_eq_getElem?_getD, List.getElem?_eq_getElem (by lia : k + 1 < ps.length)]; rfl)
   refine seq_cut4 fun K1 hK1 => ?_
   walk_at "rd"
   rw [hk, show ((k + 1 : Nat) : Int) - 1 = (k : Int) by lia, hr]
   dsimp only
   rw [a0]
   dsimp only
   rw [a1]
   dsimp only
   have key : ∀ (q1 q2 : Po) (v : Addr), M v = none → q1 = wl1 l (ps.getD k []) (ps.getD (k + 1) []) → q2 = wl2 l (ps.getD k []) (ps.getD (k + 1) []) → K1 [some (T.adr r), some (T.int l), some (T.int (k : Int)), some (poT (ps.getD k [])), some (poT (ps.getD (k + 1) [])), some (T.adr v)] (updM M v (MO.lst [poT q1, poT q2])) := fun q1 q2 v hv e1c e2c => by
     have hS := Sub.new hv (o := MO.lst [poT q1, poT q2])
     have hMv : (updM M v (MO.lst [poT q1, poT q2])) v = some (.lst [poT q1, poT q2]) := updM_same
     have hMr := hS _ _ hr
     generalize updM M v (MO.lst [poT q1, poT q2]) = M1 at hS hMv hMr ⊢
     rw [hK1]; clear hK1
     walk_at "rd"
     rw [hMr]
     intro c1 hc1
     have hS1 := Sub.new hc1 (o := MO.lst (cutT (ps.map poT) none (some (k : Int))))
     have h1v := hS1 _ _ hMv
     have h1r := hS1 _ _ hMr
     have hS2 := hS.trans hS1
     have h1c : (updM M1 c1 (MO.lst (cutT (ps.map poT) none (some (k : Int))))) c1 = some (.lst (cutT (ps.map poT) none (some (k : Int)))) := updM_same
     generalize updM M1 c1 (MO.lst (cutT (ps.map poT) none (some (k : Int)))) = M2 at h1v h1r hS2 h1c ⊢
     rw [h1v]
     dsimp only
     have e1 : cutT (ps.map poT) none (some (k : Int)) = (ps.take k).map poT := by rw [cutT_to' _ _ (by lia), List.map_take]; rfl
     rw [e1]
     refine ⟨line_len' (by rw [List.length_map, List.length_take]; simp only [List.length_cons, List.length_nil]; lia), fun c2 hc2 => ?_⟩
     have hS3 := hS2.newr hc2 (o := MO.lst ((ps.take k).map poT ++ [poT q1, poT q2]))
     have h2r := (Sub.new hc2 (o := MO.lst ((ps.take k).map poT ++ [poT q1, poT q2]))) _ _ h1r
     have h2c : (updM M2 c2 (MO.lst ((ps.take k).map poT ++ [poT q1, poT q2]))) c2 = some (.lst ((ps.take k).map poT ++ [poT q1, poT q2])) := updM_same
     generalize updM M2 c2 (MO.lst ((ps.take k).map poT ++ [poT q1, poT q2])) = M3 at hS3 h2r h2c ⊢
     rw [h2r]
     dsimp only
     have e2 : cutT (ps.map poT) (some ((k : Int) + 2)) none = (ps.drop (k + 2)).map poT := by rw [show (k : Int) + 2 = ((k + 2 : Nat) : Int) by lia, cutT_from' _ _ (by lia), List.map_drop]; rfl
     rw [e2]
     intro c3 hc3
     have hS4 := hS3.newr hc3 (o := MO.lst ((ps.drop (k + 2)).map poT))
     have h3c := (Sub.new hc3 (o := MO.lst ((ps.drop (k + 2)).map poT))) _ _ h2c
     generalize updM M3 c3 (MO.lst ((ps.drop (k + 2)).map poT)) = M4 at hS4 h3c ⊢
     rw [h3c]
     dsimp only
     refine ⟨line_len' (by rw [List.length_append, List.length_map, List.length_map, List.length_take, List.length_drop]; simp only [List.length_cons, List.length_nil]; lia), fun c4 hc4 => ?_⟩
     refine rt3_sub (h c4 _ (none_of hS4 hc4) (hS4.newr hc4) ?_) Sub.refl
     rw [updM_same]
     unfold wlP
     rw [hk, Nat.add_sub_cancel, List.map_append, List.map_append, ← e1c, ← e2c, ← List.append_assoc]; rfl
   have hz : 0 + 1 + 1 ≤ sizeLine := by decide
   refine ite2 (fun c => ?_) (fun c => ?_)
   · refine mul_call (q := lupP) hG0 good_lup (by lia) (by lia) ?_
     refine add_call (hG0.mul good_lup) (hG1.mono (by lia) (by lia : B ≤ B * 2)) (by lia) ?_
     refine mul_call (q := upP) hG0 good_up (by lia) (by lia) ⟨hz, fun v hv => key _ _ v hv ?_ ?_⟩
     · unfold wl1; rw [if_pos c]
     · unfold wl2; rw [if_pos c]
   · refine mul_call (q := downP) hG1 good_down (by lia) (by lia) ?_
     refine mul_call (q := ldownP) hG1 good_ldown (by lia) (by lia) ?_
     refine add_call (hG0.mono (by lia) (by lia : B ≤ B * 2)) (hG1.mul good_ldown) (by lia) ⟨hz, fun v hv => key _ _ v hv ?_ ?_⟩
     · unfold wl1; rw [if_neg c]
     · unfold wl2; rw [if_neg c]
 · exact h.elim
noncomputable def sp_table_of : Sp3 := fun ts M Q => match ts with
 | [.tup [.int n, .tup w]] => ∃ ws : List Int, w = ws.map .int ∧ PlOK n ws ∧ ∀ (r : Addr) (as : List Addr) (M' : MH), M r = none → Sub M M' → M' r = some (.lst (as.map T.adr)) → RowsP M' as (tabP n ws) → FrP M as → as.Nodup → Q (.adr r) M'
 | _ => False
theorem ok_table_of {P : Program} {w : World} {K : PySem.W.Frag} {mg : Str → Option Value} {base : Heap} {f : Addr} {fd : FuncData} {n : Nat}  (F : Fun K "table_of" "table_of" s_table_of f fd) (hm : mg "table_of" = some (.ref f)) (hb : Binds K fd ["plait"] []) (Z : Zs K mg) (D_looked : Df P w K mg base n "looked" ["plait"] sp_looked) (D_one_where_same : Df P w K mg base n "one_where_same" ["row", "column"] sp_one_where_same) (D_with_letter : Df P w K mg base n "with_letter" ["row", "letter"] sp_with_letter) : Df P w K mg base (n + 1) "table_of" ["plait"] sp_table_of := by
 refine F.dfn hm hb sc_table_of (by intro ts M Q h; unfold sp_table_of at h; first | (split at h <;> first | rfl | exact h.elim) | (obtain ⟨_, _, _, _, _, rfl, _⟩ := h; rfl) | (obtain ⟨_, _, _, _, rfl, _⟩ := h; rfl) | (obtain ⟨_, _, _, rfl, _⟩ := h; rfl) | (obtain ⟨_, _, rfl, _⟩ := h; rfl) | (obtain ⟨_, rfl, _⟩ := h; rfl)) ⟨_, fun cdv A outer s H E hr => (ss_cons (s_expr (h_call D_looked hr (a_cons (hv 0) a_nil))) (ss_cons (s_set (i := 1) (h_listRange1 Z.b_list Z.b_range (a_cons (h_ix (hv 0) h_int) a_nil)) sc_table_of.nd) (ss_cons (s_setC (i := 2) rfl (i_seq (hv 1)) (blk_scope (outer := defScope s_table_of) (N := ["plait", "places", "rows", "letter"]) (N' := ["row", "places"]) (ix := [none, some 1]) (by decide +kernel) rfl rfl) bt_name (fun _ _ _ _ _ => pg_name (i := 0) (show List.Nodup (["row", "places"] : List Str) by decide +kernel) rfl (Or.inr rfl) (Or.inl rfl)) (fun _ _ _ _ _ => ts_nil) (fun _ _ _ _ _ => (h_comp rfl (i_seq (hv 1)) (blk_scope2 (outer := defScope s_table_of) (N := ["row", "places"]) (N' := ["column", "row"]) (ix := [none, some 0]) (by decide +kernel) rfl rfl) bt_name (fun _ _ _ _ _ => pg_name (i := 0) (show List.Nodup (["column", "row"] : List Str) by decide +kernel) rfl (Or.inl rfl) (Or.inr rfl)) (fun _ _ _ _ _ => ts_nil) (fun _ _ _ _ _ => (h_call D_one_where_same hr (a_cons (hv 1) (a_cons (hv 0) a_nil)))))) sc_table_of.nd) (ss_cons (s_for PassesOwn.never rfl (i_seq (h_ix (hv 0) h_int)) (g_name (i := 3) sc_table_of.nd) (ss_one (s_setC (i := 2) rfl (i_seq (hv 2)) (blk_scope (outer := defScope s_table_of) (N := ["plait", "places", "rows", "letter"]) (N' := ["row", "letter"]) (ix := [none, some 3]) (by decide +kernel) rfl rfl) bt_name (fun _ _ _ _ _ => pg_name (i := 0) (show List.Nodup (["row", "letter"] : List Str) by decide +kernel) rfl (Or.inl rfl) (Or.inr rfl)) (fun _ _ _ _ _ => ts_nil) (fun _ _ _ _ _ => (h_call D_with_letter hr (a_cons (hv 0) (a_cons (hv 1) a_nil)))) sc_table_of.nd))) (ss_one (s_ret (hv 2))))))), fun ts M Q h => ?_⟩
 unfold sp_table_of at h
 split at h
 · rename_i n w
   obtain ⟨ws, rfl, ok, h⟩ := h
   walk_at "rd"
   refine ⟨ws, rfl, ok, ?_⟩
   obtain ⟨o1, o2, o3, o4⟩ := id ok
   refine ⟨⟨by lia, by lia⟩, fun p hp => ?_⟩
   have hS0 := Sub.new hp (o := MO.lst (rangeT 0 n.toNat))
   have hMp : (updM M p (MO.lst (rangeT 0 n.toNat))) p = some (.lst ((range0 n).map T.int)) := by rw [updM_same, rangeT_range0]
   generalize updM M p (MO.lst (rangeT 0 n.toNat)) = M0 at hS0 hMp ⊢
   rw [rangeT_range0]
   have hlen := range0_length n
   refine ⟨fun i ys M' => (∃ as : List Addr, ys = as.map T.adr ∧ RowsP M' as ((idP n).take i) ∧ FrP M as ∧ as.Nodup) ∧ Sub M0 M', ⟨⟨[], rfl, RowsP.nil, fun _ z => absurd z List.not_mem_nil, .nil⟩, Sub.refl⟩, ?_, line_len (by rw [List.length_map, hlen]; lia), ?_, ?_⟩
   · rintro i ys M' ⟨_, hS⟩
     exact hS _ _ hMp
   · rintro i x ys M' hx ⟨⟨as, rfl, hR, hF, hN⟩, hS⟩
     obtain ⟨r, hx2, rfl⟩ := get_map_int hx
     rw [hS _ _ hMp]
     dsimp only
     refine ⟨fun j zs M2 => zs = (((range0 n).take j).map fun c => oneP r c).map poT ∧ M2 = M', ⟨rfl, rfl⟩, ?_, line_len (by rw [List.length_map, hlen]; lia), ?_, ?_⟩
     · rintro j zs M2 ⟨_, rfl⟩
       exact hS _ _ hMp
     · rintro j y zs M2 hy ⟨rfl, rfl⟩
       obtain ⟨c, hy2, rfl⟩ := get_map_int hy
       show _ ∧ _
       refine ⟨?_, rfl⟩
       rw [← take_succ_map (fun c => oneP r c) hy2, List.map_append]; rfl
     · rintro zs M2 ⟨rfl, rfl⟩ a ha
       rw [List.length_map, List.take_length]
       have e : (idP n)[i]? = some ((range0 n).map fun c => oneP r c) := by
         unfold idP
         rw [List.getElem?_map, hx2]; rfl
       have hSa := Sub.new ha (o := MO.lst (((range0 n).map fun c => oneP r c).map poT))
       refine ⟨⟨as ++ [a], by rw [List.map_append]; rfl, ?_, hF.snoc (none_of (hS0.trans hS) ha), hR.nd hN ha⟩, hS.trans hSa⟩
       rw [show (idP n).take (i + 1) = (idP n).take i ++ [(range0 n).map fun c => oneP r c] by rw [List.take_add_one, e]; rfl]
       exact (hR.sub hSa).snoc updM_same
   · rintro ys M' ⟨⟨as, rfl, hR, hF, hN⟩, hS⟩ q hq
     have e : (idP n).take ((range0 n).map T.int).length = idP n := by
       rw [List.length_map]
       exact List.take_of_length_le (by unfold idP; rw [List.length_map]; exact Nat.le_refl _)
     rw [e] at hR
     have hSq := Sub.new hq (o := MO.lst (as.map T.adr))
     have hqM := none_of (hS0.trans hS) hq
     have hMq : (updM M' q (MO.lst (as.map T.adr))) q = some (.lst (as.map T.adr)) := updM_same
     have hR2 := hR.sub hSq
     have hS2 := (hS0.trans hS).trans hSq
     generalize updM M' q (MO.lst (as.map T.adr)) = M3 at hMq hR2 hS2 ⊢
     clear hR hSq hq hS hMp hS0
     refine for_cut fun B hB => ?_
     unfold tFor3
     walk_at "rd"
     refine ⟨fun i ρ M' => (∃ (q : Addr) (as : List Addr) (x3 : Option T), ρ = [some (T.tup [T.int n, T.tup (ws.map T.int)]), some (T.adr p), some (T.adr q), x3] ∧ M' q = some (.lst (as.map T.adr)) ∧ RowsP M' as (tabP n (ws.take i)) ∧ FrP M as ∧ M q = none ∧ as.Nodup) ∧ Sub M M', ⟨⟨q, as, _, rfl, hMq, hR2, hF, hqM, hN⟩, hS2⟩, fun _ _ _ _ => trivial, ?_, ?_⟩
     · rintro i x ρ M' hx ⟨⟨q, as, x3, rfl, hq, hR, hF, hqM, hN⟩, hS⟩
       obtain ⟨l, hx2, rfl⟩ := get_map_int hx
       obtain ⟨z1, z2⟩ := o4 l (List.mem_of_getElem? hx2)
       have hG := tabP_good (n := n) (ws := ws.take i) (fun y hy => o4 y (List.mem_of_mem_take hy))
       have hil : (ws.take i).length ≤ 16 := Nat.le_trans (by rw [List.length_take]; exact Nat.min_le_right _ _) o3
       have hpow : 3 ^ (ws.take i).length < 2 ^ 60 := Nat.lt_of_le_of_lt (Nat.pow_le_pow_right (by decide) hil) (by decide)
       have htab : tabP n (ws.take (i + 1)) = (tabP n (ws.take i)).map fun ps => wlP ps l := by
         rw [show ws.take (i + 1) = ws.take i ++ [l] by rw [List.take_add_one, hx2]; rfl, tabP_snoc]
       rw [hB]; clear hB
       walk_at "rd"
       rw [hq]
       dsimp only
       generalize tabP n (ws.take i) = rs at hR hG htab
       have has : as.length = rs.length := hR.1
       refine ⟨fun j ys M2 => (∃ bs : List Addr, ys = bs.map T.adr ∧ RowsP M2 bs ((rs.take j).map fun ps => wlP ps l) ∧ FrP M bs ∧ bs.Nodup) ∧ Sub M' M2, ⟨⟨[], rfl, RowsP.nil, fun _ z => absurd z List.not_mem_nil, .nil⟩, Sub.refl⟩, ?_, line_len (by rw [List.length_map, has, hG.1]; lia), ?_, ?_⟩
       · rintro j ys M2 ⟨_, hS2⟩
         exact hS2 _ _ hq
       · rintro j y ys M2 hy ⟨⟨bs, rfl, hR2, hF2, hN2⟩, hS2⟩
         obtain ⟨a, ha, rfl⟩ : ∃ a, as[j]? = some a ∧ T.adr a = y := by
           rw [List.getElem?_map] at hy
           exact Option.map_eq_some_iff.mp hy
         obtain ⟨ps, eps⟩ : ∃ ps, rs[j]? = some ps := ⟨_, List.getElem?_eq_getElem (by rw [← has]; exact (List.getElem?_eq_some_iff.mp ha).1)⟩
         have hMa := hS2 _ _ (hR.2 j a ps ha eps)
         obtain ⟨g1, g2⟩ := hG.2 ps (List.mem_of_getElem? eps)
         refine ⟨ps, _, _, hMa, by lia, by rw [g1]; lia, by rw [g1]; lia, g2, by lia, hpow, fun t M5 ht hS5 ht5 => ?_⟩
         have ej : (rs.take (j + 1)).map (fun ps => wlP ps l) = (rs.take j).map (fun ps => wlP ps l) ++ [wlP ps l] := by
           rw [List.take_add_one, eps, List.map_append]; rfl
         refine ⟨⟨bs ++ [t], by rw [List.map_append]; rfl, by rw [ej]; exact (hR2.sub hS5).snoc ht5, hF2.snoc (none_of (hS.trans hS2) ht), hR2.nd hN2 ht⟩, hS2.trans hS5⟩
       · rintro ys M2 ⟨⟨bs, rfl, hR2, hF2, hN2⟩, hS2⟩ v hv
         rw [List.length_map, has, List.take_length, ← htab] at hR2
         have hSv := Sub.new hv (o := MO.lst (bs.map T.adr))
         exact ⟨⟨v, bs, _, rfl, updM_same, hR2.sub hSv, hF2, none_of (hS.trans hS2) hv, hN2⟩, (hS.trans hS2).trans hSv⟩
     · rintro ρ M' ⟨⟨q, as, x3, rfl, hq, hR, hF, hqM, hN⟩, hS⟩
       try rw [List.length_map] at hR
       rw [List.take_length] at hR
       show rt3 M Q (T.adr q) M'
       exact rt3_sub (h q as M' hqM hS hq hR hF hN) Sub.refl
 · exact h.elim
noncomputable def sp_determinant : Nat → Sp3
 | 0 => fun _ _ _ => False
 | k + 1 => fun ts M Q => ∃ (r : Addr) (as : List Addr) (rs : List (List Po)) (a b : Nat), ts = [.adr r] ∧ M r = some (.lst (as.map T.adr)) ∧ RowsP M as rs ∧ rs.length ≤ k ∧ rs.length ≤ 6 ∧ GoodI rs.length a b rs ∧ rs.length * (a + b) ≤ 62 ∧ Q (poT (detP (rs.length + 1) rs)) M
theorem len_determinant {k : Nat} {ts : List T} {M : MH} {Q : VK3} (h : sp_determinant (k + 1) ts M Q) : ts.length = 1 := by
 obtain ⟨_, _, _, _, _, rfl, _⟩ := h
 rfl
theorem det_call {k a b : Nat} {r : Addr} {as : List Addr} {rs : List (List Po)} {M : MH} {Q : VK3} (hr : M r = some (.lst (as.map T.adr))) (hR : RowsP M as rs) (hk : rs.length ≤ k) (h6 : rs.length ≤ 6) (hG : GoodI rs.length a b rs) (h1 : rs.length * (a + b) ≤ 62) (h : Q (poT (detP (rs.length + 1) rs)) M) : sp_determinant (k + 1) [.adr r] M Q := by
 unfold sp_determinant
 exact ⟨r, as, rs, a, b, rfl, hr, hR, hk, h6, hG, h1, h⟩
theorem ok_determinant_0 {P : Program} {w : World} {K : PySem.W.Frag} {mg : Str → Option Value} {base : Heap} {f : Addr} {fd : FuncData} {n : Nat} (F : Fun K "determinant" "determinant" s_determinant f fd) (hm : mg "determinant" = some (.ref f)) (hb : Binds K fd ["rows"] []) : Df P w K mg base (n + 1) "determinant" ["rows"] (sp_determinant 0) := F.dfn hm hb sc_determinant (fun ts M Q h => h.elim) ⟨fun _ _ _ => False, fun cdv A outer s H E hr => hss_false, fun ts M Q h => h.elim⟩
theorem ok_determinant {P : Program} {w : World} {K : PySem.W.Frag} {mg : Str → Option Value} {base : Heap} {f : Addr} {fd : FuncData} {n : Nat}  {k : Nat} (F : Fun K "determinant" "determinant" s_determinant f fd) (hm : mg "determinant" = some (.ref f)) (hb : Binds K fd ["rows"] []) (Z : Zs K mg) (D_determinant : Df P w K mg base n "determinant" ["rows"] (sp_determinant k)) (D_added : Df P w K mg base n "added" ["one", "other"] sp_added) (D_multiplied : Df P w K mg base n "multiplied" ["one", "other"] sp_multiplied) : Df P w K mg base (n + 1) "determinant" ["rows"] (sp_determinant (k + 1)) := by
 obtain ⟨tk_ONE, c_ONE⟩ := Z.c_ONE
 obtain ⟨tk_NOUGHT, c_NOUGHT⟩ := Z.c_NOUGHT
 obtain ⟨tk_LESS_ONE, c_LESS_ONE⟩ := Z.c_LESS_ONE
 refine F.dfn hm hb sc_determinant (by intro ts M Q h; exact len_determinant h) ⟨_, fun cdv A outer s H E hr => (ss_cons (s_if (h_not (h_truth (hv 0))) (ss_one (s_ret (h_globT c_ONE))) ss_nil) (ss_cons (s_set (i := 1) (h_globT c_NOUGHT) sc_determinant.nd) (ss_cons (s_set (i := 2) (h_globT c_ONE) sc_determinant.nd) (ss_cons (s_for PassesOwn.never rfl (i_enum Z.b_enumerate (h_ix (hv 0) h_int)) (g_tup (n := 2) rfl (gs_cons (g_name (i := 3) sc_determinant.nd) (gs_cons (g_name (i := 4) sc_determinant.nd) gs_nil))) (ss_cons (s_if (h_truth (hv 4)) (ss_cons (s_set (i := 5) (h_call D_determinant hr (a_cons (h_comp rfl (i_seq (h_slice (hv 0) (o_some h_int) o_none)) (blk_scope (outer := defScope s_determinant) (N := ["rows", "whole", "sign", "column", "here", "rest"]) (N' := ["row", "column"]) (ix := [none, some 3]) (by decide +kernel) rfl rfl) bt_name (fun _ _ _ _ _ => pg_name (i := 0) (show List.Nodup (["row", "column"] : List Str) by decide +kernel) rfl (Or.inl rfl) (Or.inr rfl)) (fun _ _ _ _ _ => ts_nil) (fun _ _ _ _ _ => (h_bin op3_add (h_slice (hv 0) o_none (o_some (hv 1))) (h_slice (hv 0) (o_some (h_bin op3_add (hv 1) h_int)) o_none)))) a_nil)) sc_determinant.nd) (ss_one (s_set (i := 1) (h_call D_added hr (a_cons (hv 1) (a_cons (h_call D_multiplied hr (a_cons (h_call D_multiplied hr (a_cons (hv 4) (a_cons (hv 5) a_nil))) (a_cons (hv 2) a_nil))) a_nil))) sc_determinant.nd))) ss_nil) (ss_one (s_set (i := 2) (h_call D_multiplied hr (a_cons (hv 2) (a_cons (h_globT c_LESS_ONE) a_nil))) sc_determinant.nd)))) (ss_one (s_ret (hv 1))))))), fun ts M Q h => ?_⟩
 obtain ⟨r, as, rs, ia, ib, rfl, hr, hR, hk, h6, hG, hmb, h⟩ := h
 refine seq_cut fun K1 hK1 => ?_
 walk_at "rd"
 rw [hr]
 have hlen := hR.1
 cases rs with
 | nil =>
   cases as with
   | nil =>
     dsimp only
     rw [show (!(List.map T.adr []).isEmpty) = false from rfl, if_pos rfl]
     exact rt3_here h
   | cons a as => cases hlen
 | cons ps rs =>
   cases as with
   | nil => cases hlen
   | cons a as =>
     dsimp only
     rw [if_neg (show ¬ (!(List.map T.adr (a :: as)).isEmpty) = false by intro z; cases z)]
     obtain ⟨g1, g2⟩ := hG.2 ps (.head _)
     have g3 : ∀ qs ∈ rs, qs.length = rs.length + 1 ∧ ∀ p ∈ qs, GdI ia ib p ∧ Sml p := fun qs hq => hG.2 qs (.tail _ hq)
     have hMa := hR.2 0 a ps rfl rfl
     have hpl : ps.length = rs.length + 1 := g1
     have hR' : RowsP M as rs := ⟨by rw [List.length_cons, List.length_cons] at hlen; lia, fun i x l h1 h2 => hR.2 (i + 1) x l (by simpa using h1) (by simpa using h2)⟩
     rw [List.length_cons] at hk h6 hmb
     have hmb2 : (rs.length + 1) * (ia + ib) = rs.length * ia + rs.length * ib + (ia + ib) := by rw [Nat.add_mul, Nat.one_mul, Nat.mul_add]
     have hma : (rs.length + 1) * ia = rs.length * ia + ia := by rw [Nat.add_mul, Nat.one_mul]
     have hmbb : (rs.length + 1) * ib = rs.length * ib + ib := by rw [Nat.add_mul, Nat.one_mul]
     have hmm : rs.length * (ia + ib) = rs.length * ia + rs.length * ib := Nat.mul_add ..
     have hf : ∀ c, c < ps.length → GdI (rs.length * ia) (rs.length * ib) (detP (rs.length + 1) (dropC c rs)) := fun c hc => detP_goodI _ (dropC_goodI g3 (by rw [← hpl]; exact hc) rfl)
     change Q (poT ((List.range ps.length).foldl (stepD ps fun c => detP (rs.length + 1) (dropC c rs)) [])) M at h
     have hsum := foldD_goodI (m := rs.length) g2 hf
     rw [hK1]; clear hK1
     refine seq_cut3 fun K2 hK2 => ?_
     walk_at "rd"
     refine for_cut fun Bd hBd => ?_
     unfold tFor3
     walk_at "rd"
     rw [hr]
     dsimp only
     rw [List.map_cons, atI_0]
     dsimp only
     rw [hMa]
     dsimp only
     refine ⟨fun c ρ M' => (∃ (x3 x4 x5 : Option T), ρ = [some (T.adr r), some (poT ((List.range c).foldl (stepD ps fun c => detP (rs.length + 1) (dropC c rs)) [])), some (poT (sgnP c)), x3, x4, x5]) ∧ Sub M M', ⟨⟨_, _, _, rfl⟩, Sub.refl⟩, ?_, ?_, ?_⟩
     · rintro c ρ M' ⟨_, hS⟩
       exact hS _ _ hMa
     · rintro c x ρ M' hx ⟨⟨x3, x4, x5, rfl⟩, hS⟩
       obtain ⟨t, ht, rfl⟩ := enT_get hx
       obtain ⟨p, ep, rfl⟩ : ∃ p, ps[c]? = some p ∧ poT p = t := by
         rw [List.getElem?_map] at ht
         exact Option.map_eq_some_iff.mp ht
       have hc : c < ps.length := (List.getElem?_eq_some_iff.mp ep).1
       have ed : ps.getD c [] = p := by rw [List.getD_eq_getElem?_getD, ep]; rfl
       have hgp := g2 p (List.mem_of_getElem? ep)
       have hacc := hsum c (by lia)
       dsimp only
       refine ⟨rfl, rfl, ?_⟩
       rw [fold_range]
       generalize hA : (List.range c).foldl (stepD ps fun c => detP (rs.length + 1) (dropC c rs)) [] = acc at hacc ⊢
       have hstep : stepD ps (fun c => detP (rs.length + 1) (dropC c rs)) acc c = if p = [] then acc else addP acc (mulP' (mulP' p (detP (rs.length + 1) (dropC c rs))) (sgnP c)) := by unfold stepD; rw [ed]
       rw [hstep]
       rw [hBd]; clear hBd
       refine seq_cut fun K3 hK3 => ?_
       walk_at "rd"
       have fin : ∀ (M5 : MH) (x5' : Option T) (acc' : Po), acc' = (if p = [] then acc else addP acc (mulP' (mulP' p (detP (rs.length + 1) (dropC c rs))) (sgnP c))) → Sub M M5 → K3 [some (T.adr r), some (poT acc'), some (poT (sgnP c)), some (T.int c), some (poT p), x5'] M5 := fun M5 x5' acc' e hS5 => by
         rw [hK3]; clear hK3
         walk_at "rd"
         refine mul_callI (q := [(0, -1)]) (gdi_sgn c) gdi_less (by decide) (.inr (by unfold Sml; decide)) ?_
         exact ⟨⟨_, _, _, by rw [e]; rfl⟩, hS5⟩
       cases p with
       | nil =>
         show (if false = true then _ else _)
         rw [if_neg (by decide)]
         exact fin M' _ acc rfl hS
       | cons y p =>
         show (if true = true then _ else _)
         rw [if_pos rfl, hS _ _ hr]
         intro s hs
         have ecut : cutT ((a :: as).map T.adr) (some 1) none = as.map T.adr := by
           rw [cutT_from' _ _ (by decide)]; rfl
         rw [ecut]
         have hSs := Sub.new hs (o := MO.lst (as.map T.adr))
         have hMs : (updM M' s (MO.lst (as.map T.adr))) s = some (.lst (as.map T.adr)) := updM_same
         have hR4 := (hR'.sub hS).sub hSs
         have hS4 := hS.trans hSs
         generalize updM M' s (MO.lst (as.map T.adr)) = M4 at hMs hR4 hS4 ⊢
         clear hSs hs
         have has : as.length = rs.length := hR'.1
         refine ⟨fun j ys M2 => (∃ bs : List Addr, ys = bs.map T.adr ∧ RowsP M2 bs (dropC c (rs.take j))) ∧ Sub M4 M2, ⟨⟨[], rfl, RowsP.nil⟩, Sub.refl⟩, ?_, line_len (by rw [List.length_map]; lia), ?_, ?_⟩
         · rintro j ys M2 ⟨_, hS2⟩
           exact hS2 _ _ hMs
         · rintro j x ys M2 hx ⟨⟨bs, rfl, hR2⟩, hS2⟩
           obtain ⟨ai, hai, rfl⟩ : ∃ ai, as[j]? = some ai ∧ T.adr ai = x := by
             rw [List.getElem?_map] at hx
             exact Option.map_eq_some_iff.mp hx
           obtain ⟨qs, eqs⟩ : ∃ qs, rs[j]? = some qs := ⟨_, List.getElem?_eq_getElem (by rw [← has]; exact (List.getElem?_eq_some_iff.mp hai).1)⟩
           have hMi := hS2 _ _ (hR4.2 j ai qs hai eqs)
           have hql := (g3 qs (List.mem_of_getElem? eqs)).1
           dsimp only
           rw [hMi]
           intro c1 hc1
           have e1 : cutT (qs.map poT) none (some (c : Int)) = (qs.take c).map poT := by rw [cutT_to' _ _ (by lia), List.map_take]; rfl
           have e2 : cutT (qs.map poT) (some ((c : Int) + 1)) none = (qs.drop (c + 1)).map poT := by rw [show (c : Int) + 1 = ((c + 1 : Nat) : Int) by lia, cutT_from' _ _ (by lia), List.map_drop]; rfl
           rw [e1]
           have hS5 := Sub.new hc1 (o := MO.lst ((qs.take c).map poT))
           have h5i := hS5 _ _ hMi
           have h5c : (updM M2 c1 (MO.lst ((qs.take c).map poT))) c1 = some (.lst ((qs.take c).map poT)) := updM_same
           generalize updM M2 c1 (MO.lst ((qs.take c).map poT)) = M5 at hS5 h5i h5c ⊢
           rw [h5i]
           dsimp only
           intro c2 hc2
           rw [e2]
           have hS6 := Sub.new hc2 (o := MO.lst ((qs.drop (c + 1)).map poT))
           have h6c := hS6 _ _ h5c
           have h6d : (updM M5 c2 (MO.lst ((qs.drop (c + 1)).map poT))) c2 = some (.lst ((qs.drop (c + 1)).map poT)) := updM_same
           generalize updM M5 c2 (MO.lst ((qs.drop (c + 1)).map poT)) = M6 at hS6 h6c h6d ⊢
           rw [h6c]
           dsimp only
           refine ⟨line_len' (by rw [List.length_map, List.length_map, List.length_take, List.length_drop]; lia), fun v hv => ?_⟩
           have hSv := Sub.new hv (o := MO.lst ((qs.take c).map poT ++ (qs.drop (c + 1)).map poT))
           have ej : dropC c (rs.take (j + 1)) = dropC c (rs.take j) ++ [qs.take c ++ qs.drop (c + 1)] := by
             unfold dropC
             rw [List.take_add_one, eqs, List.map_append]; rfl
           have hRv := (((hR2.sub hS5).sub hS6).sub hSv).snoc (ps := qs.take c ++ qs.drop (c + 1)) (a := v) (by rw [updM_same, List.map_append])
           refine ⟨⟨bs ++ [v], by rw [List.map_append]; rfl, by rw [ej]; exact hRv⟩, ((hS2.trans hS5).trans hS6).trans hSv⟩
         · rintro ys M2 ⟨⟨bs, rfl, hR2⟩, hS2⟩ v hv
           rw [List.length_map, has, List.take_length] at hR2
           have hSv := Sub.new hv (o := MO.lst (bs.map T.adr))
           have hMv : (updM M2 v (MO.lst (bs.map T.adr))) v = some (.lst (bs.map T.adr)) := updM_same
           have hR7 := hR2.sub hSv
           have hS7 := (hS4.trans hS2).trans hSv
           generalize updM M2 v (MO.lst (bs.map T.adr)) = M7 at hMv hR7 hS7 ⊢
           have hdl : (dropC c rs).length = rs.length := by unfold dropC; rw [List.length_map]
           have hGd : GoodI rs.length ia ib (dropC c rs) := dropC_goodI g3 (by rw [← hpl]; exact hc) rfl
           cases k with
           | zero => lia
           | succ k =>
             refine det_call (a := ia) (b := ib) hMv hR7 (by rw [hdl]; lia) (by rw [hdl]; lia) (by rw [hdl]; exact hGd) (by rw [hdl, hmm]; lia) ?_
             rw [hdl]
             have hgd := hf c hc
             refine mul_callI hgp.1 hgd (by lia) (.inl hgp.2) ?_
             refine mul_callI (hgp.1.mul hgd) (gdi_sgn c) (by lia) (.inr (n1_lt (good_sgn c) (by decide))) ?_
             refine add_callI hacc ((hgp.1.mul hgd).mul (gdi_sgn c) |>.mono (c := (rs.length + 1) * ia) (d := (rs.length + 1) * ib) (by lia) (by lia)) (by lia) ?_
             exact fin M7 _ _ (by rw [if_neg (by intro z; cases z)]) hS7
     · rintro ρ M' ⟨⟨x3, x4, x5, rfl⟩, hS⟩
       rw [enT_length, List.length_map]
       rw [hK2]; clear hK2
       walk_at "rd"
       exact rt3_sub h hS
noncomputable def sp_from_nought : Sp3 := fun ts M Q => match ts with
 | [.tup a] => ∃ (p : Po) (c b : Nat), a = p.map prT ∧ GdI c b p ∧ c + b ≤ 62 ∧ Q (poT (fromP p)) M
 | _ => False
theorem ok_from_nought {P : Program} {w : World} {K : PySem.W.Frag} {mg : Str → Option Value} {base : Heap} {f : Addr} {fd : FuncData} {n : Nat}  (F : Fun K "from_nought" "from_nought" s_from_nought f fd) (hm : mg "from_nought" = some (.ref f)) (hb : Binds K fd ["whole"] []) (Z : Zs K mg) (D_multiplied : Df P w K mg base n "multiplied" ["one", "other"] sp_multiplied) : Df P w K mg base (n + 1) "from_nought" ["whole"] sp_from_nought := by
 obtain ⟨tk_NOUGHT, c_NOUGHT⟩ := Z.c_NOUGHT
 refine F.dfn hm hb sc_from_nought (by intro ts M Q h; unfold sp_from_nought at h; first | (split at h <;> first | rfl | exact h.elim) | (obtain ⟨_, _, _, _, _, rfl, _⟩ := h; rfl) | (obtain ⟨_, _, _, _, rfl, _⟩ := h; rfl) | (obtain ⟨_, _, _, rfl, _⟩ := h; rfl) | (obtain ⟨_, _, rfl, _⟩ := h; rfl) | (obtain ⟨_, rfl, _⟩ := h; rfl)) ⟨_, fun cdv A outer s H E hr => (ss_cons (s_if (h_not (h_truth (hv 0))) (ss_one (s_ret (h_globT c_NOUGHT))) ss_nil) (ss_cons (s_set (i := 1) (h_ix (hv 0) h_int) sc_from_nought.nd) (ss_cons (s_set (i := 2) (h_ifx (h_tcmp op3_gt (h_ix (hv 1) h_int) h_int (nomark _)) h_int (h_un un3_neg h_int)) sc_from_nought.nd) (ss_one (s_ret (h_call D_multiplied hr (a_cons (hv 0) (@a_consT _ _ _ _ _ _ _ (h_tup (@a_consT _ _ _ _ _ _ _ (h_tup (a_cons (h_un un3_neg (h_ix (hv 1) h_int)) (a_cons (hv 2) a_nil))) a_nil)) a_nil)))))))), fun ts M Q h => ?_⟩
 unfold sp_from_nought at h
 split at h
 · rename_i a
   obtain ⟨p, c, b, rfl, hg, hb, h⟩ := h
   cases p with
   | nil =>
     refine seq_cut fun K1 hK1 => ?_
     walk_at "rd"
     exact rt3_here h
   | cons x p =>
     refine seq_cut fun K1 hK1 => ?_
     walk_at "rd"
     rw [if_neg (show ¬ (!(List.map prT (x :: p)).isEmpty) = false by intro z; cases z)]
     rw [hK1]; clear hK1
     refine seq_cut fun K2 hK2 => ?_
     walk_at "rd"
     rw [List.map_cons, atI_0]
     dsimp only
     rw [hK2]; clear hK2
     refine seq_cut fun K3 hK3 => ?_
     walk_at "rd"
     have key : ∀ g : Int, g = (if 0 < x.2 then 1 else -1) → K3 [some (T.tup (prT x :: List.map prT p)), some (prT x), some (T.int g)] M := fun g e => by
       rw [hK3]; clear hK3
       walk_at "rd"
       rw [show prT x = T.tup [T.int x.1, T.int x.2] from rfl]
       dsimp only
       rw [atI_0]
       dsimp only
       have hlen := hg.1.lenI hg.2
       have hsg : Sml [(-x.1, g)] := fun y hy => by
         rw [List.mem_singleton.mp hy]
         show g.natAbs < 2 ^ 64
         rw [e]; split <;> decide
       refine ⟨by decide, by decide, x :: p, [(-x.1, g)], (x :: p).map fun y => y.1 + -x.1, rfl, rfl, by rw [List.length_map]; lia, fun y hy z hz => ?_, Or.inr hsg, by lia, by show 1 ≤ 5000; decide, ?_⟩
       · rw [List.mem_singleton.mp hz]
         exact List.mem_map.mpr ⟨y, hy, rfl⟩
       · rw [e]
         exact rt3_here h
     rw [show prT x = T.tup [T.int x.1, T.int x.2] from rfl] at key ⊢
     dsimp only
     rw [atI_1]
     dsimp only
     refine ite2 (fun c => key _ (by rw [if_pos c])) (fun c => key _ (by rw [if_neg c]))
 · exact h.elim
noncomputable def sp_closed_sum : Sp3 := fun ts M Q => match ts with
 | [.tup [.int n, .tup w]] => ∃ ws : List Int, w = ws.map .int ∧ PlOK n ws ∧ SmallI n ws ∧ Q (poT (closP n ws)) M
 | _ => False
theorem ok_closed_sum {P : Program} {w : World} {K : PySem.W.Frag} {mg : Str → Option Value} {base : Heap} {f : Addr} {fd : FuncData} {n : Nat}  (F : Fun K "closed_sum" "closed_sum" s_closed_sum f fd) (hm : mg "closed_sum" = some (.ref f)) (hb : Binds K fd ["plait"] []) (Z : Zs K mg) (D_table_of : Df P w K mg base n "table_of" ["plait"] sp_table_of) (D_added : Df P w K mg base n "added" ["one", "other"] sp_added) (D_one_where_same : Df P w K mg base n "one_where_same" ["row", "column"] sp_one_where_same) (D_multiplied : Df P w K mg base n "multiplied" ["one", "other"] sp_multiplied) (D_from_nought : Df P w K mg base n "from_nought" ["whole"] sp_from_nought) (D_determinant : Df P w K mg base n "determinant" ["rows"] (sp_determinant 6)) : Df P w K mg base (n + 1) "closed_sum" ["plait"] sp_closed_sum := by
 obtain ⟨tk_LESS_ONE, c_LESS_ONE⟩ := Z.c_LESS_ONE
 refine F.dfn hm hb sc_closed_sum (by intro ts M Q h; unfold sp_closed_sum at h; first | (split at h <;> first | rfl | exact h.elim) | (obtain ⟨_, _, _, _, _, rfl, _⟩ := h; rfl) | (obtain ⟨_, _, _, _, rfl, _⟩ := h; rfl) | (obtain ⟨_, _, _, rfl, _⟩ := h; rfl) | (obtain ⟨_, _, rfl, _⟩ := h; rfl) | (obtain ⟨_, rfl, _⟩ := h; rfl)) ⟨_, fun cdv A outer s H E hr => (ss_cons (s_set (i := 1) (h_call D_table_of hr (a_cons (hv 0) a_nil)) sc_closed_sum.nd) (ss_cons (s_set (i := 2) (h_listRange2 Z.b_list Z.b_range (a_cons h_int (a_cons (h_ix (hv 0) h_int) a_nil))) sc_closed_sum.nd) (ss_cons (s_set (i := 3) (h_lst a_nil) sc_closed_sum.nd) (ss_cons (s_for PassesOwn.never rfl (i_seq (hv 2)) (g_name (i := 4) sc_closed_sum.nd) (ss_one (s_expr (h_m_append (hv 3) (a_cons (h_comp rfl (i_seq (hv 2)) (blk_scope (outer := defScope s_closed_sum) (N := ["plait", "table", "places", "rows", "row"]) (N' := ["column", "row", "table"]) (ix := [none, some 4, some 1]) (by decide +kernel) rfl rfl) bt_name (fun _ _ _ _ _ => pg_name (i := 0) (show List.Nodup (["column", "row", "table"] : List Str) by decide +kernel) rfl (Or.inl rfl) (Or.inr rfl)) (fun _ _ _ _ _ => ts_nil) (fun _ _ _ _ _ => (h_call D_added hr (a_cons (h_call D_one_where_same hr (a_cons (hv 1) (a_cons (hv 0) a_nil))) (a_cons (h_call D_multiplied hr (a_cons (h_ix (h_ix (hv 2) (hv 1)) (hv 0)) (a_cons (h_globT c_LESS_ONE) a_nil))) a_nil))))) a_nil))))) (ss_one (s_ret (h_call D_from_nought hr (a_cons (h_call D_determinant hr (a_cons (hv 3) a_nil)) a_nil)))))))), fun ts M Q h => ?_⟩
 unfold sp_closed_sum at h
 split at h
 · rename_i n w
   obtain ⟨ws, rfl, ok, hsm, h⟩ := h
   refine seq_cut fun K1 hK1 => ?_
   walk_at "rd"
   refine ⟨ws, rfl, ok, fun r as M1 hr hS1 hr1 hR1 hF1 _ => ?_⟩
   show K1 _ _
   obtain ⟨o1, o2, o3, o4⟩ := id ok
   have hG := tabP_good (n := n) o4
   have hpow : 3 ^ ws.length < 2 ^ 59 := Nat.lt_of_le_of_lt (Nat.pow_le_pow_right (by decide) o3) (by decide)
   have hlT : (lessT n ws).length = n.toNat - 1 := by unfold lessT; rw [List.length_map, List.length_range]
   rw [hK1]; clear hK1
   refine seq_cut3 fun K2 hK2 => ?_
   walk_at "rd"
   obtain ⟨m, hm⟩ : ∃ m : Nat, n = (m : Int) + 1 := ⟨n.toNat - 1, by lia⟩
   have hmn : n.toNat = m + 1 := by lia
   have hm1 : n.toNat - 1 = m := by lia
   rw [show (n - 1).toNat = m by lia]
   refine ⟨⟨by decide, by decide, by lia, by lia, by lia⟩, fun p hp v hv => ?_⟩
   have hSp := Sub.new hp (o := MO.lst (rangeT 1 m))
   have hMp0 : (updM M1 p (MO.lst (rangeT 1 m))) p = some (.lst (rangeT 1 m)) := updM_same
   generalize updM M1 p (MO.lst (rangeT 1 m)) = M2 at hSp hMp0 hv ⊢
   have hSv := Sub.new hv (o := MO.lst [])
   have hMv : (updM M2 v (MO.lst [])) v = some (.lst (([] : List Addr).map T.adr)) := updM_same
   have hMp := hSv _ _ hMp0
   have hr3 := hSv _ _ (hSp _ _ hr1)
   have hR3 := (hR1.sub hSp).sub hSv
   have hvM : M v = none := none_of (hS1.trans hSp) hv
   have hpv : p ≠ v := fun z => by rw [z, hv] at hMp0; cases hMp0
   have hrv : r ≠ v := fun z => by rw [z] at hr1; rw [hSp _ _ hr1] at hv; cases hv
   have has : as.length = n.toNat := hR1.1.trans hG.1
   have hav : ∀ a ∈ as, a ≠ v := fun a ha z => by
     obtain ⟨j, hj⟩ := List.getElem?_of_mem ha
     obtain ⟨l, el⟩ : ∃ l, (tabP n ws)[j]? = some l := ⟨_, List.getElem?_eq_getElem (by rw [← hR1.1]; exact (List.getElem?_eq_some_iff.mp hj).1)⟩
     rw [← z, (hR1.sub hSp).2 j a l hj el] at hv; cases hv
   have hS3 := (hS1.trans hSp).trans hSv
   generalize updM M2 v (MO.lst []) = M3 at hMv hMp hr3 hR3 hS3 ⊢
   clear hSp hMp0 hSv hv hp hS1 hr1 hR1 hF1 hr
   have hsd : ∀ i, i < m → (lessT n ws)[i]? = some ((List.range m).map fun c => addP (oneP ((i + 1 : Nat) : Int) ((c + 1 : Nat) : Int)) (mulP' (((tabP n ws).getD (i + 1) []).getD (c + 1) []) [(0, -1)])) := fun i hi => by
     unfold lessT
     rw [hm1, List.getElem?_map, List.getElem?_range hi]; rfl
   refine for_cut fun B hB => ?_
   unfold tFor3
   walk_at "rd"
   rw [hMp]
   dsimp only
   refine ⟨fun i ρ M' => (∃ (bs : List Addr) (x4 : Option T), ρ = [some (T.tup [T.int n, T.tup (ws.map T.int)]), some (T.adr r), some (T.adr p), some (T.adr v), x4] ∧ M' v = some (.lst (bs.map T.adr)) ∧ RowsP M' bs ((lessT n ws).take i) ∧ ∀ b ∈ bs, b ≠ v) ∧ M' p = some (.lst (rangeT 1 m)) ∧ M' r = some (.lst (as.map T.adr)) ∧ RowsP M' as (tabP n ws) ∧ Sub M M', ⟨⟨[], _, rfl, hMv, RowsP.nil, fun _ z => absurd z List.not_mem_nil⟩, hMp, hr3, hR3, hS3⟩, fun _ _ _ z => z.2.1, ?_, ?_⟩
   · rintro i x ρ M' hx ⟨⟨bs, x4, rfl, hv4, hB4, hbv⟩, hp4, hr4, hR4, hS4⟩
     obtain ⟨hi, rfl⟩ := rangeT_get hx
     obtain ⟨a, ha⟩ : ∃ a, as[i + 1]? = some a := ⟨_, List.getElem?_eq_getElem (by lia)⟩
     obtain ⟨ps, eps⟩ : ∃ ps, (tabP n ws)[i + 1]? = some ps := ⟨_, List.getElem?_eq_getElem (by rw [hG.1]; lia)⟩
     have hMa := hR4.2 (i + 1) a ps ha eps
     obtain ⟨g1, g2⟩ := hG.2 ps (List.mem_of_getElem? eps)
     have egd : (tabP n ws).getD (i + 1) [] = ps := by rw [List.getD_eq_getElem?_getD, eps]; rfl
     have hsdi := hsd i hi
     rw [egd] at hsdi
     rw [hB]; clear hB
     walk_at "rd"
     rw [hv4, hp4]
     refine ⟨trivial, ?_⟩
     dsimp only
     refine ⟨fun j zs M5 => zs = ((List.range j).map fun c => addP (oneP ((i + 1 : Nat) : Int) ((c + 1 : Nat) : Int)) (mulP' (ps.getD (c + 1) []) [(0, -1)])).map poT ∧ M5 = M', ⟨rfl, rfl⟩, ?_, by rw [rangeT_length]; exact line_len (by lia), ?_, ?_⟩
     · rintro j zs M5 ⟨_, rfl⟩
       exact hp4
     · rintro j y zs M5 hy ⟨rfl, rfl⟩
       obtain ⟨hj, rfl⟩ := rangeT_get hy
       have e1 : atI (as.map T.adr) (1 + (i : Int)) = some (.adr a) := by
         rw [show 1 + (i : Int) = ((i + 1 : Nat) : Int) by lia]
         exact atI_nat (by rw [List.getElem?_map, ha]; rfl)
       have e2 : atI (ps.map poT) (1 + (j : Int)) = some (poT (ps.getD (j + 1) [])) := by
         rw [show 1 + (j : Int) = ((j + 1 : Nat) : Int) by lia]
         exact atI_nat (by rw [List.getElem?_map, List.getD_eq_getElem?_getD, List.getElem?_eq_getElem (by lia : j + 1 < ps.length)]; rfl)
       dsimp only [sp_one_where_same]
       rw [hr4]
       dsimp only
       rw [e1]
       dsimp only
       rw [hMa]
       dsimp only
       rw [e2]
       dsimp only
       have gj := getD_good g2 (i := j + 1) (by lia)
       refine mul_call (q := [(0, -1)]) (b := 0) (C := 1) gj ⟨⟨by decide, by decide⟩, by unfold PwB; decide, by decide⟩ (by lia) (by lia) ?_
       refine add_call (a := ws.length + 0) ((good_one _ _).mono (by lia) (Nat.le_refl _)) (gj.mul (q := [(0, -1)]) (b := 0) (C := 1) ⟨⟨by decide, by decide⟩, by unfold PwB; decide, by decide⟩) (by lia) ?_
       refine ⟨?_, rfl⟩
       rw [List.range_succ, List.map_append, List.map_append, show 1 + (i : Int) = ((i + 1 : Nat) : Int) by lia, show 1 + (j : Int) = ((j + 1 : Nat) : Int) by lia]; rfl
     · rintro zs M5 ⟨rfl, rfl⟩ c hc
       rw [rangeT_length]
       generalize hrow : ((List.range m).map fun c => addP (oneP ((i + 1 : Nat) : Int) ((c + 1 : Nat) : Int)) (mulP' (ps.getD (c + 1) []) [(0, -1)])) = row at hsdi ⊢
       have hSc := Sub.new hc (o := MO.lst (row.map poT))
       have hcv : c ≠ v := fun z => by rw [z, hv4] at hc; cases hc
       have h6v := hSc _ _ hv4
       have h6p := hSc _ _ hp4
       have h6r := hSc _ _ hr4
       have h6R := hR4.sub hSc
       have h6B := hB4.sub hSc
       have h6c : (updM M5 c (MO.lst (row.map poT))) c = some (.lst (row.map poT)) := updM_same
       have hS6 := hS4.trans hSc
       generalize updM M5 c (MO.lst (row.map poT)) = M6 at h6v h6p h6r h6R h6B h6c hS6 ⊢
       rw [h6v]
       dsimp only
       have keepv : ∀ {xs : List Addr} {rs : List (List Po)} {o : MO}, RowsP M6 xs rs → (∀ x ∈ xs, x ≠ v) → RowsP (updM M6 v o) xs rs := fun {xs rs o} hx hn => ⟨hx.1, fun q a l q1 q2 => by rw [updM_ne (hn a (List.mem_of_getElem? q1))]; exact hx.2 q a l q1 q2⟩
       have htk : (lessT n ws).take (i + 1) = (lessT n ws).take i ++ [row] := by rw [List.take_add_one, hsdi]; rfl
       have hbl : bs.length = i := by rw [h6B.1, List.length_take, hlT]; lia
       refine ⟨by rw [List.length_map]; exact line_len (by lia), ⟨bs ++ [c], _, rfl, by rw [List.map_append]; rfl, ?_, fun b hb => ?_⟩, ?_, ?_, ?_, hS6.updF hvM⟩
       · rw [htk]
         exact (keepv h6B hbv).snoc (by rw [updM_ne hcv]; exact h6c)
       · rcases List.mem_append.mp hb with z | z
         · exact hbv b z
         · rw [List.mem_singleton.mp z]; exact hcv
       · rw [updM_ne hpv]; exact h6p
       · rw [updM_ne hrv]; exact h6r
       · exact keepv h6R hav
   · rintro ρ M' ⟨⟨bs, x4, rfl, hv4, hB4, hbv⟩, hp4, hr4, hR4, hS4⟩
     rw [rangeT_length] at hB4
     rw [show (lessT n ws).take m = lessT n ws from List.take_of_length_le (by lia)] at hB4
     rw [hK2]; clear hK2
     walk_at "rd"
     have hsd := small_det ok hsm
     rw [hm1] at hsd
     have hGl : GoodI m (nD ws) (nU ws) (lessT n ws) := hm1 ▸ lessT_goodI ok
     have hlm : (lessT n ws).length = m := by rw [hlT, hm1]
     refine det_call (a := nD ws) (b := nU ws) hv4 hB4 (by rw [hlm]; lia) (by rw [hlm]; lia) (by rw [hlm]; exact hGl) (by rw [hlm, Nat.mul_add]; exact hsd.2) ?_
     rw [hlm]
     refine ⟨_, _, _, rfl, hsd.1, hsd.2, ?_⟩
     unfold closP at h
     rw [hmn] at h
     exact rt3_sub h hS4
 · exact h.elim
noncomputable def sp_closed_weight : Sp3 := fun ts M Q => match ts with
 | [.tup [.int n, .tup w]] => ∃ ws : List Int, w = ws.map .int ∧ PlOK n ws ∧ SmallI n ws ∧ Q (.int (weightP (closP n ws))) M
 | _ => False
theorem ok_closed_weight {P : Program} {w : World} {K : PySem.W.Frag} {mg : Str → Option Value} {base : Heap} {f : Addr} {fd : FuncData} {n : Nat}  (F : Fun K "closed_weight" "closed_weight" s_closed_weight f fd) (hm : mg "closed_weight" = some (.ref f)) (hb : Binds K fd ["plait"] []) (Z : Zs K mg) (D_closed_sum : Df P w K mg base n "closed_sum" ["plait"] sp_closed_sum) : Df P w K mg base (n + 1) "closed_weight" ["plait"] sp_closed_weight := by
 refine F.dfn hm hb sc_closed_weight (by intro ts M Q h; unfold sp_closed_weight at h; first | (split at h <;> first | rfl | exact h.elim) | (obtain ⟨_, _, _, _, _, rfl, _⟩ := h; rfl) | (obtain ⟨_, _, _, _, rfl, _⟩ := h; rfl) | (obtain ⟨_, _, _, rfl, _⟩ := h; rfl) | (obtain ⟨_, _, rfl, _⟩ := h; rfl) | (obtain ⟨_, rfl, _⟩ := h; rfl)) ⟨_, fun cdv A outer s H E hr => (ss_one (s_ret (h_callB call3_abs Z.b_abs PyProof.Rows.boot_abs (a_cons (h_callB (call3_sum rfl) Z.b_sum PyProof.Rows.boot_sum (a_cons (h_comp rfl (i_seq (h_call D_closed_sum hr (a_cons (hv 0) a_nil))) (blk_scope (outer := defScope s_closed_weight) (N := ["plait"]) (N' := ["power", "count"]) (ix := [none, none]) (by decide +kernel) rfl rfl) bt_tup2 (fun _ _ _ _ _ => pg_tup rfl (pgs_cons (pg_name (i := 0) (show List.Nodup (["power", "count"] : List Str) by decide +kernel) rfl (Or.inl rfl) (Or.inr rfl)) (pgs_cons (pg_name (i := 1) (show List.Nodup (["power", "count"] : List Str) by decide +kernel) rfl (Or.inl rfl) (Or.inr rfl)) pgs_nil))) (fun _ _ _ _ _ => ts_nil) (fun _ _ _ _ _ => (h_ifx (h_tcmp (op3_eq hr.units) (h_bin op3_mod (hv 0) h_int) h_int (nomark _)) (hv 1) (h_un un3_neg (hv 1))))) a_nil)) a_nil)))), fun ts M Q h => ?_⟩
 unfold sp_closed_weight at h
 split at h
 · rename_i n w
   obtain ⟨ws, rfl, ok, hsm, h⟩ := h
   walk_at "rd"
   have hlen : (closP n ws).length < 10000 := by have := closP_lenI ok hsm; lia
   refine ⟨ws, rfl, ok, hsm, ?_⟩
   unfold weightP at h
   generalize closP n ws = p at h hlen ⊢
   unfold poT
   dsimp only
   refine ⟨fun i ys M' => ys = ((p.take i).map wtI).map T.int ∧ M' = M, ⟨rfl, rfl⟩, fun _ _ _ _ => trivial, by rw [List.length_map]; exact line_len hlen, ?_, ?_⟩
   · rintro i x ys M' hx ⟨rfl, rfl⟩
     obtain ⟨⟨y1, y2⟩, hx2, rfl⟩ : ∃ y, p[i]? = some y ∧ prT y = x := by
       rw [List.getElem?_map] at hx
       exact Option.map_eq_some_iff.mp hx
     rw [show prT (y1, y2) = T.tup [T.int y1, T.int y2] from rfl]
     dsimp only
     refine ⟨rfl, rfl, by decide, ?_⟩
     have ht := take_succ_map wtI hx2
     have hw : wtI (y1, y2) = if y1 % 2 = 0 then y2 else -y2 := rfl
     refine ite2 (fun c => ?_) (fun c => ?_)
     · rw [if_pos c] at hw
       refine ⟨?_, rfl⟩
       rw [← ht, List.map_append, hw]; rfl
     · rw [if_neg c] at hw
       refine ⟨?_, rfl⟩
       rw [← ht, List.map_append, hw]; rfl
   · rintro ys M' ⟨rfl, rfl⟩ q hq
     rw [List.length_map, List.take_length, intsT_map]
     exact rt3_sub h (Sub.new hq)
 · exact h.elim
noncomputable def sp__law_cell_at : Sp3 := fun ts M Q => match ts with
 | [.rd s, .int k] => ∃ ns : List Int, s = ns.map .int ∧ 0 ≤ k ∧ ∀ c, Q (.int c) M
 | _ => False
theorem ok__law_cell_at {P : Program} {w : World} {K : PySem.W.Frag} {mg : Str → Option Value} {base : Heap} {f : Addr} {fd : FuncData} {n : Nat}  (F : Fun K "_law_cell_at" "_law_cell_at" s__law_cell_at f fd) (hm : mg "_law_cell_at" = some (.ref f)) (hb : Binds K fd ["script", "k"] []) (Z : Zs K mg)  : Df P w K mg base (n + 1) "_law_cell_at" ["script", "k"] sp__law_cell_at := by
 refine F.dfn hm hb sc__law_cell_at (by intro ts M Q h; unfold sp__law_cell_at at h; first | (split at h <;> first | rfl | exact h.elim) | (obtain ⟨_, _, _, _, _, rfl, _⟩ := h; rfl) | (obtain ⟨_, _, _, _, rfl, _⟩ := h; rfl) | (obtain ⟨_, _, _, rfl, _⟩ := h; rfl) | (obtain ⟨_, _, rfl, _⟩ := h; rfl) | (obtain ⟨_, rfl, _⟩ := h; rfl)) ⟨_, fun cdv A outer s H E hr => (ss_cons (s_if (h_tcmp op3_lt (hv 1) (h_callB call3_len Z.b_len PySem.boot_len (a_cons (hv 0) a_nil)) (nomark _)) (ss_one (s_ret (h_ix (hv 0) (hv 1)))) ss_nil) (ss_one (s_ret h_int))), fun ts M Q h => ?_⟩
 unfold sp__law_cell_at at h
 split at h
 · rename_i s k
   obtain ⟨ns, rfl, h0, h⟩ := h
   walk_at "rd"
   refine ite2 (fun c => ?_) (fun c => rt3_here (h _))
   rw [atI_ints ns k h0 c]
   exact rt3_here (h _)
 · exact h.elim
noncomputable def sp__law_state : Sp3 := fun ts M Q => match ts with
 | [.rd s, .int k] => ∃ ns : List Int, s = ns.map .int ∧ 0 ≤ k ∧ ∀ p n f, M p = none → Q (.adr p) (updM M p (.lst [.int n, .bl f]))
 | _ => False
theorem ok__law_state {P : Program} {w : World} {K : PySem.W.Frag} {mg : Str → Option Value} {base : Heap} {f : Addr} {fd : FuncData} {n : Nat}  (F : Fun K "_law_state" "_law_state" s__law_state f fd) (hm : mg "_law_state" = some (.ref f)) (hb : Binds K fd ["script", "k"] []) (Z : Zs K mg) (D__law_cell_at : Df P w K mg base n "_law_cell_at" ["script", "k"] sp__law_cell_at) : Df P w K mg base (n + 1) "_law_state" ["script", "k"] sp__law_state := by
 refine F.dfn hm hb sc__law_state (by intro ts M Q h; unfold sp__law_state at h; first | (split at h <;> first | rfl | exact h.elim) | (obtain ⟨_, _, _, _, _, rfl, _⟩ := h; rfl) | (obtain ⟨_, _, _, _, rfl, _⟩ := h; rfl) | (obtain ⟨_, _, _, rfl, _⟩ := h; rfl) | (obtain ⟨_, _, rfl, _⟩ := h; rfl) | (obtain ⟨_, rfl, _⟩ := h; rfl)) ⟨_, fun cdv A outer s H E hr => (ss_cons (s_set (i := 2) (h_call D__law_cell_at hr (a_cons (hv 0) (a_cons (hv 1) a_nil))) sc__law_state.nd) (ss_cons (s_if (h_tcmp op3_ge (hv 2) (h_bin op3_pow h_int h_int) (nomark _)) (ss_one (s_ret (h_lst (a_cons (h_bin op3_sub (hv 2) (h_bin op3_pow h_int h_int)) (a_cons h_bl a_nil))))) ss_nil) (ss_one (s_ret (h_lst (a_cons (h_bin op3_mod (hv 2) h_int) (a_cons h_bl a_nil))))))), fun ts M Q h => ?_⟩
 unfold sp__law_state at h
 split at h
 · rename_i s k
   obtain ⟨ns, rfl, h0, h⟩ := h
   walk_at "rd"
   refine ⟨ns, rfl, h0, fun c => ?_⟩
   walk_at "rd"
   refine ⟨⟨by decide, by decide, by decide⟩, ?_⟩
   refine ite2 (fun _ => ⟨⟨by decide, by decide, by decide⟩, by decide, fun p hp => rt3_here (h _ _ _ hp)⟩) (fun _ => ⟨by decide, by decide, fun p hp => rt3_here (h _ _ _ hp)⟩)
 · exact h.elim
theorem cmul_mod {x y k : Int} (hk : 0 < k) (hk' : k ≤ 2 ^ 64) : CMul (x % k) y := by
 have h1 := Int.emod_nonneg x (Int.ne_of_gt hk)
 have h2 := Int.emod_lt_of_pos x hk
 exact .inl ⟨by lia, by lia⟩
theorem cdiv_ok {x m : Int} (h0 : 0 < m) (h1 : m < 2 ^ 100) : CDivB x m := by
 refine ⟨h0, ?_⟩
 have : m.natAbs.log2 < 100 := (Nat.log2_lt (by lia)).mpr (by lia)
 lia
noncomputable def sp__law_choice : Sp3 := fun ts M Q => match ts with
 | [.adr p, .int m] => ∃ s f, M p = some (.lst [.int s, .bl f]) ∧ 0 < m ∧ m < 2 ^ 100 ∧ ∀ c s', 0 ≤ c → c < m → Q (.int c) (updM M p (.lst [.int s', .bl f]))
 | _ => False
theorem ok__law_choice {P : Program} {w : World} {K : PySem.W.Frag} {mg : Str → Option Value} {base : Heap} {f : Addr} {fd : FuncData} {n : Nat}  (F : Fun K "_law_choice" "_law_choice" s__law_choice f fd) (hm : mg "_law_choice" = some (.ref f)) (hb : Binds K fd ["state", "many"] []) (Z : Zs K mg)  : Df P w K mg base (n + 1) "_law_choice" ["state", "many"] sp__law_choice := by
 refine F.dfn hm hb sc__law_choice (by intro ts M Q h; unfold sp__law_choice at h; first | (split at h <;> first | rfl | exact h.elim) | (obtain ⟨_, _, _, _, _, rfl, _⟩ := h; rfl) | (obtain ⟨_, _, _, _, rfl, _⟩ := h; rfl) | (obtain ⟨_, _, _, rfl, _⟩ := h; rfl) | (obtain ⟨_, _, rfl, _⟩ := h; rfl) | (obtain ⟨_, rfl, _⟩ := h; rfl)) ⟨_, fun cdv A outer s H E hr => (ss_cons (s_if (h_truth (h_ix (hv 0) h_int)) (ss_cons (s_set (i := 2) (h_bin op3_mod (h_ix (hv 0) h_int) (hv 1)) sc__law_choice.nd) (ss_cons (s_asg (h_bin op3_div (h_ix (hv 0) h_int) (hv 1)) (g_sub (hv 0) h_int)) (ss_one (s_ret (hv 2))))) ss_nil) (ss_cons (s_asg (h_bin op3_mod (h_bin op3_add (h_bin op3_mul (h_ix (hv 0) h_int) h_int) h_int) h_int) (g_sub (hv 0) h_int)) (ss_cons (s_set (i := 3) (h_bin op3_mod (h_bin op3_add (h_bin op3_add (h_bin op3_mul (h_ix (hv 0) h_int) (h_ix (hv 0) h_int)) (h_bin op3_mul h_int (h_ix (hv 0) h_int))) h_int) h_int) sc__law_choice.nd) (ss_cons (s_set (i := 3) (h_bin op3_mod (h_bin op3_add (h_bin op3_mul (hv 3) (hv 3)) (h_bin op3_mul h_int (hv 3))) h_int) sc__law_choice.nd) (ss_one (s_ret (h_bin op3_mod (h_bin op3_div (hv 3) h_int) (hv 1)))))))), fun ts M Q h => ?_⟩
 unfold sp__law_choice at h
 split at h
 · rename_i p m
   obtain ⟨s, f, hM, h0, h1, h⟩ := h
   refine seq_cut fun K1 hK1 => ?_
   have hk : K1 [some (.adr p), some (.int m), none, none] M := by
     rw [hK1]
     clear hK1
     refine seq_cut fun K2 hK2 => ?_
     walk_at "rd"
     simp only [hM]
     walk_at "rd"
     refine ⟨.inr ⟨by decide, by decide⟩, by decide, ?_⟩
     have hM2 : updM M p (.lst [.int ((s * 48271 + 29) % 2147483647), .bl f]) p = some (.lst [.int ((s * 48271 + 29) % 2147483647), .bl f]) := updM_same
     have b0 : CMul ((s * 48271 + 29) % 2147483647) ((s * 48271 + 29) % 2147483647) := cmul_mod (by decide) (by decide)
     generalize (s * 48271 + 29) % 2147483647 = s1 at hM2 b0 ⊢
     rw [hK2]
     clear hK2
     refine seq_cut fun K3 hK3 => ?_
     walk_at "rd"
     refine ⟨b0, .inl ⟨by decide, by decide⟩, by decide, ?_⟩
     have b1 : ∀ y, CMul ((s1 * s1 + 39373 * s1 + 7) % 2147483629) y := fun y => cmul_mod (by decide) (by decide)
     generalize (s1 * s1 + 39373 * s1 + 7) % 2147483629 = mx at b1 ⊢
     rw [hK3]
     clear hK3
     walk_at "rd"
     refine ⟨b1 _, .inl ⟨by decide, by decide⟩, by decide, cdiv_ok (by decide) (by decide), h0, ?_⟩
     have hh := h (((mx * mx + 16807 * mx) % 2147483587) / 8 % m) s1 (Int.emod_nonneg _ (Int.ne_of_gt h0)) (Int.emod_lt_of_pos _ h0)
     refine rt3_sub hh ?_
     exact Sub.refl
   walk_at "rd"
   simp only [hM]
   walk_at "rd"
   exact ite2 (fun c => ⟨h0, cdiv_ok h0 h1, rt3_here (h _ _ (Int.emod_nonneg _ (Int.ne_of_gt h0)) (Int.emod_lt_of_pos _ h0))⟩) (fun c => hk)
 · exact h.elim
noncomputable def sp__law_word : Sp3 := fun ts M Q => match ts with
 | [.adr p, .int n, .int c] => ∃ s f, M p = some (.lst [.int s, .bl f]) ∧ n < 2 ^ 60 ∧ 0 ≤ c ∧ c ≤ 1000 ∧ ∀ (w : List Int) s', WordOK n w → (w.length : Int) ≤ c → (2 ≤ n → (w.length : Int) = c) → Q (.tup (w.map .int)) (updM M p (.lst [.int s', .bl f]))
 | _ => False
theorem ok__law_word {P : Program} {w : World} {K : PySem.W.Frag} {mg : Str → Option Value} {base : Heap} {f : Addr} {fd : FuncData} {n : Nat}  (F : Fun K "_law_word" "_law_word" s__law_word f fd) (hm : mg "_law_word" = some (.ref f)) (hb : Binds K fd ["state", "strands", "count"] []) (Z : Zs K mg) (D__law_choice : Df P w K mg base n "_law_choice" ["state", "many"] sp__law_choice) : Df P w K mg base (n + 1) "_law_word" ["state", "strands", "count"] sp__law_word := by
 refine F.dfn hm hb sc__law_word (by intro ts M Q h; unfold sp__law_word at h; first | (split at h <;> first | rfl | exact h.elim) | (obtain ⟨_, _, _, _, _, rfl, _⟩ := h; rfl) | (obtain ⟨_, _, _, _, rfl, _⟩ := h; rfl) | (obtain ⟨_, _, _, rfl, _⟩ := h; rfl) | (obtain ⟨_, _, rfl, _⟩ := h; rfl) | (obtain ⟨_, rfl, _⟩ := h; rfl)) ⟨_, fun cdv A outer s H E hr => (ss_cons (s_if (h_tcmp op3_lt (hv 1) h_int (nomark _)) (ss_one (s_ret (h_tup a_nil))) ss_nil) (ss_one (s_ret (h_callT call3_tuple Z.b_tuple PyProof.Rows.boot_tuple (a_cons (h_comp rfl (i_range1 Z.b_range (a_cons (hv 2) a_nil)) (blk_scope (outer := defScope s__law_word) (N := ["state", "strands", "count"]) (N' := ["k", "state", "strands"]) (ix := [none, some 0, some 1]) (by decide +kernel) rfl rfl) bt_name (fun _ _ _ _ _ => pg_name (i := 0) (show List.Nodup (["k", "state", "strands"] : List Str) by decide +kernel) rfl (Or.inl rfl) (Or.inr rfl)) (fun _ _ _ _ _ => ts_nil) (fun _ _ _ _ _ => (h_bin op3_mul (h_ix (h_lst (a_cons h_int (a_cons (h_un un3_neg h_int) a_nil))) (h_call D__law_choice hr (a_cons (hv 1) (a_cons h_int a_nil)))) (h_bin op3_add h_int (h_call D__law_choice hr (a_cons (hv 1) (a_cons (h_bin op3_sub (hv 2) h_int) a_nil))))))) a_nil))))), fun ts M Q h => ?_⟩
 unfold sp__law_word at h
 split at h
 · rename_i p n c
   obtain ⟨s, f, hM, hn, h0, h1, h⟩ := h
   walk_at "rd"
   refine ite2 (fun hc => ?_) (fun hc => ⟨by lia, by lia, ?_⟩)
   · have := h [] s (fun _ z => nomatch z) (by simpa using h0) (by lia)
     rw [updM_self hM] at this
     exact rt3_here this
   · refine ⟨fun i ys M' => ∃ w s', ys = w.map T.int ∧ w.length = i ∧ WordOK n w ∧ Sub (updM M p (.lst [.int s', .bl f])) M', ⟨[], s, rfl, rfl, (fun _ z => nomatch z), by rw [updM_self hM]; exact Sub.refl⟩, fun _ _ _ _ => trivial, ?_, ?_, ?_⟩
     · unfold rangeT; rw [List.length_map, List.length_range]; exact Nat.lt_of_le_of_lt (by lia : c.toNat ≤ 1000) (by decide)
     · rintro i x ys M' hx ⟨w, s', rfl, rfl, hw, hS⟩
       walk_at "rd"
       refine ⟨by decide, fun r hr => ?_⟩
       have hM' := hS p _ updM_same
       have hpr : p ≠ r := ne_of_M hM' hr
       refine ⟨s', f, by rw [updM_ne hpr, hM'], by decide, by decide, fun c1 s1 hc0 hc1 => ?_⟩
       simp only [updM_ne hpr.symm, updM_same]
       have hcc : c1 = 0 ∨ c1 = 1 := by lia
       have fin : ∀ g : Int, (g = 1 ∨ g = -1) → ∀ c2 s2 : Int, 0 ≤ c2 → c2 < n - 1 → CMul g (1 + c2) ∧ ∃ w' s'', List.map T.int w ++ [T.int (g * (1 + c2))] = List.map T.int w' ∧ w'.length = w.length + 1 ∧ WordOK n w' ∧
           Sub (updM M p (.lst [.int s'', .bl f])) (updM (updM M' r (.lst [.int 1, .int (-1)])) p (.lst [.int s2, .bl f])) := by
         intro g hg c2 s2 h20 h21
         refine ⟨.inl ⟨by lia, by lia⟩, w ++ [g * (1 + c2)], s2, by simp, by simp, fun l hl => ?_, (hS.newr hr).set⟩
         rcases List.mem_append.mp hl with z | z
         · exact hw l z
         · have e : l = g * (1 + c2) := by simpa using z
           subst e
           unfold LetOK
           rcases hg with rfl | rfl
           · rw [Int.one_mul]; lia
           · rw [Int.neg_one_mul]; lia
       rcases hcc with rfl | rfl
       · walk_at "rd"
         exact ⟨s1, f, updM_same, by lia, by lia, fun c2 s2 h20 h21 => by walk_at "rd"; exact fin 1 (.inl rfl) c2 s2 h20 h21⟩
       · walk_at "rd"
         exact ⟨s1, f, updM_same, by lia, by lia, fun c2 s2 h20 h21 => by walk_at "rd"; exact fin (-1) (.inr rfl) c2 s2 h20 h21⟩
     · rintro ys M' ⟨w, s', rfl, hl, hw, hS⟩ q hq
       have hlen : (w.length : Int) = c := by
         rw [hl]; unfold rangeT; rw [List.length_map, List.length_range]; lia
       exact rt3_sub (h w s' hw (by lia) (fun _ => hlen)) (hS.newr hq)
 · exact h.elim
noncomputable def sp__law_plait : Sp3 := fun ts M Q => match ts with
 | [.adr p, .int a, .int b, .int c] => ∃ s f, M p = some (.lst [.int s, .bl f]) ∧ a ≤ b ∧ 0 ≤ a ∧ b ≤ 1000 ∧ 0 ≤ c ∧ c < 1000 ∧ ∀ (n : Int) (w : List Int) s', a ≤ n → n ≤ b → WordOK n w → (w.length : Int) ≤ c → Q (.tup [.int n, .tup (w.map .int)]) (updM M p (.lst [.int s', .bl f]))
 | _ => False
theorem ok__law_plait {P : Program} {w : World} {K : PySem.W.Frag} {mg : Str → Option Value} {base : Heap} {f : Addr} {fd : FuncData} {n : Nat}  (F : Fun K "_law_plait" "_law_plait" s__law_plait f fd) (hm : mg "_law_plait" = some (.ref f)) (hb : Binds K fd ["state", "least", "most", "letters"] []) (Z : Zs K mg) (D__law_choice : Df P w K mg base n "_law_choice" ["state", "many"] sp__law_choice) (D__law_word : Df P w K mg base n "_law_word" ["state", "strands", "count"] sp__law_word) : Df P w K mg base (n + 1) "_law_plait" ["state", "least", "most", "letters"] sp__law_plait := by
 refine F.dfn hm hb sc__law_plait (by intro ts M Q h; unfold sp__law_plait at h; first | (split at h <;> first | rfl | exact h.elim) | (obtain ⟨_, _, _, _, _, rfl, _⟩ := h; rfl) | (obtain ⟨_, _, _, _, rfl, _⟩ := h; rfl) | (obtain ⟨_, _, _, rfl, _⟩ := h; rfl) | (obtain ⟨_, _, rfl, _⟩ := h; rfl) | (obtain ⟨_, rfl, _⟩ := h; rfl)) ⟨_, fun cdv A outer s H E hr => (ss_cons (s_set (i := 4) (h_bin op3_add (hv 1) (h_call D__law_choice hr (a_cons (hv 0) (a_cons (h_bin op3_add (h_bin op3_sub (hv 2) (hv 1)) h_int) a_nil)))) sc__law_plait.nd) (ss_one (s_ret (h_tup (a_cons (hv 4) (a_cons (h_call D__law_word hr (a_cons (hv 0) (a_cons (hv 4) (a_cons (h_call D__law_choice hr (a_cons (hv 0) (a_cons (h_bin op3_add (hv 3) h_int) a_nil))) a_nil)))) a_nil)))))), fun ts M Q h => ?_⟩
 unfold sp__law_plait at h
 split at h
 · rename_i p a b c
   obtain ⟨s, f, hM, h1, h2, h3, h4, h5, h⟩ := h
   walk_at "rd"
   refine ⟨s, f, hM, by lia, by lia, fun c1 s1 h10 h11 => ?_⟩
   walk_at "rd"
   refine ⟨s1, f, updM_same, by lia, by lia, fun c2 s2 h20 h21 => ?_⟩
   walk_at "rd"
   refine ⟨s2, f, by simp only [updM_same], by lia, by lia, by lia, fun w s3 hw hl _ => ?_⟩
   walk_at "rd"
   exact ⟨by decide, rt3_here (h _ _ _ (by lia) (by lia) hw (by lia))⟩
 · exact h.elim
noncomputable def GoodR (n : Int) (ws : List Int) (p : Nat × Nat × List Int) : Prop := p.1 + p.2.1 ≤ ws.length ∧ p.2.2.length ≤ p.2.1 ∧ WordOK n p.2.2 ∧ RelW n ((ws.drop p.1).take p.2.1) p.2.2
theorem goodR_end {n : Int} {ws : List Int} (hw : WordOK n ws) {p : Nat × Nat × List Int} (h : GoodR n ws p) : WordOK n (ws.take p.1 ++ p.2.2 ++ ws.drop (p.1 + p.2.1)) ∧
   (ws.take p.1 ++ p.2.2 ++ ws.drop (p.1 + p.2.1)).length ≤ ws.length ∧ RelW n ws (ws.take p.1 ++ p.2.2 ++ ws.drop (p.1 + p.2.1)) := by
 obtain ⟨h1, h2, h3, h4⟩ := h
 refine ⟨((WordOK.take hw _).append h3).append (WordOK.drop hw _), ?_, ?_⟩
 · rw [List.length_append, List.length_append, List.length_take, List.length_drop]; lia
 · have e : ws = ws.take p.1 ++ (ws.drop p.1).take p.2.1 ++ ws.drop (p.1 + p.2.1) := by
     rw [List.append_assoc, show ws.drop (p.1 + p.2.1) = (ws.drop p.1).drop p.2.1 by rw [List.drop_drop], List.take_append_drop, List.take_append_drop]
   have := RelW.ctx (ws.take p.1) (ws.drop (p.1 + p.2.1)) (WordOK.take hw p.1) (WordOK.drop hw (p.1 + p.2.1)) h4
   rwa [← e] at this
theorem goodR_snoc {n : Int} {ws : List Int} {pls : List (Nat × Nat × List Int)} {q : Nat × Nat × List Int} (h : ∀ q ∈ pls, GoodR n ws q) (g : GoodR n ws q) : ∀ x ∈ pls ++ [q], GoodR n ws x := fun x hx => by
 rcases List.mem_append.mp hx with hx | hx
 · exact h x hx
 · rw [List.mem_singleton.mp hx]; exact g
noncomputable def sp__law_stepped : Sp3 := fun ts M Q => ∃ (p : Addr) (n : Int) (s : Int) (f : Bool) (ws : List Int), ts = [.adr p, .int n, .tup (ws.map .int)] ∧ M p = some (.lst [.int s, .bl f]) ∧ 1 ≤ n ∧ n ≤ 6 ∧ WordOK n ws ∧ ws.length ≤ 100 ∧
     ∀ (v : List Int) (s' : Int), WordOK n v → v.length ≤ ws.length + 2 → RelW n ws v → Q (.tup (v.map .int)) (updM M p (.lst [.int s', .bl f]))
theorem ok__law_stepped {P : Program} {w : World} {K : PySem.W.Frag} {mg : Str → Option Value} {base : Heap} {f : Addr} {fd : FuncData} {n : Nat}  (F : Fun K "_law_stepped" "_law_stepped" s__law_stepped f fd) (hm : mg "_law_stepped" = some (.ref f)) (hb : Binds K fd ["state", "strands", "word"] []) (Z : Zs K mg) (D__law_choice : Df P w K mg base n "_law_choice" ["state", "many"] sp__law_choice) (D__law_word : Df P w K mg base n "_law_word" ["state", "strands", "count"] sp__law_word) : Df P w K mg base (n + 1) "_law_stepped" ["state", "strands", "word"] sp__law_stepped := by
 refine F.dfn hm hb sc__law_stepped (by intro ts M Q h; unfold sp__law_stepped at h; first | (split at h <;> first | rfl | exact h.elim) | (obtain ⟨_, _, _, _, _, rfl, _⟩ := h; rfl) | (obtain ⟨_, _, _, _, rfl, _⟩ := h; rfl) | (obtain ⟨_, _, _, rfl, _⟩ := h; rfl) | (obtain ⟨_, _, rfl, _⟩ := h; rfl) | (obtain ⟨_, rfl, _⟩ := h; rfl)) ⟨_, fun cdv A outer s H E hr => (ss_cons (s_set (i := 3) (h_call D__law_choice hr (a_cons (hv 0) (a_cons h_int a_nil))) sc__law_stepped.nd) (ss_cons (s_if (HW.ht (w_and (h_tcmp (op3_eq hr.units) (hv 3) h_int (nomark _)) (w_and1 (h_tcmp op3_gt (hv 1) h_int (nomark _))))) (ss_cons (s_set (i := 4) (h_call D__law_choice hr (a_cons (hv 0) (a_cons (h_bin op3_add (h_callB call3_len Z.b_len PySem.boot_len (a_cons (hv 2) a_nil)) h_int) a_nil))) sc__law_stepped.nd) (ss_cons (s_set (i := 5) (h_ix (h_call D__law_word hr (a_cons (hv 0) (a_cons (hv 1) (a_cons h_int a_nil)))) h_int) sc__law_stepped.nd) (ss_one (s_ret (h_bin op3_add (h_bin op3_add (h_slice (hv 2) o_none (o_some (hv 4))) (h_tup (a_cons (hv 5) (a_cons (h_bin op3_sub h_int (hv 5)) a_nil)))) (h_slice (hv 2) (o_some (hv 4)) o_none)))))) ss_nil) (ss_cons (s_set (i := 6) (h_lst a_nil) sc__law_stepped.nd) (ss_cons (s_for PassesOwn.never rfl (i_range1 Z.b_range (a_cons (h_bin op3_sub (h_callB call3_len Z.b_len PySem.boot_len (a_cons (hv 2) a_nil)) h_int) a_nil)) (g_name (i := 4) sc__law_stepped.nd) (ss_cons (s_if (h_tcmp op3_gt (h_callB call3_abs Z.b_abs PyProof.Rows.boot_abs (a_cons (h_bin op3_sub (h_callB call3_abs Z.b_abs PyProof.Rows.boot_abs (a_cons (h_ix (hv 2) (hv 4)) a_nil)) (h_callB call3_abs Z.b_abs PyProof.Rows.boot_abs (a_cons (h_ix (hv 2) (h_bin op3_add (hv 4) h_int)) a_nil))) a_nil)) h_int (nomark _)) (ss_one (s_expr (h_m_append (hv 6) (@a_consT _ _ _ _ _ _ _ (h_tup (a_cons (hv 4) (a_cons h_int (@a_consT _ _ _ _ _ _ _ (h_tup (a_cons (h_ix (hv 2) (h_bin op3_add (hv 4) h_int)) (a_cons (h_ix (hv 2) (hv 4)) a_nil))) a_nil)))) a_nil)))) ss_nil) (ss_cons (s_if (HW.ht (w_and (h_tcmp op3_lt (hv 4) (h_bin op3_sub (h_callB call3_len Z.b_len PySem.boot_len (a_cons (hv 2) a_nil)) h_int) (nomark _)) (w_and (h_tcmp (op3_eq hr.units) (h_ix (hv 2) (hv 4)) (h_ix (hv 2) (h_bin op3_add (hv 4) h_int)) (nomark _)) (w_and1 (h_tcmp (op3_eq hr.units) (h_callB call3_abs Z.b_abs PyProof.Rows.boot_abs (a_cons (h_bin op3_sub (h_ix (hv 2) (hv 4)) (h_ix (hv 2) (h_bin op3_add (hv 4) h_int))) a_nil)) h_int (nomark _)))))) (ss_one (s_if (h_tcmp op3_gt (h_bin op3_mul (h_ix (hv 2) (hv 4)) (h_ix (hv 2) (h_bin op3_add (hv 4) h_int))) h_int (nomark _)) (ss_one (s_expr (h_m_append (hv 6) (@a_consT _ _ _ _ _ _ _ (h_tup (a_cons (hv 4) (a_cons h_int (@a_consT _ _ _ _ _ _ _ (h_tup (a_cons (h_ix (hv 2) (h_bin op3_add (hv 4) h_int)) (a_cons (h_ix (hv 2) (hv 4)) (a_cons (h_ix (hv 2) (h_bin op3_add (hv 4) h_int)) a_nil)))) a_nil)))) a_nil)))) ss_nil)) ss_nil) (ss_one (s_if (h_tcmp (op3_eq hr.units) (h_bin op3_add (h_ix (hv 2) (hv 4)) (h_ix (hv 2) (h_bin op3_add (hv 4) h_int))) h_int (nomark _)) (ss_one (s_expr (h_m_append (hv 6) (@a_consT _ _ _ _ _ _ _ (h_tup (a_cons (hv 4) (a_cons h_int (@a_consT _ _ _ _ _ _ _ (h_tup a_nil) a_nil)))) a_nil)))) ss_nil))))) (ss_cons (s_if (h_tcmp (op3_eq hr.units) (hv 6) (h_lst a_nil) (nomark _)) (ss_one (s_ret (hv 2))) ss_nil) (ss_cons (s_asg (h_ix (hv 6) (h_call D__law_choice hr (a_cons (hv 0) (a_cons (h_callB call3_len Z.b_len PySem.boot_len (a_cons (hv 6) a_nil)) a_nil)))) (g_tup (n := 3) rfl (gs_cons (g_name (i := 4) sc__law_stepped.nd) (gs_cons (g_name (i := 7) sc__law_stepped.nd) (gs_cons (g_name (i := 8) sc__law_stepped.nd) gs_nil))))) (ss_one (s_ret (h_bin op3_add (h_bin op3_add (h_slice (hv 2) o_none (o_some (hv 4))) (hv 8)) (h_slice (hv 2) (o_some (h_bin op3_add (hv 4) (hv 7))) o_none)))))))))), fun ts M Q h => ?_⟩
 unfold sp__law_stepped at h
 obtain ⟨p, n, s, f, ws, rfl, hM, n1, n6, hw, hl, h⟩ := h
 refine seq_cut2 fun K2 hK2 => ?_
 walk_at "rd"
 refine ⟨s, f, hM, by decide, by decide, fun c1 s1 c10 c11 => ?_⟩
 simp only [updM_updM]
 have hlm : (ws.map T.int).length = ws.length := List.length_map ..
 have hk2 : ∀ a b : Option T, K2 [some (.adr p), some (.int n), some (.tup (ws.map .int)), some (.int c1), a, b, none, none, none] (updM M p (.lst [.int s1, .bl f])) := by
   intro a b
   rw [hK2]
   clear hK2
   refine seq_cut2 fun K4 hK4 => ?_
   walk_at "rd"
   intro r hr
   have hpr : p ≠ r := fun e => by rw [← e, updM_same] at hr; cases hr
   have hrM : M r = none := by rwa [updM_ne (Ne.symm hpr)] at hr
   have hS0 : Sub (updM M p (.lst [.int s1, .bl f])) (updM (updM M p (.lst [.int s1, .bl f])) r (.lst [])) := Sub.new hr
   have hr0 : updM (updM M p (.lst [.int s1, .bl f])) r (.lst []) r = some (.lst (([] : List (Nat × Nat × List Int)).map plT)) := updM_same
   have hrM' := hr
   generalize updM (updM M p (.lst [.int s1, .bl f])) r (.lst []) = Mb at hS0 hr0 ⊢
   refine for_cut fun C hC => ?_
   unfold tFor3
   walk_at "rd"
   refine ⟨by lia, by lia, fun i ρ M' => ∃ (a b c d : Option T) (pls : List (Nat × Nat × List Int)), ρ = [some (.adr p), some (.int n), some (.tup (ws.map .int)), some (.int c1), a, b, some (.adr r), c, d] ∧ M' r = some (.lst (List.map plT pls)) ∧ (∀ q ∈ pls, GoodR n ws q) ∧ pls.length ≤ 3 * i ∧ Sub (updM M p (.lst [.int s1, .bl f])) M',
     ⟨_, _, _, _, [], rfl, hr0, (by intro q z; cases z), Nat.zero_le _, hS0⟩, fun _ _ _ _ => trivial, ?_, ?_⟩
   · rintro i x ρ M' hx ⟨a, b, c, d, pls, rfl, hr', hgd, hpl, hS⟩
     obtain ⟨hi, rfl⟩ := rangeT_get hx
     have hi2 : i + 1 < ws.length := by lia
     have a0 : atI (ws.map T.int) (i : Int) = some (.int (ws.getD i 0)) := by
       have := atI_ints ws (i : Int) (by lia) (by lia)
       rwa [Int.toNat_natCast] at this
     have a1 : atI (ws.map T.int) ((i : Int) + 1) = some (.int (ws.getD (i + 1) 0)) := by
       have := atI_ints ws ((i : Int) + 1) (by lia) (by lia)
       rwa [show ((i : Int) + 1).toNat = i + 1 by lia] at this
     have k0 := getD_ok hw (i := i) (by lia)
     have k1 := getD_ok hw hi2
     have d2 := drop_take2 hi2
     have a2 : (i : Int) < ws.length - 2 → atI (ws.map T.int) ((i : Int) + 2) = some (.int (ws.getD (i + 2) 0)) := fun hh => by
       have := atI_ints ws ((i : Int) + 2) (by lia) (by lia)
       rwa [show ((i : Int) + 2).toNat = i + 2 by lia] at this
     have d3 : (i : Int) < ws.length - 2 → (ws.drop i).take 3 = [ws.getD i 0, ws.getD (i + 1) 0, ws.getD (i + 2) 0] := fun hh => drop_take3 (by lia)
     generalize ws.getD i 0 = x0 at k0 a0 d2 d3
     generalize ws.getD (i + 1) 0 = x1 at k1 a1 d2 d3
     generalize ws.getD (i + 2) 0 = x2 at a2 d3
     have k0' := k0.lim n6
     have k1' := k1.lim n6
     have sz : ∀ L : List (Nat × Nat × List Int), L.length ≤ 3 * i + 3 → (List.map plT L).length < sizeLine := fun L hL => line_len (by rw [List.length_map]; lia)
     rw [hC, show (0 : Int) + (i : Nat) = (i : Nat) by lia]
     clear hC hK4
     refine seq_cut fun KA hA => ?_
     have goB : ∀ pls' M'', M'' r = some (.lst (List.map plT pls')) → (∀ q ∈ pls', GoodR n ws q) → pls'.length ≤ 3 * i + 1 → Sub (updM M p (.lst [.int s1, .bl f])) M'' → KA [some (.adr p), some (.int n), some (.tup (ws.map .int)), some (.int c1), some (.int (i : Nat)), b, some (.adr r), c, d] M'' := by
       intro pls' M'' hr'' hgd' hpl' hS'
       rw [hA]
       clear hA
       refine seq_cut fun KB hB => ?_
       have goC : ∀ pls' M'', M'' r = some (.lst (List.map plT pls')) → (∀ q ∈ pls', GoodR n ws q) → pls'.length ≤ 3 * i + 2 → Sub (updM M p (.lst [.int s1, .bl f])) M'' → KB [some (.adr p), some (.int n), some (.tup (ws.map .int)), some (.int c1), some (.int (i : Nat)), b, some (.adr r), c, d] M'' := by
         intro pls' M'' hr'' hgd' hpl' hS'
         rw [hB]
         clear hB
         walk_at "rd"
         rw [a0, a1]
         dsimp only
         refine ite2 (fun h1 => ?_) (fun h1 => ?_)
         · rw [hr'']
           dsimp only
           refine ⟨trivial, by decide, sz _ (by lia), _, _, _, _, pls' ++ [(i, 2, [])], rfl, ?_, goodR_snoc hgd' ⟨by show i + 2 ≤ _; lia, Nat.zero_le _, (by intro y z; cases z), ?_⟩, by rw [List.length_append, List.length_singleton]; lia, hS'.updF hrM'⟩
           · rw [List.map_append]; rfl
           · show RelW n ((ws.drop i).take 2) _
             rw [d2, show x1 = -x0 by lia]
             exact .out k0
         · exact ⟨_, _, _, _, pls', rfl, hr'', hgd', by lia, hS'⟩
       walk_at "rd"
       refine ite2 (fun h2 => ?_) (fun h2 => goC _ _ hr'' hgd' (by lia) hS')
       rw [a0, a2 h2, a1]
       dsimp only
       refine ⟨rfl, rfl, Nat.zero_le _, ite2 (fun h3 => ite2 (fun h4 => ?_) (fun h4 => goC _ _ hr'' hgd' (by lia) hS')) (fun h3 => goC _ _ hr'' hgd' (by lia) hS')⟩
       refine ⟨.inl ⟨by lia, by lia⟩, ite2 (fun h5 => ?_) (fun h5 => goC _ _ hr'' hgd' (by lia) hS')⟩
       rw [hr'']
       dsimp only
       refine ⟨trivial, by decide, by decide, sz _ (by lia), goC (pls' ++ [(i, 3, [x1, x0, x1])]) _ (by rw [updM_same, List.map_append]; rfl) (goodR_snoc hgd' ⟨by show i + 3 ≤ _; lia, Nat.le_refl _, .three k1 k0 k1, ?_⟩) (by rw [List.length_append, List.length_singleton]; lia) (hS'.updF hrM')⟩
       show RelW n ((ws.drop i).take 3) _
       have e3 : x0 = x2 := of_eqT_int h3
       rw [d3 h2, ← e3]
       exact .three k0 k1 h5 (by lia)
     walk_at "rd"
     rw [a0, a1]
     dsimp only
     refine ite2 (fun h1 => ?_) (fun h1 => goB _ _ hr' hgd (by lia) hS)
     rw [hr']
     dsimp only
     refine ⟨trivial, by decide, by decide, sz _ (by lia), goB (pls ++ [(i, 2, [x1, x0])]) _ (by rw [updM_same, List.map_append]; rfl) (goodR_snoc hgd ⟨by show i + 2 ≤ _; lia, Nat.le_refl _, .two k1 k0, ?_⟩) (by rw [List.length_append, List.length_singleton]; lia) (hS.updF hrM')⟩
     show RelW n ((ws.drop i).take 2) _
     rw [d2]
     exact .far k0 k1 (by lia)
   · rintro ρ M' ⟨a, b, c, d, pls, rfl, hr', hgd, hpl, hS⟩
     have hp' := hS _ _ updM_same
     rw [rangeT_length] at hpl
     rw [hK4]
     clear hK4
     refine seq_cut fun K5 hK5 => ?_
     walk_at "rd"
     intro r2 hr2
     have hr2' := (Sub.new hr2 (o := .lst [])) _ _ hr'
     have hp2 := (Sub.new hr2 (o := .lst [])) _ _ hp'
     have hS2 := hS.newr hr2 (o := .lst [])
     generalize updM M' r2 (.lst []) = M2 at hr2' hp2 hS2 ⊢
     rw [hr2']
     dsimp only
     refine ⟨plTs_pure pls, rfl, Nat.le_trans (plTs_dep pls) (by decide), ite2 (fun hE => ?_) (fun hE => ?_)⟩
     · exact rt3_sub (h ws s1 hw (by lia) (.refl ws)) hS2
     · rw [hK5]
       clear hK5
       refine seq_cut fun K6 hK6 => ?_
       have hpos : 0 < pls.length := by
         cases pls with
         | nil => exact absurd rfl hE
         | cons _ _ => rw [List.length_cons]; lia
       have hlm2 : (List.map plT pls).length = pls.length := List.length_map ..
       walk_at "rd"
       rw [hr2']
       dsimp only
       rw [hlm2]
       refine ⟨s1, f, hp2, by lia, by lia, fun c2 s2 c20 c21 => ?_⟩
       have hq : pls[c2.toNat]? = some (pls[c2.toNat]'(by lia)) := List.getElem?_eq_getElem (by lia)
       have hqg := hgd _ (List.mem_of_getElem? hq)
       generalize pls[c2.toNat]'(by lia) = q at hq hqg
       have hq2 : (List.map plT pls)[c2.toNat]? = some (plT q) := by rw [List.getElem?_map, hq]; rfl
       have ha := atI_nat hq2
       rw [show ((c2.toNat : Nat) : Int) = c2 by lia] at ha
       obtain ⟨g1, g2, g3⟩ := goodR_end hw hqg
       obtain ⟨g4, g5, _, _⟩ := hqg
       obtain ⟨qa, qc, qr⟩ := q
       dsimp only at g1 g2 g3 g4 g5
       have hrp : r ≠ p := Ne.symm hpr
       dsimp only
       rw [updM_ne hrp, hr2']
       dsimp only
       rw [ha]
       unfold plT
       walk_at "rd"
       rw [hK6]
       clear hK6
       have e1 : cutT (ws.map T.int) none (some (qa : Int)) = (ws.take qa).map T.int := by rw [cutT_to _ _ (by lia) (by rw [List.length_map]; lia), List.map_take, Int.toNat_natCast]
       have e2 : cutT (ws.map T.int) (some ((qa : Int) + (qc : Int))) none = (ws.drop (qa + qc)).map T.int := by
         rw [cutT_from _ _ (by lia) (by rw [List.length_map]; lia), List.map_drop, show ((qa : Int) + (qc : Int)).toNat = qa + qc by lia]
       have l1 : (ws.take qa).length ≤ ws.length := by rw [List.length_take]; lia
       have l2 : (ws.drop (qa + qc)).length ≤ ws.length := by rw [List.length_drop]; lia
       walk_at "rd"
       rw [e1, e2]
       refine ⟨line_len' (by rw [List.length_map]; lia), line_len' (by rw [List.length_map, List.length_map]; lia), ?_⟩
       rw [← List.map_append, ← List.map_append]
       exact rt3_sub (h _ s2 g1 (by lia) g3) hS2.set
 walk_at "rd"
 refine ite2 (fun hc => ite2 (fun hn => ?_) (fun _ => hk2 _ _)) (fun _ => hk2 _ _)
 refine ⟨s1, f, updM_same, by lia, by lia, fun c2 s2 c20 c21 => ?_⟩
 simp only [updM_updM]
 refine ⟨s2, f, updM_same, by lia, by decide, by decide, fun lw s3 hlw hl1 hl2 => ?_⟩
 simp only [updM_updM]
 have hl3 := hl2 (by lia)
 obtain ⟨l, rfl⟩ : ∃ l, lw = [l] := by
   match lw, hl3 with
   | [l], _ => exact ⟨l, rfl⟩
 have hlo := hlw l List.mem_cons_self
 have a0 : atI (List.map T.int [l]) 0 = some (.int l) := rfl
 have e1 : cutT (ws.map T.int) none (some c2) = (ws.take c2.toNat).map T.int := by rw [cutT_to _ _ (by lia) (by rw [List.length_map]; lia), List.map_take]
 have e2 : cutT (ws.map T.int) (some c2) none = (ws.drop c2.toNat).map T.int := by rw [cutT_from _ _ (by lia) (by rw [List.length_map]; lia), List.map_drop]
 have l1 : (ws.take c2.toNat).length ≤ ws.length := by rw [List.length_take]; lia
 have l2 : (ws.drop c2.toNat).length ≤ ws.length := by rw [List.length_drop]; lia
 rw [a0]
 dsimp only
 rw [e1, e2]
 have ev : List.map T.int (ws.take c2.toNat) ++ [T.int l, T.int (0 - l)] ++ List.map T.int (ws.drop c2.toNat) = List.map T.int (ws.take c2.toNat ++ [l, -l] ++ ws.drop c2.toNat) := by
   rw [List.map_append, List.map_append, show (0 : Int) - l = -l by lia]; rfl
 refine ⟨by decide, line_len' (by rw [List.length_map]; lia), line_len' (by rw [List.length_map, List.length_map]; lia), ?_⟩
 rw [ev]
 refine rt3_here (h _ s3 (((WordOK.take hw _).append (.two hlo hlo.neg)).append (WordOK.drop hw _)) ?_ ?_)
 · rw [List.length_append, List.length_append, List.length_take, List.length_drop]
   show _ + 2 + _ ≤ _
   lia
 · have := (RelW.ctx (ws.take c2.toNat) (ws.drop c2.toNat) (WordOK.take hw _) (WordOK.drop hw _) (.out hlo)).symm
   rwa [List.append_nil, List.take_append_drop] at this
noncomputable def sp__law_led : Sp3 := fun ts M Q => match ts with
 | [.adr p, .int n, .tup w, .int k, .int m] => ∃ (s : Int) (f : Bool) (ws : List Int), M p = some (.lst [.int s, .bl f]) ∧ w = ws.map .int ∧ 1 ≤ n ∧ n ≤ 6 ∧ WordOK n ws ∧ (ws.length : Int) ≤ m ∧ m ≤ 16 ∧ 0 ≤ k ∧ k ≤ 100 ∧
     ∀ (v : List Int) (s' : Int), WordOK n v → (v.length : Int) ≤ m → RelW n ws v → Q (.tup (v.map .int)) (updM M p (.lst [.int s', .bl f]))
 | _ => False
theorem ok__law_led {P : Program} {w : World} {K : PySem.W.Frag} {mg : Str → Option Value} {base : Heap} {f : Addr} {fd : FuncData} {n : Nat}  (F : Fun K "_law_led" "_law_led" s__law_led f fd) (hm : mg "_law_led" = some (.ref f)) (hb : Binds K fd ["state", "strands", "word", "steps", "most"] []) (Z : Zs K mg) (D__law_stepped : Df P w K mg base n "_law_stepped" ["state", "strands", "word"] sp__law_stepped) : Df P w K mg base (n + 1) "_law_led" ["state", "strands", "word", "steps", "most"] sp__law_led := by
 refine F.dfn hm hb sc__law_led (by intro ts M Q h; unfold sp__law_led at h; first | (split at h <;> first | rfl | exact h.elim) | (obtain ⟨_, _, _, _, _, rfl, _⟩ := h; rfl) | (obtain ⟨_, _, _, _, rfl, _⟩ := h; rfl) | (obtain ⟨_, _, _, rfl, _⟩ := h; rfl) | (obtain ⟨_, _, rfl, _⟩ := h; rfl) | (obtain ⟨_, rfl, _⟩ := h; rfl)) ⟨_, fun cdv A outer s H E hr => (ss_cons (s_for PassesOwn.never rfl (i_range1 Z.b_range (a_cons (hv 3) a_nil)) (g_name (i := 5) sc__law_led.nd) (ss_cons (s_set (i := 6) (h_call D__law_stepped hr (a_cons (hv 0) (a_cons (hv 1) (a_cons (hv 2) a_nil)))) sc__law_led.nd) (ss_one (s_if (h_tcmp op3_le (h_callB call3_len Z.b_len PySem.boot_len (a_cons (hv 6) a_nil)) (hv 4) (nomark _)) (ss_one (s_set (i := 2) (hv 6) sc__law_led.nd)) ss_nil)))) (ss_one (s_ret (hv 2)))), fun ts M Q h => ?_⟩
 unfold sp__law_led at h
 split at h
 · rename_i p n w k m
   obtain ⟨s, f, ws, hM, rfl, n1, n6, hw, hl, hm, hk0, hk1, h⟩ := h
   walk_at "rd"
   refine ⟨by lia, by lia, fun i ρ M' => ∃ (a b : Option T) (v : List Int) (s1 : Int), ρ = [some (.adr p), some (.int n), some (.tup (v.map .int)), some (.int k), some (.int m), a, b] ∧ WordOK n v ∧ (v.length : Int) ≤ m ∧ RelW n ws v ∧ Sub (updM M p (.lst [.int s1, .bl f])) M',
     ⟨_, _, ws, s, rfl, hw, hl, .refl _, by rw [updM_self hM]; exact Sub.refl⟩, fun _ _ _ _ => trivial, ?_, ?_⟩
   · rintro i x ρ M' hx ⟨a, b, v, s1, rfl, hv, hvl, hs, hS⟩
     obtain ⟨hi, rfl⟩ := rangeT_get hx
     have hp' := hS _ _ updM_same
     walk_at "rd"
     refine ⟨_, _, s1, f, v, rfl, hp', n1, n6, hv, by lia, fun v2 s2 hv2 hvl2 hs2 => ?_⟩
     walk_at "rd"
     refine ite2 (fun hc => ?_) (fun hc => ?_)
     · exact ⟨_, _, v2, s2, rfl, hv2, hc, hs.trans hs2, hS.set⟩
     · exact ⟨_, _, v, s2, rfl, hv, hvl, hs, hS.set⟩
   · rintro ρ M' ⟨a, b, v, s1, rfl, hv, hvl, hs, hS⟩
     walk_at "rd"
     exact rt3_sub (h v s1 hv hvl hs) hS
 · exact h.elim
theorem smallI {n : Int} {w : List Int} (h : (n ≤ 4 ∧ w.length ≤ 9) ∨ (n ≤ 5 ∧ w.length ≤ 8)) : SmallI n w := by
 unfold SmallI
 rcases h with ⟨a, b⟩ | ⟨a, b⟩
 · exact Nat.le_trans (Nat.mul_le_mul (show n.toNat - 1 ≤ 3 by lia) b) (by decide)
 · exact Nat.le_trans (Nat.mul_le_mul (show n.toNat - 1 ≤ 4 by lia) b) (by decide)
noncomputable def Alk (n : Int) (w : List Int) (p : Int × List Int) : Prop := PlOK p.1 p.2 ∧ SmallI p.1 p.2 ∧ closP p.1 p.2 = closP n w
theorem prT_pures : ∀ p : Po, pureTs (p.map prT) = true ∧ depTs (p.map prT) ≤ 1
 | [] => ⟨rfl, by decide⟩
 | x :: p => by
   obtain ⟨a, b⟩ := prT_pures p
   have e : prT x = T.tup [T.int x.1, T.int x.2] := rfl
   refine ⟨?_, ?_⟩
   · rw [List.map_cons, pureTs_cons, a, e]; rfl
   · rw [List.map_cons, depTs_cons, e]
     have : depT (T.tup [T.int x.1, T.int x.2]) = 1 := rfl
     rw [this]
     exact Nat.max_le.mpr ⟨Nat.le_refl 1, b⟩
theorem poT_pure (p : Po) : pureT (poT p) = true := by
 unfold poT; rw [pureT_tup]; exact (prT_pures p).1
theorem poT_dep (p : Po) : depT (poT p) ≤ 30 := by
 unfold poT; rw [depT_tup]; have := (prT_pures p).2; lia
noncomputable def sp_law : Sp3 := fun ts M Q => match ts with
 | [.rd s] => ∃ ns : List Int, s = ns.map .int ∧ Q (.bl true) M
 | _ => False
theorem law_starts (ns : List Int) (M : MH) (Q : VK3) (_ : ns.length ≤ 63) (h : Q (.bl true) M) : sp_law [.rd (ns.map .int)] M Q := ⟨ns, rfl, h⟩
theorem ok_law {P : Program} {w : World} {K : PySem.W.Frag} {mg : Str → Option Value} {base : Heap} {f : Addr} {fd : FuncData} {n : Nat}  (F : Fun K "law" "law" s_law f fd) (Z : Zs K mg) (D__law_state : Df P w K mg base n "_law_state" ["script", "k"] sp__law_state) (D__law_plait : Df P w K mg base n "_law_plait" ["state", "least", "most", "letters"] sp__law_plait) (D_closed_sum : Df P w K mg base n "closed_sum" ["plait"] sp_closed_sum) (D__law_word : Df P w K mg base n "_law_word" ["state", "strands", "count"] sp__law_word) (D_mirrored : Df P w K mg base n "mirrored" ["plait"] sp_mirrored) (D_turned : Df P w K mg base n "turned" ["plait"] sp_turned) (D_flipped : Df P w K mg base n "flipped" ["plait"] sp_flipped) (D__law_led : Df P w K mg base n "_law_led" ["state", "strands", "word", "steps", "most"] sp__law_led) (D__law_choice : Df P w K mg base n "_law_choice" ["state", "many"] sp__law_choice) (D_closed_weight : Df P w K mg base n "closed_weight" ["plait"] sp_closed_weight) : FnOk P w K mg base CX0 (n + 1) f fd ["script"] (dSp K sp_law) := by
 refine F.fnk sc_law (by intro ts M Q h; unfold sp_law at h; first | (split at h <;> first | rfl | exact h.elim) | (obtain ⟨_, _, _, _, _, rfl, _⟩ := h; rfl) | (obtain ⟨_, _, _, _, rfl, _⟩ := h; rfl) | (obtain ⟨_, _, _, rfl, _⟩ := h; rfl) | (obtain ⟨_, _, rfl, _⟩ := h; rfl) | (obtain ⟨_, rfl, _⟩ := h; rfl)) ⟨_, fun cdv A outer s H E hr => (ss_cons (s_set (i := 1) (h_call D__law_state hr (a_cons (hv 0) (a_cons h_int a_nil))) sc_law.nd) (ss_cons (s_asg (h_call D__law_plait hr (a_cons (hv 1) (a_cons h_int (a_cons h_int (a_cons h_int a_nil))))) (g_tup (n := 2) rfl (gs_cons (g_name (i := 2) sc_law.nd) (gs_cons (g_name (i := 3) sc_law.nd) gs_nil)))) (ss_cons (s_set (i := 4) (h_tup (a_cons (hv 2) (a_cons (hv 3) a_nil))) sc_law.nd) (ss_cons (s_set (i := 5) (h_call D_closed_sum hr (a_cons (hv 4) a_nil)) sc_law.nd) (ss_cons (s_set (i := 6) (h_call D__law_word hr (a_cons (hv 1) (a_cons (hv 2) (a_cons h_int a_nil)))) sc_law.nd) (@ss_cons _ _ _ _ _ (@s_set _ _ _ _ 7 _ _ (@h_lst _ _ _ _ (@a_consT _ _ _ _ _ _ _ (h_tup (a_cons (hv 2) (a_cons (h_bin op3_add (h_slice (hv 3) (o_some h_int) o_none) (h_slice (hv 3) o_none (o_some h_int))) a_nil))) (@a_consT _ _ _ _ _ _ _ (h_tup (a_cons (h_bin op3_add (hv 2) h_int) (a_cons (h_bin op3_add (hv 3) (h_tup (a_cons (hv 2) a_nil))) a_nil))) (@a_consT _ _ _ _ _ _ _ (h_tup (a_cons (h_bin op3_add (hv 2) h_int) (a_cons (h_bin op3_add (hv 3) (h_tup (a_cons (h_bin op3_sub h_int (hv 2)) a_nil))) a_nil))) a_nil)))) sc_law.nd rfl (by first | exact Or.inl rfl | exact Or.inr rfl) rfl (by first | exact .inl rfl | exact .inr rfl | assumption)) (ss_cons (s_set (i := 7) (h_bin op3_add (hv 7) (h_lst (a_cons (h_call D_mirrored hr (a_cons (hv 4) a_nil)) (a_cons (h_call D_turned hr (a_cons (hv 4) a_nil)) (a_cons (h_call D_flipped hr (a_cons (hv 4) a_nil)) a_nil))))) sc_law.nd) (ss_cons (s_expr (h_m_append (hv 7) (@a_consT _ _ _ _ _ _ _ (h_tup (a_cons (hv 2) (a_cons (h_call D__law_led hr (a_cons (hv 1) (a_cons (hv 2) (a_cons (hv 3) (a_cons (h_bin op3_add h_int (h_call D__law_choice hr (a_cons (hv 1) (a_cons h_int a_nil)))) (a_cons h_int a_nil)))))) a_nil))) a_nil))) (ss_cons (s_expr (h_m_append (hv 7) (@a_consT _ _ _ _ _ _ _ (h_tup (a_cons (hv 2) (a_cons (h_bin op3_add (h_bin op3_add (hv 6) (hv 3)) (h_callT call3_tuple Z.b_tuple PyProof.Rows.boot_tuple (a_cons (h_comp rfl (i_seq (hv 6)) (blk_scope (outer := defScope s_law) (N := ["script", "state", "strands", "word", "plait", "due", "more", "some", "one"]) (N' := ["letter"]) (ix := [none]) (by decide +kernel) rfl rfl) bt_name (fun _ _ _ _ _ => pg_name (i := 0) (show List.Nodup (["letter"] : List Str) by decide +kernel) rfl (Or.inl rfl) (Or.inr rfl)) (fun _ _ _ _ _ => ts_nil) (fun _ _ _ _ _ => (h_bin op3_sub h_int (hv 0)))) a_nil))) a_nil))) a_nil))) (ss_cons (s_for PassesOwn.never rfl (i_seq (hv 7)) (g_name (i := 8) sc_law.nd) (ss_one (s_if (HW.ht (w_or (h_tcmp (op3_ne hr.units) (h_call D_closed_sum hr (a_cons (hv 8) a_nil)) (hv 5) (nomark _)) (w_or1 (h_tcmp (op3_ne hr.units) (h_call D_closed_weight hr (a_cons (hv 8) a_nil)) (h_call D_closed_weight hr (a_cons (hv 4) a_nil)) (nomark _))))) (ss_one (s_ret h_bl)) ss_nil))) (ss_one (s_ret h_bl)))))))))))), fun ts M Q h => ?_⟩
 unfold sp_law at h
 split at h
 · rename_i s
   obtain ⟨ns, rfl, h⟩ := h
   refine seq_cut fun K1 hK1 => ?_
   walk_at "rd"
   refine ⟨ns, rfl, by decide, fun p k f hp => ?_⟩
   have hS := Sub.new hp (o := .lst [.int k, .bl f])
   have hMp : (updM M p (.lst [.int k, .bl f])) p = some (.lst [.int k, .bl f]) := updM_same
   generalize updM M p (.lst [.int k, .bl f]) = M0 at hS hMp ⊢
   rw [hK1]; clear hK1
   refine seq_cut fun K2 hK2 => ?_
   walk_at "rd"
   refine ⟨k, f, hMp, by decide, by decide, by decide, by decide, by decide, fun n w k1 h1 h2 hw hl => ?_⟩
   refine ⟨rfl, rfl, ?_⟩
   have hS1 := hS.updF hp (o := .lst [.int k1, .bl f])
   have hMp1 : (updM M0 p (.lst [.int k1, .bl f])) p = some (.lst [.int k1, .bl f]) := updM_same
   generalize updM M0 p (.lst [.int k1, .bl f]) = M1 at hS1 hMp1 ⊢
   rw [hK2]; clear hK2 hS hMp
   have hl7 : w.length ≤ 7 := by lia
   have okw : PlOK n w := ⟨by lia, by lia, by lia, hw⟩
   have hsm : SmallI n w := smallI (.inl ⟨h2, by lia⟩)
   refine seq_cut3 fun K3 hK3 => ?_
   walk_at "rd"
   refine ⟨by decide, w, rfl, okw, hsm, ?_⟩
   refine ⟨k1, f, hMp1, by lia, by decide, by decide, fun v k2 hv hvl hvn => ?_⟩
   have hS2 := hS1.updF hp (o := .lst [.int k2, .bl f])
   have hMp2 : (updM M1 p (.lst [.int k2, .bl f])) p = some (.lst [.int k2, .bl f]) := updM_same
   generalize updM M1 p (.lst [.int k2, .bl f]) = M2 at hS2 hMp2 ⊢
   rw [hK3]; clear hK3 hS1 hMp1
   have hvl1 : v.length ≤ 1 := by lia
   refine seq_cut fun K4 hK4 => ?_
   walk_at "rd"
   have e1 : cutT (List.map T.int w) (some 1) none ++ cutT (List.map T.int w) none (some 1) = (w.drop 1 ++ w.take 1).map T.int := by
     rw [cutT_from' _ _ (by decide), cutT_to' _ _ (by decide), List.map_append, List.map_drop, List.map_take]; rfl
   have l1 : (cutT (List.map T.int w) (some 1) none).length + (cutT (List.map T.int w) none (some 1)).length = w.length := by
     rw [← List.length_append, e1, List.length_map, List.length_append, ← List.length_append, List.length_append, Nat.add_comm, ← List.length_append, List.take_append_drop]
   rw [e1, l1]
   refine ⟨line_len' (by lia), by decide, by decide, line_len' (by lia), by decide, by decide, line_len' (by lia), by decide, by decide, fun q hq => ?_⟩
   have eL : [T.tup [T.int n, T.tup ((w.drop 1 ++ w.take 1).map T.int)], T.tup [T.int (n + 1), T.tup (List.map T.int w ++ [T.int n])], T.tup [T.int (n + 1), T.tup (List.map T.int w ++ [T.int (0 - n)])]] = ([(n, w.drop 1 ++ w.take 1), (n + 1, w ++ [n]), (n + 1, w ++ [0 - n])] : List (Int × List Int)).map ptT := by
     unfold ptT
     simp only [List.map_cons, List.map_nil, List.map_append]
   rw [eL]
   have pd : (w.drop 1 ++ w.take 1).Perm w := by
     have := List.perm_append_comm (l₁ := w.drop 1) (l₂ := w.take 1)
     rwa [List.take_append_drop] at this
   have okd : PlOK n (w.drop 1 ++ w.take 1) := ⟨okw.1, okw.2.1, by rw [pd.length_eq]; lia, fun x hx => hw x (pd.mem_iff.mp hx)⟩
   have okm : ∀ l : Int, (l.natAbs : Int) = n → PlOK (n + 1) (w ++ [l]) := fun l e => ⟨by lia, by lia, by rw [List.length_append, List.length_singleton]; lia, fun x hx => by
     rcases List.mem_append.mp hx with z | z
     · have := hw x z; exact ⟨this.1, by have := this.2; lia⟩
     · rw [List.mem_singleton.mp z]; exact ⟨by lia, by lia⟩⟩
   have A1 : ∀ x ∈ ([(n, w.drop 1 ++ w.take 1), (n + 1, w ++ [n]), (n + 1, w ++ [0 - n])] : List (Int × List Int)), Alk n w x := fun x hx => by
     simp only [List.mem_cons, List.not_mem_nil, or_false] at hx
     rcases hx with rfl | rfl | rfl
     · refine ⟨okd, smallI (.inl ⟨h2, by rw [pd.length_eq]; lia⟩), ?_⟩
       dsimp only
       have := clos_conj (u := w.drop 1) (v := w.take 1) okd (by rw [List.take_append_drop]; exact okw) h2
       rwa [List.take_append_drop] at this
     · exact ⟨okm n (by lia), smallI (.inr ⟨by dsimp only; lia, by rw [List.length_append, List.length_singleton]; lia⟩), clos_more okw h2 (by lia) (okm n (by lia))⟩
     · exact ⟨okm (0 - n) (by lia), smallI (.inr ⟨by dsimp only; lia, by rw [List.length_append, List.length_singleton]; lia⟩), clos_more okw h2 (by lia) (okm (0 - n) (by lia))⟩
   clear e1 l1 eL
   have hL1 : ([(n, w.drop 1 ++ w.take 1), (n + 1, w ++ [n]), (n + 1, w ++ [0 - n])] : List (Int × List Int)).length ≤ 3 := Nat.le_refl 3
   generalize ([(n, w.drop 1 ++ w.take 1), (n + 1, w ++ [n]), (n + 1, w ++ [0 - n])] : List (Int × List Int)) = L1 at A1 hL1 ⊢
   have hS3 := hS2.newr hq (o := .lst (L1.map ptT))
   have hMp3 := (Sub.new hq (o := .lst (L1.map ptT))) _ _ hMp2
   have hMq : (updM M2 q (.lst (L1.map ptT))) q = some (.lst (L1.map ptT)) := updM_same
   generalize updM M2 q (.lst (L1.map ptT)) = M3 at hS3 hMp3 hMq ⊢
   rw [hK4]; clear hK4
   refine seq_cut fun K5 hK5 => ?_
   walk_at "rd"
   refine ⟨w, rfl, okw, w, rfl, okw, w, rfl, okw, by decide, fun q2 hq2 => ?_⟩
   have hne : q ≠ q2 := fun z => by rw [← z, hMq] at hq2; cases hq2
   rw [updM_ne hne, hMq]
   dsimp only
   have okn : PlOK n (w.map fun l => -l) := ⟨okw.1, okw.2.1, by rw [List.length_map]; exact okw.2.2.1, fun x hx => by
     obtain ⟨y, hy, rfl⟩ := List.mem_map.mp hx
     exact (hw y hy).neg⟩
   have okc : PlOK n (contrL w) := ⟨okw.1, okw.2.1, by rw [contrL_length]; exact okw.2.2.1, hw.contr⟩
   have okf : PlOK n (w.map (flipL n)) := ⟨okw.1, okw.2.1, by rw [List.length_map]; exact okw.2.2.1, fun x hx => by
     obtain ⟨y, hy, rfl⟩ := List.mem_map.mp hx
     exact (hw y hy).flip⟩
   have A2 : ∀ x ∈ L1 ++ [(n, w.map fun l => -l), (n, contrL w), (n, w.map (flipL n))], Alk n w x := fun x hx => by
     rcases List.mem_append.mp hx with z | z
     · exact A1 x z
     simp only [List.mem_cons, List.not_mem_nil, or_false] at z
     rcases z with rfl | rfl | rfl
     · exact ⟨okn, smallI (.inl ⟨h2, by rw [List.length_map]; lia⟩), clos_mirror okw okn h2⟩
     · exact ⟨okc, smallI (.inl ⟨h2, by rw [contrL_length]; lia⟩), clos_contr okw okc h2⟩
     · exact ⟨okf, smallI (.inl ⟨h2, by rw [List.length_map]; lia⟩), clos_flip okw okf h2⟩
   have eL : L1.map ptT ++ [T.tup [T.int n, T.tup ((w.map fun l => -l).map T.int)], T.tup [T.int n, T.tup ((contrL w).map T.int)], T.tup [T.int n, T.tup ((w.map (flipL n)).map T.int)]] = (L1 ++ [(n, w.map fun l => -l), (n, contrL w), (n, w.map (flipL n))]).map ptT := by
     rw [List.map_append]; rfl
   have lL : (L1.map ptT).length ≤ 3 := by rw [List.length_map]; exact hL1
   refine ⟨line_len' (by simp only [List.length_cons, List.length_nil]; lia), fun r hr => ?_⟩
   rw [eL]
   have hL2 : (L1 ++ [(n, w.map fun l => -l), (n, contrL w), (n, w.map (flipL n))]).length ≤ 6 := by rw [List.length_append]; simp only [List.length_cons, List.length_nil]; lia
   clear eL lL
   generalize L1 ++ [(n, w.map fun l => -l), (n, contrL w), (n, w.map (flipL n))] = L2 at A2 hL2 ⊢
   have hX1 := Sub.new hq2 (o := MO.lst [T.tup [T.int n, T.tup ((w.map fun l => -l).map T.int)], T.tup [T.int n, T.tup ((contrL w).map T.int)], T.tup [T.int n, T.tup ((w.map (flipL n)).map T.int)]])
   have hS4 := (hS3.trans hX1).newr hr (o := .lst (L2.map ptT))
   have hMp4 := (Sub.new hr (o := .lst (L2.map ptT))) _ _ (hX1 _ _ hMp3)
   have hMr := updM_same (M := updM M3 q2 (MO.lst [T.tup [T.int n, T.tup ((w.map fun l => -l).map T.int)], T.tup [T.int n, T.tup ((contrL w).map T.int)], T.tup [T.int n, T.tup ((w.map (flipL n)).map T.int)]])) (a := r) (o := .lst (L2.map ptT))
   have hrM : M r = none := none_of (hS3.trans hX1) hr
   generalize updM (updM M3 q2 (MO.lst [T.tup [T.int n, T.tup ((w.map fun l => -l).map T.int)], T.tup [T.int n, T.tup ((contrL w).map T.int)], T.tup [T.int n, T.tup ((w.map (flipL n)).map T.int)]])) r (.lst (L2.map ptT)) = M4 at hS4 hMp4 hMr ⊢
   clear hX1 hr hq2 hne hS3 hMp3 hMq
   rw [hK5]; clear hK5
   have hpr : p ≠ r := fun z => by
     rw [z, hMr] at hMp4
     cases L2 with
     | nil => injection hMp4 with e; injection e with e; cases e
     | cons x L => injection hMp4 with e; injection e with e; injection e with e _; cases e
   refine seq_cut fun K6 hK6 => ?_
   walk_at "rd"
   rw [hMr]
   dsimp only
   refine ⟨trivial, k2, f, hMp4, by decide, by decide, fun c k3 c0 c1 => ?_⟩
   dsimp only
   have hMr5 : (updM M4 p (.lst [.int k3, .bl f])) r = some (.lst (L2.map ptT)) := by rw [updM_ne hpr.symm]; exact hMr
   have hS5 := hS4.updF hp (o := .lst [.int k3, .bl f])
   have hMp5 : (updM M4 p (.lst [.int k3, .bl f])) p = some (.lst [.int k3, .bl f]) := updM_same
   generalize updM M4 p (.lst [.int k3, .bl f]) = M5 at hMr5 hS5 hMp5 ⊢
   refine ⟨k3, f, w, hMp5, rfl, by lia, by lia, hw, by lia, by decide, by lia, by lia, fun u k4 hu hul hwu => ⟨by decide, ?_⟩⟩
   rw [updM_ne hpr.symm, hMr5]
   dsimp only
   refine ⟨line_len (by rw [List.length_map]; lia), ?_⟩
   have oku : PlOK n u := ⟨okw.1, okw.2.1, by lia, hu⟩
   have A3 : ∀ x ∈ L2 ++ [(n, u)], Alk n w x := fun x hx => by
     rcases List.mem_append.mp hx with z | z
     · exact A2 x z
     · rw [List.mem_singleton.mp z]
       exact ⟨oku, smallI (.inl ⟨h2, by lia⟩), (clos_rel okw oku hwu).symm⟩
   have hL3 : (L2 ++ [(n, u)]).length ≤ 7 := by rw [List.length_append, List.length_singleton]; lia
   have eL : L2.map ptT ++ [T.tup [T.int n, T.tup (u.map T.int)]] = (L2 ++ [(n, u)]).map ptT := by rw [List.map_append]; rfl
   rw [eL]
   clear eL
   generalize L2 ++ [(n, u)] = L3 at A3 hL3 ⊢
   have hS6 := (hS5.updF hp (o := .lst [.int k4, .bl f])).updF hrM (o := .lst (L3.map ptT))
   have hMr6 : (updM (updM M5 p (.lst [.int k4, .bl f])) r (.lst (L3.map ptT))) r = some (.lst (L3.map ptT)) := updM_same
   generalize updM (updM M5 p (.lst [.int k4, .bl f])) r (.lst (L3.map ptT)) = M6 at hS6 hMr6 ⊢
   clear hS5 hMr5 hMp5 hS4 hMp4 hMr A1 A2 hL1 hL2
   rw [hK6]; clear hK6
   refine seq_cut fun K7 hK7 => ?_
   walk_at "rd"
   rw [hMr6]
   refine ⟨trivial, line_len' (by lia), fun i ys M' => ys = ((v.take i).map fun l => 0 - l).map T.int ∧ M' = M6, ⟨rfl, rfl⟩, fun _ _ _ _ => trivial, line_len (by lia), ?_, ?_⟩
   · rintro i x ys M' hx ⟨rfl, rfl⟩
     obtain ⟨l, hx2, rfl⟩ := get_map_int hx
     dsimp only
     refine ⟨?_, rfl⟩
     rw [← take_succ_map (fun l : Int => 0 - l) hx2, List.map_append]; rfl
   · rintro ys M' ⟨rfl, rfl⟩ z hz
     rw [List.take_length]
     have hzr : r ≠ z := fun e => by rw [← e, hMr6] at hz; cases hz
     refine ⟨line_len' (by rw [List.length_map, List.length_map]; lia), by decide, ?_⟩
     rw [updM_ne hzr, hMr6]
     dsimp only
     refine ⟨line_len (by rw [List.length_map]; lia), ?_⟩
     have ev : (v.map fun l => 0 - l) = contrL v := by
       match v, hvl1 with
       | [], _ => rfl
       | [l], _ => show [0 - l] = [-l]; rw [Int.zero_sub]
     have okv : PlOK n (v ++ w ++ contrL v) := ⟨okw.1, okw.2.1, by rw [List.length_append, List.length_append, contrL_length]; lia, (hv.append hw).append hv.contr⟩
     have okv2 : PlOK n (contrL v ++ (v ++ w)) := ⟨okw.1, okw.2.1, by rw [List.length_append, List.length_append, contrL_length]; lia, hv.contr.append (hv.append hw)⟩
     have rv : RelW n (contrL v ++ (v ++ w)) w := by
       rw [← List.append_assoc]
       have := (RelW.bk hv).rt hw
       rwa [List.nil_append] at this
     have A4 : ∀ x ∈ L3 ++ [(n, v ++ w ++ contrL v)], Alk n w x := fun x hx => by
       rcases List.mem_append.mp hx with y | y
       · exact A3 x y
       · rw [List.mem_singleton.mp y]
         refine ⟨okv, smallI (.inl ⟨h2, by rw [List.length_append, List.length_append, contrL_length]; lia⟩), ?_⟩
         dsimp only
         rw [clos_conj okv okv2 h2, clos_rel okv2 okw rv]
     have eL : L3.map ptT ++ [T.tup [T.int n, T.tup (List.map T.int v ++ List.map T.int w ++ (v.map fun l => 0 - l).map T.int)]] = (L3 ++ [(n, v ++ w ++ contrL v)]).map ptT := by
       rw [List.map_append, ev]
       unfold ptT
       simp only [List.map_cons, List.map_nil, List.map_append]
     rw [eL]
     clear eL
     have hL4 : (L3 ++ [(n, v ++ w ++ contrL v)]).length ≤ 8 := by rw [List.length_append, List.length_singleton]; lia
     generalize L3 ++ [(n, v ++ w ++ contrL v)] = L4 at A4 hL4 ⊢
     have hS7 := (hS6.newr hz (o := .lst ((v.map fun l => 0 - l).map T.int))).updF hrM (o := .lst (L4.map ptT))
     have hMr7 : (updM (updM M' z (.lst ((v.map fun l => 0 - l).map T.int))) r (.lst (L4.map ptT))) r = some (.lst (L4.map ptT)) := updM_same
     generalize updM (updM M' z (.lst ((v.map fun l => 0 - l).map T.int))) r (.lst (L4.map ptT)) = M7 at hS7 hMr7 ⊢
     rw [hK7]; clear hK7
     refine seq_cut fun K8 hK8 => ?_
     refine for_cut fun B hB => ?_
     unfold tFor3
     walk_at "rd"
     rw [hMr7]
     refine ⟨fun i ρ M' => M' = M7 ∧ ∃ x, ρ = [some (T.rd (List.map T.int ns)), some (T.adr p), some (T.int n), some (T.tup (List.map T.int w)), some (T.tup [T.int n, T.tup (List.map T.int w)]), some (poT (closP n w)), some (T.tup (List.map T.int v)), some (T.adr r), x], ⟨rfl, _, rfl⟩, ?_, ?_, ?_⟩
     · rintro i ρ M' ⟨rfl, _⟩
       exact hMr7
     · rintro i x ρ M' hx ⟨rfl, y, rfl⟩
       obtain ⟨⟨m, u⟩, hx2, rfl⟩ : ∃ y, L4[i]? = some y ∧ ptT y = x := by
         rw [List.getElem?_map] at hx
         exact Option.map_eq_some_iff.mp hx
       obtain ⟨b1, b2, b3⟩ := A4 _ (List.mem_of_getElem? hx2)
       dsimp only at b1 b2 b3
       rw [hB]; clear hB
       unfold ptT
       walk_at "rd"
       refine ⟨u, rfl, b1, b2, ?_⟩
       rw [b3]
       have pP := poT_pure (closP n w)
       have dP := poT_dep (closP n w)
       show _ ∧ _ ∧ _ ∧ _
       refine ⟨pP, pP, dP, ?_⟩
       rw [eqT_refl _ pP, if_neg (by decide)]
       refine ⟨u, rfl, b1, b2, w, rfl, okw, hsm, ?_⟩
       rw [b3]
       dsimp only
       refine ⟨rfl, rfl, by rw [depT_int]; decide, ?_⟩
       rw [eqT_int, decide_eq_true rfl, if_neg (by decide)]
       exact ⟨rfl, _, rfl⟩
     · rintro ρ M' ⟨rfl, y, rfl⟩
       rw [hK8]
       walk_at "rd"
       exact rt3_sub h hS7
 · exact h.elim
theorem all_mk {l : PySem.W.OpenLaw} {w : World} {K : PySem.W.Frag} {h : Heap} {mg : Str → Option Value} {fa f1 f2 f3 f4 f5 f6 f7 f8 f9 f10 f11 f12 f13 f14 f15 f16 f17 f18 f19 f20 f21 f22 f23 f24 f25 f26 f27 : Addr} (X : K.In h) (G : h.Ns mainGlobals mg) (hfa : mg "law" = some (.ref fa))
   {od1 od2 od3 od4 od5 od6 od7 od8 od9 od10 od11 od12 od13 od14 od15 od16 od17 od18 od19 od20 od21 od22 od23 od24 od25 od26 od27 an1 an2 an3 an4 an5 an6 an7 an8 an9 an10 an11 an12 an13 an14 an15 an16 an17 an18 an19 an20 an21 an22 an23 an24 an25 an26 an27 : Option Addr} {sl1 sl2 sl3 sl4 sl5 sl6 sl7 sl8 sl9 sl10 sl11 sl12 sl13 sl14 sl15 sl16 sl17 sl18 sl19 sl20 sl21 sl22 sl23 sl24 sl25 sl26 sl27 : Array (Option Value)} {oc1 oc2 oc3 oc4 oc5 oc6 oc7 oc8 oc9 oc10 oc11 oc12 oc13 oc14 oc15 oc16 oc17 oc18 oc19 oc20 oc21 oc22 oc23 oc24 oc25 oc26 oc27 kV1 kV2 kV3 kV4 kV5 kV6 kV7 kV8 kV9 kV10 kV11 kV12 kV13 kV14 kV15 kV16 kV17 kV18 kV19 kV20 kV21 kV22 kV23 kV24 kV25 kV26 kV27 dc1 dc2 dc3 dc4 dc5 dc6 dc7 dc8 dc9 dc10 dc11 dc12 dc13 dc14 dc15 dc16 dc17 dc18 dc19 dc20 dc21 dc22 dc23 dc24 dc25 dc26 dc27 pm1 pm2 pm3 pm4 pm5 pm6 pm7 pm8 pm9 pm10 pm11 pm12 pm13 pm14 pm15 pm16 pm17 pm18 pm19 pm20 pm21 pm22 pm23 pm24 pm25 pm26 pm27 cd1 cd2 cd3 cd4 cd5 cd6 cd7 cd8 cd9 cd10 cd11 cd12 cd13 cd14 cd15 cd16 cd17 cd18 cd19 cd20 cd21 cd22 cd23 cd24 cd25 cd26 cd27 ct1 ct2 ct3 ct4 ct5 ct6 ct7 ct8 ct9 ct10 ct11 ct12 ct13 ct14 ct15 ct16 ct17 ct18 ct19 ct20 ct21 ct22 ct23 ct24 ct25 ct26 ct27 : Value}
   (a1 : PySem.W.nsIn K mainGlobals "is_letter" = some (some (.ref f1))) (l1 : K.lookup f1 = some ⟨oc1, od1, .func (PySem.W.fnOf "is_letter" "is_letter" (defArgs s_is_letter) (defBody s_is_letter) (defScope s_is_letter) .none kV1 dc1 pm1 an1 cd1 ct1), sl1⟩) (c1 : PySem.W.codeIn K cd1 "is_letter" = true) (k1 : PySem.W.keepIn K (.ref f1) = true)
   (a2 : PySem.W.nsIn K mainGlobals "is_word" = some (some (.ref f2))) (l2 : K.lookup f2 = some ⟨oc2, od2, .func (PySem.W.fnOf "is_word" "is_word" (defArgs s_is_word) (defBody s_is_word) (defScope s_is_word) .none kV2 dc2 pm2 an2 cd2 ct2), sl2⟩) (c2 : PySem.W.codeIn K cd2 "is_word" = true) (k2 : PySem.W.keepIn K (.ref f2) = true)
   (a3 : PySem.W.nsIn K mainGlobals "is_plait" = some (some (.ref f3))) (l3 : K.lookup f3 = some ⟨oc3, od3, .func (PySem.W.fnOf "is_plait" "is_plait" (defArgs s_is_plait) (defBody s_is_plait) (defScope s_is_plait) .none kV3 dc3 pm3 an3 cd3 ct3), sl3⟩) (c3 : PySem.W.codeIn K cd3 "is_plait" = true) (k3 : PySem.W.keepIn K (.ref f3) = true)
   (a4 : PySem.W.nsIn K mainGlobals "looked" = some (some (.ref f4))) (l4 : K.lookup f4 = some ⟨oc4, od4, .func (PySem.W.fnOf "looked" "looked" (defArgs s_looked) (defBody s_looked) (defScope s_looked) .none kV4 dc4 pm4 an4 cd4 ct4), sl4⟩) (c4 : PySem.W.codeIn K cd4 "looked" = true) (k4 : PySem.W.keepIn K (.ref f4) = true)
   (a5 : PySem.W.nsIn K mainGlobals "contrary" = some (some (.ref f5))) (l5 : K.lookup f5 = some ⟨oc5, od5, .func (PySem.W.fnOf "contrary" "contrary" (defArgs s_contrary) (defBody s_contrary) (defScope s_contrary) .none kV5 dc5 pm5 an5 cd5 ct5), sl5⟩) (c5 : PySem.W.codeIn K cd5 "contrary" = true) (k5 : PySem.W.keepIn K (.ref f5) = true)
   (a6 : PySem.W.nsIn K mainGlobals "turned" = some (some (.ref f6))) (l6 : K.lookup f6 = some ⟨oc6, od6, .func (PySem.W.fnOf "turned" "turned" (defArgs s_turned) (defBody s_turned) (defScope s_turned) .none kV6 dc6 pm6 an6 cd6 ct6), sl6⟩) (c6 : PySem.W.codeIn K cd6 "turned" = true) (k6 : PySem.W.keepIn K (.ref f6) = true)
   (a7 : PySem.W.nsIn K mainGlobals "mirrored" = some (some (.ref f7))) (l7 : K.lookup f7 = some ⟨oc7, od7, .func (PySem.W.fnOf "mirrored" "mirrored" (defArgs s_mirrored) (defBody s_mirrored) (defScope s_mirrored) .none kV7 dc7 pm7 an7 cd7 ct7), sl7⟩) (c7 : PySem.W.codeIn K cd7 "mirrored" = true) (k7 : PySem.W.keepIn K (.ref f7) = true)
   (a8 : PySem.W.nsIn K mainGlobals "flipped_letter" = some (some (.ref f8))) (l8 : K.lookup f8 = some ⟨oc8, od8, .func (PySem.W.fnOf "flipped_letter" "flipped_letter" (defArgs s_flipped_letter) (defBody s_flipped_letter) (defScope s_flipped_letter) .none kV8 dc8 pm8 an8 cd8 ct8), sl8⟩) (c8 : PySem.W.codeIn K cd8 "flipped_letter" = true) (k8 : PySem.W.keepIn K (.ref f8) = true)
   (a9 : PySem.W.nsIn K mainGlobals "flipped" = some (some (.ref f9))) (l9 : K.lookup f9 = some ⟨oc9, od9, .func (PySem.W.fnOf "flipped" "flipped" (defArgs s_flipped) (defBody s_flipped) (defScope s_flipped) .none kV9 dc9 pm9 an9 cd9 ct9), sl9⟩) (c9 : PySem.W.codeIn K cd9 "flipped" = true) (k9 : PySem.W.keepIn K (.ref f9) = true)
   (a10 : PySem.W.nsIn K mainGlobals "without_noughts" = some (some (.ref f10))) (l10 : K.lookup f10 = some ⟨oc10, od10, .func (PySem.W.fnOf "without_noughts" "without_noughts" (defArgs s_without_noughts) (defBody s_without_noughts) (defScope s_without_noughts) .none kV10 dc10 pm10 an10 cd10 ct10), sl10⟩) (c10 : PySem.W.codeIn K cd10 "without_noughts" = true) (k10 : PySem.W.keepIn K (.ref f10) = true)
   (a11 : PySem.W.nsIn K mainGlobals "added" = some (some (.ref f11))) (l11 : K.lookup f11 = some ⟨oc11, od11, .func (PySem.W.fnOf "added" "added" (defArgs s_added) (defBody s_added) (defScope s_added) .none kV11 dc11 pm11 an11 cd11 ct11), sl11⟩) (c11 : PySem.W.codeIn K cd11 "added" = true) (k11 : PySem.W.keepIn K (.ref f11) = true)
   (a12 : PySem.W.nsIn K mainGlobals "multiplied" = some (some (.ref f12))) (l12 : K.lookup f12 = some ⟨oc12, od12, .func (PySem.W.fnOf "multiplied" "multiplied" (defArgs s_multiplied) (defBody s_multiplied) (defScope s_multiplied) .none kV12 dc12 pm12 an12 cd12 ct12), sl12⟩) (c12 : PySem.W.codeIn K cd12 "multiplied" = true) (k12 : PySem.W.keepIn K (.ref f12) = true)
   (a13 : PySem.W.nsIn K mainGlobals "one_where_same" = some (some (.ref f13))) (l13 : K.lookup f13 = some ⟨oc13, od13, .func (PySem.W.fnOf "one_where_same" "one_where_same" (defArgs s_one_where_same) (defBody s_one_where_same) (defScope s_one_where_same) .none kV13 dc13 pm13 an13 cd13 ct13), sl13⟩) (c13 : PySem.W.codeIn K cd13 "one_where_same" = true) (k13 : PySem.W.keepIn K (.ref f13) = true)
   (a14 : PySem.W.nsIn K mainGlobals "with_letter" = some (some (.ref f14))) (l14 : K.lookup f14 = some ⟨oc14, od14, .func (PySem.W.fnOf "with_letter" "with_letter" (defArgs s_with_letter) (defBody s_with_letter) (defScope s_with_letter) .none kV14 dc14 pm14 an14 cd14 ct14), sl14⟩) (c14 : PySem.W.codeIn K cd14 "with_letter" = true) (k14 : PySem.W.keepIn K (.ref f14) = true)
   (a15 : PySem.W.nsIn K mainGlobals "table_of" = some (some (.ref f15))) (l15 : K.lookup f15 = some ⟨oc15, od15, .func (PySem.W.fnOf "table_of" "table_of" (defArgs s_table_of) (defBody s_table_of) (defScope s_table_of) .none kV15 dc15 pm15 an15 cd15 ct15), sl15⟩) (c15 : PySem.W.codeIn K cd15 "table_of" = true) (k15 : PySem.W.keepIn K (.ref f15) = true)
   (a16 : PySem.W.nsIn K mainGlobals "determinant" = some (some (.ref f16))) (l16 : K.lookup f16 = some ⟨oc16, od16, .func (PySem.W.fnOf "determinant" "determinant" (defArgs s_determinant) (defBody s_determinant) (defScope s_determinant) .none kV16 dc16 pm16 an16 cd16 ct16), sl16⟩) (c16 : PySem.W.codeIn K cd16 "determinant" = true) (k16 : PySem.W.keepIn K (.ref f16) = true)
   (a17 : PySem.W.nsIn K mainGlobals "from_nought" = some (some (.ref f17))) (l17 : K.lookup f17 = some ⟨oc17, od17, .func (PySem.W.fnOf "from_nought" "from_nought" (defArgs s_from_nought) (defBody s_from_nought) (defScope s_from_nought) .none kV17 dc17 pm17 an17 cd17 ct17), sl17⟩) (c17 : PySem.W.codeIn K cd17 "from_nought" = true) (k17 : PySem.W.keepIn K (.ref f17) = true)
   (a18 : PySem.W.nsIn K mainGlobals "closed_sum" = some (some (.ref f18))) (l18 : K.lookup f18 = some ⟨oc18, od18, .func (PySem.W.fnOf "closed_sum" "closed_sum" (defArgs s_closed_sum) (defBody s_closed_sum) (defScope s_closed_sum) .none kV18 dc18 pm18 an18 cd18 ct18), sl18⟩) (c18 : PySem.W.codeIn K cd18 "closed_sum" = true) (k18 : PySem.W.keepIn K (.ref f18) = true)
   (a19 : PySem.W.nsIn K mainGlobals "closed_weight" = some (some (.ref f19))) (l19 : K.lookup f19 = some ⟨oc19, od19, .func (PySem.W.fnOf "closed_weight" "closed_weight" (defArgs s_closed_weight) (defBody s_closed_weight) (defScope s_closed_weight) .none kV19 dc19 pm19 an19 cd19 ct19), sl19⟩) (c19 : PySem.W.codeIn K cd19 "closed_weight" = true) (k19 : PySem.W.keepIn K (.ref f19) = true)
   (a20 : PySem.W.nsIn K mainGlobals "_law_cell_at" = some (some (.ref f20))) (l20 : K.lookup f20 = some ⟨oc20, od20, .func (PySem.W.fnOf "_law_cell_at" "_law_cell_at" (defArgs s__law_cell_at) (defBody s__law_cell_at) (defScope s__law_cell_at) .none kV20 dc20 pm20 an20 cd20 ct20), sl20⟩) (c20 : PySem.W.codeIn K cd20 "_law_cell_at" = true) (k20 : PySem.W.keepIn K (.ref f20) = true)
   (a21 : PySem.W.nsIn K mainGlobals "_law_state" = some (some (.ref f21))) (l21 : K.lookup f21 = some ⟨oc21, od21, .func (PySem.W.fnOf "_law_state" "_law_state" (defArgs s__law_state) (defBody s__law_state) (defScope s__law_state) .none kV21 dc21 pm21 an21 cd21 ct21), sl21⟩) (c21 : PySem.W.codeIn K cd21 "_law_state" = true) (k21 : PySem.W.keepIn K (.ref f21) = true)
   (a22 : PySem.W.nsIn K mainGlobals "_law_choice" = some (some (.ref f22))) (l22 : K.lookup f22 = some ⟨oc22, od22, .func (PySem.W.fnOf "_law_choice" "_law_choice" (defArgs s__law_choice) (defBody s__law_choice) (defScope s__law_choice) .none kV22 dc22 pm22 an22 cd22 ct22), sl22⟩) (c22 : PySem.W.codeIn K cd22 "_law_choice" = true) (k22 : PySem.W.keepIn K (.ref f22) = true)
   (a23 : PySem.W.nsIn K mainGlobals "_law_word" = some (some (.ref f23))) (l23 : K.lookup f23 = some ⟨oc23, od23, .func (PySem.W.fnOf "_law_word" "_law_word" (defArgs s__law_word) (defBody s__law_word) (defScope s__law_word) .none kV23 dc23 pm23 an23 cd23 ct23), sl23⟩) (c23 : PySem.W.codeIn K cd23 "_law_word" = true) (k23 : PySem.W.keepIn K (.ref f23) = true)
   (a24 : PySem.W.nsIn K mainGlobals "_law_plait" = some (some (.ref f24))) (l24 : K.lookup f24 = some ⟨oc24, od24, .func (PySem.W.fnOf "_law_plait" "_law_plait" (defArgs s__law_plait) (defBody s__law_plait) (defScope s__law_plait) .none kV24 dc24 pm24 an24 cd24 ct24), sl24⟩) (c24 : PySem.W.codeIn K cd24 "_law_plait" = true) (k24 : PySem.W.keepIn K (.ref f24) = true)
   (a25 : PySem.W.nsIn K mainGlobals "_law_stepped" = some (some (.ref f25))) (l25 : K.lookup f25 = some ⟨oc25, od25, .func (PySem.W.fnOf "_law_stepped" "_law_stepped" (defArgs s__law_stepped) (defBody s__law_stepped) (defScope s__law_stepped) .none kV25 dc25 pm25 an25 cd25 ct25), sl25⟩) (c25 : PySem.W.codeIn K cd25 "_law_stepped" = true) (k25 : PySem.W.keepIn K (.ref f25) = true)
   (a26 : PySem.W.nsIn K mainGlobals "_law_led" = some (some (.ref f26))) (l26 : K.lookup f26 = some ⟨oc26, od26, .func (PySem.W.fnOf "_law_led" "_law_led" (defArgs s__law_led) (defBody s__law_led) (defScope s__law_led) .none kV26 dc26 pm26 an26 cd26 ct26), sl26⟩) (c26 : PySem.W.codeIn K cd26 "_law_led" = true) (k26 : PySem.W.keepIn K (.ref f26) = true)
   (a27 : PySem.W.nsIn K mainGlobals "law" = some (some (.ref f27))) (l27 : K.lookup f27 = some ⟨oc27, od27, .func (PySem.W.fnOf "law" "law" (defArgs s_law) (defBody s_law) (defScope s_law) .none kV27 dc27 pm27 an27 cd27 ct27), sl27⟩) (c27 : PySem.W.codeIn K cd27 "law" = true) (k27 : PySem.W.keepIn K (.ref f27) = true)
   (z_abs : PySem.W.nsIn K mainGlobals "abs" = some none)
   (z_all : PySem.W.nsIn K mainGlobals "all" = some none)
   (z_dict : PySem.W.nsIn K mainGlobals "dict" = some none)
   (z_enumerate : PySem.W.nsIn K mainGlobals "enumerate" = some none)
   (z_len : PySem.W.nsIn K mainGlobals "len" = some none)
   (z_list : PySem.W.nsIn K mainGlobals "list" = some none)
   (z_range : PySem.W.nsIn K mainGlobals "range" = some none)
   (z_reversed : PySem.W.nsIn K mainGlobals "reversed" = some none)
   (z_sorted : PySem.W.nsIn K mainGlobals "sorted" = some none)
   (z_sum : PySem.W.nsIn K mainGlobals "sum" = some none)
   (z_tuple : PySem.W.nsIn K mainGlobals "tuple" = some none)
   {u_DOWN : Addr} (g_DOWN : PySem.W.nsIn K mainGlobals "DOWN" = some (some (.ref u_DOWN)))
   {n_DOWN : Nat} {s_DOWN : Array (Option Value)} {u_DOWN_0 : Addr} (l_DOWN : K.lookup u_DOWN = some ⟨.type "tuple", none, .seq #[.ref u_DOWN_0] n_DOWN, s_DOWN⟩)
   {n_DOWN_0 : Nat} {s_DOWN_0 : Array (Option Value)} {t_DOWN_0_0 : Tok} {t_DOWN_0_1 : Tok} (l_DOWN_0 : K.lookup u_DOWN_0 = some ⟨.type "tuple", none, .seq #[.int (-1) t_DOWN_0_0, .int (1) t_DOWN_0_1] n_DOWN_0, s_DOWN_0⟩)
   {u_LESS_DOWN : Addr} (g_LESS_DOWN : PySem.W.nsIn K mainGlobals "LESS_DOWN" = some (some (.ref u_LESS_DOWN)))
   {n_LESS_DOWN : Nat} {s_LESS_DOWN : Array (Option Value)} {u_LESS_DOWN_0 : Addr} {u_LESS_DOWN_1 : Addr} (l_LESS_DOWN : K.lookup u_LESS_DOWN = some ⟨.type "tuple", none, .seq #[.ref u_LESS_DOWN_0, .ref u_LESS_DOWN_1] n_LESS_DOWN, s_LESS_DOWN⟩)
   {n_LESS_DOWN_0 : Nat} {s_LESS_DOWN_0 : Array (Option Value)} {t_LESS_DOWN_0_0 : Tok} {t_LESS_DOWN_0_1 : Tok} (l_LESS_DOWN_0 : K.lookup u_LESS_DOWN_0 = some ⟨.type "tuple", none, .seq #[.int (-1) t_LESS_DOWN_0_0, .int (-1) t_LESS_DOWN_0_1] n_LESS_DOWN_0, s_LESS_DOWN_0⟩)
   {n_LESS_DOWN_1 : Nat} {s_LESS_DOWN_1 : Array (Option Value)} {t_LESS_DOWN_1_0 : Tok} {t_LESS_DOWN_1_1 : Tok} (l_LESS_DOWN_1 : K.lookup u_LESS_DOWN_1 = some ⟨.type "tuple", none, .seq #[.int (0) t_LESS_DOWN_1_0, .int (1) t_LESS_DOWN_1_1] n_LESS_DOWN_1, s_LESS_DOWN_1⟩)
   {u_LESS_ONE : Addr} (g_LESS_ONE : PySem.W.nsIn K mainGlobals "LESS_ONE" = some (some (.ref u_LESS_ONE)))
   {n_LESS_ONE : Nat} {s_LESS_ONE : Array (Option Value)} {u_LESS_ONE_0 : Addr} (l_LESS_ONE : K.lookup u_LESS_ONE = some ⟨.type "tuple", none, .seq #[.ref u_LESS_ONE_0] n_LESS_ONE, s_LESS_ONE⟩)
   {n_LESS_ONE_0 : Nat} {s_LESS_ONE_0 : Array (Option Value)} {t_LESS_ONE_0_0 : Tok} {t_LESS_ONE_0_1 : Tok} (l_LESS_ONE_0 : K.lookup u_LESS_ONE_0 = some ⟨.type "tuple", none, .seq #[.int (0) t_LESS_ONE_0_0, .int (-1) t_LESS_ONE_0_1] n_LESS_ONE_0, s_LESS_ONE_0⟩)
   {u_LESS_UP : Addr} (g_LESS_UP : PySem.W.nsIn K mainGlobals "LESS_UP" = some (some (.ref u_LESS_UP)))
   {n_LESS_UP : Nat} {s_LESS_UP : Array (Option Value)} {u_LESS_UP_0 : Addr} {u_LESS_UP_1 : Addr} (l_LESS_UP : K.lookup u_LESS_UP = some ⟨.type "tuple", none, .seq #[.ref u_LESS_UP_0, .ref u_LESS_UP_1] n_LESS_UP, s_LESS_UP⟩)
   {n_LESS_UP_0 : Nat} {s_LESS_UP_0 : Array (Option Value)} {t_LESS_UP_0_0 : Tok} {t_LESS_UP_0_1 : Tok} (l_LESS_UP_0 : K.lookup u_LESS_UP_0 = some ⟨.type "tuple", none, .seq #[.int (0) t_LESS_UP_0_0, .int (1) t_LESS_UP_0_1] n_LESS_UP_0, s_LESS_UP_0⟩)
   {n_LESS_UP_1 : Nat} {s_LESS_UP_1 : Array (Option Value)} {t_LESS_UP_1_0 : Tok} {t_LESS_UP_1_1 : Tok} (l_LESS_UP_1 : K.lookup u_LESS_UP_1 = some ⟨.type "tuple", none, .seq #[.int (1) t_LESS_UP_1_0, .int (-1) t_LESS_UP_1_1] n_LESS_UP_1, s_LESS_UP_1⟩)
   {tk_MOST_LETTERS : Tok} (g_MOST_LETTERS : PySem.W.nsIn K mainGlobals "MOST_LETTERS" = some (some (.int 16 tk_MOST_LETTERS)))
   {tk_MOST_STRANDS : Tok} (g_MOST_STRANDS : PySem.W.nsIn K mainGlobals "MOST_STRANDS" = some (some (.int 6 tk_MOST_STRANDS)))
   {u_NOUGHT : Addr} (g_NOUGHT : PySem.W.nsIn K mainGlobals "NOUGHT" = some (some (.ref u_NOUGHT)))
   {n_NOUGHT : Nat} {s_NOUGHT : Array (Option Value)} (l_NOUGHT : K.lookup u_NOUGHT = some ⟨.type "tuple", none, .seq #[] n_NOUGHT, s_NOUGHT⟩)
   {u_ONE : Addr} (g_ONE : PySem.W.nsIn K mainGlobals "ONE" = some (some (.ref u_ONE)))
   {n_ONE : Nat} {s_ONE : Array (Option Value)} {u_ONE_0 : Addr} (l_ONE : K.lookup u_ONE = some ⟨.type "tuple", none, .seq #[.ref u_ONE_0] n_ONE, s_ONE⟩)
   {n_ONE_0 : Nat} {s_ONE_0 : Array (Option Value)} {t_ONE_0_0 : Tok} {t_ONE_0_1 : Tok} (l_ONE_0 : K.lookup u_ONE_0 = some ⟨.type "tuple", none, .seq #[.int (0) t_ONE_0_0, .int (1) t_ONE_0_1] n_ONE_0, s_ONE_0⟩)
   {u_UP : Addr} (g_UP : PySem.W.nsIn K mainGlobals "UP" = some (some (.ref u_UP)))
   {n_UP : Nat} {s_UP : Array (Option Value)} {u_UP_0 : Addr} (l_UP : K.lookup u_UP = some ⟨.type "tuple", none, .seq #[.ref u_UP_0] n_UP, s_UP⟩)
   {n_UP_0 : Nat} {s_UP_0 : Array (Option Value)} {t_UP_0_0 : Tok} {t_UP_0_1 : Tok} (l_UP_0 : K.lookup u_UP_0 = some ⟨.type "tuple", none, .seq #[.int (1) t_UP_0_0, .int (1) t_UP_0_1] n_UP_0, s_UP_0⟩)
   : ∃ fd : FuncData, (∀ (s : Shared) (v : Value), BindsTo s fd ⟨[v], []⟩ [("script", v)]) ∧ ∀ base : Heap, K.In base → base.Ns mainGlobals mg → FnOk l.prog w K mg base CX0 12 fa fd ["script"] (dSp K sp_law) := by
 have e := hfa.symm.trans (PySem.W.mg_of X G a27)
 cases e
 have Z : Zs K mg := ⟨PySem.W.mg_none_of X G z_abs, PySem.W.mg_none_of X G z_all, PySem.W.mg_none_of X G z_dict, PySem.W.mg_none_of X G z_enumerate, PySem.W.mg_none_of X G z_len, PySem.W.mg_none_of X G z_list, PySem.W.mg_none_of X G z_range, PySem.W.mg_none_of X G z_reversed, PySem.W.mg_none_of X G z_sorted, PySem.W.mg_none_of X G z_sum, PySem.W.mg_none_of X G z_tuple, ⟨u_DOWN, PySem.W.mg_of X G g_DOWN, fun H => (rep_const (xs := [.ref u_DOWN_0]) l_DOWN (by show 1 ≤ 1000; decide) (.cons rfl .nil) (reps_cons' (rep_const (xs := [.int (-1), .int (1)]) l_DOWN_0 (by show 2 ≤ 1000; decide) (.cons ⟨_, rfl⟩ (.cons ⟨_, rfl⟩ .nil)) (reps_cons' rep_int (reps_cons' rep_int reps_nil'))) reps_nil'))⟩, ⟨u_LESS_DOWN, PySem.W.mg_of X G g_LESS_DOWN, fun H => (rep_const (xs := [.ref u_LESS_DOWN_0, .ref u_LESS_DOWN_1]) l_LESS_DOWN (by show 2 ≤ 1000; decide) (.cons rfl (.cons rfl .nil)) (reps_cons' (rep_const (xs := [.int (-1), .int (-1)]) l_LESS_DOWN_0 (by show 2 ≤ 1000; decide) (.cons ⟨_, rfl⟩ (.cons ⟨_, rfl⟩ .nil)) (reps_cons' rep_int (reps_cons' rep_int reps_nil'))) (reps_cons' (rep_const (xs := [.int (0), .int (1)]) l_LESS_DOWN_1 (by show 2 ≤ 1000; decide) (.cons ⟨_, rfl⟩ (.cons ⟨_, rfl⟩ .nil)) (reps_cons' rep_int (reps_cons' rep_int reps_nil'))) reps_nil')))⟩, ⟨u_LESS_ONE, PySem.W.mg_of X G g_LESS_ONE, fun H => (rep_const (xs := [.ref u_LESS_ONE_0]) l_LESS_ONE (by show 1 ≤ 1000; decide) (.cons rfl .nil) (reps_cons' (rep_const (xs := [.int (0), .int (-1)]) l_LESS_ONE_0 (by show 2 ≤ 1000; decide) (.cons ⟨_, rfl⟩ (.cons ⟨_, rfl⟩ .nil)) (reps_cons' rep_int (reps_cons' rep_int reps_nil'))) reps_nil'))⟩, ⟨u_LESS_UP, PySem.W.mg_of X G g_LESS_UP, fun H => (rep_const (xs := [.ref u_LESS_UP_0, .ref u_LESS_UP_1]) l_LESS_UP (by show 2 ≤ 1000; decide) (.cons rfl (.cons rfl .nil)) (reps_cons' (rep_const (xs := [.int (0), .int (1)]) l_LESS_UP_0 (by show 2 ≤ 1000; decide) (.cons ⟨_, rfl⟩ (.cons ⟨_, rfl⟩ .nil)) (reps_cons' rep_int (reps_cons' rep_int reps_nil'))) (reps_cons' (rep_const (xs := [.int (1), .int (-1)]) l_LESS_UP_1 (by show 2 ≤ 1000; decide) (.cons ⟨_, rfl⟩ (.cons ⟨_, rfl⟩ .nil)) (reps_cons' rep_int (reps_cons' rep_int reps_nil'))) reps_nil')))⟩, ⟨tk_MOST_LETTERS, PySem.W.mg_of X G g_MOST_LETTERS⟩, ⟨tk_MOST_STRANDS, PySem.W.mg_of X G g_MOST_STRANDS⟩, ⟨u_NOUGHT, PySem.W.mg_of X G g_NOUGHT, fun H => (rep_const (xs := []) l_NOUGHT (by show 0 ≤ 1000; decide) .nil reps_nil')⟩, ⟨u_ONE, PySem.W.mg_of X G g_ONE, fun H => (rep_const (xs := [.ref u_ONE_0]) l_ONE (by show 1 ≤ 1000; decide) (.cons rfl .nil) (reps_cons' (rep_const (xs := [.int (0), .int (1)]) l_ONE_0 (by show 2 ≤ 1000; decide) (.cons ⟨_, rfl⟩ (.cons ⟨_, rfl⟩ .nil)) (reps_cons' rep_int (reps_cons' rep_int reps_nil'))) reps_nil'))⟩, ⟨u_UP, PySem.W.mg_of X G g_UP, fun H => (rep_const (xs := [.ref u_UP_0]) l_UP (by show 1 ≤ 1000; decide) (.cons rfl .nil) (reps_cons' (rep_const (xs := [.int (1), .int (1)]) l_UP_0 (by show 2 ≤ 1000; decide) (.cons ⟨_, rfl⟩ (.cons ⟨_, rfl⟩ .nil)) (reps_cons' rep_int (reps_cons' rep_int reps_nil'))) reps_nil'))⟩⟩
 have F1 := fun_mk (st := s_is_letter) l1 c1 k1
 have b1 := F1.binds (ps := ["strands", "letter"]) fun _ _ _ _ _ _ us hl => len_2 (P := fun us => bindArgs _ ⟨us, []⟩ = pure (List.zip _ us)) hl (fun _ _ => rfl)
 have F2 := fun_mk (st := s_is_word) l2 c2 k2
 have b2 := F2.binds (ps := ["strands", "word", "most"]) fun _ _ _ _ _ _ us hl => len_3 (P := fun us => bindArgs _ ⟨us, []⟩ = pure (List.zip _ us)) hl (fun _ _ _ => rfl)
 have F3 := fun_mk (st := s_is_plait) l3 c3 k3
 have b3 := F3.binds (ps := ["plait"]) fun _ _ _ _ _ _ us hl => len_1 (P := fun us => bindArgs _ ⟨us, []⟩ = pure (List.zip _ us)) hl (fun _ => rfl)
 have F4 := fun_mk (st := s_looked) l4 c4 k4
 have b4 := F4.binds (ps := ["plait"]) fun _ _ _ _ _ _ us hl => len_1 (P := fun us => bindArgs _ ⟨us, []⟩ = pure (List.zip _ us)) hl (fun _ => rfl)
 have F5 := fun_mk (st := s_contrary) l5 c5 k5
 have b5 := F5.binds (ps := ["word"]) fun _ _ _ _ _ _ us hl => len_1 (P := fun us => bindArgs _ ⟨us, []⟩ = pure (List.zip _ us)) hl (fun _ => rfl)
 have F6 := fun_mk (st := s_turned) l6 c6 k6
 have b6 := F6.binds (ps := ["plait"]) fun _ _ _ _ _ _ us hl => len_1 (P := fun us => bindArgs _ ⟨us, []⟩ = pure (List.zip _ us)) hl (fun _ => rfl)
 have F7 := fun_mk (st := s_mirrored) l7 c7 k7
 have b7 := F7.binds (ps := ["plait"]) fun _ _ _ _ _ _ us hl => len_1 (P := fun us => bindArgs _ ⟨us, []⟩ = pure (List.zip _ us)) hl (fun _ => rfl)
 have F8 := fun_mk (st := s_flipped_letter) l8 c8 k8
 have b8 := F8.binds (ps := ["strands", "letter"]) fun _ _ _ _ _ _ us hl => len_2 (P := fun us => bindArgs _ ⟨us, []⟩ = pure (List.zip _ us)) hl (fun _ _ => rfl)
 have F9 := fun_mk (st := s_flipped) l9 c9 k9
 have b9 := F9.binds (ps := ["plait"]) fun _ _ _ _ _ _ us hl => len_1 (P := fun us => bindArgs _ ⟨us, []⟩ = pure (List.zip _ us)) hl (fun _ => rfl)
 have F10 := fun_mk (st := s_without_noughts) l10 c10 k10
 have b10 := F10.binds (ps := ["counts"]) fun _ _ _ _ _ _ us hl => len_1 (P := fun us => bindArgs _ ⟨us, []⟩ = pure (List.zip _ us)) hl (fun _ => rfl)
 have F11 := fun_mk (st := s_added) l11 c11 k11
 have b11 := F11.binds (ps := ["one", "other"]) fun _ _ _ _ _ _ us hl => len_2 (P := fun us => bindArgs _ ⟨us, []⟩ = pure (List.zip _ us)) hl (fun _ _ => rfl)
 have F12 := fun_mk (st := s_multiplied) l12 c12 k12
 have b12 := F12.binds (ps := ["one", "other"]) fun _ _ _ _ _ _ us hl => len_2 (P := fun us => bindArgs _ ⟨us, []⟩ = pure (List.zip _ us)) hl (fun _ _ => rfl)
 have F13 := fun_mk (st := s_one_where_same) l13 c13 k13
 have b13 := F13.binds (ps := ["row", "column"]) fun _ _ _ _ _ _ us hl => len_2 (P := fun us => bindArgs _ ⟨us, []⟩ = pure (List.zip _ us)) hl (fun _ _ => rfl)
 have F14 := fun_mk (st := s_with_letter) l14 c14 k14
 have b14 := F14.binds (ps := ["row", "letter"]) fun _ _ _ _ _ _ us hl => len_2 (P := fun us => bindArgs _ ⟨us, []⟩ = pure (List.zip _ us)) hl (fun _ _ => rfl)
 have F15 := fun_mk (st := s_table_of) l15 c15 k15
 have b15 := F15.binds (ps := ["plait"]) fun _ _ _ _ _ _ us hl => len_1 (P := fun us => bindArgs _ ⟨us, []⟩ = pure (List.zip _ us)) hl (fun _ => rfl)
 have F16 := fun_mk (st := s_determinant) l16 c16 k16
 have b16 := F16.binds (ps := ["rows"]) fun _ _ _ _ _ _ us hl => len_1 (P := fun us => bindArgs _ ⟨us, []⟩ = pure (List.zip _ us)) hl (fun _ => rfl)
 have F17 := fun_mk (st := s_from_nought) l17 c17 k17
 have b17 := F17.binds (ps := ["whole"]) fun _ _ _ _ _ _ us hl => len_1 (P := fun us => bindArgs _ ⟨us, []⟩ = pure (List.zip _ us)) hl (fun _ => rfl)
 have F18 := fun_mk (st := s_closed_sum) l18 c18 k18
 have b18 := F18.binds (ps := ["plait"]) fun _ _ _ _ _ _ us hl => len_1 (P := fun us => bindArgs _ ⟨us, []⟩ = pure (List.zip _ us)) hl (fun _ => rfl)
 have F19 := fun_mk (st := s_closed_weight) l19 c19 k19
 have b19 := F19.binds (ps := ["plait"]) fun _ _ _ _ _ _ us hl => len_1 (P := fun us => bindArgs _ ⟨us, []⟩ = pure (List.zip _ us)) hl (fun _ => rfl)
 have F20 := fun_mk (st := s__law_cell_at) l20 c20 k20
 have b20 := F20.binds (ps := ["script", "k"]) fun _ _ _ _ _ _ us hl => len_2 (P := fun us => bindArgs _ ⟨us, []⟩ = pure (List.zip _ us)) hl (fun _ _ => rfl)
 have F21 := fun_mk (st := s__law_state) l21 c21 k21
 have b21 := F21.binds (ps := ["script", "k"]) fun _ _ _ _ _ _ us hl => len_2 (P := fun us => bindArgs _ ⟨us, []⟩ = pure (List.zip _ us)) hl (fun _ _ => rfl)
 have F22 := fun_mk (st := s__law_choice) l22 c22 k22
 have b22 := F22.binds (ps := ["state", "many"]) fun _ _ _ _ _ _ us hl => len_2 (P := fun us => bindArgs _ ⟨us, []⟩ = pure (List.zip _ us)) hl (fun _ _ => rfl)
 have F23 := fun_mk (st := s__law_word) l23 c23 k23
 have b23 := F23.binds (ps := ["state", "strands", "count"]) fun _ _ _ _ _ _ us hl => len_3 (P := fun us => bindArgs _ ⟨us, []⟩ = pure (List.zip _ us)) hl (fun _ _ _ => rfl)
 have F24 := fun_mk (st := s__law_plait) l24 c24 k24
 have b24 := F24.binds (ps := ["state", "least", "most", "letters"]) fun _ _ _ _ _ _ us hl => len_4 (P := fun us => bindArgs _ ⟨us, []⟩ = pure (List.zip _ us)) hl (fun _ _ _ _ => rfl)
 have F25 := fun_mk (st := s__law_stepped) l25 c25 k25
 have b25 := F25.binds (ps := ["state", "strands", "word"]) fun _ _ _ _ _ _ us hl => len_3 (P := fun us => bindArgs _ ⟨us, []⟩ = pure (List.zip _ us)) hl (fun _ _ _ => rfl)
 have F26 := fun_mk (st := s__law_led) l26 c26 k26
 have b26 := F26.binds (ps := ["state", "strands", "word", "steps", "most"]) fun _ _ _ _ _ _ us hl => len_5 (P := fun us => bindArgs _ ⟨us, []⟩ = pure (List.zip _ us)) hl (fun _ _ _ _ _ => rfl)
 have F27 := fun_mk (st := s_law) l27 c27 k27
 refine ⟨PySem.W.fnOf "law" "law" (defArgs s_law) (defBody s_law) (defScope s_law) .none kV27 dc27 pm27 an27 cd27 ct27, fun s v => .of_eq rfl, fun base _ _ => ?_⟩
 have D1 := ok_is_letter (P := l.prog) (w := w) (base := base) (n := 0) F1 (PySem.W.mg_of X G a1) b1 Z 
 have D2 := ok_is_word (P := l.prog) (w := w) (base := base) (n := 1) F2 (PySem.W.mg_of X G a2) b2 Z (D1.mono (by decide))
 have D3 := ok_is_plait (P := l.prog) (w := w) (base := base) (n := 2) F3 (PySem.W.mg_of X G a3) b3 Z (D2.mono (by decide))
 have D4 := ok_looked (P := l.prog) (w := w) (base := base) (n := 3) F4 (PySem.W.mg_of X G a4) b4 Z (D3.mono (by decide))
 have D5 := ok_contrary (P := l.prog) (w := w) (base := base) (n := 0) F5 (PySem.W.mg_of X G a5) b5 Z 
 have D6 := ok_turned (P := l.prog) (w := w) (base := base) (n := 4) F6 (PySem.W.mg_of X G a6) b6 Z (D4.mono (by decide)) (D5.mono (by decide))
 have D7 := ok_mirrored (P := l.prog) (w := w) (base := base) (n := 4) F7 (PySem.W.mg_of X G a7) b7 Z (D4.mono (by decide))
 have D8 := ok_flipped_letter (P := l.prog) (w := w) (base := base) (n := 0) F8 (PySem.W.mg_of X G a8) b8 Z 
 have D9 := ok_flipped (P := l.prog) (w := w) (base := base) (n := 4) F9 (PySem.W.mg_of X G a9) b9 Z (D4.mono (by decide)) (D8.mono (by decide))
 have D10 := ok_without_noughts (P := l.prog) (w := w) (base := base) (n := 0) F10 (PySem.W.mg_of X G a10) b10 Z 
 have D11 := ok_added (P := l.prog) (w := w) (base := base) (n := 1) F11 (PySem.W.mg_of X G a11) b11 Z (D10.mono (by decide))
 have D12 := ok_multiplied (P := l.prog) (w := w) (base := base) (n := 1) F12 (PySem.W.mg_of X G a12) b12 Z (D10.mono (by decide))
 have D13 := ok_one_where_same (P := l.prog) (w := w) (base := base) (n := 0) F13 (PySem.W.mg_of X G a13) b13 Z 
 have D14 := ok_with_letter (P := l.prog) (w := w) (base := base) (n := 2) F14 (PySem.W.mg_of X G a14) b14 Z (D11.mono (by decide)) (D12.mono (by decide))
 have D15 := ok_table_of (P := l.prog) (w := w) (base := base) (n := 4) F15 (PySem.W.mg_of X G a15) b15 Z (D4.mono (by decide)) (D13.mono (by decide)) (D14.mono (by decide))
 have D16_0 := ok_determinant_0 (P := l.prog) (w := w) (base := base) (n := 2) F16 (PySem.W.mg_of X G a16) b16
 have D16_1 := ok_determinant (P := l.prog) (w := w) (base := base) (n := 3) (k := 0) F16 (PySem.W.mg_of X G a16) b16 Z (D16_0.mono (by decide)) (D11.mono (by decide)) (D12.mono (by decide))
 have D16_2 := ok_determinant (P := l.prog) (w := w) (base := base) (n := 4) (k := 1) F16 (PySem.W.mg_of X G a16) b16 Z (D16_1.mono (by decide)) (D11.mono (by decide)) (D12.mono (by decide))
 have D16_3 := ok_determinant (P := l.prog) (w := w) (base := base) (n := 5) (k := 2) F16 (PySem.W.mg_of X G a16) b16 Z (D16_2.mono (by decide)) (D11.mono (by decide)) (D12.mono (by decide))
 have D16_4 := ok_determinant (P := l.prog) (w := w) (base := base) (n := 6) (k := 3) F16 (PySem.W.mg_of X G a16) b16 Z (D16_3.mono (by decide)) (D11.mono (by decide)) (D12.mono (by decide))
 have D16_5 := ok_determinant (P := l.prog) (w := w) (base := base) (n := 7) (k := 4) F16 (PySem.W.mg_of X G a16) b16 Z (D16_4.mono (by decide)) (D11.mono (by decide)) (D12.mono (by decide))
 have D16 := ok_determinant (P := l.prog) (w := w) (base := base) (n := 8) (k := 5) F16 (PySem.W.mg_of X G a16) b16 Z (D16_5.mono (by decide)) (D11.mono (by decide)) (D12.mono (by decide))
 have D17 := ok_from_nought (P := l.prog) (w := w) (base := base) (n := 2) F17 (PySem.W.mg_of X G a17) b17 Z (D12.mono (by decide))
 have D18 := ok_closed_sum (P := l.prog) (w := w) (base := base) (n := 9) F18 (PySem.W.mg_of X G a18) b18 Z (D15.mono (by decide)) (D11.mono (by decide)) (D13.mono (by decide)) (D12.mono (by decide)) (D17.mono (by decide)) (D16.mono (by decide))
 have D19 := ok_closed_weight (P := l.prog) (w := w) (base := base) (n := 10) F19 (PySem.W.mg_of X G a19) b19 Z (D18.mono (by decide))
 have D20 := ok__law_cell_at (P := l.prog) (w := w) (base := base) (n := 0) F20 (PySem.W.mg_of X G a20) b20 Z 
 have D21 := ok__law_state (P := l.prog) (w := w) (base := base) (n := 1) F21 (PySem.W.mg_of X G a21) b21 Z (D20.mono (by decide))
 have D22 := ok__law_choice (P := l.prog) (w := w) (base := base) (n := 0) F22 (PySem.W.mg_of X G a22) b22 Z 
 have D23 := ok__law_word (P := l.prog) (w := w) (base := base) (n := 1) F23 (PySem.W.mg_of X G a23) b23 Z (D22.mono (by decide))
 have D24 := ok__law_plait (P := l.prog) (w := w) (base := base) (n := 2) F24 (PySem.W.mg_of X G a24) b24 Z (D22.mono (by decide)) (D23.mono (by decide))
 have D25 := ok__law_stepped (P := l.prog) (w := w) (base := base) (n := 2) F25 (PySem.W.mg_of X G a25) b25 Z (D22.mono (by decide)) (D23.mono (by decide))
 have D26 := ok__law_led (P := l.prog) (w := w) (base := base) (n := 3) F26 (PySem.W.mg_of X G a26) b26 Z (D25.mono (by decide))
 exact ok_law (n := 11) F27 Z (D21.mono (by decide)) (D24.mono (by decide)) (D18.mono (by decide)) (D23.mono (by decide)) (D7.mono (by decide)) (D6.mono (by decide)) (D9.mono (by decide)) (D26.mono (by decide)) (D22.mono (by decide)) (D19.mono (by decide))
end L2
namespace PySem.W.Fast
theorem tw3529040158167484942:True:=⟨⟩
theorem tw6401162318600987829:True:=⟨⟩
theorem tw15837957396904118615:True:=⟨⟩
theorem tw18153241512723637304:True:=⟨⟩
theorem tw2789587145741569716:True:=⟨⟩
theorem tw16527377509589368289:True:=⟨⟩
theorem tw2422669921693097832:True:=⟨⟩
theorem tw18397180197039620373:True:=⟨⟩
theorem tw11337472274857004016:True:=⟨⟩
theorem tw1104841470784004820:True:=⟨⟩
theorem tw3711903767505708966:True:=⟨⟩
theorem tw4016872730901687226:True:=⟨⟩
theorem tw257072241116109014:True:=⟨⟩
theorem tw3804543561493028498:True:=⟨⟩
theorem tw9433040387622670832:True:=⟨⟩
theorem tw6352291550473805191:True:=⟨⟩
theorem tw4975806173495614995:True:=⟨⟩
theorem tw6269710898148198311:True:=⟨⟩
theorem tw11491012829507540479:True:=⟨⟩
theorem tw11498032479421216631:True:=⟨⟩
theorem tw11953827654783705450:True:=⟨⟩
theorem tw8465636223553163899:True:=⟨⟩
theorem tw7191421571486818979:True:=⟨⟩
theorem tw8140546678929883293:True:=⟨⟩
theorem tw2647382309137020309:True:=⟨⟩
theorem tw14128274252765550088:True:=⟨⟩
theorem tw8711126887943239671:True:=⟨⟩
theorem tw1173826037168443749:True:=⟨⟩
theorem tw17013508426374540343:True:=⟨⟩
theorem tw7539124727808062518:True:=⟨⟩
theorem tw13941559500096350149:True:=⟨⟩
theorem tw10965117124515000379:True:=⟨⟩
theorem tw769984112203507993:True:=⟨⟩
theorem tw12564676770848023070:True:=⟨⟩
theorem tw1897300673218610211:True:=⟨⟩
theorem tw7231564644990815263:True:=⟨⟩
theorem tw3128792910504007870:True:=⟨⟩
theorem tw2091692456823261357:True:=⟨⟩
theorem tw13657624130460235314:True:=⟨⟩
theorem tw6056334042567518718:True:=⟨⟩
theorem tw688765752889680279:True:=⟨⟩
theorem tw15357765247842387831:True:=⟨⟩
theorem tw10634039959075523262:True:=⟨⟩
theorem tw14137354627367267564:True:=⟨⟩
theorem tw10397359637355152954:True:=⟨⟩
theorem tw17534387463305970227:True:=⟨⟩
theorem tw17022258915398866164:True:=⟨⟩
theorem tw2021634345909156516:True:=⟨⟩
theorem tw1190858057740820888:True:=⟨⟩
theorem tw18338242890894072136:True:=⟨⟩
theorem tw1937851296168756446:True:=⟨⟩
theorem tw1452119826160720398:True:=⟨⟩
theorem tw8577601797530187625:True:=⟨⟩
theorem tw11411606283365214225:True:=⟨⟩
theorem tw1656883293522369406:True:=⟨⟩
theorem tw3746616554127269116:True:=⟨⟩
theorem tw3186548803935809104:True:=⟨⟩
theorem tw7813203993713135421:True:=⟨⟩
theorem tw15637503258809576736:True:=⟨⟩
theorem tw13745235247855155010:True:=⟨⟩
theorem tw15984463217164023732:True:=⟨⟩
theorem tw2707438803643654334:True:=⟨⟩
theorem tw7175019920562628885:True:=⟨⟩
theorem tw667894488280016975:True:=⟨⟩
theorem tw4639603196428391229:True:=⟨⟩
theorem tw17252496905890332186:True:=⟨⟩
theorem tw10356285599862683335:True:=⟨⟩
theorem tw6390446466949677693:True:=⟨⟩
theorem tw15328319140970027529:True:=⟨⟩
theorem tw16117404390121198914:True:=⟨⟩
theorem tw14224983545198669833:True:=⟨⟩
theorem tw17715718126858459920:True:=⟨⟩
theorem tw17829644322296825423:True:=⟨⟩
theorem tw1504781377984667196:True:=⟨⟩
theorem tw8863483679783514850:True:=⟨⟩
theorem tw10419382157192685941:True:=⟨⟩
theorem tw13614793241262326504:True:=⟨⟩
theorem tw14662051177335806364:True:=⟨⟩
theorem tw12177276493598674096:True:=⟨⟩
theorem tw5239182031782234664:True:=⟨⟩
theorem tw5645020671191170821:True:=⟨⟩
theorem tw2838727162394078649:True:=⟨⟩
theorem tw5665378864760984529:True:=⟨⟩
theorem tw4831488226806478792:True:=⟨⟩
theorem tw1198504991171815180:True:=⟨⟩
theorem tw3200684686114153221:True:=⟨⟩
theorem tw7287493261164671226:True:=⟨⟩
theorem tw3112016541130623883:True:=⟨⟩
theorem tw7880927027697271533:True:=⟨⟩
theorem tw4947871148928350004:True:=⟨⟩
theorem tw980588922394623684:True:=⟨⟩
theorem tw8078323217749800678:True:=⟨⟩
theorem tw17613976399657462328:True:=⟨⟩
theorem tw11817280076597435207:True:=⟨⟩
theorem tw3075664254067316453:True:=⟨⟩
theorem tw14849688780573862675:True:=⟨⟩
theorem tw18283567776609915650:True:=⟨⟩
theorem tw122085692493655916:True:=⟨⟩
theorem tw6812091015008132856:True:=⟨⟩
theorem tw9219915043122212246:True:=⟨⟩
theorem tw17814479357627347235:True:=⟨⟩
theorem tw13395648408068360282:True:=⟨⟩
theorem tw13807368955847925701:True:=⟨⟩
theorem tw10947760560723280267:True:=⟨⟩
theorem tw7468152930862303611:True:=⟨⟩
theorem tw9324323828701991576:True:=⟨⟩
theorem tw11676044296846529529:True:=⟨⟩
theorem tw131115738558027720:True:=⟨⟩
theorem tw11664293308433136394:True:=⟨⟩
theorem tw7601661268142716466:True:=⟨⟩
theorem tw10132817225263730122:True:=⟨⟩
theorem tw2816247183696080292:True:=⟨⟩
theorem tw14061230753943614241:True:=⟨⟩
theorem tw13682074291435483661:True:=⟨⟩
theorem tw4088084109196967316:True:=⟨⟩
theorem tw16622930392109400303:True:=⟨⟩
theorem tw10945770216005850930:True:=⟨⟩
theorem tw13580969478218800112:True:=⟨⟩
theorem tw1656041960923685269:True:=⟨⟩
theorem tw2206999982557171599:True:=⟨⟩
theorem tw7212563779573561433:True:=⟨⟩
theorem tw11337457794587182225:True:=⟨⟩
theorem tw4358877932123883586:True:=⟨⟩
theorem tw1654135247654957603:True:=⟨⟩
theorem tw12233013729452577826:True:=⟨⟩
theorem tw2044986391332349830:True:=⟨⟩
theorem tw7193378301106168806:True:=⟨⟩
theorem tw4986251164899013373:True:=⟨⟩
theorem tw12237118828844614329:True:=⟨⟩
theorem tw8626798399462624691:True:=⟨⟩
theorem tw13193492767226301867:True:=⟨⟩
theorem tw1093073798472135789:True:=⟨⟩
theorem tw14031897734154687517:True:=⟨⟩
theorem tw17425642035460126028:True:=⟨⟩
theorem tw14711827404754599552:True:=⟨⟩
theorem tw12674697076130158671:True:=⟨⟩
theorem tw7819476282633278271:True:=⟨⟩
theorem tw4663209209150566867:True:=⟨⟩
theorem tw5859881866302691502:True:=⟨⟩
theorem tw1664456756129544940:True:=⟨⟩
theorem tw7112567797190222142:True:=⟨⟩
theorem tw1500236316977366595:True:=⟨⟩
theorem tw7674026323580194512:True:=⟨⟩
theorem tw1597279240381945845:True:=⟨⟩
theorem tw5437635046970006656:True:=⟨⟩
theorem tw13417157518567108877:True:=⟨⟩
theorem tw13629066236464005660:True:=⟨⟩
theorem tw16049717435176951124:True:=⟨⟩
theorem tw838214885259562795:True:=⟨⟩
theorem tw244730568942065353:True:=⟨⟩
theorem tw2755418441705740320:True:=⟨⟩
theorem tw15513070865127380172:True:=⟨⟩
theorem tw17721477478725864252:True:=⟨⟩
theorem tw8099021622910832635:True:=⟨⟩
theorem tw7529246736048752078:True:=⟨⟩
theorem tw9958193813362793815:True:=⟨⟩
theorem tw12119343836780066294:True:=⟨⟩
theorem tw10417316985877649468:True:=⟨⟩
theorem tw11201505060753808151:True:=⟨⟩
theorem tw7628020595319892702:True:=⟨⟩
theorem tw11388145712197843611:True:=⟨⟩
theorem tw8880649710904839528:True:=⟨⟩
theorem tw10919391372304366850:True:=⟨⟩
theorem tw13439740991682662150:True:=⟨⟩
theorem tw11778553036712670782:True:=⟨⟩
theorem tw905749075566491745:True:=⟨⟩
theorem tw7713225747949944109:True:=⟨⟩
theorem tw17767808869079144172:True:=⟨⟩
theorem tw16669331355854849525:True:=⟨⟩
theorem tw6478937679308038290:True:=⟨⟩
theorem tw7456346393757296358:True:=⟨⟩
theorem tw12238712844905746243:True:=⟨⟩
theorem tw12207626855784902749:True:=⟨⟩
theorem tw17368005943898329870:True:=⟨⟩
theorem tw7695929665499163747:True:=⟨⟩
theorem tw7718839275085215708:True:=⟨⟩
theorem tw6926230947714865313:True:=⟨⟩
theorem tw8154347316893967801:True:=⟨⟩
theorem tw1371156371358675375:True:=⟨⟩
theorem tw114207438700354738:True:=⟨⟩
theorem tw4403712127342208709:True:=⟨⟩
theorem tw16508987317409052478:True:=⟨⟩
theorem tw6963952801502563084:True:=⟨⟩
theorem tw1870143386832883568:True:=⟨⟩
theorem tw491566292054969766:True:=⟨⟩
theorem tw3873428547664132629:True:=⟨⟩
theorem tw15720592144622545818:True:=⟨⟩
theorem tw9567183006272644190:True:=⟨⟩
theorem tw5929282950866204354:True:=⟨⟩
theorem tw9429747971279347687:True:=⟨⟩
theorem tw12864586447164978890:True:=⟨⟩
theorem tw8662694200666361015:True:=⟨⟩
theorem tw1937000841261996670:True:=⟨⟩
theorem tw7814571077659686174:True:=⟨⟩
theorem tw1913962804945433709:True:=⟨⟩
theorem tw2072410613942232745:True:=⟨⟩
theorem tw17325762115340196747:True:=⟨⟩
theorem tw9248016781989748447:True:=⟨⟩
theorem tw17190261110231233127:True:=⟨⟩
theorem tw17660845084127668800:True:=⟨⟩
theorem tw975077972643591538:True:=⟨⟩
theorem tw6872803026278311731:True:=⟨⟩
theorem tw10475783198106999465:True:=⟨⟩
theorem tw9171210447846945405:True:=⟨⟩
theorem tw13877930649462042160:True:=⟨⟩
theorem tw15805352174894640558:True:=⟨⟩
theorem tw797401235304752384:True:=⟨⟩
theorem tw6313906131691194296:True:=⟨⟩
theorem tw4342635066368698008:True:=⟨⟩
theorem tw13560155444276223061:True:=⟨⟩
theorem tw15466429682298445350:True:=⟨⟩
theorem tw1850077521790818869:True:=⟨⟩
theorem tw15316823188447914602:True:=⟨⟩
theorem tw15340359948362432675:True:=⟨⟩
theorem tw9300389340535005641:True:=⟨⟩
theorem tw8388048621005818595:True:=⟨⟩
theorem tw8632245253723095325:True:=⟨⟩
theorem tw2997184574059648052:True:=⟨⟩
theorem tw6441802712272398831:True:=⟨⟩
theorem tw14944302304301337468:True:=⟨⟩
theorem tw4726752892090844324:True:=⟨⟩
theorem tw10960582197269654118:True:=⟨⟩
theorem tw4319194272544888390:True:=⟨⟩
theorem tw8242841000176557171:True:=⟨⟩
theorem tw10958158897809579891:True:=⟨⟩
theorem tw13353931323045332149:True:=⟨⟩
theorem tw2885815993286285365:True:=⟨⟩
theorem tw7128866561871287139:True:=⟨⟩
theorem tw17234322982121498089:True:=⟨⟩
theorem tw5832075476837837619:True:=⟨⟩
theorem tw17316161896671401968:True:=⟨⟩
theorem tw9054926627787278537:True:=⟨⟩
theorem tw1352052776382420284:True:=⟨⟩
theorem tw11628867961354285512:True:=⟨⟩
theorem tw3605692014096447221:True:=⟨⟩
theorem tw6578483952852004439:True:=⟨⟩
theorem tw673917986223120589:True:=⟨⟩
theorem tw5380886055621291520:True:=⟨⟩
theorem tw7756994019684486477:True:=⟨⟩
end PySem.W.Fast
open PySem PySem.W PyProof.Rows
set_option maxRecDepth 100000 in
set_option maxHeartbeats 0 in
theorem PySem.Challenge.cw_loopwright_k88_whole_moves_keep_the_sum_holds : PySem.Challenge.rw_loopwright_k88_whole_moves_keep_the_sum.Holds := by
 w_on; o_law; k_head; (case hw => w_witness2)
 k_fill
 refine L2.law_walk (l := PySem.Challenge.rw_loopwright_k88_whole_moves_keep_the_sum) (k := 12) (sp := L2.sp_law) rfl rfl ⟨rfl, by decide, by decide⟩ (fun w h Y => PySem.W.kIn_of Y) L2.law_starts ?F
 case F =>
   intro w mg fa h KX G hmg
   refine' L2.all_mk KX G hmg ?a1 ?l1 ?c1 ?k1 ?a2 ?l2 ?c2 ?k2 ?a3 ?l3 ?c3 ?k3 ?a4 ?l4 ?c4 ?k4 ?a5 ?l5 ?c5 ?k5 ?a6 ?l6 ?c6 ?k6 ?a7 ?l7 ?c7 ?k7 ?a8 ?l8 ?c8 ?k8 ?a9 ?l9 ?c9 ?k9 ?a10 ?l10 ?c10 ?k10 ?a11 ?l11 ?c11 ?k11 ?a12 ?l12 ?c12 ?k12 ?a13 ?l13 ?c13 ?k13 ?a14 ?l14 ?c14 ?k14 ?a15 ?l15 ?c15 ?k15 ?a16 ?l16 ?c16 ?k16 ?a17 ?l17 ?c17 ?k17 ?a18 ?l18 ?c18 ?k18 ?a19 ?l19 ?c19 ?k19 ?a20 ?l20 ?c20 ?k20 ?a21 ?l21 ?c21 ?k21 ?a22 ?l22 ?c22 ?k22 ?a23 ?l23 ?c23 ?k23 ?a24 ?l24 ?c24 ?k24 ?a25 ?l25 ?c25 ?k25 ?a26 ?l26 ?c26 ?k26 ?a27 ?l27 ?c27 ?k27 ?z_abs ?z_all ?z_dict ?z_enumerate ?z_len ?z_list ?z_range ?z_reversed ?z_sorted ?z_sum ?z_tuple ?g_DOWN ?l_DOWN ?l_DOWN_0 ?g_LESS_DOWN ?l_LESS_DOWN ?l_LESS_DOWN_0 ?l_LESS_DOWN_1 ?g_LESS_ONE ?l_LESS_ONE ?l_LESS_ONE_0 ?g_LESS_UP ?l_LESS_UP ?l_LESS_UP_0 ?l_LESS_UP_1 ?g_MOST_LETTERS ?g_MOST_STRANDS ?g_NOUGHT ?l_NOUGHT ?g_ONE ?l_ONE ?l_ONE_0 ?g_UP ?l_UP ?l_UP_0
   (case a1 => k_is)
   (case l1 => k_is)
   (case c1 => k_is)
   (case k1 => k_is)
   (case a2 => k_is)
   (case l2 => k_is)
   (case c2 => k_is)
   (case k2 => k_is)
   (case a3 => k_is)
   (case l3 => k_is)
   (case c3 => k_is)
   (case k3 => k_is)
   (case a4 => k_is)
   (case l4 => k_is)
   (case c4 => k_is)
   (case k4 => k_is)
   (case a5 => k_is)
   (case l5 => k_is)
   (case c5 => k_is)
   (case k5 => k_is)
   (case a6 => k_is)
   (case l6 => k_is)
   (case c6 => k_is)
   (case k6 => k_is)
   (case a7 => k_is)
   (case l7 => k_is)
   (case c7 => k_is)
   (case k7 => k_is)
   (case a8 => k_is)
   (case l8 => k_is)
   (case c8 => k_is)
   (case k8 => k_is)
   (case a9 => k_is)
   (case l9 => k_is)
   (case c9 => k_is)
   (case k9 => k_is)
   (case a10 => k_is)
   (case l10 => k_is)
   (case c10 => k_is)
   (case k10 => k_is)
   (case a11 => k_is)
   (case l11 => k_is)
   (case c11 => k_is)
   (case k11 => k_is)
   (case a12 => k_is)
   (case l12 => k_is)
   (case c12 => k_is)
   (case k12 => k_is)
   (case a13 => k_is)
   (case l13 => k_is)
   (case c13 => k_is)
   (case k13 => k_is)
   (case a14 => k_is)
   (case l14 => k_is)
   (case c14 => k_is)
   (case k14 => k_is)
   (case a15 => k_is)
   (case l15 => k_is)
   (case c15 => k_is)
   (case k15 => k_is)
   (case a16 => k_is)
   (case l16 => k_is)
   (case c16 => k_is)
   (case k16 => k_is)
   (case a17 => k_is)
   (case l17 => k_is)
   (case c17 => k_is)
   (case k17 => k_is)
   (case a18 => k_is)
   (case l18 => k_is)
   (case c18 => k_is)
   (case k18 => k_is)
   (case a19 => k_is)
   (case l19 => k_is)
   (case c19 => k_is)
   (case k19 => k_is)
   (case a20 => k_is)
   (case l20 => k_is)
   (case c20 => k_is)
   (case k20 => k_is)
   (case a21 => k_is)
   (case l21 => k_is)
   (case c21 => k_is)
   (case k21 => k_is)
   (case a22 => k_is)
   (case l22 => k_is)
   (case c22 => k_is)
   (case k22 => k_is)
   (case a23 => k_is)
   (case l23 => k_is)
   (case c23 => k_is)
   (case k23 => k_is)
   (case a24 => k_is)
   (case l24 => k_is)
   (case c24 => k_is)
   (case k24 => k_is)
   (case a25 => k_is)
   (case l25 => k_is)
   (case c25 => k_is)
   (case k25 => k_is)
   (case a26 => k_is)
   (case l26 => k_is)
   (case c26 => k_is)
   (case k26 => k_is)
   (case a27 => k_is)
   (case l27 => k_is)
   (case c27 => k_is)
   (case k27 => k_is)
   (case z_abs => k_is)
   (case z_all => k_is)
   (case z_dict => k_is)
   (case z_enumerate => k_is)
   (case z_len => k_is)
   (case z_list => k_is)
   (case z_range => k_is)
   (case z_reversed => k_is)
   (case z_sorted => k_is)
   (case z_sum => k_is)
   (case z_tuple => k_is)
   (case g_DOWN => k_is)
   (case l_DOWN => k_is)
   (case l_DOWN_0 => k_is)
   (case g_LESS_DOWN => k_is)
   (case l_LESS_DOWN => k_is)
   (case l_LESS_DOWN_0 => k_is)
   (case l_LESS_DOWN_1 => k_is)
   (case g_LESS_ONE => k_is)
   (case l_LESS_ONE => k_is)
   (case l_LESS_ONE_0 => k_is)
   (case g_LESS_UP => k_is)
   (case l_LESS_UP => k_is)
   (case l_LESS_UP_0 => k_is)
   (case l_LESS_UP_1 => k_is)
   (case g_MOST_LETTERS => k_is)
   (case g_MOST_STRANDS => k_is)
   (case g_NOUGHT => k_is)
   (case l_NOUGHT => k_is)
   (case g_ONE => k_is)
   (case l_ONE => k_is)
   (case l_ONE_0 => k_is)
   (case g_UP => k_is)
   (case l_UP => k_is)
   (case l_UP_0 => k_is)
