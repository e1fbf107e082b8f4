import PyProof.Rows.All
import Wide.All
import OpenK.AllK
import Wide.FinOn
import PyProof.EqAt
import PyProof.EqKinds
import PyProof.TupleCall
import KE.BitLaws
import Open.SpecLaws
import KE.OsHead
import KE.OsGo
import PyProof.FitsBits
import PyProof.NoPylong
import PyProof.WalkInts
import KE.KMinKey
import PyProof.WalksMore
import PyProof.InstStoreFacts
import PyProof.ExcInit
import PyProof.ExcBaseAll.Exception
import PyProof.RulesAs
import PyProof.ExcAttrAll.Exception
import PyProof.InstLoad
import PySem.Challenge.RW_betwixt_s12_read
section
set_option Elab.async false
set_option linter.all false
set_option maxRecDepth 100000
/-! THE HAND LAYER, for ints, bools, texts, own classes, lists, tuples, dicts, comprehensions, walks over dicts, enumerate, zip, reversed, texts, calls, loops. Paste it whole ahead of your own text; what your proof does not reach may be deleted. -/
namespace L2
open PySem PySem.Spec PyProof.Rows
/-- a key: an int or a str -/
noncomputable abbrev Key := Sum Int Str
noncomputable def keyIs : Key → Value → Bool
  | .inl k, v => Value.isInt k v
  | .inr x, v => Value.isStrOf x v
noncomputable def keyH (w : World) : Key → Int
  | .inl k => hashInt k
  | .inr x => hashStr w x
theorem keyIs_shape : ∀ {k : Key} {v : Value}, keyIs k v = true → (∃ i t, k = Sum.inl i ∧ v = Value.int i t) ∨ (∃ x t, k = Sum.inr x ∧ v = Value.str x t)
  | .inl i, v, h => by
    obtain ⟨t, e⟩ := Value.isInt_shape (k := i) (v := v) h
    exact .inl ⟨i, t, rfl, e⟩
  | .inr x, v, h => by
    obtain ⟨t, e⟩ := Value.isStrOf_shape (x := x) (v := v) h
    exact .inr ⟨x, t, rfl, e⟩
theorem key_ll (a b : Int) : decide ((Sum.inl a : Key) = Sum.inl b) = (a == b) := by
  by_cases e : a = b
  · subst e; simp
  · have h : ¬ (Sum.inl a : Key) = Sum.inl b := fun q => e (Sum.inl.inj q)
    rw [decide_eq_false h]
    exact (beq_eq_false_iff_ne.mpr e).symm
theorem key_rr (a b : Str) : decide ((Sum.inr a : Key) = Sum.inr b) = decide (a = b) := by
  by_cases e : a = b
  · subst e; simp
  · have h : ¬ (Sum.inr a : Key) = Sum.inr b := fun q => e (Sum.inr.inj q)
    rw [decide_eq_false h, decide_eq_false e]
theorem key_lr (a : Int) (b : Str) : decide ((Sum.inl a : Key) = Sum.inr b) = false := decide_eq_false (fun q => nomatch q)
theorem key_rl (a : Str) (b : Int) : decide ((Sum.inr a : Key) = Sum.inl b) = false := decide_eq_false (fun q => nomatch q)
noncomputable def mixKind (prog : Program) (w : World) : PySem.KeyKind prog w Key where
  is := keyIs
  hash := keyH w
  inj := fun v a b ha hb => by
    rcases keyIs_shape ha with ⟨i, t, rfl, rfl⟩ | ⟨x, t, rfl, rfl⟩
    · rcases keyIs_shape hb with ⟨j, u, rfl, e⟩ | ⟨y, u, rfl, e⟩
      · injection e with e1 _; rw [e1]
      · exact nomatch e
    · rcases keyIs_shape hb with ⟨j, u, rfl, e⟩ | ⟨y, u, rfl, e⟩
      · exact nomatch e
      · injection e with e1 _; rw [e1]
  byValue := fun k v h => by
    rcases keyIs_shape h with ⟨i, t, rfl, rfl⟩ | ⟨x, t, rfl, rfl⟩ <;> rfl
  pyHash := fun hv h => by
    rcases keyIs_shape hv with ⟨i, t, rfl, rfl⟩ | ⟨x, t, rfl, rfl⟩
    · exact wpAny_pyHash_int h
    · exact wpAny_pyHash_str h
  eqBool := fun hu hv h => by
    rcases keyIs_shape hu with ⟨i, t, rfl, rfl⟩ | ⟨x, t, rfl, rfl⟩
    · rcases keyIs_shape hv with ⟨j, u, rfl, rfl⟩ | ⟨y, u, rfl, rfl⟩
      · rw [key_ll] at h; exact wpAny_eqBool_int h
      · rw [key_lr] at h; exact SeqAt.EqAt.int_str i t y u _ _ _ _ h
    · rcases keyIs_shape hv with ⟨j, u, rfl, rfl⟩ | ⟨y, u, rfl, rfl⟩
      · rw [key_rl] at h; exact SeqAt.EqAt.str_int x t j u _ _ _ _ h
      · rw [key_rr] at h; exact wpAny_eqBool_str h
  «strs» := fun k x t v h => by
    rcases keyIs_shape h with ⟨i, u, rfl, e⟩ | ⟨y, u, rfl, e⟩
    · exact nomatch e
    · injection e with e1 _
      subst e1
      cases v <;> rfl
end L2
namespace L2
open PySem PySem.Spec PyProof.Rows
/-- a value, without the heap -/
inductive V where
  | non | bl (b : Bool) | int (i : Int) | str (x : Str) | byt (b : Array UInt8) | flt (b : UInt64) | ref (a : Addr) | ty (n : String)
  deriving DecidableEq
noncomputable def RelV : V → Value → Prop
  | .non, u => u = Value.none
  | .bl b, u => u = Value.bool b
  | .int i, u => ∃ t, u = Value.int i t
  | .str x, u => ∃ t, u = Value.str x t
  | .byt b, u => ∃ t, u = Value.bytes b t
  | .flt b, u => ∃ t, u = Value.float b t
  | .ref a, u => u = Value.ref a
  | .ty n, u => u = Value.type n
noncomputable abbrev Vals : List V → List Value → Prop := Paired RelV
theorem Vals.length {xs : List V} {us : List Value} (r : Vals xs us) : xs.length = us.length := Paired.length r
theorem Vals.get : ∀ {xs : List V} {us : List Value} {i : Nat} {x : V}, Vals xs us → xs[i]? = some x → ∃ u, us[i]? = some u ∧ RelV x u
  | _, _, _, _, .nil, e => by simp at e
  | _, _, 0, _, .cons r _, e => by simp at e; subst e; exact ⟨_, rfl, r⟩
  | _, _, i + 1, x, .cons _ t, e => by
    obtain ⟨u, h1, h2⟩ := Vals.get (i := i) (x := x) t (by simpa using e)
    exact ⟨u, by simpa using h1, h2⟩
theorem Vals.append : ∀ {xs ys : List V} {us ws : List Value}, Vals xs us → Vals ys ws → Vals (xs ++ ys) (us ++ ws)
  | _, _, _, _, .nil, s => s
  | _, _, _, _, .cons r t, s => .cons r (Vals.append t s)
noncomputable def RelO : Option V → Option Value → Prop
  | some v, some u => RelV v u
  | none, none => True
  | _, _ => False
noncomputable def KV {κ : Type} : List (κ × V) → List (κ × Value) → Prop := Paired fun (p : κ × V) (q : κ × Value) => p.1 = q.1 ∧ RelV p.2 q.2
/-- a key of a dict (00_mix): an int or a text -/
noncomputable def kV : Key → V
  | .inl i => .int i
  | .inr x => .str x
/-- what stands at a tracked address -/
inductive HO where
  /-- a list -/
  | lst (xs : List V)
  /-- a tuple (never changes) -/
  | tup (xs : List V)
  /-- a dict whose keys are ints and texts; one whose keys are tuples of ints and texts (the empty one is both) -/
  | dK (kvs : List (Key × V)) | dT (kvs : List (List Key × V))
  /-- a set of ints: its members, its size -/
  | set (S : Int → Bool) (n : Nat)
  /-- an instance of the class at C, its dict at dx, its attributes -/
  | ins (C dx : Addr) (fs : List (Str × V))
  /-- the dict of the instance at x -/
  | own (x : Addr)
  /-- the dict of an exception -/
  | xd (fs : List (Str × V))
  /-- a bound method, f of x -/
  | met (f x : Addr)
  /-- a range object lo, lo + 1, .. below hi -/
  | rng (lo hi : Int)
  /-- a thing that is known to the object (the script; a dict while a loop walks it): read, never written while it is so -/
  | frz (o : Obj) (u : HO)
  /-- a code object's table -/
  | tbl (ps : Array Value)
  /-- any other thing, by what is true of its one object (a def of one's own: SetO a S n := HO.ext fun h => ..) -/
  | ext (φ : Heap → Prop)
noncomputable abbrev Hp := Addr → Option HO
noncomputable def upd (H : Hp) (a : Addr) (o : HO) : Hp := fun b => if b = a then some o else H b
theorem upd_same {H : Hp} {a : Addr} {o : HO} : upd H a o a = some o := by unfold upd; rw [if_pos rfl]
theorem upd_ne {H : Hp} {a b : Addr} {o : HO} (h : b ≠ a) : upd H a o b = H b := by unfold upd; rw [if_neg h]
theorem ne_of_none {H : Hp} {a b : Addr} {o : HO} (h : H a = some o) (h' : H b = none) : a ≠ b := by
  intro e; subst e; rw [h] at h'; cases h'
section
variable (P : Program) (w : World)
noncomputable def ObjOk (H : Hp) (h : Heap) (a : Addr) : HO → Prop
  | .lst xs => xs.length ≤ sizeLine ∧ ∃ (its : List Value) (n : Nat), Vals xs its ∧ h.get? a = some { cls := .type "list", data := .seq its.toArray n }
  | .tup xs => xs.length ≤ sizeLine ∧ ∃ its : List Value, Vals xs its ∧ IsTup h a its.toArray
  | .dK kvs => kvs.length ≤ sizeLine ∧ (a == sysModules) = false ∧ ∃ vs, KV kvs vs ∧ h.DictOf (mixKind P w) a vs
  | .dT kvs => kvs.length ≤ sizeLine ∧ (a == sysModules) = false ∧ ∃ xs : List (List Key × Addr × Value),
      Paired (fun (p : List Key × V) (q : List Key × Addr × Value) => p.1 = q.1 ∧ H q.2.1 = some (.tup (p.1.map kV)) ∧ RelV p.2 q.2.2) kvs xs ∧
      ∃ o es ep, h.get? a = some o ∧ o.ExactDict ∧ o.data = .dict es ep ∧ es.toList = xs.map (entryOfKey (tupleKind (mixKind P w))) ∧ (xs.map (·.1)).Nodup
  | .set S n => h.SetOf (intKind P w) a S n
  | .ins C dx fs => H dx = some (.own a) ∧ fs.length ≤ 1000 ∧ dx ≠ a ∧ h.get? a = some (PySem.W.instObj C dx) ∧
      ∃ mA, h.Ns1 dx mA ∧ (∀ f, RelO (fs.lookup f) (mA f)) ∧ PySem.Within mA (fs.map (·.1))
  | .own _ => ∃ o, h.get? a = some o
  | .xd fs => ∃ mA, h.Ns1 a mA ∧ ∀ f, RelO (fs.lookup f) (mA f)
  | .rng lo hi => ∃ t u v, h.get? a = some { cls := .type "range", data := .fields #[.int lo t, .int hi u, .int 1 v] }
  | .frz o u => h.get? a = some o ∧ ObjOk H h a u
  | .tbl ps => h.get? a = some { cls := .none, data := .fields ps }
  | .met f x => h.get? a = some (PySem.W.methodObj (.ref f) (.ref x))
  | .ext φ => φ h ∧ (∃ o, h.get? a = some o) ∧ ∀ h1 h2 : Heap, φ h1 → (∀ o, h1.get? a = some o → h2.get? a = some o) → φ h2
/-- the abstract heap is held -/
noncomputable def HOk (H : Hp) (h : Heap) : Prop := ∀ a o, H a = some o → ObjOk P w H h a o
end
section
variable {P : Program} {w : World} {H H' : Hp} {h h' : Heap} {a : Addr} {o : HO}
theorem ObjOk.lt (x : ObjOk P w H h a o) : a < h.objs.size := by
  cases o with
  | lst xs => obtain ⟨_, _, _, _, e⟩ := x; exact Heap.lt_size e
  | tup xs => obtain ⟨_, _, _, p⟩ := x; exact p.lt
  | dK kvs => obtain ⟨_, _, _, _, o, _, _, e, _⟩ := x; exact Heap.lt_size e
  | dT kvs => obtain ⟨_, _, _, _, o, _, _, e, _⟩ := x; exact Heap.lt_size e
  | set S n => obtain ⟨o, _, _, _, e, _⟩ := x; exact Heap.lt_size e
  | ins C dx fs => obtain ⟨_, _, _, e, _⟩ := x; exact Heap.lt_size e
  | own y => obtain ⟨_, e⟩ := x; exact Heap.lt_size e
  | xd fs => obtain ⟨_, ⟨_, _, _, e, _⟩, _⟩ := x; exact Heap.lt_size e
  | rng lo hi => obtain ⟨_, _, _, e⟩ := x; exact Heap.lt_size e
  | frz ob u => obtain ⟨e, _⟩ := x; exact Heap.lt_size e
  | tbl ps => exact Heap.lt_size (show h.get? a = some _ from x)
  | met f y => exact Heap.lt_size (show h.get? a = some _ from x)
  | ext φ => obtain ⟨_, ⟨_, e⟩, _⟩ := x; exact Heap.lt_size e
theorem Paired.mapP {α β : Type} {F G : α → β → Prop} : ∀ {l₁ : List α} {l₂ : List β}, Paired F l₁ l₂ → (∀ a b, F a b → G a b) → Paired G l₁ l₂
  | _, _, .nil, _ => .nil
  | _, _, .cons r t, f => .cons (f _ _ r) (Paired.mapP t f)
/-- what an object's description leans on: its own object, its own dict, the tuples -/
theorem ObjOk.stay (x : ObjOk P w H h a o) (k : ∀ b u, (b = a ∨ H b = some (.own a)) → h.get? b = some u → h'.get? b = some u)
    (ho : ∀ b, H b = some (.own a) → H' b = some (.own a)) (ht : ∀ b xs, H b = some (.tup xs) → H' b = some (.tup xs)) : ObjOk P w H' h' a o := by
  induction o with
  | lst xs => obtain ⟨z, its, n, r, e⟩ := x; exact ⟨z, its, n, r, k _ _ (.inl rfl) e⟩
  | tup xs => obtain ⟨z, its, r, ob, e, c⟩ := x; exact ⟨z, its, r, ob, k _ _ (.inl rfl) e, c⟩
  | dK kvs => obtain ⟨z, y, vs, r, ob, es, ep, e, c⟩ := x; exact ⟨z, y, vs, r, ob, es, ep, k _ _ (.inl rfl) e, c⟩
  | dT kvs =>
    obtain ⟨z, y, xs, r, ob, es, ep, e, c⟩ := x
    exact ⟨z, y, xs, Paired.mapP r fun p q z => ⟨z.1, ht _ _ z.2.1, z.2.2⟩, ob, es, ep, k _ _ (.inl rfl) e, c⟩
  | set S n => obtain ⟨ob, es, ep, t, e, c⟩ := x; exact ⟨ob, es, ep, t, k _ _ (.inl rfl) e, c⟩
  | ins C dx fs =>
    obtain ⟨d, z, ne, e, mA, ⟨od, es, ep, e2, c⟩, r⟩ := x
    exact ⟨ho _ d, z, ne, k _ _ (.inl rfl) e, mA, ⟨od, es, ep, k _ _ (.inr d) e2, c⟩, r⟩
  | own y => obtain ⟨ob, e⟩ := x; exact ⟨ob, k _ _ (.inl rfl) e⟩
  | xd fs => obtain ⟨mA, ⟨od, es, ep, e, c⟩, r⟩ := x; exact ⟨mA, ⟨od, es, ep, k _ _ (.inl rfl) e, c⟩, r⟩
  | rng lo hi => obtain ⟨t, u, v, e⟩ := x; exact ⟨t, u, v, k _ _ (.inl rfl) e⟩
  | frz ob u ih => obtain ⟨e, q⟩ := x; exact ⟨k _ _ (.inl rfl) e, ih q⟩
  | tbl ps =>
    have e : h.get? a = some { cls := .none, data := .fields ps } := x
    show h'.get? a = some { cls := .none, data := .fields ps }
    exact k a _ (.inl rfl) e
  | met f y =>
    have e : h.get? a = some (PySem.W.methodObj (.ref f) (.ref y)) := x
    show h'.get? a = some (PySem.W.methodObj (.ref f) (.ref y))
    exact k a _ (.inl rfl) e
  | ext φ => obtain ⟨p, ⟨o, e⟩, st⟩ := x; exact ⟨st _ _ p fun o q => k _ _ (.inl rfl) q, ⟨o, k _ _ (.inl rfl) e⟩, st⟩
theorem HOk.lt (x : HOk P w H h) (e : H a = some o) : a < h.objs.size := (x a o e).lt
theorem HOk.fresh (x : HOk P w H h) (e : h.objs.size ≤ a) : H a = none := by
  cases q : H a with
  | none => rfl
  | some u => exact absurd (Nat.lt_of_lt_of_le (x.lt q) e) (Nat.lt_irrefl _)
/-- every object of the heap is kept -/
theorem HOk.kept (x : HOk P w H h) (k : ∀ b u, h.get? b = some u → h'.get? b = some u) : HOk P w H h' := fun a o e =>
  (x a o e).stay (fun b u _ q => k b u q) (fun _ q => q) fun _ _ q => q
/-- a new object is laid and tracked -/
theorem HOk.laid (x : HOk P w H h) (k : ∀ b u, h.get? b = some u → h'.get? b = some u) (hp : h.objs.size ≤ a) (new : ObjOk P w (upd H a o) h' a o) : HOk P w (upd H a o) h' := fun b u e => by
  have hn := x.fresh hp
  by_cases hb : b = a
  · subst hb; rw [upd_same] at e; cases e; exact new
  · rw [upd_ne hb] at e
    exact (x b u e).stay (fun c v _ q => k c v q) (fun c q => by rw [upd_ne (ne_of_none q hn)]; exact q) fun c xs q => by rw [upd_ne (ne_of_none q hn)]; exact q
end
/-- what may be read as u: it is u, or a known u -/
noncomputable def Rd (H : Hp) (a : Addr) (u : HO) : Prop := H a = some u ∨ ∃ o, H a = some (.frz o u)
theorem Rd.ok {P : Program} {w : World} {H : Hp} {h : Heap} {a : Addr} {u : HO} (r : Rd H a u) (x : HOk P w H h) : ObjOk P w H h a u := by
  rcases r with r | ⟨o, r⟩
  · exact x a u r
  · obtain ⟨_, q⟩ := x a _ r
    exact q
/-- what may be written -/
noncomputable def Mut : Option HO → Prop
  | some (.lst _) => True
  | some (.dK _) => True
  | some (.dT _) => True
  | some (.set _ _) => True
  | some (.ins _ _ _) => True
  | some (.ext _) => True
  | _ => False
section
variable {P : Program} {w : World} {H : Hp} {h h' : Heap} {x e : Addr} {o' : HO}
/-- the object at e is changed: x itself, or the dict of the instance x -/
theorem HOk.write (ok : HOk P w H h) (mu : Mut (H x)) (he : e = x ∨ H e = some (.own x)) (k : ∀ b u, b ≠ e → h.get? b = some u → h'.get? b = some u) (heo : ∃ u, h'.get? e = some u)
    (new : ObjOk P w (upd H x o') h' x o') : HOk P w (upd H x o') h' := fun b u q => by
  have nown : ∀ c y, H c = some (.own y) → c ≠ x := fun c y r z => by subst z; rw [r] at mu; exact mu
  have ntup : ∀ c xs, H c = some (.tup xs) → c ≠ x := fun c xs r z => by subst z; rw [r] at mu; exact mu
  by_cases hb : b = x
  · subst hb; rw [upd_same] at q; cases q; exact new
  · rw [upd_ne hb] at q
    by_cases hbe : b = e
    · have q' : H b = some (.own x) := by
        rcases he with z | z
        · exact absurd (hbe.trans z) hb
        · rw [hbe]; exact z
      rw [q] at q'; cases q'
      obtain ⟨v, hv⟩ := heo
      exact ⟨v, by rw [hbe]; exact hv⟩
    · refine (ok b u q).stay (fun c v hc r => k c v ?_ r) (fun c r => by rw [upd_ne (nown c b r)]; exact r) fun c xs r => by rw [upd_ne (ntup c xs r)]; exact r
      rcases hc with rfl | hc
      · exact hbe
      · rintro rfl
        rcases he with z | z
        · exact nown c b hc z
        · rw [hc] at z; cases z; exact hb rfl
end
/-! ### kept unless tracked; of the frames at fs (the callers') the slots may change (an exception that passes writes there); of the records at ex (iterators) nothing is said -/
structure Un (fs ex : List Addr) (H H' : Hp) (h h' : Heap) : Prop where
  keep : ∀ b o, h.get? b = some o → H b = none → b ∉ fs → b ∉ ex → h'.get? b = some o
  slot : ∀ b o, h.get? b = some o → H b = none → b ∈ fs → b ∉ ex → ∃ sl, h'.get? b = some { o with slots := sl }
  free : ∀ b o, h.get? b = some o → H b = none → b ∉ ex → H' b = none
  there : ∀ b o, h.get? b = some o → b ∉ ex → ∃ o', h'.get? b = some o'
  tups : ∀ b xs, H b = some (.tup xs) → H' b = some (.tup xs)
  frzs : ∀ b o u, H b = some (.frz o u) → H' b = some (.frz o u)
  tbls : ∀ b ps, H b = some (.tbl ps) → ∃ more, H' b = some (.tbl (ps ++ more))
section
variable {fs fs' ex ex' : List Addr} {H H1 H2 : Hp} {h h1 h2 h' : Heap} {a x e : Addr} {o : HO}
theorem Un.any (u : Un fs ex H H1 h h1) {b : Addr} {ob : Obj} (q : h.get? b = some ob) (n : H b = none) (hx : b ∉ ex) : ∃ sl, h1.get? b = some { ob with slots := sl } := by
  by_cases hb : b ∈ fs
  · exact u.slot b ob q n hb hx
  · exact ⟨ob.slots, u.keep b ob q n hb hx⟩
theorem Un.kept (k : ∀ b u, h.get? b = some u → h'.get? b = some u) : Un fs ex H H h h' :=
  ⟨fun b ob q _ _ _ => k b ob q, fun b ob q _ _ _ => ⟨ob.slots, k b ob q⟩, fun _ _ _ n _ => n, fun b ob q _ => ⟨ob, k b ob q⟩, fun _ _ q => q, fun _ _ _ q => q, fun _ ps q => ⟨#[], by rw [q]; simp⟩⟩
theorem Un.refl : Un fs ex H H h h := Un.kept fun _ _ q => q
theorem Un.laid (k : ∀ b u, h.get? b = some u → h'.get? b = some u) (hp : h.objs.size ≤ a) (hn : H a = none) : Un fs ex H (upd H a o) h h' where
  keep := fun b u q _ _ _ => k b u q
  slot := fun b u q _ _ _ => ⟨u.slots, k b u q⟩
  free := fun b u q n _ => by rw [upd_ne (Nat.ne_of_lt (Nat.lt_of_lt_of_le (Heap.lt_size q) hp))]; exact n
  there := fun b u q _ => ⟨u, k b u q⟩
  tups := fun b xs q => by rw [upd_ne (ne_of_none q hn)]; exact q
  frzs := fun b u xs q => by rw [upd_ne (ne_of_none q hn)]; exact q
  tbls := fun b ps q => ⟨#[], by rw [upd_ne (ne_of_none q hn), q]; simp⟩
theorem Un.write (mu : Mut (H x)) (he : e = x ∨ H e = some (.own x)) (k : ∀ b u, b ≠ e → h.get? b = some u → h'.get? b = some u) (heo : ∃ u, h'.get? e = some u) : Un fs ex H (upd H x o) h h' := by
  have hx : ∀ b, H b = none → b ≠ x := fun b n z => by subst z; rw [n] at mu; exact mu
  have hb : ∀ b, H b = none → b ≠ e := fun b n z => by
    subst z
    rcases he with r | r
    · exact hx b n r
    · rw [n] at r; cases r
  have hm : ∀ b u, H b = some u → ¬ Mut (some u) → b ≠ x := fun b u q nm z => by subst z; rw [q] at mu; exact nm mu
  refine ⟨fun b u q n _ _ => k b u (hb b n) q, fun b u q n _ _ => ⟨u.slots, k b u (hb b n) q⟩, fun b u q n _ => by rw [upd_ne (hx b n)]; exact n, fun b u q _ => ?_,
    fun b xs q => by rw [upd_ne (hm b _ q fun z => z)]; exact q, fun b u xs q => by rw [upd_ne (hm b _ q fun z => z)]; exact q, fun b ps q => ⟨#[], by rw [upd_ne (hm b _ q fun z => z), q]; simp⟩⟩
  by_cases hbe : b = e
  · subst hbe; exact heo
  · exact ⟨u, k b u hbe q⟩
end
/-! ### the heap without what is tracked -/
noncomputable def trk (h : Heap) (H : Hp) : List Addr := (List.range h.objs.size).filter fun a => (H a).isSome
noncomputable def hidT (h : Heap) (H : Hp) : Heap := PySem.W.hideAll h (trk h H)
theorem hidT_size (h : Heap) (H : Hp) : (hidT h H).objs.size = h.objs.size := PySem.W.hideAll_size _ _
theorem hidT_get {h : Heap} {H : Hp} {b : Addr} {o : Obj} (e : h.get? b = some o) (n : H b = none) : (hidT h H).get? b = some o :=
  PySem.W.hideAll_get _ e fun hm => by
    have q : (H b).isSome = true := (List.mem_filter.mp hm).2
    rw [n] at q; simp at q
theorem of_hidT {h : Heap} {H : Hp} {b : Addr} {o : Obj} (e : (hidT h H).get? b = some o) : h.get? b = some o ∧ H b = none := by
  have e' : h.get? b = some o := PySem.W.of_hideAll (trk h H) e
  refine ⟨e', ?_⟩
  cases q : H b with
  | none => rfl
  | some x =>
    have hm : b ∈ trk h H := List.mem_filter.mpr ⟨List.mem_range.mpr (Heap.lt_size e'), by simp [q]⟩
    have z : (hidT h H).get? b = none := PySem.W.hideAll_none (trk h H) hm
    rw [z] at e; cases e
/-! ### OpenK's ledger, filled with every new object but one -/
noncomputable def allNews (g h : Heap) (L : Addr) : List (Addr × Obj) := (List.range h.objs.size).filterMap fun a => if a = L ∨ (g.get? a).isSome = true then none else (h.get? a).map fun o => (a, o)
noncomputable def rest (g h : Heap) (L d : Addr) : List (Addr × Obj) := (allNews g h L).filter fun p => decide (p.1 ≠ d)
end L2
namespace L2
open PySem PySem.Spec PyProof.Rows
/-- the module's facts, over the base: the heap at the law's entry without what is tracked there -/
structure Mod (K : PySem.W.Frag) (mg : Str → Option Value) (base : Heap) : Prop where
  kin : K.In base
  glob : base.Ns mainGlobals mg
  blt : ∃ mb, base.Ns builtinsNs mb ∧ ∀ x : Str, x ≠ "__name__" → mb x = bootBuiltins x
  nolimit : base.NoLimit
/-- the context: a def's body (or a comprehension's block) running. base: fixed through the whole law; s₀, H₀: the entry; outer: the frames whose slots others may change (a def's callers); stack: all frames that run;
   ex: iterators that were made ahead of the entry and are walked here (a comprehension's); fn: the names whose cells were made at the entry (a def: all; a comprehension's block: its own); calm: not within an except suite; pn: pins that every state bears; xe: what is wanted of an exception that leaves the code -/
structure Cx where
  prog : Program
  w : World
  K : PySem.W.Frag
  mg : Str → Option Value
  base : Heap
  A : Around
  N : List Str
  s_0 : Shared
  H_0 : Hp
  env : Env
  outer : List Env
  stack : List Env
  ex : List Addr
  fn : Str → Bool
  calm : Bool
  pn : List (Addr × Obj)
  xe : Value → Shared → Prop
/-- the callers' frames -/
noncomputable def frs (l : List Env) : List Addr := l.filterMap (·.frame)
noncomputable abbrev Cx.fs (X : Cx) : List Addr := frs X.outer
noncomputable def Vis (sc : Scope) (x : Str) : Prop := sc.names.lookup x = some .local ∨ sc.names.lookup x = some .cell ∨ sc.names.lookup x = some .free
noncomputable def Loc (sc : Scope) (x : Str) : Prop := sc.names.lookup x = some .local ∨ sc.names.lookup x = some .cell
noncomputable def Look (env : Env) (h : Heap) (m : Str → Option Value) (x : Str) (u : Value) : Prop :=
  (env.kindOf x = some .local ∧ m x = some u) ∨ ((env.kindOf x = some .cell ∨ env.kindOf x = some .free) ∧ ∃ c, env.cells.lookup x = some c ∧ h.IsCell c (some u))
structure Cx.Ok (X : Cx) : Prop where
  mod : Mod X.K X.mg X.base
  kind : X.env.scope.kind = .function
  glob : X.env.globals = mainGlobals
  blt : X.env.builtins = builtinsNs
  above : X.s_0.heap.objs.size ≤ X.env.locals
  inj : ∀ x y c, X.env.cells.lookup x = some c → X.env.cells.lookup y = some c → x = y
  has : ∀ x, (X.env.kindOf x = some .cell ∨ X.env.kindOf x = some .free) → ∃ c, X.env.cells.lookup x = some c
  cab : ∀ x c, X.fn x = true → X.env.cells.lookup x = some c → X.s_0.heap.objs.size ≤ c
  hd : X.calm = true → X.A.handled = none
  frames : X.A.frames = some X.stack
  stk : X.stack = X.outer ∨ (X.stack = X.env :: X.outer ∧ X.env.frame = some X.env.locals)
  exf : ∀ b ∈ X.ex, b ≠ X.env.locals ∧ ∀ x c, X.env.cells.lookup x = some c → c ≠ b
  bs : ∀ b o, X.base.get? b = some o → X.s_0.heap.get? b = some o ∧ X.H_0 b = none
  bsz : X.base.objs.size ≤ X.s_0.heap.objs.size
  noex : ∀ b o, X.base.get? b = some o → b ∉ X.ex
  exfs : ∀ b ∈ X.ex, b ∉ X.fs
  funs : X.s_0.heap.FunFrames X.base X.outer
  frf : ∀ b ∈ X.fs, X.H_0 b = none
structure Inv (X : Cx) (pins : List (Addr × Obj)) (σ : List (Option V)) (H : Hp) (s : Shared) : Prop where
  ok : X.Ok
  os : s.os = X.s_0.os
  bare : AllBare s.gens
  base : Un X.fs X.ex X.H_0 H X.s_0.heap s.heap
  loc : ∃ m, s.heap.Ns X.env.locals m ∧ ∀ (i : Nat) (x : Str) (v : V), X.N[i]? = some x → σ[i]? = some (some v) → Vis X.env.scope x → ∃ u, RelV v u ∧ Look X.env s.heap m x u
  cell : ∀ x c, X.env.cells.lookup x = some c → ∃ v, s.heap.IsCell c v
  free : H X.env.locals = none
  freeC : ∀ x c, X.env.cells.lookup x = some c → H c = none
  pin : ∀ p ∈ X.pn ++ pins, s.heap.get? p.1 = some p.2 ∧ H p.1 = none ∧ p.1 ≠ X.env.locals ∧ p.1 ∉ X.fs ∧ ∀ v, p.2.data ≠ .cell v
  hok : HOk X.prog X.w H s.heap
  len : σ.length = X.N.length
section
variable {X : Cx} {pins : List (Addr × Obj)} {σ : List (Option V)} {H H' : Hp} {s : Shared} {h' : Heap}
theorem Cx.Ok.nofr (ok : X.Ok) {b : Addr} {o : Obj} (e : X.base.get? b = some o) : b ∉ X.fs := fun hb => by
  have := (ok.funs.mem hb).1
  rw [e] at this; cases this
theorem Inv.bs (I : Inv X pins σ H s) : ∀ b o, X.base.get? b = some o → s.heap.get? b = some o ∧ H b = none := fun b o e =>
  ⟨I.base.keep b o (I.ok.bs b o e).1 (I.ok.bs b o e).2 (I.ok.nofr e) (I.ok.noex b o e), I.base.free b o (I.ok.bs b o e).1 (I.ok.bs b o e).2 (I.ok.noex b o e)⟩
theorem Inv.bk (I : Inv X pins σ H s) : ∀ b o, X.base.get? b = some o → s.heap.get? b = some o := fun b o e => (I.bs b o e).1
theorem Inv.mod (I : Inv X pins σ H s) : Mod X.K X.mg X.base := I.ok.mod
theorem Inv.kIn (I : Inv X pins σ H s) : X.K.In s.heap := I.ok.mod.kin.keeps I.bk
theorem Inv.nolimit (I : Inv X pins σ H s) : s.heap.NoLimit := I.ok.mod.nolimit.keeps I.bk
theorem Inv.lt (I : Inv X pins σ H s) : X.env.locals < s.heap.objs.size := let ⟨_, hn, _⟩ := I.loc; hn.lt
theorem Inv.sz (I : Inv X pins σ H s) : X.s_0.heap.objs.size ≤ s.heap.objs.size := Nat.le_trans I.ok.above (Nat.le_of_lt I.lt)
theorem Inv.nofs (I : Inv X pins σ H s) {a : Addr} (h : s.heap.objs.size ≤ a) : a ∉ X.fs := fun hb => by
  obtain ⟨_, o, ho, _⟩ := I.ok.funs.mem hb
  exact absurd (Nat.lt_of_lt_of_le (Heap.lt_size ho) (Nat.le_trans I.sz h)) (Nat.lt_irrefl _)
theorem Inv.cne (I : Inv X pins σ H s) : ∀ x c, X.env.cells.lookup x = some c → c ≠ X.env.locals := fun x c e z => by
  obtain ⟨v, o, ho, hd⟩ := I.cell x c e
  obtain ⟨m, ⟨o', es, ep, ho', hd', _⟩, _⟩ := I.loc
  rw [z, ho'] at ho; cases ho; rw [hd'] at hd; cases hd
theorem Inv.funs (I : Inv X pins σ H s) : s.heap.FunFrames X.base X.outer := by
  have all : ∀ (l : List Env), (∀ b ∈ frs l, b ∈ X.fs) → X.s_0.heap.FunFrames X.base l → s.heap.FunFrames X.base l := by
    intro l
    induction l with
    | nil => intro _ _; trivial
    | cons env r ih =>
      intro hs hl
      obtain ⟨hk, ⟨L, o, hf, hn, ho, hd⟩, hr⟩ := hl
      have hL : L ∈ X.fs := hs L (by unfold frs; rw [List.filterMap_cons, hf]; exact List.mem_cons_self)
      obtain ⟨sl, e⟩ := I.base.slot L o ho (I.ok.frf L hL) hL fun z => I.ok.exfs L z hL
      exact ⟨hk, ⟨L, _, hf, hn, e, hd⟩, ih (fun b hb => hs b (by unfold frs; rw [List.filterMap_cons, hf]; exact List.mem_cons_of_mem _ hb)) hr⟩
  exact all X.outer (fun _ hb => hb) I.ok.funs
/-- the frames that run, for a call -/
theorem Inv.stack (I : Inv X pins σ H s) : s.heap.FunFrames X.base X.stack := by
  rcases I.ok.stk with e | ⟨e, hf⟩
  · rw [e]; exact I.funs
  · rw [e]
    obtain ⟨m, hn, _⟩ := I.loc
    refine .cons (by rw [I.ok.kind]; decide) hf hn ?_ I.funs
    exact Heap.get?_none_of_le (Nat.le_trans I.ok.bsz I.ok.above)
theorem Inv.stkSub (I : Inv X pins σ H s) : ∀ b ∈ frs X.stack, b ∈ X.env.locals :: X.fs := fun b hb => by
  rcases I.ok.stk with e | ⟨e, hf⟩
  · rw [e] at hb; exact List.mem_cons_of_mem _ hb
  · rw [e] at hb
    unfold frs at hb
    rw [List.filterMap_cons, hf] at hb
    exact hb
theorem Inv.stkFree (I : Inv X pins σ H s) : ∀ b ∈ frs X.stack, H b = none := fun b hb => by
  rcases List.mem_cons.mp (I.stkSub b hb) with e | hb
  · rw [e]; exact I.free
  · obtain ⟨_, o, ho, _⟩ := I.ok.funs.mem hb
    exact I.base.free b o ho (I.ok.frf b hb) fun z => I.ok.exfs b z hb
/-- THE STEP: the untracked objects but the frame and the records at ch are kept (the callers' frames up to slots), the frame's map is kept, the new abstract heap is held -/
theorem Inv.step {g' : Array GenState} {t' : Nat} {d' : Drawn} {ch : List Addr} (I : Inv X pins σ H s)
    (hch : ∀ b ∈ ch, (b ∈ X.ex ∨ X.s_0.heap.objs.size ≤ b) ∧ b ≠ X.env.locals ∧ (∀ x c, X.env.cells.lookup x = some c → c ≠ b) ∧ ∀ p ∈ X.pn ++ pins, p.1 ≠ b)
    (keep : ∀ b o, b ≠ X.env.locals → b ∉ X.fs → b ∉ ch → s.heap.get? b = some o → H b = none → h'.get? b = some o)
    (slot : ∀ b o, b ≠ X.env.locals → b ∈ X.fs → b ∉ ch → s.heap.get? b = some o → H b = none → ∃ sl, h'.get? b = some { o with slots := sl }) (free : ∀ b o, b ∉ ch → s.heap.get? b = some o → H b = none → H' b = none)
    (there : ∀ b o, b ∉ ch → s.heap.get? b = some o → ∃ o', h'.get? b = some o')
    (tups : ∀ b xs, H b = some (.tup xs) → H' b = some (.tup xs)) (frzs : ∀ b o u, H b = some (.frz o u) → H' b = some (.frz o u)) (tbls : ∀ b ps, H b = some (.tbl ps) → ∃ more, H' b = some (.tbl (ps ++ more)))
    (ns : ∀ m, s.heap.Ns X.env.locals m → h'.Ns X.env.locals m) (hok : HOk X.prog X.w H' h') (hg : AllBare g') :
    Inv X pins σ H' { s with heap := h', gens := g', drawn := d', toks := t' } := by
  have neL : ∀ b o, X.s_0.heap.get? b = some o → b ≠ X.env.locals := fun b o e => Nat.ne_of_lt (Nat.lt_of_lt_of_le (Heap.lt_size e) I.ok.above)
  have neC : ∀ b o, X.s_0.heap.get? b = some o → b ∉ X.ex → b ∉ ch := fun b o e hx hb => by
    rcases (hch b hb).1 with z | z
    · exact hx z
    · exact absurd (Nat.lt_of_lt_of_le (Heap.lt_size e) z) (Nat.lt_irrefl _)
  have cellK : ∀ x c, X.env.cells.lookup x = some c → ∀ v, s.heap.IsCell c v → h'.IsCell c v := fun x c e v ⟨o, ho, hd⟩ => by
    have nch : c ∉ ch := fun z => (hch c z).2.2.1 x c e rfl
    by_cases hc : c ∈ X.fs
    · obtain ⟨sl, q⟩ := slot c o (I.cne x c e) hc nch ho (I.freeC x c e)
      exact ⟨_, q, hd⟩
    · exact ⟨o, keep c o (I.cne x c e) hc nch ho (I.freeC x c e), hd⟩
  refine ⟨I.ok, I.os, hg, ⟨fun b o e n hb hx => ?_, fun b o e n hb hx => ?_, fun b o e n hx => ?_, fun b o e hx => ?_, fun b xs e => tups b xs (I.base.tups b xs e), fun b o xs e => frzs b o xs (I.base.frzs b o xs e), fun b ps e => ?_⟩, ?_, fun x c e => ?_, ?_, fun x c e => ?_, fun p hp => ?_, hok, I.len⟩
  · exact keep b o (neL b o e) hb (neC b o e hx) (I.base.keep b o e n hb hx) (I.base.free b o e n hx)
  · obtain ⟨sl, e1⟩ := I.base.slot b o e n hb hx
    obtain ⟨sl', e2⟩ := slot b _ (neL b o e) hb (neC b o e hx) e1 (I.base.free b o e n hx)
    exact ⟨sl', e2⟩
  · obtain ⟨o', e1⟩ := I.base.there b o e hx
    exact free b o' (neC b o e hx) e1 (I.base.free b o e n hx)
  · obtain ⟨o', e1⟩ := I.base.there b o e hx
    exact there b o' (neC b o e hx) e1
  · obtain ⟨m1, e1⟩ := I.base.tbls b ps e
    obtain ⟨m2, e2⟩ := tbls b _ e1
    exact ⟨m1 ++ m2, by rw [e2, Array.append_assoc]⟩
  · obtain ⟨m, hn, hl⟩ := I.loc
    refine ⟨m, ns m hn, fun i x v e1 e2 e3 => ?_⟩
    obtain ⟨u, r, l⟩ := hl i x v e1 e2 e3
    refine ⟨u, r, ?_⟩
    rcases l with l | ⟨k, c, e, z⟩
    · exact .inl l
    · exact .inr ⟨k, c, e, cellK x c e _ z⟩
  · obtain ⟨v, z⟩ := I.cell x c e
    exact ⟨v, cellK x c e v z⟩
  · obtain ⟨m, ⟨o, _, _, ho, _⟩, _⟩ := I.loc
    exact free _ o (fun z => (hch _ z).2.1 rfl) ho I.free
  · obtain ⟨v, o, ho, hd⟩ := I.cell x c e
    exact free c o (fun z => (hch c z).2.2.1 x c e rfl) ho (I.freeC x c e)
  · obtain ⟨e, n, ne, nf, d⟩ := I.pin p hp
    have nch : p.1 ∉ ch := fun z => (hch p.1 z).2.2.2 p hp rfl
    exact ⟨keep p.1 p.2 ne nf nch e n, free p.1 p.2 nch e n, ne, nf, d⟩
/-- .. where the frame's own object is kept too -/
theorem Inv.un {t' : Nat} (I : Inv X pins σ H s) (u : Un X.fs [] H H' s.heap h') (hok : HOk X.prog X.w H' h') : Inv X pins σ H' { s with heap := h', toks := t' } := by
  obtain ⟨m, ⟨o, es, ep, ho, r⟩, _⟩ := id I.loc
  obtain ⟨sl, hL⟩ := u.any ho I.free (by simp)
  exact I.step (g' := s.gens) (d' := s.drawn) (ch := []) (fun _ z => nomatch z) (fun b o _ hb _ e n => u.keep b o e n hb (by simp)) (fun b o _ hb _ e n => u.slot b o e n hb (by simp)) (fun b o _ e n => u.free b o e n (by simp)) (fun b o _ e => u.there b o e (by simp)) u.tups u.frzs u.tbls (fun m' hm => by
    obtain ⟨o', es', ep', ho', r'⟩ := hm
    rw [ho] at ho'; cases ho'
    exact ⟨_, es', ep', hL, r'⟩) hok I.bare
/-- behind a call (or a comprehension's block): the slots of this frame may have changed too, the records at ch may have turned -/
theorem Inv.call {g' : Array GenState} {t' : Nat} {d' : Drawn} {ch : List Addr} (I : Inv X pins σ H s) (u : Un (frs X.stack) ch H H' s.heap h') (hok : HOk X.prog X.w H' h') (hg : AllBare g')
    (hch : ∀ b ∈ ch, (b ∈ X.ex ∨ X.s_0.heap.objs.size ≤ b) ∧ b ≠ X.env.locals ∧ (∀ x c, X.env.cells.lookup x = some c → c ≠ b) ∧ ∀ p ∈ X.pn ++ pins, p.1 ≠ b) :
    Inv X pins σ H' { s with heap := h', gens := g', drawn := d', toks := t' } := by
  obtain ⟨m, ⟨o, es, ep, ho, r⟩, _⟩ := id I.loc
  obtain ⟨sl, hL⟩ := u.any ho I.free fun z => (hch _ z).2.1 rfl
  exact I.step (ch := ch) hch (fun b o hL hb hc e n => u.keep b o e n (fun z => (List.mem_cons.mp (I.stkSub b z)).elim hL hb) hc) (fun b o _ _ hc e n => u.any e n hc) (fun b o hc e n => u.free b o e n hc) (fun b o hc e => u.there b o e hc) u.tups u.frzs u.tbls (fun m' hm => by
    obtain ⟨o', es', ep', ho', r'⟩ := hm
    rw [ho] at ho'; cases ho'
    exact ⟨_, es', ep', hL, r'⟩) hok hg
/-- an untracked record of ours (an iterator) has turned -/
theorem Inv.turned {t' : Nat} {it : Addr} (I : Inv X pins σ H s) (k : ∀ b o, b ≠ it → s.heap.get? b = some o → h'.get? b = some o) (hn : H it = none) (hL : it ≠ X.env.locals)
    (h1 : it ∈ X.ex ∨ X.s_0.heap.objs.size ≤ it) (h2 : ∀ x c, X.env.cells.lookup x = some c → c ≠ it) (h3 : ∀ p ∈ X.pn ++ pins, p.1 ≠ it) : Inv X pins σ H { s with heap := h', toks := t' } := by
  have nit : ∀ b u, H b = some u → b ≠ it := fun b u e z => by rw [z, hn] at e; cases e
  refine I.step (g' := s.gens) (d' := s.drawn) (ch := [it]) (fun b hb => ?_) (fun b o _ _ hc e _ => k b o (fun z => hc (by simp [z])) e) (fun b o _ _ hc e _ => ⟨o.slots, k b o (fun z => hc (by simp [z])) e⟩) (fun _ _ _ _ n => n)
    (fun b o hc e => ⟨o, k b o (fun z => hc (by simp [z])) e⟩) (fun _ _ e => e) (fun _ _ _ e => e) (fun b ps e => ⟨#[], by rw [e]; simp⟩) (fun m hm => ?_) (fun b u e => ?_) I.bare
  · have e : b = it := by simpa using hb
    subst e
    exact ⟨h1, hL, h2, h3⟩
  · obtain ⟨o, es, ep, ho, r⟩ := hm
    exact ⟨o, es, ep, k _ o (Ne.symm hL) ho, r⟩
  · refine (I.hok b u e).stay (fun c v hc q => k c v ?_ q) (fun _ q => q) fun _ _ q => q
    rcases hc with z | z
    · rw [z]; exact nit b u e
    · exact nit c _ z
theorem Inv.tok (I : Inv X pins σ H s) (t : Nat) : Inv X pins σ H { s with toks := t } := I.un (h' := s.heap) (t' := t) Un.refl I.hok
/-- all objects kept -/
theorem Inv.kept {t' : Nat} (I : Inv X pins σ H s) (k : ∀ b u, s.heap.get? b = some u → h'.get? b = some u) : Inv X pins σ H { s with heap := h', toks := t' } := I.un (Un.kept k) (I.hok.kept k)
/-- a new object laid and tracked -/
theorem Inv.laid {a : Addr} {o : HO} {t' : Nat} (I : Inv X pins σ H s) (k : ∀ b u, s.heap.get? b = some u → h'.get? b = some u) (hp : s.heap.objs.size ≤ a) (new : ObjOk X.prog X.w (upd H a o) h' a o) :
    Inv X pins σ (upd H a o) { s with heap := h', toks := t' } := I.un (Un.laid k hp (I.hok.fresh hp)) (I.hok.laid k hp new)
/-- an object written -/
theorem Inv.write {x e : Addr} {o : HO} {t' : Nat} (I : Inv X pins σ H s) (mu : Mut (H x)) (he : e = x ∨ H e = some (.own x)) (k : ∀ b u, b ≠ e → s.heap.get? b = some u → h'.get? b = some u) (heo : ∃ u, h'.get? e = some u)
    (new : ObjOk X.prog X.w (upd H x o) h' x o) : Inv X pins σ (upd H x o) { s with heap := h', toks := t' } := I.un (Un.write mu he k heo) (I.hok.write mu he k heo new)
theorem Inv.pins_of {pins' : List (Addr × Obj)} (I : Inv X pins σ H s) (h : ∀ p ∈ pins', s.heap.get? p.1 = some p.2 ∧ H p.1 = none ∧ p.1 ≠ X.env.locals ∧ p.1 ∉ X.fs ∧ ∀ v, p.2.data ≠ .cell v) : Inv X pins' σ H s :=
  ⟨I.ok, I.os, I.bare, I.base, I.loc, I.cell, I.free, I.freeC, fun p hp => (List.mem_append.mp hp).elim (fun z => I.pin p (List.mem_append_left _ z)) (h p), I.hok, I.len⟩
theorem nodup_ix {N : List Str} (hN : N.Nodup) {i j : Nat} {x : Str} (a : N[i]? = some x) (b : N[j]? = some x) : i = j := by
  obtain ⟨h1, e1⟩ := List.getElem?_eq_some_iff.mp a
  obtain ⟨h2, e2⟩ := List.getElem?_eq_some_iff.mp b
  exact (List.getElem_inj hN).mp (e1.trans e2.symm)
/-- a name is stored; what changed -/
theorem store_ok2 {M : Model} {A : Around} {E : Value → Shared → Prop} {i : Nat} {x : Str} {v : V} {u : Value} {Q : Unit → Shared → Prop} (I : Inv X pins σ H s) (hN : X.N.Nodup) (hi : X.N[i]? = some x) (hx : Loc X.env.scope x) (r : RelV v u)
    (h : ∀ s', Inv X pins (σ.set i (some v)) H s' → (∃ a, Heap.SameBut a s.heap s'.heap ∧ (a = X.env.locals ∨ X.env.cells.lookup x = some a)) → Q () s') (hf : X.fn x = true ∨ X.env.scope.names.lookup x = some .local := by first | exact .inl rfl | exact .inr rfl | assumption) : wpAny M A (storeName X.env x u) Q E s := by
  obtain ⟨m, hn, hl⟩ := id I.loc
  have hcls : (X.env.scope.kind == .class || (X.env.scope.kind == .module && X.env.locals != X.env.globals)) = false := by rw [I.ok.kind]; rfl
  have hiσ : i < σ.length := by rw [I.len]; exact (List.getElem?_eq_some_iff.mp hi).1
  have cne := I.cne
  have tracked : ∀ {a : Addr} {h' : Heap}, (∃ o, s.heap.get? a = some o ∧ H a = none) → Heap.SameBut a s.heap h' → HOk X.prog X.w H h' := fun {a h'} ha hs b ob e => by
    obtain ⟨_, _, hfree⟩ := ha
    refine (I.hok b ob e).stay (fun c w' hc q => (hs.2 c ?_).trans q) (fun _ q => q) fun _ _ q => q
    rintro rfl
    rcases hc with rfl | hc
    · rw [hfree] at e; cases e
    · rw [hfree] at hc; cases hc
  rcases hx with hk | hk
  · refine wpAny_storeName_local hk hn (fun h' hn' hs => ?_) hcls
    obtain ⟨oL, _, _, hoL, _⟩ := id hn
    refine h _ ⟨I.ok, I.os, I.bare, ⟨fun b o e n hb hx => ?_, fun b o e n hb hx => ?_, I.base.free, fun b o e hx => ?_, I.base.tups, I.base.frzs, I.base.tbls⟩, ⟨_, hn', fun j y v' e1 e2 e3 => ?_⟩, fun y c e => ?_, I.free, I.freeC, fun p hp => ?_, tracked ⟨oL, hoL, I.free⟩ hs, by simpa using I.len⟩ ⟨_, hs, .inl rfl⟩
    · exact (hs.2 b (Nat.ne_of_lt (Nat.lt_of_lt_of_le (Heap.lt_size e) I.ok.above))).trans (I.base.keep b o e n hb hx)
    · obtain ⟨sl, e1⟩ := I.base.slot b o e n hb hx
      exact ⟨sl, (hs.2 b (Nat.ne_of_lt (Nat.lt_of_lt_of_le (Heap.lt_size e) I.ok.above))).trans e1⟩
    · obtain ⟨o', e1⟩ := I.base.there b o e hx
      exact ⟨o', (hs.2 b (Nat.ne_of_lt (Nat.lt_of_lt_of_le (Heap.lt_size e) I.ok.above))).trans e1⟩
    · by_cases hj : j = i
      · subst hj
        rw [hi] at e1; cases e1
        rw [List.getElem?_set_self hiσ] at e2
        cases e2
        exact ⟨u, r, .inl ⟨hk, by simp⟩⟩
      · rw [List.getElem?_set_ne (Ne.symm hj)] at e2
        obtain ⟨u', r', q⟩ := hl j y v' e1 e2 e3
        refine ⟨u', r', ?_⟩
        rcases q with ⟨k, e⟩ | ⟨k, c, e, z⟩
        · refine .inl ⟨k, ?_⟩
          have : y ≠ x := fun e => hj (nodup_ix hN e1 (e ▸ hi))
          simp [this, e]
        · exact .inr ⟨k, c, e, z.sameBut hs (cne y c e)⟩
    · obtain ⟨w', z⟩ := I.cell y c e
      exact ⟨w', z.sameBut hs (cne y c e)⟩
    · obtain ⟨e, n, ne, nf, d⟩ := I.pin p hp
      exact ⟨(hs.2 p.1 ne).trans e, n, ne, nf, d⟩
  · have hfn : X.fn x = true := by
      rcases hf with z | z
      · exact z
      · rw [z] at hk; cases hk
    obtain ⟨c, hc⟩ := I.ok.has x (.inl hk)
    obtain ⟨w', z⟩ := I.cell x c hc
    refine wpAny_storeName_cell I.ok.kind hk hc z (fun h' hc' hs => ?_)
    obtain ⟨oc, hoc, hocd⟩ := id z
    refine h { s with heap := h' } ⟨I.ok, I.os, I.bare, ⟨fun b o e n hb hx => ?_, fun b o e n hb hx => ?_, I.base.free, fun b o e hx => ?_, I.base.tups, I.base.frzs, I.base.tbls⟩, ⟨m, hn.sameBut hs (Ne.symm (cne x c hc)), fun j y v' e1 e2 e3 => ?_⟩, fun y c' e => ?_, I.free, I.freeC, fun p hp => ?_, tracked ⟨oc, hoc, I.freeC x c hc⟩ hs, by simpa using I.len⟩ ⟨c, hs, .inr hc⟩
    · exact (hs.2 b (Nat.ne_of_lt (Nat.lt_of_lt_of_le (Heap.lt_size e) (I.ok.cab x c hfn hc)))).trans (I.base.keep b o e n hb hx)
    · obtain ⟨sl, e1⟩ := I.base.slot b o e n hb hx
      exact ⟨sl, (hs.2 b (Nat.ne_of_lt (Nat.lt_of_lt_of_le (Heap.lt_size e) (I.ok.cab x c hfn hc)))).trans e1⟩
    · obtain ⟨o', e1⟩ := I.base.there b o e hx
      exact ⟨o', (hs.2 b (Nat.ne_of_lt (Nat.lt_of_lt_of_le (Heap.lt_size e) (I.ok.cab x c hfn hc)))).trans e1⟩
    · by_cases hj : j = i
      · subst hj
        rw [hi] at e1; cases e1
        rw [List.getElem?_set_self hiσ] at e2
        cases e2
        exact ⟨u, r, .inr ⟨.inl hk, c, hc, hc'⟩⟩
      · rw [List.getElem?_set_ne (Ne.symm hj)] at e2
        obtain ⟨u', r', q⟩ := hl j y v' e1 e2 e3
        refine ⟨u', r', ?_⟩
        rcases q with q | ⟨k, c', e, z'⟩
        · exact .inl q
        · refine .inr ⟨k, c', e, z'.sameBut hs ?_⟩
          rintro rfl
          exact hj (nodup_ix hN e1 (I.ok.inj _ _ _ e hc ▸ hi))
    · by_cases hcc : c' = c
      · subst hcc; exact ⟨_, hc'⟩
      · obtain ⟨w2, z2⟩ := I.cell y c' e
        exact ⟨w2, z2.sameBut hs hcc⟩
    · obtain ⟨e, n, ne, nf, d⟩ := I.pin p hp
      refine ⟨(hs.2 p.1 ?_).trans e, n, ne, nf, d⟩
      intro q
      rw [q, hoc] at e
      have q' : oc = p.2 := Option.some.inj e
      exact d w' (by rw [← q']; exact hocd)
theorem store_ok {M : Model} {A : Around} {E : Value → Shared → Prop} {i : Nat} {x : Str} {v : V} {u : Value} {Q : Unit → Shared → Prop} (I : Inv X pins σ H s) (hN : X.N.Nodup) (hi : X.N[i]? = some x) (hx : Loc X.env.scope x) (r : RelV v u)
    (h : ∀ s', Inv X pins (σ.set i (some v)) H s' → Q () s') (hf : X.fn x = true ∨ X.env.scope.names.lookup x = some .local := by first | exact .inl rfl | exact .inr rfl | assumption) : wpAny M A (storeName X.env x u) Q E s :=
  store_ok2 I hN hi hx r (fun s' I' _ => h s' I') hf
end
/-! ### the judgements -/
/-- an exception: its class, its own dict's address (where it has one), the abstract heap behind it -/
noncomputable abbrev XK := Value → Option Addr → Hp → Prop
noncomputable abbrev St := List (Option V)
noncomputable abbrev VK := V → Hp → Prop
/-- an expression's reading; a test's; an argument list's -/
noncomputable abbrev TE := St → Hp → VK → Prop
noncomputable abbrev TT := St → Hp → (Bool → Hp → Prop) → Prop
noncomputable abbrev TA := St → Hp → (List V → Hp → Prop) → Prop
/-- what is wanted behind a statement -/
structure Ends where
  nx : St → Hp → Prop
  rt : VK
  bk : St → Hp → Prop := fun _ _ => False
  ct : St → Hp → Prop := fun _ _ => False
noncomputable abbrev TS := Ends → St → Hp → Prop
noncomputable def EP (X : Cx) (pins : List (Addr × Obj)) (σ : St) (Q : VK) (u : Value) (s' : Shared) : Prop := ∃ v H', Inv X pins σ H' s' ∧ RelV v u ∧ Q v H'
noncomputable def TP (X : Cx) (pins : List (Addr × Obj)) (σ : St) (Q : Bool → Hp → Prop) (b : Bool) (s' : Shared) : Prop := ∃ H', Inv X pins σ H' s' ∧ Q b H'
noncomputable def AP (X : Cx) (pins : List (Addr × Obj)) (σ : St) (Q : List V → Hp → Prop) (us : List Value) (s' : Shared) : Prop := ∃ vs H', Inv X pins σ H' s' ∧ Vals vs us ∧ Q vs H'
noncomputable def SP (X : Cx) (pins : List (Addr × Obj)) (D : Ends) (f : Flow) (s' : Shared) : Prop :=
  match f with
  | .next => ∃ σ' H', Inv X pins σ' H' s' ∧ D.nx σ' H'
  | .brk => ∃ σ' H', Inv X pins σ' H' s' ∧ D.bk σ' H'
  | .cont => ∃ σ' H', Inv X pins σ' H' s' ∧ D.ct σ' H'
  | .ret u => ∃ v σ' H', Inv X pins σ' H' s' ∧ RelV v u ∧ D.rt v H'
noncomputable def PE (X : Cx) (e : Expr) (t : TE) : Prop :=
  ∀ (pins : List (Addr × Obj)) (s : Shared) (σ : St) (H : Hp) (Q : VK), Inv X pins σ H s → t σ H Q → wpAny (model X.prog X.w) X.A (eval e X.env) (EP X pins σ Q) X.xe s
noncomputable def PT (X : Cx) (e : Expr) (t : TT) : Prop :=
  ∀ (pins : List (Addr × Obj)) (s : Shared) (σ : St) (H : Hp) (Q : Bool → Hp → Prop), Inv X pins σ H s → t σ H Q → wpAny (model X.prog X.w) X.A (isTrue e X.env (eval e X.env)) (TP X pins σ Q) X.xe s
/-- a test whatever its 'whole' is (and, or) -/
noncomputable def PW (X : Cx) (e : Expr) (t : TT) : Prop :=
  ∀ (whole : Sem Value) (pins : List (Addr × Obj)) (s : Shared) (σ : St) (H : Hp) (Q : Bool → Hp → Prop), Inv X pins σ H s → t σ H Q → wpAny (model X.prog X.w) X.A (isTrue e X.env whole) (TP X pins σ Q) X.xe s
theorem PW.pt {X : Cx} {e : Expr} {t : TT} (h : PW X e t) : PT X e t := h _
/-- an argument list (no star), from the left -/
noncomputable def PA (X : Cx) (es : List Expr) (t : TA) : Prop :=
  ∀ (pos : Pos) (pins : List (Addr × Obj)) (s : Shared) (σ : St) (H : Hp) (Q : List V → Hp → Prop), Inv X pins σ H s → t σ H Q → wpAny (model X.prog X.w) X.A (spliced (backTo pos (starEach es X.env))) (AP X pins σ Q) X.xe s
noncomputable def PS (X : Cx) (st : Stmt) (t : TS) : Prop :=
  ∀ (pins : List (Addr × Obj)) (s : Shared) (σ : St) (H : Hp) (D : Ends), Inv X pins σ H s → t D σ H → wpAny (model X.prog X.w) X.A (exec st X.env) (SP X pins D) X.xe s
noncomputable def PSs (X : Cx) (st : List Stmt) (t : TS) : Prop :=
  ∀ (pins : List (Addr × Obj)) (s : Shared) (σ : St) (H : Hp) (D : Ends), Inv X pins σ H s → t D σ H → wpAny (model X.prog X.w) X.A (execs st X.env) (SP X pins D) X.xe s
/-- weaken the end -/
theorem thn {α : Type} {t : Sem α} {Q Q' : α → Shared → Prop} {M : Model} {A : Around} {E : Value → Shared → Prop} {s : Shared} (h : wpAny M A t Q E s) (hQ : ∀ a s, Q a s → Q' a s) : wpAny M A t Q' E s := wpAny_mono h hQ fun _ _ x => x
end L2
namespace L2
open PySem PySem.Spec PyProof.Rows
section
variable {X : Cx}
/-! ### names and constants -/
noncomputable def tVar (i : Nat) : TE := fun σ H Q => ∃ v, σ[i]? = some (some v) ∧ Q v H
noncomputable def tC (v : V) : TE := fun _ H Q => Q v H
theorem pe_var {i : Nat} {x : Str} {pos : Pos} (hN : X.N[i]? = some x) (hv : Vis X.env.scope x) (hd : (x == ("__debug__" : Str)) = false := by decide) (hcd : (x == ("__classdict__" : Str)) = false := by decide) : PE X (.Name x pos) (tVar i) := by
  intro pins s σ H Q I h
  obtain ⟨v, e, h⟩ := h
  obtain ⟨m, hn, hl⟩ := I.loc
  obtain ⟨u, r, l⟩ := hl i x v hN e hv
  have fin : EP X pins σ Q u s := ⟨v, H, I, r, h⟩
  rcases l with ⟨hk, hm⟩ | ⟨hk, c, hc, hcell⟩
  · exact wpAny_Name (wpAny_loadName_local I.ok.kind hk hn hm fin) hd
  · rcases hk with hk | hk
    · exact wpAny_Name (wpAny_loadName_cell I.ok.kind hk hc hcell fin) hd
    · exact wpAny_Name (wpAny_loadName_free I.ok.kind hk hc hcell fin hcd) hd
theorem pe_int {i j pos} : PE X (.Constant (.int i) j pos) (tC (.int i)) := fun _ _ _ H _ I h => wpAny_Constant_int ⟨.int i, H, I.tok _, ⟨_, rfl⟩, h⟩
theorem pe_bl {b j pos} : PE X (.Constant (.bool b) j pos) (tC (.bl b)) := fun _ _ _ H _ I h => Constant_bool ⟨.bl b, H, I, rfl, h⟩
theorem pe_str {x j pos} : PE X (.Constant (.str x) j pos) (tC (.str x)) := fun _ _ _ H _ I h => Calls.Constant_str ⟨.str x, H, I.tok _, ⟨_, rfl⟩, h⟩
/-- a global name of the def -/
noncomputable def Gl (X : Cx) (x : Str) : Prop := X.env.kindOf x = some .globalImplicit
theorem ld_glob {E : Value → Shared → Prop} {pins : List (Addr × Obj)} {s : Shared} {σ : St} {H : Hp} {x : Str} {u : Value} {pos : Pos} {Q : Value → Shared → Prop} (I : Inv X pins σ H s) (hg : Gl X x) (hm : X.mg x = some u) (h : Q u s)
    (hd : (x == ("__debug__" : Str)) = false := by decide) : wpAny (model X.prog X.w) X.A (eval (.Name x pos) X.env) Q E s :=
  Calls.Name_function_global I.ok.kind hg (Calls.loadGlobal_global (by rw [I.ok.glob]; exact I.mod.glob.keeps I.bk) hm h) hd
theorem ld_blt {E : Value → Shared → Prop} {pins : List (Addr × Obj)} {s : Shared} {σ : St} {H : Hp} {x : Str} {u : Value} {pos : Pos} {Q : Value → Shared → Prop} (I : Inv X pins σ H s) (hg : Gl X x) (hm : X.mg x = none) (hv : bootBuiltins x = some u) (h : Q u s)
    (hn : x ≠ "__name__" := by decide) (hd : (x == ("__debug__" : Str)) = false := by decide) : wpAny (model X.prog X.w) X.A (eval (.Name x pos) X.env) Q E s := by
  obtain ⟨mb, h1, h2⟩ := I.mod.blt
  exact Calls.Name_function_global I.ok.kind hg (Calls.loadGlobal_builtin (by rw [I.ok.glob]; exact I.mod.glob.keeps I.bk) hm (by rw [I.ok.blt]; exact h1.keeps I.bk) ((h2 x hn).trans hv) h) hd
/-- a module's constant, a class, a function, as a value -/
theorem pe_glob {x : Str} {v : V} {u : Value} {pos : Pos} (hg : Gl X x) (hm : X.mg x = some u) (r : RelV v u) (hd : (x == ("__debug__" : Str)) = false := by decide) : PE X (.Name x pos) (tC v) :=
  fun _ _ _ H _ I h => ld_glob I hg hm ⟨v, H, I, r, h⟩ hd
/-! ### arithmetic -/
variable {a b : Expr} {ta tb : TE} {pos : Pos}
/-! ### comparisons -/
/-- a comparison as a value, as a test -/
noncomputable def tB (t : TE) : TT := fun σ H Q => t σ H fun x H1 => ∃ c, x = .bl c ∧ Q c H1
/-- an expression whose value is a bool, as a test -/
theorem pt_val {e : Expr} {t : TE} (h : PE X e t) (he : ∀ whole, isTrue e X.env whole = (do let v ← whole; standAt e.pos; holding [v] (truthy v)) := by intro _; rfl) : PT X e (tB t) := by
  intro pins s σ H Q I hw
  refine isTrue_plain (thn (h pins s σ H _ I hw) fun v s1 ⟨x, H1, I1, r1, q1⟩ => ?_) (he _)
  obtain ⟨d, rfl, q⟩ := q1
  cases r1
  exact wpAny_truthy_bool ⟨H1, I1, q⟩
/-! ### and, or, not -/
variable {tA tB' : TT} {rest : List Expr}
noncomputable def tAnd (t u : TT) : TT := fun σ H Q => t σ H fun c H1 => if c = true then u σ H1 Q else Q false H1
noncomputable def tOr (t u : TT) : TT := fun σ H Q => t σ H fun c H1 => if c = true then Q true H1 else u σ H1 Q
noncomputable def tNot (t : TT) : TT := fun σ H Q => t σ H fun c H1 => Q (!c) H1
theorem pw_and1 (ha : PT X a tA) : PW X (.BoolOp .And [a] pos) tA := by
  intro wh pins s σ H Q I h
  refine isTrue_and (thn (ha pins s σ H Q I h) fun c s1 e => ?_)
  cases c with
  | true => exact isTrue_and_nil e
  | false => exact e
theorem pw_or1 (ha : PT X a tA) : PW X (.BoolOp .Or [a] pos) tA := by
  intro wh pins s σ H Q I h
  refine isTrue_or (thn (ha pins s σ H Q I h) fun c s1 e => ?_)
  cases c with
  | false => exact isTrue_or_nil e
  | true => exact e
theorem pw_and (ha : PT X a tA) (hb : PW X (.BoolOp .And (b :: rest) pos) tB') : PW X (.BoolOp .And (a :: b :: rest) pos) (tAnd tA tB') := by
  intro wh pins s σ H Q I h
  refine isTrue_and (thn (ha pins s σ H _ I h) fun c s1 ⟨H1, I1, q1⟩ => ?_)
  cases c with
  | true => exact hb wh pins s1 σ H1 Q I1 q1
  | false => exact ⟨H1, I1, q1⟩
theorem pw_or (ha : PT X a tA) (hb : PW X (.BoolOp .Or (b :: rest) pos) tB') : PW X (.BoolOp .Or (a :: b :: rest) pos) (tOr tA tB') := by
  intro wh pins s σ H Q I h
  refine isTrue_or (thn (ha pins s σ H _ I h) fun c s1 ⟨H1, I1, q1⟩ => ?_)
  cases c with
  | true => exact ⟨H1, I1, q1⟩
  | false => exact hb wh pins s1 σ H1 Q I1 q1
theorem pt_not (ha : PT X a tA) : PT X (.UnaryOp .Not a pos) (tNot tA) := by
  intro pins s σ H Q I h
  exact isTrue_not (ha pins s σ H (fun c H1 => Q (!c) H1) I h)
/-- .. as values (bools) -/
noncomputable def tAndV (ta tb : TE) : TE := fun σ H Q => ta σ H fun x H1 => ∃ c, x = .bl c ∧ if c = true then tb σ H1 Q else Q (.bl false) H1
noncomputable def tOrV (ta tb : TE) : TE := fun σ H Q => ta σ H fun x H1 => ∃ c, x = .bl c ∧ if c = true then Q (.bl true) H1 else tb σ H1 Q
noncomputable def tNotV (ta : TE) : TE := fun σ H Q => ta σ H fun x H1 => ∃ c, x = .bl c ∧ Q (.bl (!c)) H1
theorem pe_one {op} {t : TE} (h : PE X a t) : PE X (.BoolOp op [a] pos) t := fun pins s σ H Q I hw => BoolOp_one (h pins s σ H Q I hw)
theorem pe_or (ha : PE X a ta) (hb : PE X (.BoolOp .Or (b :: rest) pos) tb) : PE X (.BoolOp .Or (a :: b :: rest) pos) (tOrV ta tb) := by
  intro pins s σ H Q I h
  refine BoolOp_or (thn (ha pins s σ H _ I h) fun v s1 ⟨x, H1, I1, r1, q1⟩ => ?_)
  obtain ⟨c, rfl, q1⟩ := q1
  cases r1
  refine wpAny_truthy_bool ?_
  cases c with
  | false => exact hb pins s1 σ H1 Q I1 q1
  | true => exact ⟨.bl true, H1, I1, rfl, q1⟩
theorem pe_not (ha : PE X a ta) : PE X (.UnaryOp .Not a pos) (tNotV ta) := by
  intro pins s σ H Q I h
  refine UnaryOp_ (thn (ha pins s σ H _ I h) fun v s1 ⟨x, H1, I1, r1, q1⟩ => ?_)
  obtain ⟨c, rfl, q1⟩ := q1
  cases r1
  exact not_of (wpAny_truthy_bool ⟨.bl (!c), H1, I1, rfl, q1⟩)
/-- a if t else b -/
noncomputable def tIf (t : TT) (ta tb : TE) : TE := fun σ H Q => t σ H fun c H1 => if c = true then ta σ H1 Q else tb σ H1 Q
theorem pe_ifExp {c : Expr} (hc : PT X c tA) (ha : PE X a ta) (hb : PE X b tb) : PE X (.IfExp c a b pos) (tIf tA ta tb) := by
  intro pins s σ H Q I h
  refine wpAny_IfExp (thn (hc pins s σ H _ I h) fun d s1 ⟨H1, I1, q1⟩ => ?_)
  cases d with
  | true => exact ha pins s1 σ H1 Q I1 q1
  | false => exact hb pins s1 σ H1 Q I1 q1
end
end L2
namespace L2
open PySem PySem.Spec PyProof.Rows
/-! ### a list, a tuple that is read: tracked, frozen, or an object of the module -/
noncomputable def SqL (K : PySem.W.Frag) (H : Hp) (a : Addr) (xs : List V) : Prop :=
  Rd H a (.lst xs) ∨
    ∃ (o : Obj) (its : Array Value) (n : Nat), K.lookup a = some o ∧ o.cls = .type "list" ∧ o.dict = none ∧ o.data = .seq its n ∧ its.size ≤ sizeLine ∧ Vals xs its.toList
noncomputable def SqT (K : PySem.W.Frag) (H : Hp) (a : Addr) (xs : List V) : Prop :=
  Rd H a (.tup xs) ∨
    ∃ (o : Obj) (its : Array Value) (n : Nat), K.lookup a = some o ∧ o.cls = .type "tuple" ∧ o.data = .seq its n ∧ its.size ≤ sizeLine ∧ Vals xs its.toList
section
variable {X : Cx} {pins : List (Addr × Obj)} {σ : St} {H : Hp} {s : Shared} {a : Addr} {xs ys : List V}
theorem SqL.of {K : PySem.W.Frag} (h : H a = some (.lst xs)) : SqL K H a xs := .inl (.inl h)
theorem Inv.list (I : Inv X pins σ H s) (h : SqL X.K H a xs) : ∃ its : List Value, Vals xs its ∧ PlainL s.heap a its.toArray ∧ xs.length ≤ sizeLine := by
  rcases h with h | ⟨o, its, n, hk, hc, hd, hs, hz, r⟩
  · obtain ⟨z, its, n, r, e⟩ := h.ok I.hok
    exact ⟨its, r, ⟨_, n, e, rfl, rfl, rfl⟩, z⟩
  · refine ⟨its.toList, r, ⟨o, n, I.kIn a o hk, hc, hd, by simpa using hs⟩, ?_⟩
    have e := r.length
    simp only [Array.length_toList] at e
    omega
theorem Inv.tuple (I : Inv X pins σ H s) (h : SqT X.K H a xs) : ∃ its : List Value, Vals xs its ∧ IsTup s.heap a its.toArray ∧ xs.length ≤ sizeLine := by
  rcases h with h | ⟨o, its, n, hk, hc, hs, hz, r⟩
  · obtain ⟨z, its, r, p⟩ := h.ok I.hok
    exact ⟨its, r, p, z⟩
  · refine ⟨its.toList, r, ⟨o, I.kIn a o hk, hc, n, by simpa using hs⟩, ?_⟩
    have e := r.length
    simp only [Array.length_toList] at e
    omega
end
/-! ### another wish about exceptions -/
noncomputable abbrev Cx.wish (X : Cx) (E : Value → Shared → Prop) : Cx := { X with xe := E }
/-- no exception leaves -/
noncomputable abbrev Cx.nox (X : Cx) : Cx := X.wish fun _ _ => False
theorem Cx.Ok.wish {X : Cx} (ok : X.Ok) (E : Value → Shared → Prop) : (X.wish E).Ok :=
  ⟨ok.mod, ok.kind, ok.glob, ok.blt, ok.above, ok.inj, ok.has, ok.cab, ok.hd, ok.frames, ok.stk, ok.exf, ok.bs, ok.bsz, ok.noex, ok.exfs, ok.funs, ok.frf⟩
theorem Cx.Ok.unwish {X : Cx} {E : Value → Shared → Prop} (ok : (X.wish E).Ok) : X.Ok :=
  ⟨ok.mod, ok.kind, ok.glob, ok.blt, ok.above, ok.inj, ok.has, ok.cab, ok.hd, ok.frames, ok.stk, ok.exf, ok.bs, ok.bsz, ok.noex, ok.exfs, ok.funs, ok.frf⟩
section
variable {X : Cx} {pins : List (Addr × Obj)} {σ : St} {H : Hp} {s : Shared} {E : Value → Shared → Prop}
theorem Inv.wish (I : Inv X pins σ H s) (E : Value → Shared → Prop) : Inv (X.wish E) pins σ H s := ⟨I.ok.wish E, I.os, I.bare, I.base, I.loc, I.cell, I.free, I.freeC, I.pin, I.hok, I.len⟩
theorem Inv.unwish (I : Inv (X.wish E) pins σ H s) : Inv X pins σ H s := ⟨I.ok.unwish, I.os, I.bare, I.base, I.loc, I.cell, I.free, I.freeC, I.pin, I.hok, I.len⟩
theorem SP.unwish {D : Ends} {f : Flow} {s' : Shared} (h : SP (X.wish E) pins D f s') : SP X pins D f s' := by
  cases f with
  | next => obtain ⟨σ', H', I, q⟩ := h; exact ⟨σ', H', I.unwish, q⟩
  | brk => obtain ⟨σ', H', I, q⟩ := h; exact ⟨σ', H', I.unwish, q⟩
  | cont => obtain ⟨σ', H', I, q⟩ := h; exact ⟨σ', H', I.unwish, q⟩
  | ret u => obtain ⟨v, σ', H', I, r, q⟩ := h; exact ⟨v, σ', H', I.unwish, r, q⟩
theorem PSs.nox {st : List Stmt} {t : TS} (h : PSs X.nox st t) : PSs X st t := fun pins s σ H D I hw =>
  wpAny_mono (h pins s σ H D (I.wish _) hw) (fun _ _ q => q.unwish) fun _ _ z => False.elim z
end
/-! ### blocks and small statements -/
section
variable {X : Cx} {st : Stmt} {rest : List Stmt} {t u : TS} {e : Expr} {te : TE} {pos : Pos}
noncomputable def tNext : TS := fun D σ H => D.nx σ H
noncomputable def tSeq (t u : TS) : TS := fun D σ H => t { D with nx := u D } σ H
theorem pss_nil : PSs X [] tNext := fun _ _ σ H _ I h => wpAny_execs_nil ⟨σ, H, I, h⟩
theorem pss_cons (h1 : PS X st t) (h2 : PSs X rest u) : PSs X (st :: rest) (tSeq t u) := by
  intro pins s σ H D I h
  refine wpAny_execs_cons (thn (h1 pins s σ H { D with nx := u D } I h) fun f s1 q => ?_)
  cases f with
  | next =>
    obtain ⟨σ', H', I', q⟩ := q
    exact h2 pins s1 σ' H' D I' q
  | ret v => exact q
  | brk => exact q
  | cont => exact q
theorem pss_one (h1 : PS X st t) : PSs X [st] t := by
  intro pins s σ H D I h
  refine wpAny_execs_cons (thn (h1 pins s σ H D I h) fun f s1 q => ?_)
  cases f with
  | next => exact wpAny_execs_nil q
  | ret v => exact q
  | brk => exact q
  | cont => exact q
/-- in a def's body nothing is shown -/
theorem Inv.quiet {pins : List (Addr × Obj)} {σ : St} {H : Hp} {s : Shared} (I : Inv X pins σ H s) : interactive X.env = false := by simp [interactive, I.ok.kind]
/-- an expression whose value is dropped -/
noncomputable def tDrop (te : TE) : TS := fun D σ H => te σ H fun _ H1 => D.nx σ H1
theorem ps_expr (he : PE X e te) (hs : swapsWith e none pos.line X.env = pure false := by rfl) : PS X (.Expr e pos) (tDrop te) := by
  intro pins s σ H D I h
  exact wpAny_Expr_any (thn (he pins s σ H _ I h) fun v s1 ⟨x, H1, I1, r1, q1⟩ => ⟨σ, H1, I1, q1⟩) I.quiet hs
noncomputable def tRet (te : TE) : TS := fun D σ H => te σ H D.rt
theorem ps_ret (he : PE X e te) : PS X (.Return (some e) pos) (tRet te) := by
  intro pins s σ H D I h
  exact wpAny_Return_some (thn (he pins s σ H _ I h) fun v s1 ⟨x, H1, I1, r1, q1⟩ => ⟨x, σ, H1, I1, r1, q1⟩)
noncomputable def tIfS (c : TT) (t u : TS) : TS := fun D σ H => c σ H fun b H1 => if b = true then t D σ H1 else u D σ H1
theorem ps_if {c : Expr} {a b : List Stmt} {tc : TT} (hc : PT X c tc) (ha : PSs X a t) (hb : PSs X b u) : PS X (.If c a b pos) (tIfS tc t u) := by
  intro pins s σ H D I h
  refine wpAny_If (thn (hc pins s σ H _ I h) fun d s1 ⟨H1, I1, q1⟩ => ?_)
  cases d with
  | true => exact ha pins s1 σ H1 D I1 q1
  | false => exact hb pins s1 σ H1 D I1 q1
end
/-! ### targets -/
noncomputable abbrev TG := V → St → Hp → (St → Hp → Prop) → Prop
noncomputable def PG (X : Cx) (target : Expr) (t : TG) : Prop :=
  ∀ (pins : List (Addr × Obj)) (s : Shared) (σ : St) (H : Hp) (v : V) (u : Value) (Q : St → Hp → Prop), Inv X pins σ H s → RelV v u → t v σ H Q →
    wpAny (model X.prog X.w) X.A (assign target X.env u) (fun _ s' => ∃ σ' H', Inv X pins σ' H' s' ∧ Q σ' H') X.xe s
section
variable {X : Cx} {pos : Pos}
noncomputable def gName (i : Nat) : TG := fun v σ H Q => Q (σ.set i (some v)) H
theorem pg_name {i : Nat} {x : Str} (hN : X.N.Nodup) (hi : X.N[i]? = some x) (hx : Loc X.env.scope x) (hf : X.fn x = true ∨ X.env.scope.names.lookup x = some .local := by first | exact .inl rfl | exact .inr rfl | assumption) : PG X (.Name x pos) (gName i) := by
  intro pins s σ H v u Q I r h
  exact wpAny_assign_Name (store_ok I hN hi hx r (fun s' I' => ⟨_, H, I', h⟩) hf)
/-- target = value -/
noncomputable def tAsg (te : TE) (g : TG) : TS := fun D σ H => te σ H fun x H1 => g x σ H1 D.nx
/-- name = value -/
theorem ps_set {i : Nat} {x : Str} {e : Expr} {te : TE} {pos' : Pos} (hN : X.N.Nodup) (hi : X.N[i]? = some x) (hx : Loc X.env.scope x) (he : PE X e te) (hs : swapsWith e (some (.Name x pos')) pos.line X.env = pure false := by rfl) (hf : X.fn x = true ∨ X.env.scope.names.lookup x = some .local := by first | exact .inl rfl | exact .inr rfl | assumption) :
    PS X (.Assign [.Name x pos'] e pos) (tAsg te (gName i)) := by
  intro pins s σ H D I h
  refine wpAny_Assign_Name (thn (he pins s σ H _ I h) fun v s1 ⟨y, H1, I1, r1, q1⟩ => ?_) hs
  exact store_ok I1 hN hi hx r1 (fun s2 I2 => ⟨_, H1, I2, q1⟩) hf
end
/-! ### while -/
section
variable {X : Cx} {pos : Pos}
/-- the invariant W with its measure -/
noncomputable def tWhile (c : TT) (tb : TS) : TS := fun D σ H => ∃ W : Nat → St → Hp → Prop, (∃ m, W m σ H) ∧ ∀ m σ H, W m σ H →
  c σ H fun b H1 => if b = true then ∃ N : St → Hp → Prop, (∀ σ' H', N σ' H' → ∃ m', m' < m ∧ W m' σ' H') ∧ tb { D with nx := N, ct := N, bk := D.nx } σ H1 else D.nx σ H1
theorem ps_while {c : Expr} {body : List Stmt} {tc : TT} {tb : TS} (hp : PassesOwn (model X.prog X.w) X.A X.env X.xe) (hc : PT X c tc) (hb : PSs X body tb) : PS X (.While c body [] pos) (tWhile tc tb) := by
  intro pins s σ H D I h
  obtain ⟨W, ⟨m0, w0⟩, turn⟩ := h
  refine wpAny_While (codeAny_whileLoop (fun n s' => ∃ σ' H', Inv X pins σ' H' s' ∧ W n σ' H') ?_ m0 ⟨σ, H, I, w0⟩)
  rintro n s1 ⟨σ1, H1, I1, w1⟩
  refine wpAny_passesOwn hp (thn (hc pins s1 σ1 H1 _ I1 (turn n σ1 H1 w1)) fun b s2 ⟨H2, I2, q2⟩ => ?_)
  cases b with
  | true =>
    obtain ⟨N, hN, q2⟩ := q2
    rw [if_pos rfl]
    refine wpAny_passesOwn hp (thn (hb pins s2 σ1 H2 _ I2 q2) fun f s3 q3 => ?_)
    cases f with
    | next =>
      obtain ⟨σ3, H3, I3, n3⟩ := q3
      obtain ⟨m', hm, w3⟩ := hN σ3 H3 n3
      exact ⟨m', hm, σ3, H3, I3, w3⟩
    | cont =>
      obtain ⟨σ3, H3, I3, n3⟩ := q3
      obtain ⟨m', hm, w3⟩ := hN σ3 H3 n3
      exact ⟨m', hm, σ3, H3, I3, w3⟩
    | brk => exact q3
    | ret v => exact q3
  | false =>
    rw [if_neg Bool.false_ne_true]
    exact wpAny_execs_nil ⟨σ1, H2, I2, q2⟩
end
/-! ### what a loop or a comprehension walks -/
/-- at turn i: it yields x (the heap may grow), or it stops -/
structure It where
  go : Nat → Hp → Prop
  yld : Nat → Hp → V → Hp → Prop
  stop : Nat → Hp → Prop
/-- the iterator's own objects may turn: they are not the frame's, not pinned, younger than the entry (or a comprehension's own) -/
noncomputable def FpOk (X : Cx) (pins : List (Addr × Obj)) (H : Hp) (b : Addr) : Prop :=
  H b = none ∧ b ≠ X.env.locals ∧ b ∉ X.fs ∧ (b ∈ X.ex ∨ X.s_0.heap.objs.size ≤ b) ∧ (∀ x c, X.env.cells.lookup x = some c → c ≠ b) ∧ ∀ p ∈ X.pn ++ pins, p.1 ≠ b
theorem Inv.fpOk {X : Cx} {pins : List (Addr × Obj)} {σ : St} {H H' : Hp} {s : Shared} {b : Addr} (I : Inv X pins σ H s) (hb : s.heap.objs.size ≤ b) (hn : H' b = none) : FpOk X pins H' b := by
  refine ⟨hn, Nat.ne_of_gt (Nat.lt_of_lt_of_le I.lt hb), I.nofs hb, .inr (Nat.le_trans I.sz hb), fun x c e z => ?_, fun p hp z => ?_⟩
  · obtain ⟨v, q⟩ := I.cell x c e
    exact absurd (Nat.lt_of_lt_of_le q.lt (by rw [z]; exact hb)) (Nat.lt_irrefl _)
  · exact absurd (Nat.lt_of_lt_of_le (Heap.lt_size (I.pin p hp).1) (by rw [z]; exact hb)) (Nat.lt_irrefl _)
structure Turn (P : Program) (w : World) (K : PySem.W.Frag) (tg : Expr) (J : It) (fp : List Addr) (it : Addr) (tn : Nat → Heap → Prop) : Prop where
  mem : it ∈ fp
  obj : ∀ i h, tn i h → ∀ b ∈ fp, ∃ o, h.get? b = some o ∧ ∀ v, o.data ≠ .cell v
  keep : ∀ i h h', tn i h → (∀ b ∈ fp, ∀ o, h.get? b = some o → h'.get? b = some o) → tn i h'
  item : ∀ (X : Cx), X.prog = P → X.w = w → X.K = K → X.calm = true → ∀ (i : Nat) (pins : List (Addr × Obj)) (s : Shared) (σ : St) (H : Hp) (E : Value → Shared → Prop), Inv X pins σ H s → (∀ b ∈ fp, FpOk X pins H b) → tn i s.heap → J.go i H →
    wpAny (model P w) X.A (pyNext (.ref it)) (fun r s1 => ∃ u, r = some u ∧
      wpAny (model P w) X.A (letOwnedTupleGo tg (.ref it) u) (fun _ s2 => ∃ x H', Inv X pins σ H' s2 ∧ RelV x u ∧ J.yld i H x H' ∧ tn (i + 1) s2.heap ∧ ∀ b ∈ fp, H' b = none) E s1) E s
  done : ∀ (X : Cx), X.prog = P → X.w = w → X.K = K → X.calm = true → ∀ (i : Nat) (pins : List (Addr × Obj)) (s : Shared) (σ : St) (H : Hp) (E : Value → Shared → Prop), Inv X pins σ H s → (∀ b ∈ fp, FpOk X pins H b) → tn i s.heap → J.stop i H →
    wpAny (model P w) X.A (pyNext (.ref it)) (fun r s1 => r = none ∧ Inv X pins σ H s1) E s
  self : ∀ (A : Around) (i : Nat) (s : Shared) (Q : Value → Shared → Prop) (E : Value → Shared → Prop), tn i s.heap → Q (.ref it) s → wpAny (model P w) A (pyIter (.ref it)) Q E s
noncomputable abbrev TI := St → Hp → (It → Hp → Prop) → Prop
/-- an iterator has come -/
noncomputable def PIE (X : Cx) (pins : List (Addr × Obj)) (σ : St) (tg : Expr) (R : It → Hp → Prop) (itv : Value) (s2 : Shared) : Prop :=
  ∃ (it : Addr) (fp : List Addr) (tn : Nat → Heap → Prop) (J : It) (H' : Hp), itv = .ref it ∧ Inv X pins σ H' s2 ∧ Turn X.prog X.w X.K tg J fp it tn ∧ tn 0 s2.heap ∧ (∀ b ∈ fp, FpOk X pins H' b) ∧ R J H'
noncomputable def PI (X : Cx) (tg iter : Expr) (wi : TI) : Prop :=
  ∀ (pins : List (Addr × Obj)) (s : Shared) (σ : St) (H : Hp) (R : It → Hp → Prop), Inv X pins σ H s → wi σ H R →
    wpAny (model X.prog X.w) X.A (eval iter X.env) (fun v s1 => wpAny (model X.prog X.w) X.A (pyIter v) (PIE X pins σ tg R) X.xe s1) X.xe s
/-- the step ahead of the store is nothing for an iterator that keeps no tuple -/
theorem go_of {M : Model} {A : Around} {E : Value → Shared → Prop} {s : Shared} {tg : Expr} {it : Addr} {u : Value} {o : Obj} {n : String} {vs : Array Value} {Q : Unit → Shared → Prop} (ho : s.heap.get? it = some o) (hc : o.cls = .type n) (hd : o.data = .fields vs)
    (hn : ["enumerate", "zip", "dict_itemiterator", "dict_reverseitemiterator", "odict_iterator", "itertools.zip_longest", "itertools.pairwise"].contains n = false) (hQ : Q () s) : wpAny M A (letOwnedTupleGo tg (.ref it) u) Q E s := by
  unfold letOwnedTupleGo
  cases tg <;> first
    | exact wpAny_pure hQ
    | (cases u <;> first
        | exact wpAny_pure hQ
        | (refine wpAny_bind (wpAny_load ho ?_)
           rw [hc, hd]
           show wpAny M A (if (["enumerate", "zip", "dict_itemiterator", "dict_reverseitemiterator", "odict_iterator", "itertools.zip_longest", "itertools.pairwise"].contains n && vs[0]? == some (rawInt _)) = true then _ else _) Q E s
           rw [if_neg (by intro h; rw [hn, Bool.false_and] at h; cases h)]
           exact wpAny_pure hQ))
end L2
namespace L2
open PySem PySem.Spec PyProof.Rows
section
variable {X : Cx} {tg : Expr}
/-! ### for -/
/-- W: the invariant by the turn and a measure; N: what the body is to reach -/
noncomputable def tFor (wi : TI) (g : TG) (tb : TS) : TS := fun D σ H => wi σ H fun J H1 => ∃ W : Nat → Nat → St → Hp → Prop, (∃ m, W 0 m σ H1) ∧ ∀ i m σ H, W i m σ H →
  (J.stop i H ∧ D.nx σ H) ∨ (J.go i H ∧ ∃ N : St → Hp → Prop, (∀ σ' H', N σ' H' → ∃ m', m' < m ∧ W (i + 1) m' σ' H') ∧ ∀ x H', J.yld i H x H' → g x σ H' fun σ2 H2 => tb { D with nx := N, ct := N, bk := D.nx } σ2 H2)
/-- the records at fp as they stand -/
noncomputable def pinsAt (fp : List Addr) (h : Heap) : List (Addr × Obj) := fp.filterMap fun b => (h.get? b).map fun o => (b, o)
theorem mem_pinsAt {fp : List Addr} {h : Heap} {b : Addr} {o : Obj} (hb : b ∈ fp) (e : h.get? b = some o) : (b, o) ∈ pinsAt fp h := List.mem_filterMap.mpr ⟨b, hb, by rw [e]; rfl⟩
theorem of_pinsAt {fp : List Addr} {h : Heap} {p : Addr × Obj} (hp : p ∈ pinsAt fp h) : p.1 ∈ fp ∧ h.get? p.1 = some p.2 := by
  obtain ⟨b, hb, e⟩ := List.mem_filterMap.mp hp
  cases q : h.get? b with
  | none => rw [q] at e; cases e
  | some o =>
    rw [q] at e
    have e' : (b, o) = p := Option.some.inj e
    subst e'
    exact ⟨hb, q⟩
theorem Inv.pinned {pins : List (Addr × Obj)} {σ : St} {H : Hp} {s : Shared} {fp : List Addr} (I : Inv X pins σ H s) (hf : ∀ b ∈ fp, FpOk X pins H b) (ho : ∀ b ∈ fp, ∃ o, s.heap.get? b = some o ∧ ∀ v, o.data ≠ .cell v) : Inv X (pins ++ pinsAt fp s.heap) σ H s :=
  I.pins_of fun p hp => (List.mem_append.mp hp).elim (fun z => I.pin p (List.mem_append_right _ z)) fun z => by
    obtain ⟨hb, e⟩ := of_pinsAt z
    obtain ⟨f0, f1, f2, _⟩ := hf p.1 hb
    obtain ⟨o, e', d⟩ := ho p.1 hb
    rw [e] at e'; cases e'
    exact ⟨e, f0, f1, f2, d⟩
theorem Inv.unpinned {pins pl : List (Addr × Obj)} {σ : St} {H : Hp} {s : Shared} (I : Inv X (pins ++ pl) σ H s) : Inv X pins σ H s := I.pins_of fun p hp => I.pin p (List.mem_append_right _ (List.mem_append_left _ hp))
theorem ps_for {iter : Expr} {body : List Stmt} {wi : TI} {g : TG} {tb : TS} {pos : Pos} (hp : PassesOwn (model X.prog X.w) X.A X.env X.xe) (hc : X.calm = true) (hi : PI X tg iter wi) (hg : PG X tg g) (hb : PSs X body tb)
    (hs : ∀ x, foldedSetIterable iter X.env x = pure x := by intro _; rfl) : PS X (.For tg iter body [] pos) (tFor wi g tb) := by
  intro pins s σ H D I h
  refine wpAny_For (thn (hi pins s σ H _ I h) fun v s1 h1 => thn h1 fun itv s2 h2 => ?_) hs
  obtain ⟨it, fp, tn, J, H2, e, I2, T, st2, f2, W, ⟨m0, w0⟩, turn⟩ := h2
  subst e
  -- what stays true of the iterator's objects through the loop
  have stat : ∀ {H' : Hp}, (∀ b ∈ fp, H' b = none) → ∀ b ∈ fp, FpOk X pins H' b := fun hn b hb => ⟨hn b hb, (f2 b hb).2⟩
  refine codeAny_forLoop_any (fun n s' => ∃ i σ' H', Inv X pins σ' H' s' ∧ tn i s'.heap ∧ (∀ b ∈ fp, H' b = none) ∧ W i n σ' H') ?_ m0 ⟨0, σ, H2, I2, st2, fun b hb => (f2 b hb).1, w0⟩
  rintro n s3 ⟨i, σ3, H3, I3, st3, fr3, w3⟩
  rcases turn i n σ3 H3 w3 with ⟨stop, qn⟩ | ⟨go, N, hN, step⟩
  · refine wpAny_passesOwn hp (thn (T.done X rfl rfl rfl hc i pins s3 σ3 H3 X.xe I3 (stat fr3) st3 stop) fun r s4 ⟨hr, I4⟩ => ?_)
    subst hr
    exact wpAny_execs_nil ⟨σ3, H3, I4, qn⟩
  · refine wpAny_passesOwn hp (thn (T.item X rfl rfl rfl hc i pins s3 σ3 H3 X.xe I3 (stat fr3) st3 go) fun r s4 ⟨u, hr, h4⟩ => ?_)
    subst hr
    refine wpAny_passesOwn hp (thn h4 fun _ s5 ⟨x, H5, I5, r5, y5, st5, fr5⟩ => ?_)
    have I5' := I5.pinned (stat fr5) (T.obj _ _ st5)
    refine wpAny_passesOwn hp (thn (hg _ s5 σ3 H5 x u _ I5' r5 (step x H5 y5)) fun _ s6 ⟨σ6, H6, I6, q6⟩ => ?_)
    refine wpAny_passesOwn hp (thn (hb _ s6 σ6 H6 _ I6 q6) fun f s7 q7 => ?_)
    have again : ∀ {σ7 : St} {H7 : Hp}, Inv X (pins ++ pinsAt fp s5.heap) σ7 H7 s7 → N σ7 H7 → ∃ m, m < n ∧ ∃ i σ' H', Inv X pins σ' H' s7 ∧ tn i s7.heap ∧ (∀ b ∈ fp, H' b = none) ∧ W i m σ' H' := fun {σ7 H7} I7 n7 => by
      obtain ⟨m', hm, w7⟩ := hN σ7 H7 n7
      refine ⟨m', hm, i + 1, σ7, H7, I7.unpinned, T.keep _ _ _ st5 fun b hb o e => (I7.pin (b, o) (List.mem_append_right _ (List.mem_append_right _ (mem_pinsAt hb e)))).1, fun b hb => ?_, w7⟩
      obtain ⟨o, e, d⟩ := T.obj _ _ st5 b hb
      exact (I7.pin (b, o) (List.mem_append_right _ (List.mem_append_right _ (mem_pinsAt hb e)))).2.1
    cases f with
    | next => obtain ⟨σ7, H7, I7, n7⟩ := q7; exact again I7 n7
    | cont => obtain ⟨σ7, H7, I7, n7⟩ := q7; exact again I7 n7
    | brk => obtain ⟨σ7, H7, I7, q7⟩ := q7; exact ⟨σ7, H7, I7.unpinned, q7⟩
    | ret v => obtain ⟨x7, σ7, H7, I7, r7, q7⟩ := q7; exact ⟨x7, σ7, H7, I7.unpinned, r7, q7⟩
end
/-! ### the forms one uses -/
end L2
namespace L2
open PySem PySem.Spec PyProof.Rows
noncomputable abbrev R2 := V → V → Hp → VK → Prop
/-- a two-place operation on values: f is binaryOp op, inplaceOp op or compareOp op -/
noncomputable def OpR (X : Cx) (f : Value → Value → Sem Value) (r : R2) : Prop :=
  ∀ (pins : List (Addr × Obj)) (s : Shared) (σ : St) (H : Hp) (x y : V) (v u : Value) (Q : VK), Inv X pins σ H s → RelV x v → RelV y u → r x y H Q →
    wpAny (model X.prog X.w) X.A (f v u) (EP X pins σ Q) X.xe s
/-- a one-place operation -/
noncomputable def UnR (X : Cx) (f : Value → Sem Value) (r : V → Hp → VK → Prop) : Prop :=
  ∀ (pins : List (Addr × Obj)) (s : Shared) (σ : St) (H : Hp) (x : V) (v : Value) (Q : VK), Inv X pins σ H s → RelV x v → r x H Q →
    wpAny (model X.prog X.w) X.A (f v) (EP X pins σ Q) X.xe s
/-- a call of a value that is known (a builtin, a type) with values -/
noncomputable def CallR (X : Cx) (f : Value) (r : List V → Hp → VK → Prop) : Prop :=
  ∀ (pins : List (Addr × Obj)) (s : Shared) (σ : St) (H : Hp) (xs : List V) (us : List Value) (Q : VK), Inv X pins σ H s → Vals xs us → r xs H Q →
    wpAny (model X.prog X.w) X.A (call f us) (EP X pins σ Q) X.xe s
noncomputable def tOp (r : R2) (ta tb : TE) : TE := fun σ H Q => ta σ H fun x H1 => tb σ H1 fun y H2 => r x y H2 Q
noncomputable def tUn (r : V → Hp → VK → Prop) (ta : TE) : TE := fun σ H Q => ta σ H fun x H1 => r x H1 Q
/-- ints in, under C, and a value out -/
noncomputable def rI (C : Int → Int → Prop) (g : Int → Int → V) : R2 := fun x y H Q => ∃ i j, x = .int i ∧ y = .int j ∧ C i j ∧ Q (g i j) H
noncomputable def rI0 (g : Int → Int → V) : R2 := fun x y H Q => ∃ i j, x = .int i ∧ y = .int j ∧ Q (g i j) H
noncomputable def rU (g : Int → V) : V → Hp → VK → Prop := fun x H Q => ∃ i, x = .int i ∧ Q (g i) H
section
variable {X : Cx} {a b c : Expr} {ta tb tc : TE} {pos : Pos}
theorem binT (ha : PE X a ta) (hb : PE X b tb) {pins : List (Addr × Obj)} {s : Shared} {σ : St} {H : Hp} {R : V → V → Hp → Prop} (I : Inv X pins σ H s)
    (h : ta σ H fun x H1 => tb σ H1 fun y H2 => R x y H2) {Q : Value → Shared → Prop} {f : Value → Value → Sem Value}
    (hf : ∀ v u s2 x y H2, Inv X pins σ H2 s2 → RelV x v → RelV y u → R x y H2 → wpAny (model X.prog X.w) X.A (f v u) Q X.xe s2) :
    wpAny (model X.prog X.w) X.A (eval a X.env) (fun v s₁ => wpAny (model X.prog X.w) X.A (eval b X.env) (fun u s₂ => wpAny (model X.prog X.w) X.A (f v u) Q X.xe s₂) X.xe s₁) X.xe s := by
  refine thn (ha pins s σ H _ I h) fun v s1 ⟨x, H1, I1, r1, q1⟩ => ?_
  refine thn (hb pins s1 σ H1 _ I1 q1) fun u s2 ⟨y, H2, I2, r2, q2⟩ => ?_
  exact hf v u s2 x y H2 I2 r1 r2 q2
theorem pe_op {op : Operator} {r : R2} (ho : OpR X (binaryOp op) r) (ha : PE X a ta) (hb : PE X b tb) : PE X (.BinOp a op b pos) (tOp r ta tb) := by
  intro pins s σ H Q I h
  exact wpAny_BinOp (binT ha hb I h fun v u s2 x y H2 I2 rx ry q => ho pins s2 σ H2 x y v u Q I2 rx ry q)
theorem pe_un {op : UnaryOp} {r : V → Hp → VK → Prop} (ho : UnR X (unaryOp op) r) (ha : PE X a ta) : PE X (.UnaryOp op a pos) (tUn r ta) := by
  intro pins s σ H Q I h
  exact UnaryOp_ (thn (ha pins s σ H _ I h) fun v s1 ⟨x, H1, I1, r1, q1⟩ => ho pins s1 σ H1 x v Q I1 r1 q1)
/-! ### ints -/
theorem opI {f : Value → Value → Sem Value} {C : Int → Int → Prop} {g : Int → Int → Int}
    (rule : ∀ (i j : Int) (t u : Tok) (s : Shared) (Q : Value → Shared → Prop) (E : Value → Shared → Prop), C i j → Q (.int (g i j) s.toks) { s with toks := s.toks + 1 } → wpAny (model X.prog X.w) X.A (f (.int i t) (.int j u)) Q E s) :
    OpR X f (rI C fun i j => .int (g i j)) := by
  intro pins s σ H x y v u Q I rx ry h
  obtain ⟨i, j, rfl, rfl, hc, q⟩ := h
  obtain ⟨t, rfl⟩ := rx
  obtain ⟨t', rfl⟩ := ry
  exact rule i j t t' s _ _ hc ⟨.int (g i j), H, I.tok _, ⟨_, rfl⟩, q⟩
theorem opI0 {f : Value → Value → Sem Value} {g : Int → Int → Int}
    (rule : ∀ (i j : Int) (t u : Tok) (s : Shared) (Q : Value → Shared → Prop) (E : Value → Shared → Prop), Q (.int (g i j) s.toks) { s with toks := s.toks + 1 } → wpAny (model X.prog X.w) X.A (f (.int i t) (.int j u)) Q E s) :
    OpR X f (rI0 fun i j => .int (g i j)) := by
  intro pins s σ H x y v u Q I rx ry h
  obtain ⟨i, j, rfl, rfl, q⟩ := h
  obtain ⟨t, rfl⟩ := rx
  obtain ⟨t', rfl⟩ := ry
  exact rule i j t t' s _ _ ⟨.int (g i j), H, I.tok _, ⟨_, rfl⟩, q⟩
theorem opB0 {f : Value → Value → Sem Value} {g : Int → Int → Bool}
    (rule : ∀ (i j : Int) (t u : Tok) (s : Shared) (Q : Value → Shared → Prop) (E : Value → Shared → Prop), Q (.bool (g i j)) s → wpAny (model X.prog X.w) X.A (f (.int i t) (.int j u)) Q E s) :
    OpR X f (rI0 fun i j => .bl (g i j)) := by
  intro pins s σ H x y v u Q I rx ry h
  obtain ⟨i, j, rfl, rfl, q⟩ := h
  obtain ⟨t, rfl⟩ := rx
  obtain ⟨t', rfl⟩ := ry
  exact rule i j t t' s _ _ ⟨.bl (g i j), H, I, rfl, q⟩
theorem two_pow_nn (k : Nat) : (0 : Int) ≤ 2 ^ k := by
  rw [two_pow_cast]
  exact Int.natCast_nonneg _
theorem op_add : OpR X (binaryOp .Add) (rI0 fun i j => .int (i + j)) := opI0 fun _ _ _ _ _ _ _ q => add_int q
theorem op_sub : OpR X (binaryOp .Sub) (rI0 fun i j => .int (i - j)) := opI0 fun _ _ _ _ _ _ _ q => sub_int q
/-- % by a positive divisor of any size -/
theorem op_mod : OpR X (binaryOp .Mod) (rI (fun _ j => 0 < j) fun i j => .int (i % j)) := opI fun i j _ _ _ _ _ hc q => by
  have h1 : (0 : Int) < j := hc
  exact mod_int' (by omega) (by rw [Int.fmod_eq_emod_of_nonneg i (by omega)]; exact q)
theorem op_shr : OpR X (binaryOp .RShift) (rI (fun _ j => 0 ≤ j) fun i j => .int (i / 2 ^ j.toNat)) := opI fun i j _ _ _ _ _ hc q =>
  rshift_int hc (by rw [Int.fdiv_eq_ediv_of_nonneg i (two_pow_nn _)]; exact q)
theorem op_and : OpR X (binaryOp .BitAnd) (rI0 fun i j => .int (Builtin.bitAnd i j)) := opI0 fun _ _ _ _ _ _ _ q => and_int q
theorem op_xor : OpR X (binaryOp .BitXor) (rI0 fun i j => .int (Builtin.bitXor i j)) := opI0 fun _ _ _ _ _ _ _ q => xor_int q
theorem unI {f : Value → Sem Value} {g : Int → Int}
    (rule : ∀ (i : Int) (t : Tok) (s : Shared) (Q : Value → Shared → Prop) (E : Value → Shared → Prop), Q (.int (g i) s.toks) { s with toks := s.toks + 1 } → wpAny (model X.prog X.w) X.A (f (.int i t)) Q E s) :
    UnR X f (rU fun i => .int (g i)) := by
  intro pins s σ H x v Q I rx h
  obtain ⟨i, rfl, q⟩ := h
  obtain ⟨t, rfl⟩ := rx
  exact rule i t s _ _ ⟨.int (g i), H, I.tok _, ⟨_, rfl⟩, q⟩
theorem un_neg : UnR X (unaryOp .USub) (rU fun i => .int (-i)) := unI fun _ _ _ _ _ q => neg_int q
/-! ### bools among ints: n += (a < b) -/
end
/-! ### comparisons -/
/-- the scalars that == tells apart as data does -/
noncomputable def scal : V → V → Bool
  | .non, .non => true | .non, .int _ => true | .int _, .non => true | .non, .bl _ => true | .bl _, .non => true | .non, .str _ => true | .str _, .non => true
  | .int _, .int _ => true | .bl _, .bl _ => true | .str _, .str _ => true | .byt _, .byt _ => true
  | .int _, .str _ => true | .str _, .int _ => true | .bl _, .str _ => true | .str _, .bl _ => true
  | _, _ => false
noncomputable def rEq : R2 := fun x y H Q => scal x y = true ∧ Q (.bl (decide (x = y))) H
noncomputable def rNe : R2 := fun x y H Q => scal x y = true ∧ Q (.bl (!decide (x = y))) H
theorem dec_int {i j : Int} : decide (V.int i = V.int j) = (i == j) := by
  rw [Bool.eq_iff_iff]
  simp
theorem dec_bl {i j : Bool} : decide (V.bl i = V.bl j) = (i == j) := by
  rw [Bool.eq_iff_iff]
  simp
theorem dec_str {i j : Str} : decide (V.str i = V.str j) = (i == j) := by
  rw [Bool.eq_iff_iff]
  simp
theorem dec_byt {i j : Array UInt8} : decide (V.byt i = V.byt j) = (i.toList == j.toList) := by
  rw [Bool.eq_iff_iff]
  cases i
  cases j
  simp
section
variable {X : Cx} {a b c : Expr} {ta tb tc : TE} {pos : Pos}
theorem fin_bl {pins : List (Addr × Obj)} {σ : St} {H : Hp} {s : Shared} {Q : VK} {k k' : Bool} (I : Inv X pins σ H s) (q : Q (.bl k) H) (e : k = k') : EP X pins σ Q (.bool k') s := by
  subst e
  exact ⟨.bl k, H, I, rfl, q⟩
theorem op_eq : OpR X (compareOp .Eq) rEq := by
  intro pins s σ H x y v u Q I rx ry h
  obtain ⟨hs, q⟩ := h
  cases x with
  | non =>
    cases rx
    cases y with
    | non => cases ry; exact PySem.EqNone.eq_none_none (fin_bl I q (by simp))
    | bl j => cases ry; exact PySem.EqNone.eq_none_bool (fin_bl I q (by simp))
    | int j => obtain ⟨t', rfl⟩ := ry; exact PySem.EqNone.eq_none_int (fin_bl I q (by simp))
    | str j => obtain ⟨t', rfl⟩ := ry; exact PySem.EqNone.eq_none_str (fin_bl I q (by simp))
    | _ => exact absurd (show false = true from hs) Bool.false_ne_true
  | bl i =>
    cases rx
    cases y with
    | non => cases ry; exact PySem.EqNone.eq_bool_none (fin_bl I q (by simp))
    | bl j => cases ry; exact eq_bool (fin_bl I q dec_bl)
    | str j => obtain ⟨t', rfl⟩ := ry; exact PySem.EqMixed.eq_bool_str (fin_bl I q (by simp))
    | _ => exact absurd (show false = true from hs) Bool.false_ne_true
  | int i =>
    obtain ⟨t, rfl⟩ := rx
    cases y with
    | non => cases ry; exact PySem.EqNone.eq_int_none (fin_bl I q (by simp))
    | int j => obtain ⟨t', rfl⟩ := ry; exact eq_int (fin_bl I q dec_int)
    | str j => obtain ⟨t', rfl⟩ := ry; exact PySem.EqMixed.eq_int_str (fin_bl I q (by simp))
    | _ => exact absurd (show false = true from hs) Bool.false_ne_true
  | str i =>
    obtain ⟨t, rfl⟩ := rx
    cases y with
    | non => cases ry; exact PySem.EqNone.eq_str_none (fin_bl I q (by simp))
    | bl j => cases ry; exact PySem.EqMixed.eq_str_bool (fin_bl I q (by simp))
    | int j => obtain ⟨t', rfl⟩ := ry; exact PySem.EqMixed.eq_str_int (fin_bl I q (by simp))
    | str j => obtain ⟨t', rfl⟩ := ry; exact eq_str (fin_bl I q dec_str)
    | _ => exact absurd (show false = true from hs) Bool.false_ne_true
  | byt i =>
    obtain ⟨t, rfl⟩ := rx
    cases y with
    | byt j => obtain ⟨t', rfl⟩ := ry; exact PySem.W.eq_bytes (fin_bl I q dec_byt)
    | _ => exact absurd (show false = true from hs) Bool.false_ne_true
  | _ => cases y <;> exact absurd (show false = true from hs) Bool.false_ne_true
theorem op_ne : OpR X (compareOp .NotEq) rNe := by
  intro pins s σ H x y v u Q I rx ry h
  obtain ⟨hs, q⟩ := h
  cases x with
  | non =>
    cases rx
    cases y with
    | non => cases ry; exact PySem.EqNone.ne_none_none (fin_bl I q (by simp))
    | bl j => cases ry; exact PySem.EqNone.ne_none_bool (fin_bl I q (by simp))
    | int j => obtain ⟨t', rfl⟩ := ry; exact PySem.EqNone.ne_none_int (fin_bl I q (by simp))
    | str j => obtain ⟨t', rfl⟩ := ry; exact PySem.EqNone.ne_none_str (fin_bl I q (by simp))
    | _ => exact absurd (show false = true from hs) Bool.false_ne_true
  | bl i =>
    cases rx
    cases y with
    | non => cases ry; exact PySem.EqNone.ne_bool_none (fin_bl I q (by simp))
    | bl j => cases ry; exact ne_bool (fin_bl I q (congrArg not dec_bl))
    | str j => obtain ⟨t', rfl⟩ := ry; exact PySem.EqMixed.ne_bool_str (fin_bl I q (by simp))
    | _ => exact absurd (show false = true from hs) Bool.false_ne_true
  | int i =>
    obtain ⟨t, rfl⟩ := rx
    cases y with
    | non => cases ry; exact PySem.EqNone.ne_int_none (fin_bl I q (by simp))
    | int j => obtain ⟨t', rfl⟩ := ry; exact ne_int (fin_bl I q (congrArg not dec_int))
    | str j => obtain ⟨t', rfl⟩ := ry; exact PySem.EqMixed.ne_int_str (fin_bl I q (by simp))
    | _ => exact absurd (show false = true from hs) Bool.false_ne_true
  | str i =>
    obtain ⟨t, rfl⟩ := rx
    cases y with
    | non => cases ry; exact PySem.EqNone.ne_str_none (fin_bl I q (by simp))
    | bl j => cases ry; exact PySem.EqMixed.ne_str_bool (fin_bl I q (by simp))
    | int j => obtain ⟨t', rfl⟩ := ry; exact PySem.EqMixed.ne_str_int (fin_bl I q (by simp))
    | str j => obtain ⟨t', rfl⟩ := ry; exact ne_str (fin_bl I q (congrArg not dec_str))
    | _ => exact absurd (show false = true from hs) Bool.false_ne_true
  | byt i =>
    obtain ⟨t, rfl⟩ := rx
    cases y with
    | byt j => obtain ⟨t', rfl⟩ := ry; exact PySem.W.ne_bytes (fin_bl I q (congrArg not dec_byt))
    | _ => exact absurd (show false = true from hs) Bool.false_ne_true
  | _ => cases y <;> exact absurd (show false = true from hs) Bool.false_ne_true
theorem op_lt : OpR X (compareOp .Lt) (rI0 fun i j => .bl (decide (i < j))) := opB0 fun _ _ _ _ _ _ _ q => lt_int q
theorem op_le : OpR X (compareOp .LtE) (rI0 fun i j => .bl (decide (i ≤ j))) := opB0 fun _ _ _ _ _ _ _ q => le_int q
theorem op_gt : OpR X (compareOp .Gt) (rI0 fun i j => .bl (decide (j < i))) := opB0 fun _ _ _ _ _ _ _ q => gt_int q
theorem op_ge : OpR X (compareOp .GtE) (rI0 fun i j => .bl (decide (j ≤ i))) := opB0 fun _ _ _ _ _ _ _ q => ge_int q
theorem nomark (b : Expr) {op : CmpOp} (h : op ≠ .In := by decide) (h2 : op ≠ .NotIn := by decide) : behindInMarks op b = false := by
  have e1 : (op == CmpOp.In) = false := by cases op <;> first | rfl | exact absurd rfl h
  have e2 : (op == CmpOp.NotIn) = false := by cases op <;> first | rfl | exact absurd rfl h2
  cases b <;> simp [behindInMarks, e1, e2]
/-- a comparison as a value; hm: nomark b, or (for in, not in) by with_unfolding_all rfl -/
theorem pe_cmpR {op : CmpOp} {r : R2} (ho : OpR X (compareOp op) r) (ha : PE X a ta) (hb : PE X b tb) (hm : behindInMarks op b = false) : PE X (.Compare a [op] [b] pos) (tOp r ta tb) := by
  intro pins s σ H Q I h
  exact wpAny_Compare1 (binT ha hb I h fun v u s2 x y H2 I2 rx ry q => ho pins s2 σ H2 x y v u Q I2 rx ry q) hm
/-- a reading of a value as a test -/
noncomputable def tTest (t : TE) : TT := fun σ H Q => t σ H fun x H' => ∃ k, x = .bl k ∧ Q k H'
theorem pt_cmpR {op : CmpOp} {r : R2} (ho : OpR X (compareOp op) r) (ha : PE X a ta) (hb : PE X b tb) (hm : behindInMarks op b = false) : PT X (.Compare a [op] [b] pos) (tTest (tOp r ta tb)) := by
  intro pins s σ H Q I h
  refine wpAny_isTrue_Compare1 (thn (ha pins s σ H _ I h) fun v s1 ⟨x, H1, I1, r1, q1⟩ => thn (hb pins s1 σ H1 _ I1 q1) fun u s2 ⟨y, H2, I2, r2, q2⟩ =>
    thn (ho pins s2 σ H2 x y v u _ I2 r1 r2 q2) fun c s3 ⟨z, H3, I3, r3, k, e, q3⟩ => ?_) hm
  subst e
  cases r3
  exact wpAny_truthy_bool ⟨H3, I3, q3⟩
/-! ### truth -/
theorem line63 : (sizeLine : Nat) < 2 ^ 63 := by rw [sizeLine_eq]; decide
/-! ### strs and bytes -/
/-! ### scalar builtins, by CallR -/
theorem vals1 {x : V} {us : List Value} (r : Vals [x] us) : ∃ u, us = [u] ∧ RelV x u := by
  cases r with
  | cons r1 r2 => cases r2; exact ⟨_, rfl, r1⟩
theorem vals2 {x y : V} {us : List Value} (r : Vals [x, y] us) : ∃ u w', us = [u, w'] ∧ RelV x u ∧ RelV y w' := by
  cases r with
  | cons r1 r2 =>
    cases r2 with
    | cons r3 r4 => cases r4; exact ⟨_, _, rfl, r1, r3⟩
theorem call_max2 (hc : X.calm = true) : CallR X (.builtin "max") (fun xs H Q => ∃ i j, xs = [.int i, .int j] ∧ Q (.int (if j > i then j else i)) H) := by
  intro pins s σ H xs us Q I r h
  obtain ⟨i, j, rfl, q⟩ := h
  obtain ⟨u, w', rfl, ⟨t, rfl⟩, ⟨t', rfl⟩⟩ := vals2 r
  refine max_two_ints (I.ok.hd hc) fun h' tk k => ⟨_, H, I.kept k, ?_, q⟩
  by_cases hj : j > i
  · rw [if_pos hj, if_pos hj]; exact ⟨_, rfl⟩
  · rw [if_neg hj, if_neg hj]; exact ⟨_, rfl⟩
theorem call_min2 (hc : X.calm = true) : CallR X (.builtin "min") (fun xs H Q => ∃ i j, xs = [.int i, .int j] ∧ Q (.int (if j < i then j else i)) H) := by
  intro pins s σ H xs us Q I r h
  obtain ⟨i, j, rfl, q⟩ := h
  obtain ⟨u, w', rfl, ⟨t, rfl⟩, ⟨t', rfl⟩⟩ := vals2 r
  refine min_two_ints (I.ok.hd hc) fun h' tk k => ⟨_, H, I.kept k, ?_, q⟩
  by_cases hj : j < i
  · rw [if_pos hj, if_pos hj]; exact ⟨_, rfl⟩
  · rw [if_neg hj, if_neg hj]; exact ⟨_, rfl⟩
theorem call_ord : CallR X (.builtin "ord") (fun xs H Q => ∃ x, xs = [.str x] ∧ x.length = 1 ∧ Q (.int (x.cps.getD 0 0 : Nat)) H) := by
  intro pins s σ H xs us Q I r h
  obtain ⟨x, rfl, hz, q⟩ := h
  obtain ⟨u, rfl, t, rfl⟩ := vals1 r
  exact ord_of_one hz ⟨.int _, H, I.tok _, ⟨_, rfl⟩, q⟩
/-- len of a str, a bytes, a list, a tuple -/
noncomputable def LenV (K : PySem.W.Frag) (x : V) (H : Hp) (n : Nat) : Prop :=
  match x with
  | .str y => y.length ≤ sizeLine ∧ n = y.length
  | .byt y => y.size ≤ sizeLine ∧ n = y.size
  | .ref p => (∃ xs, SqL K H p xs ∧ n = xs.length) ∨ ∃ xs, SqT K H p xs ∧ n = xs.length
  | _ => False
theorem call_len : CallR X (.builtin "len") (fun xs H Q => ∃ x n, xs = [x] ∧ LenV X.K x H n ∧ Q (.int n) H) := by
  intro pins s σ H xs us Q I r h
  obtain ⟨x, n, rfl, e, q⟩ := h
  obtain ⟨u, rfl, rx⟩ := vals1 r
  have hl := line63
  have hs : sizeLine = 16777216 := sizeLine_eq
  cases x with
  | str y =>
    obtain ⟨t, rfl⟩ := rx
    obtain ⟨hy, e'⟩ : y.length ≤ sizeLine ∧ n = y.length := e
    subst e'
    exact len_str (by omega) ⟨.int _, H, I.tok _, ⟨_, rfl⟩, q⟩
  | byt y =>
    obtain ⟨t, rfl⟩ := rx
    obtain ⟨hy, e'⟩ : y.size ≤ sizeLine ∧ n = y.size := e
    subst e'
    exact PySem.W.len_bytes (by omega) ⟨.int _, H, I.tok _, ⟨_, rfl⟩, q⟩
  | ref p =>
    cases rx
    have e' : (∃ xs, SqL X.K H p xs ∧ n = xs.length) ∨ ∃ xs, SqT X.K H p xs ∧ n = xs.length := e
    rcases e' with ⟨xs, hx, e'⟩ | ⟨xs, hx, e'⟩
    · subst e'
      obtain ⟨its, r', pl, hz⟩ := I.list hx
      have hlen := r'.length
      exact Calls.call_len_list pl.isList (by simp only [List.size_toArray]; omega) ⟨.int xs.length, H, I.tok _, ⟨_, by simp only [List.size_toArray]; rw [hlen]⟩, q⟩
    · subst e'
      obtain ⟨its, r', pl, hz⟩ := I.tuple hx
      have hlen := r'.length
      exact len_tuple pl (by simp only [List.size_toArray]; omega) ⟨.int xs.length, H, I.tok _, ⟨_, by simp only [List.size_toArray]; rw [hlen]⟩, q⟩
  | _ => exact (show False from e).elim
end
end L2
namespace L2
open PySem PySem.Spec PyProof.Rows
/-! ### an instance, its attributes a map -/
structure ObjM (h : Heap) (x dx C : Addr) (mA : Str → Option Value) : Prop where
  obj : h.get? x = some (PySem.W.instObj C dx)
  ns : h.Ns1 dx mA
  ne : dx ≠ x
theorem lookIn_ns {h : Heap} {dx : Addr} {mA : Str → Option Value} (n : h.Ns1 dx mA) : ∃ od, h.get? dx = some od ∧ ∀ name, PySem.W.lookIn name od = some (mA name) := by
  obtain ⟨o, es, ep, ho, hd, hk, _, hm⟩ := n
  refine ⟨o, ho, fun name => ?_⟩
  have e := hm name
  unfold nsFind findBy at e
  rw [← Array.find?_toList] at e
  unfold PySem.W.lookIn
  rw [hd]
  dsimp only
  split
  · rename_i y q
    rw [q] at e
    exact congrArg some e
  · rename_i q
    rw [q] at e
    have a : es.toList.any (·.refKey) = false := by
      rw [List.any_eq_false]
      intro y hy
      obtain ⟨z, t, hkey⟩ := hk y (Array.mem_toList_iff.mp hy)
      simp [DictEntry.refKey, hkey]
    have a' : ¬ es.toList.any (·.refKey) = true := by rw [a]; exact Bool.false_ne_true
    rw [if_neg a']
    exact congrArg some e
theorem ObjM.look {h : Heap} {x dx C : Addr} {mA : Str → Option Value} (I : ObjM h x dx C mA) : ∃ od, PySem.W.InstAt h x (PySem.W.instObj C dx) C (some od) ∧ ∀ name, PySem.W.lookIn name od = some (mA name) :=
  let ⟨od, ho, hl⟩ := lookIn_ns I.ns
  ⟨od, ⟨I.obj, rfl, rfl, ho⟩, hl⟩
section
variable {prog : Program} {w : World} {A : Around} {E : Value → Shared → Prop} {s : Shared} {K : PySem.W.Frag} {x dx C f : Addr} {mA : Str → Option Value} {name : Str} {v : Value}
theorem get_map {expr : Bool} {Q : Value → Shared → Prop} (X : K.In s.heap) (I : ObjM s.heap x dx C mA) (hg : PySem.W.plainGet K C name = true) (hh : PySem.W.hasDictIn K C = true)
    (ha : PySem.W.findIn K (.ref C) name = some none) (hv : mA name = some v) (hv' : PySem.W.handedIn v = true) (h : Q v { s with toks := s.toks + 1 }) :
    wpAny (model prog w) A (getAttr (.ref x) name expr) Q E s := by
  obtain ⟨od, J, hl⟩ := I.look
  exact PySem.W.get_value X J (PySem.W.plainGet_of hg).1 (PySem.W.findObj_own hh ha rfl (by rw [hl, hv])) hv' h
theorem get_meth {pl : Sem Bool} {Q : Value × List Value → Shared → Prop} (X : K.In s.heap) (I : ObjM s.heap x dx C mA) (hg : PySem.W.plainGet K C name = true)
    (hf : PySem.W.findIn K (.ref C) name = some (some (.ref f))) (ht : PySem.W.isFn K (.ref f) = true) (hv : mA name = none) (h : Q (.ref f, [.ref x]) s) :
    wpAny (model prog w) A (getMethod (.ref x) name pl) Q E s := by
  obtain ⟨od, J, hl⟩ := I.look
  exact PySem.W.method_fn X J (PySem.W.plainGet_of hg).1 (PySem.W.plainGet_of hg).2 hf (beq_iff_eq.mp ht) (by show (PySem.W.lookIn name od).map (·.isSome) = some false; rw [hl, hv]; rfl) h
theorem set_map {ns : List Str} {Q : Unit → Shared → Prop} (X : K.In s.heap) (I : ObjM s.heap x dx C mA)
    (hs : PySem.W.findIn K (.ref C) "__setattr__" = some (some (.builtin "object.__setattr__"))) (hp : PySem.W.plainOver K C = true) (ht : PySem.W.takerIn K C name = some none) (hh : PySem.W.hasDictIn K C = true)
    (hw : PySem.Within mA ns) (hsz : ns.length ≤ sizeLine)
    (h : ∀ h', ObjM h' x dx C (fun y => if y = name then some v else mA y) → Heap.SameBut dx s.heap h' → Q () { s with heap := h', toks := s.toks + 2 }) :
    wpAny (model prog w) A (setAttr (.ref x) name v) Q E s := by
  obtain ⟨od, J, hl⟩ := I.look
  refine PySem.W.set_plain X J hs (PySem.W.osa_open (s := { s with toks := s.toks + 1 }) (r := none) X J hp ht fun b => ?_)
  obtain ⟨cd, hc, hd'⟩ := PySem.W.any_some hh
  have hx : s.heap.get? x = some ⟨.ref C, some dx, .plain, #[]⟩ := I.obj
  refine wpAny_bind (wpAny_pure (wpAny_bind (wpAny_bind (wpAny_loadPart hx (wpAny_bind (PySem.W.Looks.here (s := { s with toks := s.toks + 1 }) (PySem.W.looks_clsIn X hc) ?_))))))
  rw [hd']
  refine wpAny_pure (a := some dx) (wpAny_bind (wpAny_pure (wpAny_bind ?_)))
  refine wpAny_nsSet1 (s := { s with toks := s.toks + 1 }) I.ns fun h' hn2 hs2 => ?_
  obtain ⟨oD, esD, epD, hoD, hdD, hcD⟩ := hn2.count (PySem.Within.cons name v hw)
  refine wpAny_bind (wpAny_lookBehind hoD (by rw [hdD]; exact pastItsLine_dict (Nat.le_trans hcD (by rw [List.length_cons]; omega))) ?_)
  exact wpAny_pure (h _ ⟨(hs2.2 _ (Ne.symm I.ne)).trans I.obj, hn2, I.ne⟩ hs2)
/-- C(..): the dict at the heap's end, the instance behind it; then its __init__ -/
theorem make_map {R : Result → Shared → Prop} {vs : List Value} {kw : List (Str × Value)} (X : K.In s.heap) (hm : PySem.W.makesIn K C = true)
    (hi : PySem.W.findIn K (.ref C) "__init__" = some (some (.ref f))) (hf : PySem.W.typeIn K (.ref f) = some (.type "function"))
    (h : codeAny (model prog w) (A.under (.builtin "type.__call__" ⟨.ref C :: vs, kw⟩)) (.call (.ref f) ⟨.ref (s.heap.objs.size + 1) :: vs, kw⟩) (PySem.W.InitBack (s.heap.objs.size + 1) R)
      { s with heap := (s.heap.push PySem.W.emptyDict).push (PySem.W.instObj C s.heap.objs.size) }) :
    codeAny (model prog w) A (.call (.ref C) ⟨vs, kw⟩) R s := by
  obtain ⟨hh, g, d, t, os⟩ := s
  exact PySem.W.make_core (PySem.W.makes_of X hm) (PySem.W.looks_findIn X hi) (fun self => PySem.W.bind_fn X self hf) (.inl rfl) h
end
/-! ### the attributes as a list of pairs -/
noncomputable def putF (f : Str) (v : V) : List (Str × V) → List (Str × V)
  | [] => [(f, v)]
  | (g, x) :: r => if g = f then (g, v) :: r else (g, x) :: putF f v r
theorem lookup_putF (f g : Str) (v : V) : ∀ fs : List (Str × V), (putF f v fs).lookup g = if g = f then some v else fs.lookup g
  | [] => by
    show List.lookup g [(f, v)] = _
    by_cases h : g = f
    · have hb : (g == f) = true := beq_iff_eq.mpr h
      simp only [List.lookup, hb, if_pos h]
    · have hb : (g == f) = false := beq_eq_false_iff_ne.mpr h
      simp only [List.lookup, hb, if_neg h]
  | (k, x) :: r => by
    have ih := lookup_putF f g v r
    rw [show putF f v ((k, x) :: r) = (if k = f then (k, v) :: r else (k, x) :: putF f v r) from rfl]
    by_cases hk : k = f
    · rw [if_pos hk]
      by_cases h : g = k
      · have hb : (g == k) = true := beq_iff_eq.mpr h
        simp only [List.lookup, hb, if_pos (h.trans hk)]
      · have hb : (g == k) = false := beq_eq_false_iff_ne.mpr h
        simp only [List.lookup, hb, if_neg (fun e : g = f => h (e.trans hk.symm))]
    · rw [if_neg hk]
      by_cases h : g = k
      · have hb : (g == k) = true := beq_iff_eq.mpr h
        simp only [List.lookup, hb, if_neg (fun e : g = f => hk (h.symm.trans e))]
      · have hb : (g == k) = false := beq_eq_false_iff_ne.mpr h
        simp only [List.lookup, hb]
        exact ih
theorem keys_putF (f : Str) (v : V) : ∀ fs : List (Str × V), f ∈ (putF f v fs).map (·.1) ∧ ∀ g, g ∈ fs.map (·.1) → g ∈ (putF f v fs).map (·.1)
  | [] => ⟨by simp [putF], fun g h => by simp at h⟩
  | (k, x) :: r => by
    obtain ⟨i1, i2⟩ := keys_putF f v r
    rw [show putF f v ((k, x) :: r) = (if k = f then (k, v) :: r else (k, x) :: putF f v r) from rfl]
    by_cases hk : k = f
    · rw [if_pos hk]
      subst hk
      exact ⟨by simp, fun g h => by simpa using h⟩
    · rw [if_neg hk]
      refine ⟨?_, fun g h => ?_⟩
      · rw [List.map_cons]
        exact List.mem_cons_of_mem _ i1
      · rw [List.map_cons] at h ⊢
        rcases List.mem_cons.mp h with e | e
        · exact List.mem_cons.mpr (.inl e)
        · exact List.mem_cons_of_mem _ (i2 g e)
theorem length_putF (f : Str) (v : V) : ∀ fs : List (Str × V), (putF f v fs).length ≤ fs.length + 1
  | [] => by simp [putF]
  | (k, x) :: r => by
    have ih := length_putF f v r
    rw [show putF f v ((k, x) :: r) = (if k = f then (k, v) :: r else (k, x) :: putF f v r) from rfl]
    by_cases hk : k = f
    · rw [if_pos hk, List.length_cons, List.length_cons]; omega
    · rw [if_neg hk, List.length_cons, List.length_cons]; omega
theorem RelO.some_of {v : V} {o : Option Value} (r : RelO (some v) o) : ∃ u, o = some u ∧ RelV v u := by
  cases o with
  | none => exact (show False from r).elim
  | some u => exact ⟨u, rfl, r⟩
theorem RelO.none_of {o : Option Value} (r : RelO none o) : o = none := by
  cases o with
  | none => rfl
  | some u => exact (show False from r).elim
theorem handed_of {v : V} {u : Value} (r : RelV v u) : PySem.W.handedIn u = true := by
  cases v with
  | non => cases (show u = Value.none from r); rfl
  | bl b => cases (show u = Value.bool b from r); rfl
  | int i => obtain ⟨t, e⟩ := (show ∃ t, u = Value.int i t from r); cases e; rfl
  | str x => obtain ⟨t, e⟩ := (show ∃ t, u = Value.str x t from r); cases e; rfl
  | byt b => obtain ⟨t, e⟩ := (show ∃ t, u = Value.bytes b t from r); cases e; rfl
  | flt b => obtain ⟨t, e⟩ := (show ∃ t, u = Value.float b t from r); cases e; rfl
  | ref a => cases (show u = Value.ref a from r); rfl
  | ty n => cases (show u = Value.type n from r); rfl
section
variable {P : Program} {w : World} {H H' : Hp} {h h' : Heap} {a C dx : Addr} {fs fs' : List (Str × V)}
theorem ins_get (hok : HOk P w H h) (e : H a = some (.ins C dx fs)) : ∃ mA, ObjM h a dx C mA ∧ (∀ f, RelO (fs.lookup f) (mA f)) ∧ PySem.Within mA (fs.map (·.1)) ∧ fs.length ≤ 1000 ∧ H dx = some (.own a) := by
  obtain ⟨d, z, ne, ob, mA, n, r, q⟩ := (show ObjOk P w H h a (.ins C dx fs) from hok a _ e)
  exact ⟨mA, ⟨ob, n, ne⟩, r, q, z, d⟩
end
/-! ### what of the text a class must have -/
structure Cls (K : PySem.W.Frag) (C : Addr) : Prop where
  pg : PySem.W.plainGet K C Str.empty = true
  hd : PySem.W.hasDictIn K C = true
  po : PySem.W.plainOver K C = true
  sa : PySem.W.findIn K (.ref C) "__setattr__" = some (some (.builtin "object.__setattr__"))
theorem Cls.get {K : PySem.W.Frag} {C : Addr} (c : Cls K C) (f : Str) : PySem.W.plainGet K C f = true := c.pg
/-- no class of it has the name -/
noncomputable def NoAttr (K : PySem.W.Frag) (C : Addr) (f : Str) : Prop := PySem.W.findIn K (.ref C) f = some none
theorem NoAttr.taker {K : PySem.W.Frag} {C : Addr} {f : Str} (n : NoAttr K C f) : PySem.W.takerIn K C f = some none := by
  unfold PySem.W.takerIn
  rw [show PySem.W.findIn K (.ref C) f = some none from n]
  rfl
/-- a constant of the class -/
structure Con (K : PySem.W.Frag) (C : Addr) (f : Str) (v : V) (u : Value) : Prop where
  at_ : PySem.W.findIn K (.ref C) f = some (some u)
  rel : RelV v u
  get : PySem.W.specialIn K u "__get__" = some none
  cp : PySem.W.copiedNames.contains f = false
/-- a method: a plain def of the class or of one above it -/
structure Meth (K : PySem.W.Frag) (C : Addr) (m : Str) (f : Addr) : Prop where
  at_ : PySem.W.findIn K (.ref C) m = some (some (.ref f))
  fn : PySem.W.isFn K (.ref f) = true
  kp : PySem.W.keepIn K (.ref f) = true
section
variable {X : Cx} {pins : List (Addr × Obj)} {σ : St} {H : Hp} {s : Shared} {a C dx : Addr} {fs : List (Str × V)} {f : Str} {v : V} {A : Around} {E : Value → Shared → Prop}
theorem getattr_ok {b : Bool} {Q : Value → Shared → Prop} (I : Inv X pins σ H s) (e : H a = some (.ins C dx fs)) (c : Cls X.K C) (n : NoAttr X.K C f) (l : fs.lookup f = some v)
    (h : ∀ u s', Inv X pins σ H s' → RelV v u → Q u s') : wpAny (model X.prog X.w) A (getAttr (.ref a) f b) Q E s := by
  obtain ⟨mA, O, r, _, _, _⟩ := ins_get I.hok e
  obtain ⟨u, hu, ru⟩ := RelO.some_of (v := v) (o := mA f) (by rw [← l]; exact r f)
  exact get_map I.kIn O (c.get f) c.hd n hu (handed_of ru) (h u _ (I.tok _) ru)
theorem getmeth_ok {m : Str} {g : Addr} {pl : Sem Bool} {Q : Value × List Value → Shared → Prop} (I : Inv X pins σ H s) (e : H a = some (.ins C dx fs)) (c : Cls X.K C) (k : Meth X.K C m g) (l : fs.lookup m = none)
    (h : Q (.ref g, [.ref a]) s) : wpAny (model X.prog X.w) A (getMethod (.ref a) m pl) Q E s := by
  obtain ⟨mA, O, r, _, _, _⟩ := ins_get I.hok e
  have hn : mA m = none := RelO.none_of (by rw [← l]; exact r m)
  exact get_meth I.kIn O (c.get m) k.at_ k.fn hn h
theorem setattr_ok {y : V} {u : Value} {Q : Unit → Shared → Prop} (I : Inv X pins σ H s) (e : H a = some (.ins C dx fs)) (c : Cls X.K C) (n : NoAttr X.K C f) (hl : fs.length < 1000) (ry : RelV y u)
    (h : ∀ s', Inv X pins σ (upd H a (.ins C dx (putF f y fs))) s' → Q () s') : wpAny (model X.prog X.w) A (setAttr (.ref a) f u) Q E s := by
  obtain ⟨mA, O, r, wi, _, ho⟩ := ins_get I.hok e
  have hz : (fs.map (·.1)).length ≤ sizeLine := by rw [List.length_map, sizeLine_eq]; omega
  refine set_map I.kIn O c.sa c.po n.taker c.hd wi hz fun h' O' sb => h _ ?_
  have hd : ∃ o, h'.get? dx = some o := let ⟨o, _, _, e', _⟩ := O'.ns; ⟨o, e'⟩
  refine I.write (x := a) (e := dx) (by rw [e]; exact True.intro) (.inr ho) (fun b q hb z => (sb.2 b hb).trans z) hd ?_
  refine ⟨by rw [upd_ne O.ne]; exact ho, ?_, O.ne, O'.obj, _, O'.ns, fun g => ?_, fun g hg => ?_⟩
  · have := length_putF f y fs; omega
  · show RelO ((putF f y fs).lookup g) (if g = f then some u else mA g)
    rw [lookup_putF]
    by_cases q : g = f
    · rw [if_pos q, if_pos q]; exact ry
    · rw [if_neg q, if_neg q]; exact r g
  · by_cases q : g = f
    · rw [q]; exact (keys_putF f y fs).1
    · refine (keys_putF f y fs).2 g (wi g fun z => hg ?_)
      show (if g = f then some u else mA g) = none
      rw [if_neg q]; exact z
/-- a new instance, tracked, without attributes -/
theorem Inv.made (I : Inv X pins σ H s) : Inv X pins σ (upd (upd H s.heap.objs.size (.own (s.heap.objs.size + 1))) (s.heap.objs.size + 1) (.ins C s.heap.objs.size []))
    { s with heap := (s.heap.push PySem.W.emptyDict).push (PySem.W.instObj C s.heap.objs.size) } := by
  have e1 : (s.heap.push PySem.W.emptyDict).get? s.heap.objs.size = some PySem.W.emptyDict := Heap.get?_push_size s.heap rfl
  have e2 : ((s.heap.push PySem.W.emptyDict).push (PySem.W.instObj C s.heap.objs.size)).get? (s.heap.objs.size + 1) = some (PySem.W.instObj C s.heap.objs.size) := by
    have := Heap.get?_push_size (s.heap.push PySem.W.emptyDict) (o := PySem.W.instObj C s.heap.objs.size) rfl
    rwa [Heap.size_push] at this
  have e3 : (s.heap.push PySem.W.emptyDict).Ns s.heap.objs.size (fun _ => none) := ⟨PySem.W.emptyDict, #[], _, e1, rfl, (fun e he => absurd he (by simp)), fun _ => rfl⟩
  have I1 := I.laid (a := s.heap.objs.size) (o := .own (s.heap.objs.size + 1)) (h' := s.heap.push PySem.W.emptyDict) (t' := s.toks) (fun b u q => Heap.get?_push_of_some _ q) (Nat.le_refl _) ⟨_, e1⟩
  refine I1.laid (a := s.heap.objs.size + 1) (o := .ins C s.heap.objs.size []) (t' := s.toks) (fun b u q => Heap.get?_push_of_some _ q) (Nat.le_of_eq (Heap.size_push _ _)) ?_
  have ne : s.heap.objs.size ≠ s.heap.objs.size + 1 := Nat.ne_of_lt (Nat.lt_succ_self _)
  refine ⟨by rw [upd_ne ne, upd_same], Nat.zero_le _, ne, e2, fun _ => none, (Heap.Ns1.of_empty e3).at fun o q => Heap.get?_push_of_some _ q, fun _ => True.intro, fun y hy => absurd rfl hy⟩
/-- e.f where nothing but the object is asked: through attributeBase (super) and the last hold -/
theorem attr_of {prog : Program} {w : World} {env : Env} {e : Expr} {f : Str} {pos : Pos} {s : Shared} {Q : Value → Shared → Prop} (hb : attributeBase e f env (eval e env) = eval e env)
    (h : wpAny (model prog w) A (eval e env) (fun o s₁ => wpAny (model prog w) A (getAttr o f true) Q E s₁) E s) : wpAny (model prog w) A (eval (.Attribute e f pos) env) Q E s :=
  Attribute_any_ h (by rw [arm_eval_Attribute, hb])
end
/-! ### readings and rules -/
/-- e.f = value -/
noncomputable def sFld (K : PySem.W.Frag) (ta tv : TE) (f : Str) : TS := fun D σ H => tv σ H fun y H1 => ta σ H1 fun x H2 => ∃ a C dx fs, x = .ref a ∧ H2 a = some (.ins C dx fs) ∧ Cls K C ∧ NoAttr K C f ∧ fs.length < 1000 ∧
  D.nx σ (upd H2 a (.ins C dx (putF f y fs)))
section
variable {X : Cx} {o e value : Expr} {f : Str} {pos pos' tpos : Pos} {ta tv : TE}
theorem ps_fld (ha : PE X o ta) (hv : PE X value tv) (hs : swapsWith value (some (.Attribute o f pos')) pos.line X.env = pure false) : PS X (.Assign [.Attribute o f pos'] value pos) (sFld X.K ta tv f) := by
  intro pins s σ H D I h
  refine plainObj_wpAny_Assign_Attribute (thn (hv pins s σ H _ I h) fun u s1 ⟨y, H1, I1, ry, q⟩ => thn (ha pins s1 σ H1 _ I1 q) fun ov s2 ⟨x, H2, I2, rx, a, C, dx, fs, ex, ea, c, n, l, q2⟩ => ?_) hs
  subst ex
  obtain rfl : ov = Value.ref a := rx
  exact setattr_ok I2 ea c n l ry fun s3 I3 => ⟨σ, _, I3, q2⟩
end
/-! ### isinstance -/
section
variable {X : Cx} {pins : List (Addr × Obj)} {σ : St} {H : Hp} {s : Shared} {A : Around} {E : Value → Shared → Prop} {Q : Value → Shared → Prop} {c : Value} {b : Bool}
/-- the type of a value, as the fragment's deciders take it; for an instance its class -/
inductive TyOf (K : PySem.W.Frag) (H : Hp) : V → Value → Prop where
  | non : TyOf K H .non (.type "NoneType")
  | bl (x : Bool) : TyOf K H (.bl x) (.type "bool")
  | int (i : Int) : TyOf K H (.int i) (.type "int")
  | str (x : Str) : TyOf K H (.str x) (.type "str")
  | flt (x : UInt64) : TyOf K H (.flt x) (.type "float")
  | lst {a : Addr} {xs : List V} (e : H a = some (.lst xs)) : TyOf K H (.ref a) (.type "list")
  | frz {a : Addr} {o : Obj} {xs : List V} (e : H a = some (.frz o (.lst xs))) : TyOf K H (.ref a) (.type "list")
  | tup {a : Addr} {xs : List V} (e : H a = some (.tup xs)) : TyOf K H (.ref a) (.type "tuple")
  | dK {a : Addr} {kvs : List (Key × V)} (e : H a = some (.dK kvs)) : TyOf K H (.ref a) (.type "dict")
  | dT {a : Addr} {kvs : List (List Key × V)} (e : H a = some (.dT kvs)) : TyOf K H (.ref a) (.type "dict")
  | ins {a C dx : Addr} {fs : List (Str × V)} (e : H a = some (.ins C dx fs)) (cl : Cls K C) (ha : PySem.W.findIn K (.ref C) "__class__" = some (some (.builtin "object.__class__")))
      (hn : PySem.W.specialIn K (.builtin "object.__class__") "__get__" = some (some (.builtin "getset_descriptor.__get__"))) (htk : PySem.W.takesIn K (.builtin "object.__class__") = some true)
      (hm : PySem.W.mroIn K C (.type "object") = some true) : TyOf K H (.ref a) (.ref C)
end
end L2
namespace L2
open PySem PySem.Spec PyProof.Rows
/-! ### room -/
structure Room (k : Nat) (A : Around) : Prop where
  hd : A.handled = none
  dp : A.depth + 3 * k + 5 < recursionLimit
  un : A.units + 16 * k + 200 < cLine
theorem Room.mono {j k : Nat} {A : Around} (r : Room k A) (h : j ≤ k) : Room j A := ⟨r.hd, by have := r.dp; omega, by have := r.un; omega⟩
theorem Room.deeper {k : Nat} {A : Around} (r : Room (k + 1) A) (env : Env) : Room k (A.deeper env) :=
  ⟨r.hd, by have := r.dp; show A.depth + 1 + 3 * k + 5 < _; omega, by have := r.un; show A.units + 3 + 16 * k + 200 < _; omega⟩
theorem make_depth {A : Around} {C : Addr} {us : List Value} {kw : List (Str × Value)} : (A.under (.builtin "type.__call__" ⟨.ref C :: us, kw⟩)).depth = A.depth + 1 := by
  first | rfl | simp [Around.under, Code.weight, Code.isCreation, Code.isGuard, Code.isCaller, Code.frames, Code.isFrame, guardIds]
theorem make_units {A : Around} {C : Addr} {us : List Value} {kw : List (Str × Value)} : (A.under (.builtin "type.__call__" ⟨.ref C :: us, kw⟩)).units = A.units + 1 := by
  first | rfl | simp [Around.under, Code.cUnits, Code.frames, Code.isFrame]
theorem Room.make {k : Nat} {A : Around} (r : Room (k + 1) A) (C : Addr) (us : List Value) (kw : List (Str × Value)) : Room k (A.under (.builtin "type.__call__" ⟨.ref C :: us, kw⟩)) :=
  ⟨r.hd, by have := r.dp; rw [make_depth]; omega, by have := r.un; rw [make_units]; omega⟩
theorem Room.depth {k : Nat} {A : Around} (r : Room k A) : A.depth < recursionLimit := by have := r.dp; omega
/-! ### argument lists and displays -/
noncomputable def tNil : TA := fun _ H Q => Q [] H
noncomputable def tCons (ta : TE) (tr : TA) : TA := fun σ H Q => ta σ H fun x H1 => tr σ H1 fun xs H2 => Q (x :: xs) H2
section
variable {X : Cx} {e : Expr} {es : List Expr} {te : TE} {t : TA} {pos : Pos}
theorem pa_nil : PA X [] tNil := fun _ _ _ _ H Q I h => Calls.spliced_nil ⟨[], H, I, .nil, h⟩
theorem pa_cons (ha : PE X e te) (hr : PA X es t) (hs : starEach (e :: es) X.env = (false, eval e X.env) :: starEach es X.env := by rfl) : PA X (e :: es) (tCons te t) := by
  intro pos pins s σ H Q I h
  rw [hs]
  show wpAny _ _ (spliced ((false, eval e X.env) :: backTo pos (starEach es X.env))) _ _ s
  refine Calls.spliced_cons (thn (ha pins s σ H _ I h) fun u s1 ⟨x, H1, I1, r1, q1⟩ => ?_)
  exact thn (hr pos pins s1 σ H1 _ I1 q1) fun us s2 ⟨xs, H2, I2, r2, q2⟩ => ⟨x :: xs, H2, I2, .cons r1 r2, q2⟩
noncomputable def tLst (t : TA) : TE := fun σ H Q => t σ H fun xs H1 => xs.length ≤ sizeLine ∧ ∀ p, H1 p = none → Q (.ref p) (upd H1 p (.lst xs))
theorem pe_lst (h : PA X es t) : PE X (.List es pos) (tLst t) := by
  intro pins s σ H Q I hq
  refine wpAny_List_spliced (thn (h pos pins s σ H _ I hq) fun us s1 ⟨xs, H1, I1, r, z, q⟩ => ⟨by rw [← r.length]; exact z, ?_⟩)
  have hf : H1 s1.heap.objs.size = none := I1.hok.fresh (Nat.le_refl _)
  refine ⟨.ref s1.heap.objs.size, upd H1 s1.heap.objs.size (.lst xs), I1.laid (t' := s1.toks) (fun b u e => Heap.get?_push_of_some _ e) (Nat.le_refl _) ?_, rfl, q _ hf⟩
  exact ⟨z, us, 0, r, Heap.get?_push_size _ rfl⟩
end
/-! ### what a def promises -/
/-- a def's promise: the bound arguments in the parameters' order, the heap, the wanted end, the wanted exception -/
noncomputable abbrev Sp := List V → Hp → VK → XK → Prop
/-- how an exception lies behind a call (file 08 gives it): the callers' frames, abstract heap and state ahead of the call, the wish, the exception, the state -/
noncomputable abbrev CXT := List Env → Hp → Shared → XK → Value → Shared → Prop
/-- the state at a call -/
structure Env0 (P : Program) (w : World) (K : PySem.W.Frag) (mg : Str → Option Value) (base : Heap) (A : Around) (outer : List Env) (s : Shared) (H : Hp) : Prop where
  frames : A.frames = some outer
  mod : Mod K mg base
  bs : ∀ b o, base.get? b = some o → s.heap.get? b = some o ∧ H b = none
  bsz : base.objs.size ≤ s.heap.objs.size
  funs : s.heap.FunFrames base outer
  frf : ∀ b ∈ frs outer, H b = none
  hok : HOk P w H s.heap
  bare : AllBare s.gens
/-- a call's end -/
noncomputable def CE (outer : List Env) (P : Program) (w : World) (H : Hp) (s : Shared) (Q : VK) (u : Value) (s' : Shared) : Prop :=
  ∃ v H', s'.os = s.os ∧ AllBare s'.gens ∧ Un (frs outer) [] H H' s.heap s'.heap ∧ HOk P w H' s'.heap ∧ RelV v u ∧ Q v H'
noncomputable def CR (CX : CXT) (outer : List Env) (P : Program) (w : World) (H : Hp) (s : Shared) (Q : VK) (E : XK) (r : Result) (s' : Shared) : Prop :=
  match r with
  | .ok (.ret u) => CE outer P w H s Q u s'
  | .ok _ => False
  | .error e => CX outer H s E e s'
structure FnOk (P : Program) (w : World) (K : PySem.W.Frag) (mg : Str → Option Value) (base : Heap) (CX : CXT) (k : Nat) (f : Addr) (fd : FuncData) (ps : List Str) (sp : Sp) : Prop where
  len : ∀ vs H Q E, sp vs H Q E → vs.length = ps.length
  run : ∀ (A : Around) (outer : List Env) (s : Shared) (H : Hp) (args : Args) (us : List Value) (vs : List V) (Q : VK) (E : XK), Room k A → Env0 P w K mg base A outer s H → BindsTo s fd args (ps.zip us) → Vals vs us → sp vs H Q E →
    codeAny (model P w) A (.call (.ref f) args) (CR CX outer P w H s Q E) s
theorem Env0.make {P : Program} {w : World} {K : PySem.W.Frag} {mg : Str → Option Value} {base : Heap} {A : Around} {outer : List Env} {s : Shared} {H : Hp} (e : Env0 P w K mg base A outer s H) (C : Addr) (us : List Value) (kw : List (Str × Value)) :
    Env0 P w K mg base (A.under (.builtin "type.__call__" ⟨.ref C :: us, kw⟩)) outer s H := ⟨by first | exact e.frames | (simpa [Around.under, Code.envs, Code.isFrame, pushEnvs] using e.frames), e.mod, e.bs, e.bsz, e.funs, e.frf, e.hok, e.bare⟩
section
variable {X : Cx} {pins : List (Addr × Obj)} {σ : St} {H : Hp} {s s' : Shared}
/-- from a body: what a callee wants -/
theorem Inv.env0 (I : Inv X pins σ H s) : Env0 X.prog X.w X.K X.mg X.base X.A X.stack s H :=
  ⟨I.ok.frames, I.ok.mod, I.bs, Nat.le_trans I.ok.bsz I.sz, I.stack, I.stkFree, I.hok, I.bare⟩
/-- behind a call -/
theorem Inv.after {Q : VK} {u : Value} (I : Inv X pins σ H s) (h : CE X.stack X.prog X.w H s Q u s') : EP X pins σ Q u s' := by
  obtain ⟨v, H', os, bare, un, hok, r, q⟩ := h
  obtain ⟨hh, g, d, t, os'⟩ := s'
  obtain rfl : os' = s.os := os
  exact ⟨v, H', I.call (h' := hh) (g' := g) (d' := d) (t' := t) (ch := []) un hok bare (fun b z => absurd z (by simp)), r, q⟩
end
/-! ### calls -/
/-- f(..): the written arguments, then the defaults dvs; E: what is wanted of an exception -/
noncomputable def tCall (sp : Sp) (dvs : List V) (E : XK) (t : TA) : TE := fun σ H Q => t σ H fun vs H1 => sp (vs ++ dvs) H1 Q E
/-- o.m(..) of an instance of the class at C -/
noncomputable def tMeth (C : Addr) (m : Str) (sp : Sp) (dvs : List V) (E : XK) (ta : TE) (t : TA) : TE := fun σ H Q => ta σ H fun x H1 => ∃ a dx fs, x = .ref a ∧ H1 a = some (.ins C dx fs) ∧ fs.lookup m = none ∧
  t σ H1 fun vs H2 => sp (x :: (vs ++ dvs)) H2 Q E
/-- how the parameters are bound: us the positional arguments, kw the keywords' values by name, ds the defaults that fill up -/
noncomputable def Binds (K : PySem.W.Frag) (fd : FuncData) (ps : List Str) (ds : List Value) : Prop :=
  ∀ (s : Shared) (us : List Value), K.In s.heap → (us ++ ds).length = ps.length → BindsTo s fd ⟨us, []⟩ (ps.zip (us ++ ds))
/-- every parameter is given -/
theorem Binds.all {K : PySem.W.Frag} {fd : FuncData} {ps : List Str} (h : ∀ us : List Value, us.length = ps.length → bindArgs fd ⟨us, []⟩ = pure (ps.zip us)) : Binds K fd ps [] := fun s us _ hl => by
  rw [List.append_nil] at hl ⊢
  exact .of_eq (h us hl)
/-- an exception of a callee reaches what this body wants of exceptions -/
noncomputable def Passes (CX : CXT) (X : Cx) (E : XK) : Prop := ∀ (pins : List (Addr × Obj)) (σ : St) (H : Hp) (s : Shared) (e : Value) (s' : Shared), Inv X pins σ H s → CX X.stack H s E e s' → X.xe e s'
section
variable {X : Cx} {CX : CXT} {k : Nat} {f C : Addr} {fd : FuncData} {ps : List Str} {sp : Sp} {dvs : List V} {ds : List Value} {E : XK} {x m : Str} {p pos apos : Pos} {e o : Expr} {es : List Expr} {ta : TE} {t : TA}
/-- the callee runs -/
theorem run_fn {pins : List (Addr × Obj)} {σ : St} {H : Hp} {s : Shared} {Q : VK} {us : List Value} {vs : List V} (F : FnOk X.prog X.w X.K X.mg X.base CX k f fd ps sp) (hr : Room k X.A) (hb : Binds X.K fd ps ds) (hd : Vals dvs ds) (hx : Passes CX X E)
    (I : Inv X pins σ H s) (r : Vals vs us) (h : sp (vs ++ dvs) H Q E) : wpAny (model X.prog X.w) X.A (call (.ref f) us) (EP X pins σ Q) X.xe s := by
  have r2 : Vals (vs ++ dvs) (us ++ ds) := r.append hd
  have hl : (us ++ ds).length = ps.length := by rw [← r2.length]; exact F.len _ _ _ _ h
  refine wpAny_call (codeAny_mono (F.run X.A X.stack s H ⟨us, []⟩ (us ++ ds) (vs ++ dvs) Q E hr I.env0 (hb s us I.kIn hl) r2 h) fun r s' hq => ?_)
  cases r with
  | error e => exact hx pins σ H s e s' I hq
  | ok fl =>
    cases fl with
    | ret u => exact I.after hq
    | next => exact False.elim hq
    | brk => exact False.elim hq
    | cont => exact False.elim hq
theorem pe_call (F : FnOk X.prog X.w X.K X.mg X.base CX k f fd ps sp) (hr : Room k X.A) (hg : Gl X x) (hm : X.mg x = some (.ref f)) (hk : PySem.W.keepIn X.K (.ref f) = true) (hb : Binds X.K fd ps ds) (hd : Vals dvs ds) (hx : Passes CX X E)
    (ha : PA X (e :: es) t) (hdb : (x == ("__debug__" : Str)) = false := by decide) (he : starEach (e :: es) X.env = (false, eval e X.env) :: starEach es X.env := by rfl) (hpl : (backTo pos (starEach es X.env)).any (·.1) = false := by rfl) :
    PE X (.Call (.Name x p) (e :: es) [] pos) (tCall sp dvs E t) := by
  intro pins s σ H Q I h
  refine wpAny_Call_Name_kw (ld_glob I hg hm ?_ hdb)
  refine PySem.W.callWith_K (h₀ := X.base) I.ok.mod.kin hk (thn (ha pos pins s σ H _ I h) fun us s1 ⟨vs, H1, I1, r, q⟩ => ⟨I1.kIn, ?_⟩) he hpl
  exact run_fn F hr hb hd hx I1 r q
/-- o.m(e, ..) -/
theorem pe_meth {pl : Sem Bool} (he : PE X o ta) (c : Cls X.K C) (hm : Meth X.K C m f) (F : FnOk X.prog X.w X.K X.mg X.base CX k f fd ps sp) (hr : Room k X.A) (hb : Binds X.K fd ps ds) (hd : Vals dvs ds) (hx : Passes CX X E) (ha : PA X (e :: es) t)
    (hst : starEach (e :: es) X.env = (false, eval e X.env) :: starEach es X.env := by rfl) (hpl : (backTo pos (starEach es X.env)).any (·.1) = false := by rfl)
    (ht : eval (.Call (.Attribute o m apos) (e :: es) [] pos) X.env = (do
      let ov ← eval o X.env
      standAt apos.atName
      let (f, first) ← holding [ov] (getMethod ov m pl)
      callWith pos f first (backTo pos (starEach (e :: es) X.env)) (backToKw pos (keywordEach [] X.env))) := by rfl) :
    PE X (.Call (.Attribute o m apos) (e :: es) [] pos) (tMeth C m sp dvs E ta t) := by
  intro pins s σ H Q I h
  refine PySem.W.methodCall_KW (pl := pl) (thn (he pins s σ H _ I h) fun u s1 ⟨x, H1, I1, rx, a, dx, fs, ex, ea, l, q⟩ => ?_) ht
  subst ex
  obtain rfl : u = Value.ref a := rx
  refine getmeth_ok I1 ea c hm l ?_
  refine PySem.W.callWith_K (first := [.ref a]) (h₀ := X.base) I.ok.mod.kin hm.kp (thn (ha pos pins s1 σ H1 _ I1 q) fun us s2 ⟨vs, H2, I2, r, q2⟩ => ⟨I2.kIn, ?_⟩) hst hpl
  exact run_fn (us := .ref a :: us) (vs := .ref a :: vs) F hr hb hd hx I2 (.cons rfl r) q2
/-- o.m() -/
theorem pe_meth0 {pl : Sem Bool} (he : PE X o ta) (c : Cls X.K C) (hm : Meth X.K C m f) (F : FnOk X.prog X.w X.K X.mg X.base CX k f fd ps sp) (hr : Room k X.A) (hb : Binds X.K fd ps ds) (hd : Vals dvs ds) (hx : Passes CX X E)
    (ht : eval (.Call (.Attribute o m apos) [] [] pos) X.env = (do
      let ov ← eval o X.env
      standAt apos.atName
      let (f, first) ← holding [ov] (getMethod ov m pl)
      callWith pos f first (backTo pos (starEach [] X.env)) (backToKw pos (keywordEach [] X.env))) := by rfl) :
    PE X (.Call (.Attribute o m apos) [] [] pos) (tMeth C m sp dvs E ta tNil) := by
  intro pins s σ H Q I h
  refine PySem.W.methodCall_KW (pl := pl) (thn (he pins s σ H _ I h) fun u s1 ⟨x, H1, I1, rx, a, dx, fs, ex, ea, l, q⟩ => ?_) ht
  subst ex
  obtain rfl : u = Value.ref a := rx
  refine getmeth_ok I1 ea c hm l ?_
  exact PySem.W.callWith_K0 (first := [.ref a]) I1.kIn hm.kp (run_fn (us := [.ref a]) (vs := [.ref a]) F hr hb hd hx I1 (.cons rfl .nil) q)
/-- what a class must have to be made -/
structure Mk (K : PySem.W.Frag) (C f : Addr) : Prop where
  makes : PySem.W.makesIn K C = true
  init : PySem.W.findIn K (.ref C) "__init__" = some (some (.ref f))
  fn : PySem.W.isFn K (.ref f) = true
  kp : PySem.W.keepIn K (.ref C) = true
theorem run_make {pins : List (Addr × Obj)} {σ : St} {H : Hp} {s : Shared} {Q : VK} {us : List Value} {vs : List V} (M : Mk X.K C f) (F : FnOk X.prog X.w X.K X.mg X.base CX k f fd ps sp) (hr : Room (k + 1) X.A) (hb : Binds X.K fd ps ds) (hd : Vals dvs ds)
    (hx : Passes CX X E) (I : Inv X pins σ H s) (r : Vals vs us)
    (h : ∀ x dx, H x = none → H dx = none → dx ≠ x → sp (.ref x :: (vs ++ dvs)) (upd (upd H dx (.own x)) x (.ins C dx [])) (fun v H2 => v = .non ∧ Q (.ref x) H2) E) :
    wpAny (model X.prog X.w) X.A (call (.ref C) us) (EP X pins σ Q) X.xe s := by
  have hq := h (s.heap.objs.size + 1) s.heap.objs.size (I.hok.fresh (Nat.le_succ _)) (I.hok.fresh (Nat.le_refl _)) (Nat.ne_of_lt (Nat.lt_succ_self _))
  have I2 := Inv.made (C := C) I
  have r2 : Vals (V.ref (s.heap.objs.size + 1) :: (vs ++ dvs)) (Value.ref (s.heap.objs.size + 1) :: (us ++ ds)) := .cons rfl (r.append hd)
  have hl : (Value.ref (s.heap.objs.size + 1) :: us ++ ds).length = ps.length := by
    have e := r2.length
    rw [F.len _ _ _ _ hq] at e
    exact e.symm
  refine wpAny_call (make_map (f := f) I.kIn M.makes M.init (beq_iff_eq.mp M.fn) (codeAny_mono (F.run _ X.stack _ _ ⟨Value.ref (s.heap.objs.size + 1) :: us, []⟩ (Value.ref (s.heap.objs.size + 1) :: (us ++ ds)) _ _ E (hr.make C us [])
    (I2.env0.make C us []) (hb _ (Value.ref (s.heap.objs.size + 1) :: us) I2.kIn hl) r2 hq) fun r s' hq' => ?_))
  cases r with
  | error e => exact hx pins σ _ _ e s' I2 hq'
  | ok fl =>
    cases fl with
    | ret u =>
      obtain ⟨v, H', I3, rv, ev, q3⟩ := I2.after hq'
      subst ev
      exact ⟨rv, ⟨V.ref (s.heap.objs.size + 1), H', I3, rfl, q3⟩⟩
    | next => exact False.elim hq'
    | brk => exact False.elim hq'
    | cont => exact False.elim hq'
end
/-! ### keywords -/
section
variable {X : Cx} {CX : CXT} {k : Nat} {f C : Addr} {fd : FuncData} {ps ks : List Str} {sp : Sp} {E : XK} {x m : Str} {p pos apos kpos : Pos} {e o : Expr} {es : List Expr} {kws : List Keyword} {te ta : TE} {t tk : TA} {nm : Option Str}
/-- how a call with keywords binds: g puts the positional values us and the keywords' values ws (names ks) in the parameters' order, defaults among them -/
structure KBinds (K : PySem.W.Frag) (fd : FuncData) (ps ks : List Str) (g : List Value → List Value → List Value) (gV : List V → List V → List V) : Prop where
  to : ∀ (s : Shared) (us ws : List Value), K.In s.heap → (g us ws).length = ps.length → BindsTo s fd ⟨us, ks.zip ws⟩ (ps.zip (g us ws))
  rel : ∀ {vs : List V} {us : List Value} {zs : List V} {ws : List Value}, Vals vs us → Vals zs ws → Vals (gV vs zs) (g us ws)
variable {g : List Value → List Value → List Value} {gV : List V → List V → List V}
end
/-! ### a def's body keeps its promise -/
/-- names: the parameters first -/
structure FnScope (N P : List Str) (sc : Scope) : Prop where
  kind : sc.kind = .function
  co : sc.isCoroutine = false
  gen : sc.isGenerator = false
  nd : N.Nodup
  pre : N.take P.length = P
  par : ∀ x ∈ P, sc.names.lookup x = some .local ∨ sc.names.lookup x = some .cell
  nofree : ∀ y ∈ sc.names, y.2 ≠ .free
theorem bindL_out {kindOf : Str → Option NameKind} {x : Str} : ∀ {binds : List (Str × Value)} {m : Str → Option Value}, (∀ v, (x, v) ∉ binds) → bindL kindOf binds m x = m x
  | [], _, _ => rfl
  | (n, v) :: r, m, h => by
    unfold bindL
    rw [bindL_out fun w hw => h w (List.mem_cons_of_mem _ hw)]
    split
    · have : x ≠ n := by rintro rfl; exact h v List.mem_cons_self
      simp [this]
    · rfl
theorem bindC_out {kindOf : Str → Option NameKind} {x : Str} : ∀ {binds : List (Str × Value)} {m : Str → Option Value}, (∀ v, (x, v) ∉ binds) → bindC kindOf binds m x = m x
  | [], _, _ => rfl
  | (n, v) :: r, m, h => by
    unfold bindC
    rw [bindC_out fun w hw => h w (List.mem_cons_of_mem _ hw)]
    split
    · rfl
    · have : x ≠ n := by rintro rfl; exact h v List.mem_cons_self
      simp [this]
theorem bindL_get {kindOf : Str → Option NameKind} {x : Str} {v : Value} : ∀ {P : List Str} {vs : List Value} {i : Nat} {m : Str → Option Value}, P.Nodup → P[i]? = some x → vs[i]? = some v → kindOf x = some .local →
    bindL kindOf (P.zip vs) m x = some v
  | [], _, _, _, _, h, _, _ => by simp at h
  | _ :: _, [], _, _, _, _, h, _ => by simp at h
  | p :: P, w :: vs, 0, m, nd, h1, h2, hk => by
    simp at h1 h2; subst h1; subst h2
    show bindL kindOf ((p, w) :: P.zip vs) m p = _
    unfold bindL
    rw [bindL_out fun v hv => (List.nodup_cons.mp nd).1 (List.of_mem_zip hv).1, if_pos hk]
    simp
  | p :: P, w :: vs, i + 1, m, nd, h1, h2, hk => by
    show bindL kindOf ((p, w) :: P.zip vs) m x = _
    unfold bindL
    exact bindL_get (i := i) (List.nodup_cons.mp nd).2 (by simpa using h1) (by simpa using h2) hk
theorem bindC_get {kindOf : Str → Option NameKind} {x : Str} {v : Value} : ∀ {P : List Str} {vs : List Value} {i : Nat} {m : Str → Option Value}, P.Nodup → P[i]? = some x → vs[i]? = some v → kindOf x ≠ some .local →
    bindC kindOf (P.zip vs) m x = some v
  | [], _, _, _, _, h, _, _ => by simp at h
  | _ :: _, [], _, _, _, _, h, _ => by simp at h
  | p :: P, w :: vs, 0, m, nd, h1, h2, hk => by
    simp at h1 h2; subst h1; subst h2
    show bindC kindOf ((p, w) :: P.zip vs) m p = _
    unfold bindC
    rw [bindC_out fun v hv => (List.nodup_cons.mp nd).1 (List.of_mem_zip hv).1, if_neg hk]
    simp
  | p :: P, w :: vs, i + 1, m, nd, h1, h2, hk => by
    show bindC kindOf ((p, w) :: P.zip vs) m x = _
    unfold bindC
    exact bindC_get (i := i) (List.nodup_cons.mp nd).2 (by simpa using h1) (by simpa using h2) hk
/-- the names' values at the entry -/
noncomputable def start (N : List Str) (vs : List V) : St := vs.map some ++ List.replicate (N.length - vs.length) none
/-- the context of a def's body, at its entry; an exception leaves the frame, then lies as CX says -/
noncomputable def cxOf (CX : CXT) (P : Program) (w : World) (K : PySem.W.Frag) (mg : Str → Option Value) (base : Heap) (N : List Str) (qual : Str) (scope : Scope) (f : Addr) (cd : Value) (A : Around) (outer : List Env) (s : Shared) (H : Hp) (E : XK) : Cx where
  prog := P
  w := w
  K := K
  mg := mg
  base := base
  A := A.deeper (envOfC qual scope s.heap.objs.size f cd)
  N := N
  s_0 := s
  H_0 := H
  env := envOfC qual scope s.heap.objs.size f cd
  outer := outer
  stack := envOfC qual scope s.heap.objs.size f cd :: outer
  ex := []
  calm := true
  fn := fun _ => true
  pn := []
  xe := fun e s' => wpAny (model P w) (A.deeper (envOfC qual scope s.heap.objs.size f cd)) (leaving (envOfC qual scope s.heap.objs.size f cd) e) (fun _ s'' => CX outer H s E e s'') (fun e' s'' => CX outer H s E e' s'') s'
theorem cell_has {sc : Scope} {n : Nat} {x : Str} (h : sc.names.lookup x = some .cell) : ∃ c, (cellsFrom n sc.names []).lookup x = some c := by
  have q := PySem.W.cellsFrom_some sc.names n [] (.inl h)
  exact Option.isSome_iff_exists.mp q
theorem inv_start {CX : CXT} {P : Program} {w : World} {K : PySem.W.Frag} {mg : Str → Option Value} {base : Heap} {N ps : List Str} {qual : Str} {scope : Scope} {f : Addr} {cd : Value} {A : Around} {outer : List Env} {s s1 : Shared} {H : Hp} {E : XK} {us : List Value} {vs : List V}
    (S : FnScope N ps scope) (hd : A.handled = none) (e0 : Env0 P w K mg base A outer s H) (hl : vs.length = ps.length) (r : Vals vs us)
    (x : InCallC s s.heap.objs.size (bindL (envOfC qual scope s.heap.objs.size f cd).kindOf (ps.zip us) fun _ => none) (cellsFrom (s.heap.objs.size + 1) scope.names []) (bindC (envOfC qual scope s.heap.objs.size f cd).kindOf (ps.zip us) fun _ => none) s1) :
    Inv (cxOf CX P w K mg base N qual scope f cd A outer s H E) [] (start N vs) H s1 := by
  have hpl : ps.length ≤ N.length := by have := congrArg List.length S.pre; rw [List.length_take] at this; omega
  obtain ⟨h1, tk, rfl, hk⟩ := x.done
  have noA : ∀ b : Addr, b ∉ (cxOf CX P w K mg base N qual scope f cd A outer s H E).ex := fun b z => absurd (show b ∈ ([] : List Addr) from z) (by simp)
  refine ⟨⟨e0.mod, S.kind, rfl, rfl, Nat.le_refl _, fun y z c h1 h2 => ?_, fun y hy => ?_, fun y c _ h => ?_, fun _ => hd, Around.frames_deeper e0.frames, .inr ⟨rfl, rfl⟩, fun b z => absurd z (noA b), e0.bs, e0.bsz, fun b _ _ => noA b, fun b z => absurd z (noA b), e0.funs, e0.frf⟩,
    rfl, e0.bare, Un.kept hk, ⟨_, x.toInCall.ns, fun i y v h1 h2 h3 => ?_⟩, fun y c h => ⟨_, x.cell y c h⟩, e0.hok.fresh (Nat.le_refl _), fun y c h => ?_, fun p hp => absurd (show p ∈ ([] : List (Addr × Obj)) from hp) (by simp), e0.hok.kept hk, ?_⟩
  · exact name_of_addr x.apart (PySem.mem_of_lookup h1) (PySem.mem_of_lookup h2)
  · have hy : scope.names.lookup y = some .cell ∨ scope.names.lookup y = some .free := hy
    rcases hy with hy | hy
    · exact cell_has hy
    · exact absurd rfl (S.nofree _ (PySem.mem_of_lookup hy))
  · exact Nat.le_of_lt (x.above y c (PySem.mem_of_lookup h))
  · have hi : i < vs.length := by
      unfold start at h2
      by_cases hi : i < vs.length
      · exact hi
      · rw [List.getElem?_append_right (by simpa using hi)] at h2
        rw [List.getElem?_replicate] at h2
        split at h2 <;> cases h2
    have ha : vs[i]? = some v := by
      unfold start at h2
      rw [List.getElem?_append_left (by simpa using hi), List.getElem?_map] at h2
      cases e : vs[i]? with
      | none => rw [e] at h2; cases h2
      | some a => rw [e] at h2; cases h2; rfl
    obtain ⟨u, hu, rv⟩ := r.get ha
    have hp : ps[i]? = some y := by
      rw [← S.pre, List.getElem?_take_of_lt (by omega)]; exact h1
    have ndP : ps.Nodup := by rw [← S.pre]; exact S.nd.sublist (List.take_sublist _ _)
    refine ⟨u, rv, ?_⟩
    rcases S.par y (List.mem_of_getElem? hp) with k | k
    · exact .inl ⟨k, bindL_get ndP hp hu k⟩
    · obtain ⟨c, e⟩ := cell_has (n := s.heap.objs.size + 1) k
      refine .inr ⟨.inl k, c, e, ?_⟩
      have q := x.cell y c e
      rw [bindC_get ndP hp hu (by show scope.names.lookup y ≠ _; rw [k]; decide)] at q
      exact q
  · exact e0.hok.fresh (Nat.le_of_lt (x.above y c (PySem.mem_of_lookup h)))
  · unfold start
    show _ = N.length
    rw [List.length_append, List.length_map, List.length_replicate]
    omega
/-- THE RULE: a def (or a method) of the text, by its body. The body's reading t is chosen for each entry; it is run at the parameters' values -/
theorem fn_of {CX : CXT} {P : Program} {w : World} {K : PySem.W.Frag} {mg : Str → Option Value} {base : Heap} {k : Nat} {f : Addr} {name qual : Str} {params : Arguments} {body : List Stmt} {scope : Scope} {dV kV doc pm cdv ct oc : Value} {an od : Option Addr}
    {osl : Array (Option Value)} {N ps : List Str} {sp : Sp} (lk : K.lookup f = some ⟨oc, od, .func (PySem.W.fnOf name qual params body scope dV kV doc pm an cdv ct), osl⟩) (hcd : PySem.W.codeIn K cdv qual = true) (S : FnScope N ps scope)
    (len : ∀ vs H Q E, sp vs H Q E → vs.length = ps.length)
    (hbody : ∀ (A : Around) (outer : List Env) (s : Shared) (H : Hp) (vs : List V) (Q : VK) (E : XK), Room k (A.deeper (envOfC qual scope s.heap.objs.size f cdv)) → sp vs H Q E →
      ∃ t, PSs (cxOf CX P w K mg base N qual scope f cdv A outer s H E) body t ∧ t { nx := fun _ H' => Q .non H', rt := Q } (start N vs) H) :
    FnOk P w K mg base CX (k + 1) f (PySem.W.fnOf name qual params body scope dV kV doc pm an cdv ct) ps sp := by
  refine ⟨len, fun A outer s H args us vs Q E hr e0 hb r hsp => ?_⟩
  have hl := len _ _ _ _ hsp
  have KX : K.In s.heap := e0.mod.kin.keeps fun b o e => (e0.bs b o e).1
  have lim : s.heap.NoLimit := e0.mod.nolimit.keeps fun b o e => (e0.bs b o e).1
  have hkind : ∀ y ∈ ps.zip us, scope.names.lookup y.1 = some .local ∨ (scope.names.lookup y.1 = some .cell ∧ ((cellsFrom (s.heap.objs.size + 1) scope.names []).lookup y.1).isSome = true) := fun ⟨n, v⟩ hy => by
    rcases S.par n (List.of_mem_zip hy).1 with q | q
    · exact .inl q
    · exact .inr ⟨q, PySem.W.cellsFrom_some _ _ _ (.inl q)⟩
  refine codeAny_call_function hr.depth (KX _ _ lk) rfl S.co S.gen rfl (PySem.W.codeRec_of KX hcd) (hb _ _ _ _ ?_)
  refine wpAny_newFunctionEnv_cells S.kind hkind fun env he s1 x => ?_
  subst he
  refine ⟨lim.keeps x.toInCall.keep, codeAny_func ?_⟩
  obtain ⟨t, ht, hq⟩ := hbody A outer s H vs Q E (hr.deeper _) hsp
  have I : Inv (cxOf CX P w K mg base N qual scope f cdv A outer s H E) [] (start N vs) H s1 := inv_start S hr.hd e0 hl r x
  refine wpAny_mono (ht [] s1 (start N vs) H _ I hq) (fun fl s' hs => ?_) fun e s' hs => hs
  have fin : ∀ {σ' : St} {H' : Hp} {v : V} {u : Value}, Inv (cxOf CX P w K mg base N qual scope f cdv A outer s H E) [] σ' H' s' → RelV v u → Q v H' → CE outer P w H s Q u s' :=
    fun {σ' H' v u} J rv q => ⟨v, H', J.os, J.bare, J.base, J.hok, rv, q⟩
  cases fl with
  | ret u =>
    obtain ⟨v, σ', H', J, rv, q⟩ := hs
    exact fin J rv q
  | next =>
    obtain ⟨σ', H', J, q⟩ := hs
    exact fin (v := V.non) (u := Value.none) J rfl q
  | brk =>
    obtain ⟨_, _, _, q⟩ := hs
    exact False.elim q
  | cont =>
    obtain ⟨_, _, _, q⟩ := hs
    exact False.elim q
end L2
namespace L2
open PySem PySem.Spec PyProof.Rows
section
variable {X : Cx} {x : Str} {p pos : Pos} {e : Expr} {es : List Expr} {t : TA} {id T : String} {r : List V → Hp → VK → Prop}
noncomputable def tCB (r : List V → Hp → VK → Prop) (t : TA) : TE := fun σ H Q => t σ H fun vs H1 => r vs H1 Q
/-- f(e, ..), f a built-in function -/
theorem pe_callB (hc : CallR X (.builtin id) r) (hg : Gl X x) (hm : X.mg x = none) (hv : bootBuiltins x = some (.builtin id)) (ha : PA X (e :: es) t) (hn : x ≠ "__name__" := by decide) (hdb : (x == ("__debug__" : Str)) = false := by decide)
    (he : starEach (e :: es) X.env = (false, eval e X.env) :: starEach es X.env := by rfl) (hpl : (backTo pos (starEach es X.env)).any (·.1) = false := by rfl) : PE X (.Call (.Name x p) (e :: es) [] pos) (tCB r t) := by
  intro pins s σ H Q I h
  refine wpAny_Call_Name_kw (ld_blt I hg hm hv ?_ hn hdb)
  exact PyProof.Rows.callWith_builtin1 (thn (ha pos pins s σ H _ I h) fun us s1 ⟨vs, H1, I1, r1, q1⟩ => hc pins s1 σ H1 vs us Q I1 r1 q1) he hpl
end
end L2
namespace HT
open PySem PyProof.Rows
section
open PySem.SeqAt
open PySem.AutoSeq1 (wpAny_loadPart')
open PySem.MeetsSeq PySem.MeetsSeq2 PySem.MeetsSeq3
end
section
variable {prog : Program} {w : World} {A : Around} {E : Value → Shared → Prop} {s : Shared}
/-! ### t[a:b], not the whole -/
end
end HT
namespace L2
open PySem PySem.Spec PyProof.Rows
/-! ### the parts of a slice -/
noncomputable abbrev TO := St → Hp → (Option Int → Hp → Prop) → Prop
section
variable {X : Cx} {e : Expr} {te : TE} {lo hi : Option Expr} {tl th : TO} {pos p2 : Pos}
/-! ### t < u, t + u -/
end
end L2
namespace L2
open PySem PySem.Spec PyProof.Rows
/-! ### places -/
/-- the place that an index of any sign means -/
noncomputable def ixN (n : Nat) (i : Int) : Option Nat := if 0 ≤ i then (if i < n then some i.toNat else none) else if -(n : Int) ≤ i then some (i + n).toNat else none
noncomputable def atI {α : Type} (xs : List α) (i : Int) : Option α := (ixN xs.length i).bind fun j => xs[j]?
theorem ixN_seq {n : Nat} {i : Int} {j : Nat} (h : ixN n i = some j) : seqIndex? i n = some j ∧ j < n ∧ -(n : Int) ≤ i ∧ i < n := by
  unfold ixN at h
  by_cases h0 : 0 ≤ i
  · rw [if_pos h0] at h
    by_cases h1 : i < n
    · rw [if_pos h1] at h
      have e : i.toNat = j := Option.some.inj h
      exact ⟨by rw [seqIndex_of h0 h1, e], by omega, by omega, h1⟩
    · rw [if_neg h1] at h; cases h
  · rw [if_neg h0] at h
    by_cases h1 : -(n : Int) ≤ i
    · rw [if_pos h1] at h
      have e : (i + n).toNat = j := Option.some.inj h
      exact ⟨by rw [seqIndex_neg (by omega) h1, e], by omega, h1, by omega⟩
    · rw [if_neg h1] at h; cases h
theorem atI_get {α : Type} {xs : List α} {i : Int} {v : α} (h : atI xs i = some v) : ∃ j, seqIndex? i xs.length = some j ∧ xs[j]? = some v ∧ j < xs.length ∧ -(xs.length : Int) ≤ i ∧ i < xs.length := by
  unfold atI at h
  cases e : ixN xs.length i with
  | none => rw [e] at h; cases h
  | some j =>
    rw [e] at h
    obtain ⟨h1, h2, h3, h4⟩ := ixN_seq e
    exact ⟨j, h1, h, h2, h3, h4⟩
theorem atI_nat {α : Type} {xs : List α} {j : Nat} {v : α} (h : xs[j]? = some v) : atI xs (j : Int) = some v := by
  have hj : j < xs.length := (List.getElem?_eq_some_iff.mp h).1
  have e : ixN xs.length (j : Int) = some j := by
    unfold ixN
    rw [if_pos (by omega), if_pos (by omega)]; simp
  unfold atI; rw [e]; exact h
/-! ### what may be subscripted -/
/-- what stands as an index of a plain subscript -/
noncomputable def PlainIx (b : Expr) : Prop := ∀ o i, subscripted b false o i = operate [o, i] (getItem o i)
/-- a subscript by values -/
noncomputable def IxR (X : Cx) (r : R2) : Prop :=
  ∀ (value slice : Expr) (pins : List (Addr × Obj)) (s : Shared) (σ : St) (H : Hp) (x y : V) (v u : Value) (Q : VK), Inv X pins σ H s → RelV x v → RelV y u → r x y H Q →
    subscripted slice false v u = operate [v, u] (getItem v u) → wpAny (model X.prog X.w) X.A (subscriptTail value slice v u) (EP X pins σ Q) X.xe s
/-- a call of a builtin's method by values: the receiver, the arguments -/
noncomputable def MtR (X : Cx) (id : String) (r : V → List V → Hp → VK → Prop) : Prop :=
  ∀ (pins : List (Addr × Obj)) (s : Shared) (σ : St) (H : Hp) (x : V) (xs : List V) (v : Value) (us : List Value) (Q : VK), Inv X pins σ H s → RelV x v → Vals xs us → r x xs H Q →
    wpAny (model X.prog X.w) X.A (call (.builtin id) (v :: us)) (EP X pins σ Q) X.xe s
section
variable {X : Cx} {a b : Expr} {ta tb : TE} {pos : Pos}
/-- a[b] -/
theorem pe_ix {r : R2} (hr : IxR X r) (ha : PE X a ta) (hb : PE X b tb) (hs : PlainIx b) : PE X (.Subscript a b pos) (tOp r ta tb) := by
  intro pins s σ H Q I h
  exact Subscript_ (binT ha hb I h fun v u s2 x y H2 I2 rx ry q => hr a b pins s2 σ H2 x y v u Q I2 rx ry q (hs _ _))
noncomputable def rIxL (K : PySem.W.Frag) : R2 := fun x y H Q => ∃ p xs i v, x = .ref p ∧ y = .int i ∧ SqL K H p xs ∧ atI xs i = some v ∧ Q v H
theorem ix_list : IxR X (rIxL X.K) := by
  intro value slice pins s σ H x y v u Q I rx ry h hs
  obtain ⟨p, xs, i, z, rfl, rfl, hq, he, q⟩ := h
  cases rx
  obtain ⟨t, rfl⟩ := ry
  obtain ⟨its, r, pl, hz⟩ := I.list hq
  obtain ⟨j, h1, h2, h3, h4, h5⟩ := atI_get he
  obtain ⟨w, ew, rw'⟩ := r.get h2
  have hl := r.length
  have hn := line63
  have fin : EP X pins σ Q w s := ⟨z, H, I, rw', q⟩
  by_cases h0 : 0 ≤ i
  · have hj : i.toNat = j := by
      rw [seqIndex_of h0 h5] at h1
      exact Option.some.inj h1
    exact item_listR pl.isList h0 (by omega) (by rw [hj]; simpa using ew) fin hs
  · have hj : (i + (its.toArray.size : Int)).toNat = j := by
      rw [seqIndex_neg (by omega) h4] at h1
      rw [List.size_toArray, ← hl]
      exact Option.some.inj h1
    exact subscriptTail_builtinR (x := w) pl.isList.typeIs slot_list_getitem.lookup
      (wpAny_getItem_list_neg (Q := fun r s' => r = w ∧ EP X pins σ Q r s') pl.isList (by omega) (by rw [List.size_toArray] <;> omega) (by omega) (by rw [hj]; simpa using ew) ⟨rfl, fin⟩) hs
/-! ### xs[i] = v, any sign -/
/-! ### slices -/
/-! ### in, not in: flat items -/
/-! ### len, list(x), tuple(x) of any list or tuple that is read -/
/-! ### the call of a builtin's method: o.m(..) -/
/-- the value is of that builtin type -/
noncomputable def tyV (K : PySem.W.Frag) (T : String) (x : V) (H : Hp) : Prop := match x with
  | .str _ => T = "str"
  | .int _ => T = "int"
  | .ref p => (T = "list" ∧ ∃ xs, SqL K H p xs) ∨ (T = "tuple" ∧ ∃ o, K.lookup p = some o ∧ o.cls = .type "tuple" ∧ o.dict = none) ∨
      (T = "dict" ∧ ((∃ kvs, H p = some (.dK kvs)) ∨ ∃ kvs, H p = some (.dT kvs))) ∨ (T = "set" ∧ ∃ S n, H p = some (.set S n))
  | _ => False
theorem tyV_is {pins : List (Addr × Obj)} {σ : St} {H : Hp} {s : Shared} {T : String} {x : V} {v : Value} (I : Inv X pins σ H s) (r : RelV x v) (ty : tyV X.K T x H) :
    s.TypeIs v T ∧ ∀ a, v = .ref a → ∃ ob, s.heap.get? a = some ob ∧ ob.dict = none := by
  cases x with
  | str z =>
    obtain ⟨t, rfl⟩ := r
    cases (show T = "str" from ty)
    exact ⟨typeIs_str s z t, fun _ e => nomatch e⟩
  | int i =>
    obtain ⟨t, rfl⟩ := r
    cases (show T = "int" from ty)
    exact ⟨typeIs_int s i t, fun _ e => nomatch e⟩
  | ref p =>
    cases r
    rcases ty with ⟨rfl, xs, hq⟩ | ⟨rfl, o, hk, hc, hd⟩ | ⟨rfl, hk⟩ | ⟨rfl, S, n, hk⟩
    · obtain ⟨its, _, pl, _⟩ := I.list hq
      refine ⟨pl.isList.typeIs, fun a e => ?_⟩
      cases e
      obtain ⟨o, n, e, c, hd, _⟩ := pl
      exact ⟨o, e, hd⟩
    · refine ⟨⟨o, I.kIn p o hk, hc⟩, fun a e => ?_⟩
      cases e
      exact ⟨o, I.kIn _ o hk, hd⟩
    · have z : ∃ o, s.heap.get? p = some o ∧ o.ExactDict := by
        rcases hk with ⟨kvs, hk⟩ | ⟨kvs, hk⟩
        · obtain ⟨_, _, _, _, o, _, _, e, ex, _⟩ := I.hok p _ hk
          exact ⟨o, e, ex⟩
        · obtain ⟨_, _, _, _, o, _, _, e, ex, _⟩ := I.hok p _ hk
          exact ⟨o, e, ex⟩
      obtain ⟨o, e, ex⟩ := z
      refine ⟨⟨o, e, ex.1⟩, fun a e2 => ?_⟩
      cases e2
      exact ⟨o, e, ex.2.1⟩
    · obtain ⟨o, _, _, _, e, ex, _⟩ := I.hok p _ hk
      refine ⟨⟨o, e, ex.1⟩, fun a e2 => ?_⟩
      cases e2
      exact ⟨o, e, ex.2.1⟩
  | _ => exact False.elim ty
noncomputable def tBM0 (K : PySem.W.Frag) (T : String) (r : V → List V → Hp → VK → Prop) (to : TE) : TE := fun σ H Q => to σ H fun x H1 => tyV K T x H1 ∧ r x [] H1 Q
variable {o e : Expr} {es : List Expr} {to : TE} {t : TA} {name : Str} {apos cpos : Pos} {T id : String} {r : V → List V → Hp → VK → Prop}
theorem pe_bm0 (pa : PlainAttrs T) (slot : Slot T name id) (hty : typeOf (.builtin id) = pure (.type "method_descriptor")) (hm : MtR X id r) (ho : PE X o to)
    (hbase : attributeBase o name X.env (eval o X.env) = eval o X.env := by rfl) (hline : (apos.endLine == cpos.line) = true := by rfl) : PE X (.Call (.Attribute o name apos) [] [] cpos) (tBM0 X.K T r to) := by
  intro pins s σ H Q I h
  refine wpAny_Call_method0_late hbase hline (thn (ho pins s σ H _ I h) fun v s1 ⟨x, H1, I1, r1, ty, q1⟩ => ?_)
  obtain ⟨h1, h2⟩ := tyV_is I1 r1 ty
  exact ⟨T, id, pa, slot, hty, h1, h2, Calls.callWith_builtin rfl (PySem.evalArgs_none (hm pins s1 σ H1 x [] v [] Q I1 r1 .nil q1))⟩
/- xs.append(e), list.index on a module's tuple .. are MtR facts of 06m -/
end
end L2
namespace L2
open PySem PySem.Spec PyProof.Rows
/-! ### lists of values -/
section
variable {X : Cx} {pins : List (Addr × Obj)} {σ : St} {H : Hp} {s : Shared} {l b : Addr} {xs ys zs : List V}
/-! ### the two steps: a tracked list is rewritten, a new list is laid -/
end
section
variable {X : Cx}
/-! ### methods -/
/-! ### list + list, list += list, list * int -/
/-! ### del xs[i] -/
end
/-! ### xs[a:b] = ys -/
section
variable {prog : Program} {w : World} {A : Around} {E : Value → Shared → Prop} {s : Shared}
end
section
variable {X : Cx}
end
end L2
namespace L2
open PySem PySem.Spec PyProof.Rows
/-! ### the library's walks over a list of ints, kept objects alone -/
section
variable {prog : Program} {w : World} {A : Around} {E : Value → Shared → Prop} {s : Shared} {l : Addr} {its : List Value} {ns : List Int} {Q : Value → Shared → Prop}
end
/-! ### the calls, by values (CallR of 03t; MtR of 06l) -/
section
variable {X : Cx}
/-! sorted, sort (fewer than 64 items: the library's own bound) -/
end
/-! ### list.index, flat items -/
section
variable {X : Cx}
end
/-! ### type(x) of an own instance; is, is not of a module's class -/
section
variable {X : Cx}
end
/-! ### any(xs), all(xs) of a list of bools -/
section
variable {X : Cx}
end
/-! ### == and != of data at any depth: none, bools, ints, texts, lists, tuples -/
mutual
inductive Dp (K : PySem.W.Frag) (H : Hp) : V → PyData → Prop
  | non : Dp K H .non .none
  | bl (b : Bool) : Dp K H (.bl b) (.bool b)
  | int (i : Int) : Dp K H (.int i) (.int i)
  | str (x : Str) : Dp K H (.str x) (.str x)
  | lst {a : Addr} {xs : List V} {ds : List PyData} : SqL K H a xs → DpAll K H xs ds → Dp K H (.ref a) (.list ds)
  | tup {a : Addr} {xs : List V} {ds : List PyData} : SqT K H a xs → DpAll K H xs ds → Dp K H (.ref a) (.tuple ds)
inductive DpAll (K : PySem.W.Frag) (H : Hp) : List V → List PyData → Prop
  | nil : DpAll K H [] []
  | cons {v : V} {vs : List V} {d : PyData} {ds : List PyData} : Dp K H v d → DpAll K H vs ds → DpAll K H (v :: vs) (d :: ds)
end
section
variable {X : Cx} {pins : List (Addr × Obj)} {σ : St} {H : Hp} {s : Shared}
mutual
theorem Dp.reads (I : Inv X pins σ H s) : ∀ (d : PyData) (v : V) (u : Value), Dp X.K H v d → RelV v u → ∃ as, Reads s.heap u d as
  | .none, _, _, h, r => by
    cases h
    cases r
    exact ⟨_, Reads.none⟩
  | .bool b, _, _, h, r => by
    cases h
    cases r
    exact ⟨_, Reads.bool b⟩
  | .int i, _, _, h, r => by
    cases h
    obtain ⟨t, rfl⟩ := r
    exact ⟨_, Reads.int i t⟩
  | .str x, _, _, h, r => by
    cases h
    obtain ⟨t, rfl⟩ := r
    exact ⟨_, Reads.str x t⟩
  | .list ds, _, _, h, r => by
    cases h with
    | lst hs ha =>
      cases r
      obtain ⟨its, rv, ⟨o, n, ho, hc, _, hd⟩, _⟩ := I.list hs
      obtain ⟨as, hr⟩ := Dp.readsAll I ds _ its ha rv
      exact ⟨_, Reads.list ho hc hd hr⟩
  | .tuple ds, _, _, h, r => by
    cases h with
    | tup hs ha =>
      cases r
      obtain ⟨its, rv, ⟨o, ho, hc, n, hd⟩, _⟩ := I.tuple hs
      obtain ⟨as, hr⟩ := Dp.readsAll I ds _ its ha rv
      exact ⟨_, Reads.tuple ho hc hd hr⟩
  | .dict _, _, _, h, _ => by cases h
theorem Dp.readsAll (I : Inv X pins σ H s) : ∀ (ds : List PyData) (vs : List V) (us : List Value), DpAll X.K H vs ds → Vals vs us → ∃ as, ReadsAll s.heap us ds as
  | [], _, _, h, r => by
    cases h
    cases r
    exact ⟨_, ReadsAll.nil⟩
  | d :: ds, _, _, h, r => by
    cases h with
    | cons h1 h2 =>
      cases r with
      | cons r1 r2 =>
        obtain ⟨as, q1⟩ := Dp.reads I d _ _ h1 r1
        obtain ⟨bs, q2⟩ := Dp.readsAll I ds _ _ h2 r2
        exact ⟨_, ReadsAll.cons q1 q2⟩
end
end
section
variable {X : Cx}
end
end L2
namespace L2
open PySem PySem.Spec PyProof.Rows
/-- the names of a comprehension's block: its own (with their places in N), or captured -/
structure BlkOk (N : List Str) (sc scope : Scope) (own : List (Str × Nat)) : Prop where
  kind : scope.kind = .function
  uniq : ∀ y ∈ scope.names, scope.names.lookup y.1 = some y.2
  ix : ∀ p ∈ own, N[p.2]? = some p.1
  free : ∀ y ∈ scope.names, y.2 = .free → sc.names.lookup y.1 = some .cell ∨ sc.names.lookup y.1 = some .free
  own : ∀ y ∈ scope.names, y.2 = .local ∨ y.2 = .cell → y.1 ∈ own.map (·.1) ∨ y.1 ∉ N
section
variable {X : Cx} {pins : List (Addr × Obj)} {σ : St} {H : Hp} {s : Shared}
end
section
variable {X : Cx}
end
/-! ### the forms one uses -/
end L2
namespace L2
open PySem PySem.Spec PyProof.Rows
section
variable {prog : Program} {w : World} {A : Around} {R : Result → Shared → Prop} {s : Shared} {elt t0 i0 t1 i1 : Expr} {ifs0 ifs1 : List Expr} {scope : Scope} {pos : Pos} {it acc : Value} {env : Env}
end
section
variable {X : Cx}
end
end L2
namespace L2
open PySem PySem.Spec PyProof.Rows
/-! ### lists of pairs as tables -/
section
variable {κ : Type} [DecidableEq κ]
end
/-! ### a tracked dict, its keys ints and texts or tuples of these -/
section
variable {P : Program} {w : World} {H : Hp} {h : Heap} {a : Addr}
end
section
variable {X : Cx} {pins : List (Addr × Obj)} {σ : St} {H : Hp} {s : Shared} {a : Addr} {y v : V} {u r : Value} {o : Option V} {A : Around} {E : Value → Shared → Prop}
end
section
variable {X : Cx} {pins : List (Addr × Obj)} {σ : St} {H : Hp} {s : Shared} {a : Addr} {kvs : List (Key × V)} {k : Key} {u : Value} {A : Around} {E : Value → Shared → Prop}
end
/-! ### readings and rules -/
section
variable {X : Cx} {o i e value : Expr} {pos pos' tpos : Pos} {td ty tv : TE}
end
/-! ### displays -/
section
variable {X : Cx} {pos : Pos}
end
/-! ### methods -/
/-- a method call o.m(e) of a built-in, with one argument: what must be seen of the text -/
structure M1 (X : Cx) (o : Expr) (m : Str) (apos : Pos) (e : Expr) (cpos : Pos) : Prop where
  base : attributeBase o m X.env (eval o X.env) = eval o X.env
  few : ((backTo cpos (starEach [e] X.env)).all (fun x => !x.1) && (backToKw cpos (keywordEach [] X.env)).all (fun x => x.1.isSome)
    && decide (([e] : List Expr).length + ([] : List Keyword).length + (if ([] : List Keyword).isEmpty then 0 else 1) < 30)) = true
  line : (apos.endLine == cpos.line) = true
  trees : backTo cpos (starEach [e] X.env) = [(false, eval e X.env)]
structure M2 (X : Cx) (o : Expr) (m : Str) (apos : Pos) (e f : Expr) (cpos : Pos) : Prop where
  base : attributeBase o m X.env (eval o X.env) = eval o X.env
  few : ((backTo cpos (starEach [e, f] X.env)).all (fun x => !x.1) && (backToKw cpos (keywordEach [] X.env)).all (fun x => x.1.isSome)
    && decide (([e, f] : List Expr).length + ([] : List Keyword).length + (if ([] : List Keyword).isEmpty then 0 else 1) < 30)) = true
  line : (apos.endLine == cpos.line) = true
  trees : backTo cpos (starEach [e, f] X.env) = [(false, eval e X.env), (false, eval f X.env)]
section
variable {X : Cx} {pins : List (Addr × Obj)} {σ : St} {H : Hp} {s : Shared} {a : Addr} {y d : V} {u r : Value} {o : Option V} {A : Around} {E : Value → Shared → Prop}
end
section
variable {X : Cx} {o e f : Expr} {apos cpos : Pos} {td ty tx : TE}
end
/-! ### dict(d): a copy -/
section
variable {X : Cx} {pins : List (Addr × Obj)} {σ : St} {H : Hp} {s : Shared} {a : Addr} {kvs : List (Key × V)} {A : Around} {E : Value → Shared → Prop}
end
section
variable {X : Cx} {pins : List (Addr × Obj)} {σ : St} {H : Hp} {s : Shared} {a : Addr} {y : V} {u : Value} {A : Around} {E : Value → Shared → Prop}
end
end L2
namespace L2
open PySem PySem.Spec PyProof.Rows
section
variable {prog : Program} {w : World} {A : Around} {E : Value → Shared → Prop}
end
section
variable {X : Cx}
end
end L2
namespace L2
open PySem PySem.Spec PyProof.Rows
section
variable {X : Cx} {pins : List (Addr × Obj)} {σ : St} {H : Hp} {s : Shared} {h' : Heap}
/-! ### locking a thing while a statement runs -/
end
section
variable {X : Cx}
/-! ### one iterator just laid -/
theorem pi_one {tg : Expr} {pins : List (Addr × Obj)} {σ : St} {H : Hp} {s : Shared} {R : It → Hp → Prop} {J : It} {tn : Nat → Heap → Prop} {tk : Nat} (I : Inv X pins σ H s) (o : Obj)
    (T : Turn X.prog X.w X.K tg J [s.heap.objs.size] s.heap.objs.size tn) (st : tn 0 (s.heap.push o)) (q : R J H) : PIE X pins σ tg R (.ref s.heap.objs.size) { s with heap := s.heap.push o, toks := tk } := by
  refine ⟨s.heap.objs.size, [s.heap.objs.size], tn, J, H, rfl, I.kept fun b ob e => Heap.get?_push_of_some _ e, T, st, fun b hb => ?_, q⟩
  have e : b = s.heap.objs.size := by simpa using hb
  subst e
  exact I.fpOk (Nat.le_refl _) (I.hok.fresh (Nat.le_refl _))
end
/-! ### range with a step -/
/-- lo, lo + c, .. (n of them) -/
noncomputable def Itc (lo c : Int) (n : Nat) : It := ⟨fun i _ => i < n, fun i H x H' => H' = H ∧ x = .int (lo + (i : Nat) * c), fun i _ => n ≤ i⟩
theorem turn_rangeC {P : Program} {w : World} {K : PySem.W.Frag} {tg : Expr} (it : Addr) (lo c : Int) (n : Nat) : Turn P w K tg (Itc lo c n) [it] it (fun i h => IsRangeIter h it (lo + (i : Nat) * c) ((n : Int) - (i : Nat)) c) where
  mem := by simp
  obj := fun i h st b hb => by
    have e : b = it := by simpa using hb
    subst e
    exact ⟨_, st, fun v z => nomatch z⟩
  keep := fun i h h' st k => k it (by simp) _ st
  item := by
    intro X hP hw hK hc i pins s σ H E I hf st hg
    subst hP hw hK
    obtain ⟨f0, f1, f2, f3, f4, f5⟩ := hf it (by simp)
    have W := Walks.range (prog := X.prog) (w := X.w) (I.ok.hd hc) it lo c n
    refine W.item i s _ _ hg st fun v h' tk hv st' kk => ?_
    obtain ⟨t, rfl⟩ := hv
    have I1 : Inv X pins σ H { s with heap := h', toks := tk } := I.turned (fun b o hb e => kk b o (by simpa using hb) e) f0 f1 f3 f4 f5
    exact ⟨_, rfl, go_of (s := { s with heap := h', toks := tk }) (n := "range_iterator") st' rfl rfl (by decide) ⟨.int (lo + (i : Nat) * c), H, I1, ⟨t, rfl⟩, ⟨rfl, rfl⟩, st', fun b hb => (hf b hb).1⟩⟩
  done := by
    intro X hP hw hK hc i pins s σ H E I hf st hg
    subst hP hw hK
    obtain ⟨f0, f1, f2, f3, f4, f5⟩ := hf it (by simp)
    exact wpAny_pyNext_range_end (I.ok.hd hc) st (by have : n ≤ i := hg; omega) fun h' eb => ⟨rfl, I.turned (t' := s.toks) (fun b o hb e => eb b o hb e) f0 f1 f3 f4 f5⟩
  self := fun A i s Q E st h => wpAny_pyIter_rangeiter st h
/-- range(i, j, c): small bounds, n items -/
noncomputable def RgC (i j c : Int) (n : Nat) : Prop := c ≠ 0 ∧ c.natAbs < 1073741824 ∧ Builtin.Range.small i j c = true ∧ Builtin.Range.rangeSize i j c = n
theorem RgC.neg {i j : Int} (ha : -(2 ^ 62) ≤ i) (ha' : i < 2 ^ 62) (hb : -(2 ^ 62) ≤ j) (hb' : j < 2 ^ 62) : RgC i j (-1) (i - j).toNat :=
  ⟨by decide, by decide, PySem.W.small_down ha ha' hb hb', PySem.W.rangeSize_downNat i j⟩
noncomputable def iRng3 (ta : TA) : TI := fun σ H R => ta σ H fun vs H1 => ∃ (i j c : Int) (n : Nat), vs = [.int i, .int j, .int c] ∧ RgC i j c n ∧ R (Itc i c n) H1
section
variable {X : Cx} {tg : Expr}
theorem pi_range3 {a b c : Expr} {ta : TA} {p pos : Pos} (hg : Gl X "range") (hm : X.mg "range" = none) (ha : PA X [a, b, c] ta)
    (hs : starEach [a, b, c] X.env = (false, eval a X.env) :: starEach [b, c] X.env := by rfl) (hpl : (backTo pos (starEach [b, c] X.env)).any (·.1) = false := by rfl) :
    PI X tg (.Call (.Name "range" p) [a, b, c] [] pos) (iRng3 ta) := by
  intro pins s σ H R I h
  refine Call_ (ld_blt I hg hm boot_range (PyProof.Rows.callWith_type1 (thn (ha pos pins s σ H _ I h) fun us s1 ⟨vs, H1, I1, r1, q1⟩ => ?_) hs hpl))
  obtain ⟨i, j, k, n, e, ⟨c0, c1, c2, c3⟩, q⟩ := q1
  subst e
  cases r1 with
  | cons r rr =>
    cases rr with
    | cons r' rr =>
      cases rr with
      | cons r'' rr =>
        cases rr
        obtain ⟨t, rfl⟩ := r
        obtain ⟨t', rfl⟩ := r'
        obtain ⟨t'', rfl⟩ := r''
        refine call_range_3 c0 ?_ (.inl (PyProof.noPylong_small c1))
        refine wpAny_pyIter_range (IsRange.new ..) c2 ?_
        have I2 : Inv X pins σ H1 { s1 with heap := s1.heap.push { cls := .type "range", data := .fields #[.int i t, .int j t', .int k t''] } } := I1.kept (t' := s1.toks) fun b o e => Heap.get?_push_of_some _ e
        refine pi_one (tk := s1.toks) I2 _ (turn_rangeC _ i k n) ?_ q
        have e1 : i + ((0 : Nat) : Int) * k = i := by simp
        have e2 : (n : Int) - ((0 : Nat) : Int) = Builtin.Range.rangeSize i j k := by rw [c3]; simp
        show IsRangeIter _ _ (i + ((0 : Nat) : Int) * k) ((n : Int) - ((0 : Nat) : Int)) k
        rw [e1, e2]
        exact Heap.get?_push_size _ rfl
end
/-- the turns of a step range, for the for loop -/
theorem for_rangeC {lo c : Int} {n : Nat} {g : TG} {tb : TS} {D : Ends} {σ : St} {H : Hp} (Pv : Nat → St → Hp → Prop) (h0 : Pv 0 σ H)
    (hs : ∀ i σ H, i < n → Pv i σ H → g (.int (lo + (i : Nat) * c)) σ H fun σ2 H2 => tb { D with nx := Pv (i + 1), ct := Pv (i + 1), bk := D.nx } σ2 H2) (hd : ∀ σ H, Pv n σ H → D.nx σ H) :
    ∃ W : Nat → Nat → St → Hp → Prop, (∃ m, W 0 m σ H) ∧ ∀ i m σ H, W i m σ H →
      ((Itc lo c n).stop i H ∧ D.nx σ H) ∨ ((Itc lo c n).go i H ∧ ∃ N : St → Hp → Prop, (∀ σ' H', N σ' H' → ∃ m', m' < m ∧ W (i + 1) m' σ' H') ∧ ∀ x H', (Itc lo c n).yld i H x H' → g x σ H' fun σ2 H2 => tb { D with nx := N, ct := N, bk := D.nx } σ2 H2) := by
  refine ⟨fun i m σ H => m = n - i ∧ i ≤ n ∧ Pv i σ H, ⟨n, by simp, Nat.zero_le _, h0⟩, ?_⟩
  rintro i m σ H ⟨rfl, hi, p⟩
  by_cases hlt : i < n
  · refine .inr ⟨hlt, Pv (i + 1), fun σ' H' p' => ⟨n - (i + 1), by omega, rfl, hlt, p'⟩, fun x H' y => ?_⟩
    obtain ⟨e, y⟩ := y
    subst e y
    exact hs i σ _ hlt p
  · have e : i = n := by omega
    subst e
    exact .inl ⟨Nat.le_refl _, hd σ H p⟩
/-! ### reversed(list) -/
section
variable {X : Cx} {tg : Expr}
end
/-! ### a str -/
noncomputable def Its (x : Str) : It := ⟨fun i _ => i < x.cps.size, fun i H v H' => H' = H ∧ ∃ c, x.cps[i]? = some c ∧ v = .str ⟨#[c]⟩, fun i _ => x.cps.size ≤ i⟩
theorem turn_str {P : Program} {w : World} {K : PySem.W.Frag} {tg : Expr} (it : Addr) (x : Str) (t : Tok) (ty : String) (hty : ty = "str_ascii_iterator" ∨ ty = "str_iterator") :
    Turn P w K tg (Its x) [it] it (fun i h => h.IsStrIter it ty x t i) where
  mem := by simp
  obj := fun i h st b hb => by
    have e : b = it := by simpa using hb
    subst e
    obtain ⟨o, e, c, d⟩ := st
    exact ⟨o, e, fun v z => by rw [d] at z; cases z⟩
  keep := fun i h h' st k => let ⟨o, ho, r⟩ := st; ⟨o, k it (by simp) o ho, r⟩
  item := by
    intro X hP hw hK hc i pins s σ H E I hf st hg
    subst hP hw hK
    obtain ⟨f0, f1, f2, f3, f4, f5⟩ := hf it (by simp)
    have W : Walks X.prog X.w X.A it [it] [it] x.cps.size (SignAt x) (fun i h => h.IsStrIter it ty x t i) := by
      rcases hty with e | e
      · rw [e]; exact Walks.strAscii (I.ok.hd hc) it x t
      · rw [e]; exact Walks.strWide (I.ok.hd hc) it x t
    have hno : ["enumerate", "zip", "dict_itemiterator", "dict_reverseitemiterator", "odict_iterator", "itertools.zip_longest", "itertools.pairwise"].contains ty = false := by
      rcases hty with e | e
      · rw [e]; decide
      · rw [e]; decide
    refine W.item i s _ _ hg st fun v h' tk hv st' kk => ?_
    obtain ⟨c, u, hcx, rfl⟩ := hv
    have I1 : Inv X pins σ H { s with heap := h', toks := tk } := I.turned (fun b o hb e => kk b o (by simpa using hb) e) f0 f1 f3 f4 f5
    obtain ⟨oi, e, cc, dd⟩ := id st'
    exact ⟨_, rfl, go_of (s := { s with heap := h', toks := tk }) e cc dd hno ⟨.str ⟨#[c]⟩, H, I1, ⟨u, rfl⟩, ⟨rfl, c, hcx, rfl⟩, st', fun b hb => (hf b hb).1⟩⟩
  done := by
    intro X hP hw hK hc i pins s σ H E I hf st hg
    subst hP hw hK
    obtain ⟨f0, f1, f2, f3, f4, f5⟩ := hf it (by simp)
    have hx : x.cps[i]? = none := Array.getElem?_eq_none hg
    rcases hty with e | e
    · rw [e] at st
      exact wpAny_pyNext_ascii_end (I.ok.hd hc) st hx fun h' eb => ⟨rfl, I.turned (t' := s.toks) (fun b o hb e => eb b o hb e) f0 f1 f3 f4 f5⟩
    · rw [e] at st
      exact wpAny_pyNext_wide_end (I.ok.hd hc) st hx fun h' eb => ⟨rfl, I.turned (t' := s.toks) (fun b o hb e => eb b o hb e) f0 f1 f3 f4 f5⟩
  self := fun A i s Q E st h => by
    rcases hty with e | e
    · rw [e] at st; exact wpAny_pyIter_striter_ascii st h
    · rw [e] at st; exact wpAny_pyIter_striter_wide st h
noncomputable def iStr (te : TE) : TI := fun σ H R => te σ H fun v H1 => ∃ x, v = .str x ∧ R (Its x) H1
theorem pi_str {X : Cx} {tg e : Expr} {te : TE} (he : PE X e te) : PI X tg e (iStr te) := by
  intro pins s σ H R I h
  refine thn (he pins s σ H _ I h) fun v s1 ⟨y, H1, I1, r1, x, ex, q⟩ => ?_
  subst ex
  obtain ⟨t, rfl⟩ := r1
  cases ha : x.cps.all (· < 128)
  · exact wpAny_pyIter_wide ha (pi_one (tk := s1.toks) I1 _ (turn_str _ x t "str_iterator" (.inr rfl)) ⟨_, Heap.get?_push_size _ rfl, rfl, rfl⟩ q)
  · exact wpAny_pyIter_ascii ha (pi_one (tk := s1.toks) I1 _ (turn_str _ x t "str_ascii_iterator" (.inl rfl)) ⟨_, Heap.get?_push_size _ rfl, rfl, rfl⟩ q)
/-! ### a dict's keys: any dict's entries -/
section
variable {prog : Program} {w : World} {A : Around} {E : Value → Shared → Prop} {s : Shared}
end
/-! ### a locked dict -/
section
variable {X : Cx} {pins : List (Addr × Obj)} {σ : St} {H : Hp} {s : Shared} {d : Addr} {o : Obj}
end
section
variable {P : Program} {w : World} {K : PySem.W.Frag} {tg : Expr} {d : Addr} {o : Obj} {es : Array DictEntry} {ep : Nat}
end
/-! ### for k in d, d.keys(), d.values(), d.items() -/
section
variable {X : Cx} {tg e : Expr} {td : TE} {apos cpos : Pos}
end
/-! ### enumerate(list) -/
/-! ### zip(list, list) -/
end L2
section 
namespace Bits
open PySem PyProof.Rows
end Bits
end 
section 
namespace TL
open PySem PySem.Builtin PySem.Builtin.Str PySem.StrLaws
/-! ### the list functions -/
/-! ### the model's split and partition are these -/
/-! ### computing spl and par -/
/-! ### digits -/
/-! ### words: x.split() -/
end TL
end 
namespace L2
open PySem PySem.Spec PyProof.Rows
section
variable {X : Cx} {pins : List (Addr × Obj)} {σ : St} {H : Hp} {s : Shared} {Q : VK}
end
section
variable {X : Cx}
/-! ### of a text alone -/
/-! ### of a text and a text -/
end
section
variable {X : Cx} {o e : Expr} {to te : TE}
end
end L2
namespace L2
open PySem PySem.Spec PyProof.Rows
section
variable {X : Cx}
end
/-! ### slices of a text -/
end L2
namespace Att
open PySem PySem.W PySem.Calls PyProof.Rows
/-! ### the script -/
theorem ints_of_wellAll {P : Params} {h : Heap} : ∀ (ns : List Int) (vs : List Value), WellAll P h vs (ns.map WData.int) → IntsAre vs ns := by
  intro ns
  induction ns with
  | nil =>
    intro vs w
    rw [List.map_nil] at w
    cases w
    exact .nil
  | cons n ns ih =>
    intro vs w
    rw [List.map_cons] at w
    cases w with
    | cons a b =>
      cases a
      exact .cons _ _ (ih _ b)
theorem script_of {l : OpenLaw} {n : Nat} (hn : l.most = some n) {P : Params} {h : Heap} {args : List WData} {vals : List Value}
    (hpre : l.row.toRowW.claim.pre args = true) (hwl : WellAll P h vals args) :
    ∃ a vs ns, vals = [Value.ref a] ∧ args = [WData.list (ns.map WData.int)] ∧ h.get? a = some { cls := .type "list", data := .seq vs.toArray } ∧ IntsAre vs ns ∧ ns.length ≤ n := by
  have hsh : WShape.hasAll [] args [.list .int] = true := (pre_splitW hpre).1
  have hc : l.pre.holds [] { args := args } = true := (pre_splitW hpre).2
  obtain ⟨d, r, rfl, h1, h2⟩ := hasAllW_cons hsh
  obtain rfl := hasAllW_nil h2
  obtain ⟨xs, rfl, h3⟩ := hasW_list h1
  obtain ⟨ns, rfl⟩ := items_int h3
  have hlen : ns.length ≤ n := by
    unfold OpenLaw.pre at hc
    have h4 : (WTm.not (.lt (.lit (.int (n : Int))) (.len (.arg 0)))).holds [] { args := [.list (ns.map .int)] } = true := by
      have h4 := (holds_andW hc).1
      rw [hn] at h4
      exact h4
    have h5 := condW_of h4 (w_not (w_lt w_lit (w_len_list (w_arg rfl))))
    rw [List.length_map] at h5
    refine Nat.le_of_not_lt fun q => ?_
    have q' : (n : Int) < ((ns.length : Nat) : Int) := by omega
    first
      | (rw [decide_eq_true q'] at h5; exact absurd h5 (by decide))
      | (simp at h5; omega)
  cases hwl with
  | cons w1 w2 =>
    cases w2
    cases w1 with
    | list ho hall => exact ⟨_, _, ns, rfl, rfl, ho, ints_of_wellAll ns _ hall, hlen⟩
theorem post_true (l : OpenLaw) (args : List WData) : l.row.toRowW.claim.post args (.bool true) args = true :=
  postW_of (r := l.row.toRowW) (X := (true == true))
    (show WShape.has [] (.bool true) .bool = true by first | rfl | decide | simp [WShape.has, WShape.arms, WShape.armsAll])
    (show (WTm.eq .res (.lit (.bool true))).value [] { args := args, res := some (.bool true), after := args } = some (.bool (true == true)) from w_eq_bool (w_res rfl) w_lit) rfl
/-! ### the attachment: holds_open's last premise (the goal 'hc' behind k_head) from a wpAny of the law's body -/
/-- the same from a codeAny of the CALL (for a layer whose function contracts speak of calls) -/
theorem attach_call {l : OpenLaw} {n : Nat} {q : Program} {loose : List Str} {XP : (Str → Option Value) → Heap → Prop} {YP : World → Heap → Prop} {d : DefRec}
    (hn : l.most = some n) (hdf : d.params.defaults = [])
    (call : ∀ (w : World) (s₀ s₁ : Shared) (mg mb : Str → Option Value) (fa : Addr) (o : Obj) (pm cd doc : Value) (a : Addr) (vs : List Value) (ns : List Int),
      Ground q loose [] XP w s₀ mg mb s₁.heap → YP w s₁.heap →
      s₁.heap.get? fa = some o → o.data = .func (docDef d.name d.params d.body d.scope pm cd doc) → s₁.heap.CodeRec cd d.name → mg d.name = some (.ref fa) →
      s₁.heap.get? a = some { cls := .type "list", data := .seq vs.toArray } → IntsAre vs ns → ns.length ≤ n → s₁.gens = #[] →
      codeAny (model l.prog w) callerA (.call (.ref fa) ⟨[.ref a], []⟩) (fun r s' => r = .ok (.ret (.bool true)) ∧ OldK s₁.heap s'.heap ∧ s'.os = s₁.os ∧ AllBare s'.gens) s₁) :
    WalkO q loose XP YP l.row.toRowW d [] (fun f vs => PySem.call f vs) := by
  intro w s₀ s₁ mg mb G Y fa o pm cd doc dV kV ho hd hcd hD hmg hg args vals as hpre hlay hrd hwl hlo
  obtain rfl : dV = .none := Dflts.none hD hdf
  obtain rfl : kV = .none := Dflts.noKw hD
  obtain ⟨a, vs, ns, rfl, rfl, hobj, hints, hlen⟩ := script_of hn hpre hwl
  refine enter_call (codeAny_mono (call w s₀ s₁ mg mb fa o pm cd doc a vs ns G Y ho (fd_plain hd) hcd hmg hobj hints hlen hg) fun r s' hq => ?_)
  obtain ⟨rfl, h2, h3, h4⟩ := hq
  exact ⟨.inl ⟨.bool true, .bool true, [], rfl, fun _ => rfl, .bool true, post_true l _, fun _ => ⟨List.Pairwise.nil, fun _ hm => (nomatch hm)⟩⟩, h2, h3, h4⟩
/-! ### rules over ANY heap (no ledger) from facts about the written part K: the library's own take a ledger (News) for what they write -/
section
variable {prog : Program} {w : World} {A : Around} {E : Value → Shared → Prop} {s : Shared} {K : Frag}
/-! the whole heap as the ledger: makes every rule that writes through a ledger a rule over any heap -/
noncomputable def ledger (h : Heap) (L d : Addr) : List (Addr × Obj) := (List.range h.objs.size).filterMap fun a => if a = L ∨ a = d then none else (h.get? a).map fun o => (a, o)
end
end Att
namespace L2
open PySem PySem.Spec PyProof.Rows
theorem vals_ints : ∀ {vs : List Value} {ns : List Int}, IntsAre vs ns → Vals (ns.map V.int) vs
  | _, _, .nil => .nil
  | _, _, .cons n t h => .cons ⟨t, rfl⟩ (vals_ints h)
/-- nothing is tracked but the script, known to the object (or it is an object of the module) -/
noncomputable def Only (H : Hp) : Prop := ∀ b, H b = none ∨ ∃ o xs, H b = some (.frz o (.lst xs))
/-- THE HEAD: the law's promise, at the heap behind the top. F, the promise of the law's def, may use that base is part of the heap (so K.In base, base.Ns mainGlobals mg stand in Mod) -/
theorem law_call {P : Program} {w : World} {K : PySem.W.Frag} {mg mb : Str → Option Value} {CX : CXT} {k : Nat} {fa a : Addr} {fd : FuncData} {x : Str} {sp : Sp} {s₁ : Shared} {vs : List Value} {ns : List Int}
    (KX : K.In s₁.heap) (hns : s₁.heap.Ns mainGlobals mg) (hb : s₁.heap.Ns builtinsNs mb) (hbb : ∀ x : Str, x ≠ "__name__" → mb x = bootBuiltins x) (hlim : s₁.heap.NoLimit) (hg : s₁.gens = #[])
    (ha : s₁.heap.get? a = some { cls := .type "list", data := .seq vs.toArray }) (hi : IntsAre vs ns) (hl : ns.length ≤ sizeLine) (hr : Room k callerA)
    (F : ∀ base : Heap, K.In base → base.Ns mainGlobals mg → FnOk P w K mg base CX k fa fd [x] sp) (hbind : ∀ (s : Shared) (u : Value), BindsTo s fd ⟨[u], []⟩ [(x, u)])
    (hsp : ∀ H : Hp, Only H → SqL K H a (ns.map V.int) → sp [.ref a] H (fun v _ => v = .bl true) fun _ _ _ => False)
    (hCX : ∀ H e s', CX [] H s₁ (fun _ _ _ => False) e s' → False) :
    codeAny (model P w) callerA (.call (.ref fa) ⟨[.ref a], []⟩) (fun r s' => r = .ok (.ret (.bool true)) ∧ OldK s₁.heap s'.heap ∧ s'.os = s₁.os ∧ AllBare s'.gens) s₁ := by
  have rv := vals_ints hi
  have lenV := hi.length
  -- from an abstract heap in which nothing but the script may be tracked
  have core : ∀ H : Hp, Only H → SqL K H a (ns.map V.int) → HOk P w H s₁.heap → (∀ b, H b ≠ none → b = a) → (H a ≠ none → K.lookup a = none) →
      codeAny (model P w) callerA (.call (.ref fa) ⟨[.ref a], []⟩) (fun r s' => r = .ok (.ret (.bool true)) ∧ OldK s₁.heap s'.heap ∧ s'.os = s₁.os ∧ AllBare s'.gens) s₁ := by
    intro H hO hS hok hA hK
    have base_of : ∀ {b : Addr} {o : Obj}, s₁.heap.get? b = some o → H b = none → (hidT s₁.heap H).get? b = some o := fun e n => hidT_get e n
    have noA : ∀ {b : Addr} {o : Obj} {es : Array DictEntry} {ep : Nat}, s₁.heap.get? b = some o → o.data = .dict es ep → H b = none := fun {b o es ep} e d => by
      cases q : H b with
      | none => rfl
      | some u =>
        have e' : b = a := hA b (by rw [q]; simp)
        subst e'
        rw [ha] at e; cases e
        have d' : Data.seq vs.toArray _ = Data.dict es ep := d
        cases d'
    have nsK : ∀ {b : Addr} {m : Str → Option Value}, s₁.heap.Ns b m → (hidT s₁.heap H).Ns b m := fun {b m} ⟨o, es, ep, e, d, r⟩ => ⟨o, es, ep, base_of e (noA e d), d, r⟩
    have hKb : K.In (hidT s₁.heap H) := fun b o e => base_of (KX b o e) (by
      cases q : H b with
      | none => rfl
      | some u =>
        have e' : b = a := hA b (by rw [q]; simp)
        subst e'
        rw [hK (by rw [q]; simp)] at e; cases e)
    have hM : Mod K mg (hidT s₁.heap H) := ⟨hKb, nsK hns, ⟨mb, nsK hb, hbb⟩, let ⟨mc, h1, h2⟩ := hlim; ⟨mc, nsK h1, h2⟩⟩
    have e0 : Env0 P w K mg (hidT s₁.heap H) callerA [] s₁ H := ⟨rfl, hM, fun b o e => of_hidT e, Nat.le_of_eq (hidT_size _ _), trivial, fun b hb => absurd (show b ∈ ([] : List Addr) from hb) (by simp), hok, .of_eq hg⟩
    refine codeAny_mono ((F _ hKb (nsK hns)).run callerA [] s₁ H ⟨[.ref a], []⟩ [.ref a] [.ref a] _ _ hr e0 (hbind s₁ (.ref a)) (.cons rfl .nil) (hsp H hO hS)) fun r s' h => ?_
    cases r with
    | error e => exact (hCX H e s' h).elim
    | ok fl =>
      cases fl with
      | next => exact False.elim h
      | brk => exact False.elim h
      | cont => exact False.elim h
      | ret u =>
        obtain ⟨v, H', os, bare, un, hok', r', q⟩ := h
        have q' : v = .bl true := q
        subst q'
        obtain rfl : u = Value.bool true := r'
        refine ⟨rfl, OldK.of_keep fun b o e => ?_, os, bare⟩
        cases q : H b with
        | none => exact un.keep b o e q (by intro z; exact absurd (show b ∈ ([] : List Addr) from z) (by simp)) (by simp)
        | some u =>
          rcases hO b with z | ⟨ob, xs, z⟩
          · rw [q] at z; cases z
          · have z2 := un.frzs b ob _ z
            obtain ⟨e1, _⟩ := hok b _ z
            obtain ⟨e2, _⟩ := hok' b _ z2
            rw [e] at e1; cases e1
            exact e2
  cases hk : K.lookup a with
  | some o =>
    -- the script is one of the module's own objects
    have e := KX a o hk
    rw [ha] at e
    cases e
    refine core (fun _ => none) (fun _ => .inl rfl) (.inr ⟨_, vs.toArray, _, hk, rfl, rfl, rfl, by rw [List.size_toArray, lenV]; exact hl, by simpa using rv⟩) (fun b u z => by have z' : (none : Option HO) = some u := z; cases z') (fun b z => absurd rfl z) fun z => absurd rfl z
  | none =>
    refine core (fun b => if b = a then some (.frz { cls := .type "list", data := .seq vs.toArray } (.lst (ns.map V.int))) else none) (fun b => ?_) (.inl (.inr ⟨{ cls := .type "list", data := .seq vs.toArray }, if_pos rfl⟩)) (fun b u z => ?_) (fun b z => ?_) fun _ => hk
    · by_cases hb : b = a
      · exact .inr ⟨_, _, if_pos hb⟩
      · exact .inl (if_neg hb)
    · by_cases hb : b = a
      · have z' := (if_pos hb).symm.trans z
        cases z'
        subst hb
        exact ⟨ha, by rw [List.length_map]; exact hl, vs, _, rv, ha⟩
      · have z' := (if_neg hb).symm.trans z
        cases z'
    · by_cases hb : b = a
      · exact hb
      · exact absurd (if_neg hb) z
end L2
namespace L2
open PySem PySem.Spec PyProof.Rows
noncomputable abbrev KOf {K : PySem.W.Frag} {h : Heap} (_ : K.In h) : PySem.W.Frag := K
/-- the goal that k_head leaves (case hc), from the law's promise. F gives the function object fd (K's own) once, then the promise over every base -/
theorem walk_of {l : PySem.W.OpenLaw} {n k : Nat} {q : Program} {loose : List Str} {XP : (Str → Option Value) → Heap → Prop} {YP : World → Heap → Prop} {d : DefRec} {K : Params → PySem.W.Frag} {CX : World → CXT} {sp : World → Sp} {x : Str}
    (hn : l.most = some n) (hn2 : n ≤ sizeLine) (hdf : d.params.defaults = []) (hr : Room k callerA)
    (hY : ∀ (w : World) (h : Heap), YP w h → (K w.params).In h)
    (F : ∀ (w : World) (mg : Str → Option Value) (fa : Addr) (h : Heap), (K w.params).In h → h.Ns mainGlobals mg → mg d.name = some (.ref fa) →
      ∃ fd : FuncData, (∀ (s : Shared) (u : Value), BindsTo s fd ⟨[u], []⟩ [(x, u)]) ∧
        ∀ base : Heap, (K w.params).In base → base.Ns mainGlobals mg → FnOk l.prog w (K w.params) mg base (CX w) k fa fd [x] (sp w))
    (hsp : ∀ (w : World) (H : Hp) (a : Addr) (ns : List Int), ns.length ≤ n → Only H → SqL (K w.params) H a (ns.map V.int) → sp w [.ref a] H (fun v _ => v = .bl true) fun _ _ _ => False)
    (hCX : ∀ (w : World) (H : Hp) (s : Shared) (e : Value) (s' : Shared), CX w [] H s (fun _ _ _ => False) e s' → False) :
    PySem.W.WalkO q loose XP YP l.row.toRowW d [] (fun f vs => PySem.call f vs) := by
  refine Att.attach_call hn hdf fun w s₀ s₁ mg mb fa o pm cd doc a vs ns G Y ho hd hcd hmg hobj hints hlen hg => ?_
  have KX := hY w _ Y
  obtain ⟨fd, hb, hF⟩ := F w mg fa _ KX G.T.g hmg
  exact law_call KX G.T.g G.T.b G.T.builtins G.T.nolimit hg hobj hints (Nat.le_trans hlen hn2) hr hF hb (fun H hO hS => hsp w H a ns hlen hO hS) fun H e s' => hCX w H s₁ e s'
end L2
/- THE LAST THEOREM (shape; LID, My.* are yours):
   My.Adr: a structure of the addresses that your layer names (classes, functions); My.Txt K t: a structure (Prop) of the equations over K;
   My.txt_mk : {K} {implicit addresses ..} (e1 : nsIn K mainGlobals "law" = some (some (.ref f))) (e2 : K.lookup f = some ⟨oc, od, .func (fnOf "law" "law" params body scope dV kV doc pm an cdv ct), sl⟩) (e3 : codeIn K cdv "law" = true) .. : ∃ t, My.Txt K t
set_option maxRecDepth 100000 in
set_option maxHeartbeats 0 in
theorem PySem.Challenge.cw_LID_holds : PySem.Challenge.rw_LID.Holds := by
  w_on; o_law; k_head; (case hw => w_witness2)
  k_fill
  refine L2.walk_of (l := PySem.Challenge.rw_LID) (n := 63) (k := 40) (x := "script") (CX := fun w => ..) (sp := fun _ => My.sp_law) rfl (by decide) rfl ⟨rfl, by decide, by decide⟩ (fun w h Y => PySem.W.kIn_of Y) ?F ?S ?C
  case F =>
    intro w mg fa h KX G hmg
    have T : ∃ t, My.Txt (L2.KOf KX) t := by
      dsimp only [L2.KOf]                          -- K must stand as «<heap const> w.params» for k_is
      refine' My.txt_mk ?e1 ?e2 ?e3 ..
      (case e1 => PySem.W.k_is)                    -- in the order: a name -> its address -> its object -> its parts
      (case e2 => PySem.W.k_is)
      ..
    obtain ⟨t, T⟩ := T
    have e0 := hmg.symm.trans (PySem.W.mg_of KX G T.law)
    cases e0                                       -- fa is the law's own address
    exact ⟨_, fun s u => .of_eq rfl, fun base kb nb => My.law_fn T kb nb⟩     -- if «.of_eq rfl» comes too early: refine' ⟨_, ?b, fun base kb nb => My.law_fn T kb nb⟩; exact fun s u => .of_eq rfl
  case S => exact fun w H a ns hl hO hS => ..
  case C => exact ..
(the tactic k_is has no namespace: write k_is) -/
/-! SHORT WORDS over the layer: a def of the text, its body, what a loop and a test want. -/
namespace L2
open PySem PySem.Spec PyProof.Rows
/-! ### the text by places -/
/-- the j-th statement of a class's body -/
noncomputable def inClass (s : Stmt) (j : Nat) : Stmt := match s with
  | .ClassDef _ _ _ body _ _ _ _ _ _ _ => body.getD j (.Pass ⟨0, 0, 0, 0⟩)
  | _ => .Pass ⟨0, 0, 0, 0⟩
noncomputable def defArgs (s : Stmt) : Arguments := match s with
  | .FunctionDef _ a _ _ _ _ _ _ _ _ => a
  | _ => { posonlyargs := [], args := [], vararg := none, kwonlyargs := [], kw_defaults := [], kwarg := none, defaults := [] }
noncomputable def defBody (s : Stmt) : List Stmt := match s with
  | .FunctionDef _ _ b _ _ _ _ _ _ _ => b
  | _ => []
noncomputable def defScope (s : Stmt) : Scope := match s with
  | .FunctionDef _ _ _ _ _ _ sc _ _ _ => sc
  | _ => { kind := .function, names := [], isGenerator := false, isCoroutine := false }
/-! ### no exception leaves a def -/
noncomputable abbrev CX0 : CXT := fun _ _ _ _ _ _ => False
noncomputable abbrev E0 : XK := fun _ _ _ => False
theorem pass0 {X : Cx} : Passes CX0 X E0 := fun _ _ _ _ _ _ _ h => h.elim
/-! ### a def (or method) of the text as it stands behind the top -/
structure Fun (K : PySem.W.Frag) (x qual : Str) (st : Stmt) (f : Addr) (fd : FuncData) : Prop where
  ex : ∃ (oc : Value) (od : Option Addr) (kV doc pm : Value) (an : Option Addr) (cdv ct : Value) (osl : Array (Option Value)),
    fd = PySem.W.fnOf x qual (defArgs st) (defBody st) (defScope st) .none kV doc pm an cdv ct ∧ K.lookup f = some ⟨oc, od, .func fd, osl⟩ ∧ PySem.W.codeIn K cdv qual = true
  kp : PySem.W.keepIn K (.ref f) = true
section
variable {P : Program} {w : World} {K : PySem.W.Frag} {mg : Str → Option Value} {base : Heap}
/-- THE RULE for a def: its body as a term of rules, and the reading of that term -/
theorem Fun.ok {x qual : Str} {st : Stmt} {f : Addr} {fd : FuncData} {N ps : List Str} {k : Nat} {sp : Sp} (F : Fun K x qual st f fd) (S : FnScope N ps (defScope st)) (len : ∀ vs H Q E, sp vs H Q E → vs.length = ps.length)
    (hbody : ∀ (cdv : Value) (A : Around) (outer : List Env) (s : Shared) (H : Hp) (vs : List V) (Q : VK) (E : XK), Room k (A.deeper (envOfC qual (defScope st) s.heap.objs.size f cdv)) → sp vs H Q E →
      ∃ t, PSs (cxOf CX0 P w K mg base N qual (defScope st) f cdv A outer s H E).nox (defBody st) t ∧ t { nx := fun _ H' => Q .non H', rt := Q } (start N vs) H) : FnOk P w K mg base CX0 (k + 1) f fd ps sp := by
  obtain ⟨oc, od, kV, doc, pm, an, cdv, ct, osl, rfl, lk, hcd⟩ := F.ex
  refine fn_of lk hcd S len fun A outer s H vs Q E hr hsp => ?_
  obtain ⟨t, h, q⟩ := hbody cdv A outer s H vs Q E hr hsp
  exact ⟨t, h.nox, q⟩
/-- how its arguments bind (no defaults): h is «fun _ _ _ _ _ _ us hl => match us, hl with | [_, _], _ => rfl», one _ a parameter -/
theorem Fun.binds {x qual : Str} {st : Stmt} {f : Addr} {fd : FuncData} {ps : List Str} (F : Fun K x qual st f fd)
    (h : ∀ (kV doc pm : Value) (an : Option Addr) (cdv ct : Value) (us : List Value), us.length = ps.length → bindArgs (PySem.W.fnOf x qual (defArgs st) (defBody st) (defScope st) .none kV doc pm an cdv ct) ⟨us, []⟩ = pure (ps.zip us)) : Binds K fd ps [] := by
  obtain ⟨oc, od, kV, doc, pm, an, cdv, ct, osl, rfl, lk, hcd⟩ := F.ex
  exact .all (h kV doc pm an cdv ct)
theorem fun_mk {x qual : Str} {st : Stmt} {f : Addr} {oc : Value} {od an : Option Addr} {osl : Array (Option Value)} {kV doc pm cdv ct : Value} (l : K.lookup f = some ⟨oc, od, .func (PySem.W.fnOf x qual (defArgs st) (defBody st) (defScope st) .none kV doc pm an cdv ct), osl⟩)
    (c : PySem.W.codeIn K cdv qual = true) (k : PySem.W.keepIn K (.ref f) = true) : Fun K x qual st f (PySem.W.fnOf x qual (defArgs st) (defBody st) (defScope st) .none kV doc pm an cdv ct) := ⟨⟨oc, od, kV, doc, pm, an, cdv, ct, osl, rfl, l, c⟩, k⟩
end
/-! ### expressions in short: the name that stands in the i-th slot -/
section
variable {X : Cx}
theorem pv (i : Nat) {x : Str} {pos : Pos} (hN : X.N[i]? = some x := by rfl) (hv : Vis X.env.scope x := by first | exact Or.inl rfl | exact Or.inr (Or.inl rfl) | exact Or.inr (Or.inr rfl)) (hd : (x == ("__debug__" : Str)) = false := by decide)
    (hcd : (x == ("__classdict__" : Str)) = false := by decide) : PE X (.Name x pos) (tVar i) := pe_var hN hv hd hcd
end
/-! ### tests -/
/-! ### heaps -/
/-- all that was tracked is as it was -/
noncomputable def Same (H H' : Hp) : Prop := ∀ b o, H b = some o → H' b = some o
theorem Same.refl (H : Hp) : Same H H := fun _ _ h => h
theorem Same.trans {H H1 H2 : Hp} (a : Same H H1) (b : Same H1 H2) : Same H H2 := fun c o h => b c o (a c o h)
/-! ### a dict's pairs: keys that differ -/
section
variable {κ : Type} [DecidableEq κ]
end
/-! ### lists -/
/-- a new instance and its __init__ leave all that was tracked as it was -/
theorem Same.made {H H1 : Hp} {x dx C : Addr} (nx : H x = Option.none) (nd : H dx = Option.none) (k : ∀ b o, (upd (upd H dx (.own x)) x (.ins C dx [])) b = some o → b ≠ x → H1 b = some o) : Same H H1 := fun b o e =>
  k b o (by rw [upd_ne (ne_of_none e nx), upd_ne (ne_of_none e nd)]; exact e) (ne_of_none e nx)
end L2
end
section
section
set_option Elab.async false
set_option linter.all false
set_option maxRecDepth 100000
set_option maxHeartbeats 2000000
namespace L2
open PySem PySem.Spec PyProof.Rows
open PySem.W (WData Codec OpenSpec Well WellAll ReadsW ReadsAllW)
/-! ### an answer as data -/
mutual
/-- x stands for the datum d, lists and tuples all the way -/
inductive Dw (K : PySem.W.Frag) (H : Hp) : V → WData → Prop
  | non : Dw K H .non .none
  | bl (b : Bool) : Dw K H (.bl b) (.bool b)
  | int (i : Int) : Dw K H (.int i) (.int i)
  | str (x : Str) : Dw K H (.str x) (.str x)
  | byt (b : Array UInt8) : Dw K H (.byt b) (.bytes b.toList)
  | lst {a : Addr} {xs : List V} {ds : List WData} : SqL K H a xs → DwAll K H xs ds → Dw K H (.ref a) (.list ds)
  | tup {a : Addr} {xs : List V} {ds : List WData} : SqT K H a xs → DwAll K H xs ds → Dw K H (.ref a) (.tuple ds)
inductive DwAll (K : PySem.W.Frag) (H : Hp) : List V → List WData → Prop
  | nil : DwAll K H [] []
  | cons {v : V} {vs : List V} {d : WData} {ds : List WData} : Dw K H v d → DwAll K H vs ds → DwAll K H (v :: vs) (d :: ds)
end
theorem dw_ints {K : PySem.W.Frag} {H : Hp} : ∀ ns : List Int, DwAll K H (ns.map V.int) (ns.map WData.int)
  | [] => .nil
  | n :: r => .cons (.int n) (dw_ints r)
theorem ints_dw {K : PySem.W.Frag} {H : Hp} : ∀ (ns : List Int) (xs : List V), DwAll K H xs (ns.map WData.int) → xs = ns.map V.int
  | [], xs, h => by
    cases h
    rfl
  | n :: r, xs, h => by
    cases h with
    | cons h1 h2 =>
      cases h1
      rw [ints_dw r _ h2] <;> rfl
section
variable {P : Program} {w : World} {K : PySem.W.Frag} {H : Hp} {h : Heap} {R : PySem.W.WRecords} {cl : Str → Option Addr}
theorem sqL_at {a : Addr} {xs : List V} (hok : HOk P w H h) (KX : K.In h) (q : SqL K H a xs) : ∃ (its : List Value) (o : Obj) (n : Nat), Vals xs its ∧ h.get? a = some o ∧ o.cls = .type "list" ∧ o.data = .seq its.toArray n := by
  rcases q with q | ⟨o, its, n, e, hc, _, hd, _, hv⟩
  · obtain ⟨_, its, n, hv, e⟩ := (show ObjOk P w H h a (.lst xs) from q.ok hok)
    exact ⟨its, _, n, hv, e, rfl, rfl⟩
  · exact ⟨its.toList, o, n, hv, KX _ _ e, hc, by simp [hd]⟩
theorem sqT_at {a : Addr} {xs : List V} (hok : HOk P w H h) (KX : K.In h) (q : SqT K H a xs) : ∃ (its : List Value) (o : Obj) (n : Nat), Vals xs its ∧ h.get? a = some o ∧ o.cls = .type "tuple" ∧ o.data = .seq its.toArray n := by
  rcases q with q | ⟨o, its, n, e, hc, hd, _, hv⟩
  · obtain ⟨_, its, hv, o, e, hc, n, hd⟩ := (show ObjOk P w H h a (.tup xs) from q.ok hok)
    exact ⟨its, o, n, hv, e, hc, hd⟩
  · exact ⟨its.toList, o, n, hv, KX _ _ e, hc, by simp [hd]⟩
mutual
theorem Dw.reads (hok : HOk P w H h) (KX : K.In h) : ∀ (d : WData) (v : V) (u : Value), Dw K H v d → RelV v u → ∃ as, ReadsW R cl h u d as
  | .none, _, _, x, r => by
    cases x
    cases r
    exact ⟨_, ReadsW.none⟩
  | .bool b, _, _, x, r => by
    cases x
    cases r
    exact ⟨_, ReadsW.bool b⟩
  | .int i, _, _, x, r => by
    cases x
    obtain ⟨t, rfl⟩ := r
    exact ⟨_, ReadsW.int i t⟩
  | .str s, _, _, x, r => by
    cases x
    obtain ⟨t, rfl⟩ := r
    exact ⟨_, ReadsW.str s t⟩
  | .bytes b, _, _, x, r => by
    cases x
    obtain ⟨t, rfl⟩ := r
    exact ⟨_, ReadsW.bytes _ t⟩
  | .list ds, _, _, x, r => by
    cases x with
    | lst hs ha =>
      cases r
      obtain ⟨its, o, n, rv, ho, hc, hd⟩ := sqL_at hok KX hs
      obtain ⟨as, hr⟩ := Dw.readsAll hok KX ds _ its ha rv
      exact ⟨_, ReadsW.list ho hc hd hr⟩
  | .tuple ds, _, _, x, r => by
    cases x with
    | tup hs ha =>
      cases r
      obtain ⟨its, o, n, rv, ho, hc, hd⟩ := sqT_at hok KX hs
      obtain ⟨as, hr⟩ := Dw.readsAll hok KX ds _ its ha rv
      exact ⟨_, ReadsW.tuple ho hc hd hr⟩
  | .float _, _, _, x, _ => by cases x
  | .dict _, _, _, x, _ => by cases x
  | .bytearray _, _, _, x, _ => by cases x
  | .set _, _, _, x, _ => by cases x
  | .frozenset _, _, _, x, _ => by cases x
  | .obj _ _, _, _, x, _ => by cases x
theorem Dw.readsAll (hok : HOk P w H h) (KX : K.In h) : ∀ (ds : List WData) (vs : List V) (us : List Value), DwAll K H vs ds → Vals vs us → ∃ as, ReadsAllW R cl h us ds as
  | [], _, _, x, r => by
    cases x
    cases r
    exact ⟨_, ReadsAllW.nil⟩
  | d :: ds, _, _, x, r => by
    cases x with
    | cons h1 h2 =>
      cases r with
      | cons r1 r2 =>
        obtain ⟨as, q1⟩ := Dw.reads hok KX d _ _ h1 r1
        obtain ⟨bs, q2⟩ := Dw.readsAll hok KX ds _ _ h2 r2
        exact ⟨_, ReadsAllW.cons q1 q2⟩
end
end
/-! ### the arguments -/
mutual
/-- data that a codec tells -/
noncomputable def plW : WData → Bool
  | .none => true
  | .bool _ => true
  | .int _ => true
  | .str _ => true
  | .bytes _ => true
  | .list xs => plWs xs
  | .tuple xs => plWs xs
  | _ => false
noncomputable def plWs : List WData → Bool
  | [] => true
  | x :: r => plW x && plWs r
end
theorem plWs_map {α : Type} {f : α → WData} (h : ∀ a, plW (f a) = true) : ∀ l : List α, plWs (l.map f) = true
  | [] => rfl
  | x :: r => by
    show (plW (f x) && plWs (r.map f)) = true
    rw [h x, plWs_map h r] <;> rfl
theorem pl_enc : ∀ (c : Codec) (a : c.denote), plW (c.enc a) = true
  | .unit, _ => rfl
  | .bool, _ => rfl
  | .int _ _, _ => rfl
  | .nat _ _, _ => rfl
  | .u8, _ => rfl
  | .bytes _ _, _ => rfl
  | .text _ _ _ _, _ => rfl
  | .list _ _ c, a => plWs_map (fun x => pl_enc c x) a
  | .pair c d, a => by
    show (plW (c.enc a.1) && (plW (d.enc a.2) && true)) = true
    rw [pl_enc c a.1, pl_enc d a.2] <;> rfl
  | .triple c d e, a => by
    show (plW (c.enc a.1) && (plW (d.enc a.2.1) && (plW (e.enc a.2.2) && true))) = true
    rw [pl_enc c a.1, pl_enc d a.2.1, pl_enc e a.2.2] <;> rfl
  | .option c, none => rfl
  | .option c, some x => pl_enc c x
theorem pl_encAll : ∀ (cs : List Codec) (a : Codec.denoteAll cs), plWs (Codec.encAll cs a) = true
  | [], _ => rfl
  | c :: cs, a => by
    show (plW (c.enc a.1) && plWs (Codec.encAll cs a.2)) = true
    rw [pl_enc c a.1, pl_encAll cs a.2] <;> rfl
theorem weight_mem : ∀ {xs : List WData} {d : WData}, d ∈ xs → d.weight ≤ WData.weightAll xs
  | [], d, h => absurd h (by simp)
  | x :: r, d, h => by
    show d.weight ≤ x.weight + 1 + WData.weightAll r
    rcases List.mem_cons.mp h with e | m
    · rw [e]
      omega
    · have z := weight_mem m
      omega
noncomputable def toV : Value → V
  | .none => .non
  | .bool b => .bl b
  | .int i _ => .int i
  | .str x _ => .str x
  | .bytes b _ => .byt b
  | .ref a => .ref a
  | _ => .non
/-- a value of the arguments, its objects among A -/
noncomputable def OkU (A : List Addr) : Value → Prop
  | .none => True
  | .bool _ => True
  | .int _ _ => True
  | .str _ _ => True
  | .bytes _ _ => True
  | .ref a => a ∈ A
  | _ => False
theorem OkU.mono {A B : List Addr} (h : ∀ a ∈ A, a ∈ B) : ∀ {u : Value}, OkU A u → OkU B u := fun {u} x => by
  cases u with
  | ref a => exact h a x
  | none => trivial
  | bool b => trivial
  | int i t => trivial
  | str s t => trivial
  | bytes b t => trivial
  | _ => exact False.elim x
theorem relV_toV {A : List Addr} {u : Value} (x : OkU A u) : RelV (toV u) u := by
  cases u with
  | ref a => rfl
  | none => rfl
  | bool b => rfl
  | int i t => exact ⟨t, rfl⟩
  | str s t => exact ⟨t, rfl⟩
  | bytes b t => exact ⟨t, rfl⟩
  | _ => exact False.elim x
theorem vals_toV {A : List Addr} : ∀ {vs : List Value}, (∀ u ∈ vs, OkU A u) → Vals (vs.map toV) vs
  | [], _ => .nil
  | u :: r, h => .cons (relV_toV (h u (List.mem_cons_self ..))) (vals_toV fun x hx => h x (List.mem_cons_of_mem _ hx))
/-- an object of the arguments -/
noncomputable def ArgOb (h : Heap) (A : List Addr) (a : Addr) : Prop := ∃ vs : List Value, vs.length ≤ sizeLine ∧ (∀ u ∈ vs, OkU A u) ∧
  (h.get? a = some { cls := .type "list", data := .seq vs.toArray } ∨ h.get? a = some { cls := .type "tuple", data := .seq vs.toArray })
theorem ArgOb.mono {h : Heap} {A B : List Addr} {a : Addr} (k : ∀ a ∈ A, a ∈ B) (x : ArgOb h A a) : ArgOb h B a := by
  obtain ⟨vs, h1, h2, h3⟩ := x
  exact ⟨vs, h1, fun u hu => (h2 u hu).mono k, h3⟩
theorem wellAll_len {P : Params} {h : Heap} : ∀ {vs : List Value} {ds : List WData}, WellAll P h vs ds → vs.length = ds.length
  | _, _, .nil => rfl
  | _, _, .cons _ b => by
    show _ + 1 = _ + 1
    rw [wellAll_len b]
theorem well_list {P : Params} {h : Heap} {v : Value} {ds : List WData} (x : Well P h v (.list ds)) : ∃ (a : Addr) (vs : List Value), v = .ref a ∧ h.get? a = some { cls := .type "list", data := .seq vs.toArray } ∧ WellAll P h vs ds := by
  cases x with
  | list ho hall => exact ⟨_, _, rfl, ho, hall⟩
theorem well_tuple {P : Params} {h : Heap} {v : Value} {ds : List WData} (x : Well P h v (.tuple ds)) : ∃ (a : Addr) (vs : List Value), v = .ref a ∧ h.get? a = some { cls := .type "tuple", data := .seq vs.toArray } ∧ WellAll P h vs ds := by
  cases x with
  | tuple ho hall => exact ⟨_, _, rfl, ho, hall⟩
theorem well_cons {P : Params} {h : Heap} {us : List Value} {d : WData} {ds : List WData} (x : WellAll P h us (d :: ds)) : ∃ (v : Value) (vs : List Value), us = v :: vs ∧ Well P h v d ∧ WellAll P h vs ds := by
  cases x with
  | cons a b => exact ⟨_, _, rfl, a, b⟩
theorem line_of {n : Nat} (h : n ≤ 1048576) : n ≤ sizeLine := Nat.le_trans h (by decide)
section
variable {P : Params} {h : Heap}
mutual
theorem area_one : ∀ (d : WData) (v : Value), Well P h v d → plW d = true → d.weight ≤ 1048576 → ∃ A : List Addr, OkU A v ∧ ∀ a ∈ A, ArgOb h A a
  | .none, _, x, _, _ => by
    cases x
    exact ⟨[], trivial, fun a m => absurd m (by simp)⟩
  | .bool b, _, x, _, _ => by
    cases x
    exact ⟨[], trivial, fun a m => absurd m (by simp)⟩
  | .int i, _, x, _, _ => by
    cases x
    exact ⟨[], trivial, fun a m => absurd m (by simp)⟩
  | .str s, _, x, _, _ => by
    cases x
    exact ⟨[], trivial, fun a m => absurd m (by simp)⟩
  | .bytes b, _, x, _, _ => by
    cases x
    exact ⟨[], trivial, fun a m => absurd m (by simp)⟩
  | .list ds, _, x, p, z => by
    obtain ⟨a, vs, rfl, ho, hall⟩ := well_list x
    have z2 : WData.weightAll ds ≤ 1048576 := z
    obtain ⟨A, h1, h2⟩ := area_all ds _ hall p fun d hd => Nat.le_trans (weight_mem hd) z2
    have k : ∀ b ∈ A, b ∈ a :: A := fun b hb => List.mem_cons_of_mem _ hb
    refine ⟨a :: A, List.mem_cons_self .., fun b hb => ?_⟩
    rcases List.mem_cons.mp hb with e | m
    · rw [e]
      exact ⟨vs, line_of (by rw [wellAll_len hall]; exact Nat.le_trans (PySem.W.length_le_weightAllW ds) z2), fun u hu => (h1 u hu).mono k, .inl ho⟩
    · exact (h2 b m).mono k
  | .tuple ds, _, x, p, z => by
    obtain ⟨a, vs, rfl, ho, hall⟩ := well_tuple x
    have z2 : WData.weightAll ds ≤ 1048576 := z
    obtain ⟨A, h1, h2⟩ := area_all ds _ hall p fun d hd => Nat.le_trans (weight_mem hd) z2
    have k : ∀ b ∈ A, b ∈ a :: A := fun b hb => List.mem_cons_of_mem _ hb
    refine ⟨a :: A, List.mem_cons_self .., fun b hb => ?_⟩
    rcases List.mem_cons.mp hb with e | m
    · rw [e]
      exact ⟨vs, line_of (by rw [wellAll_len hall]; exact Nat.le_trans (PySem.W.length_le_weightAllW ds) z2), fun u hu => (h1 u hu).mono k, .inr ho⟩
    · exact (h2 b m).mono k
  | .float _, _, _, p, _ => Bool.noConfusion (show false = true from p)
  | .dict _, _, _, p, _ => Bool.noConfusion (show false = true from p)
  | .bytearray _, _, _, p, _ => Bool.noConfusion (show false = true from p)
  | .set _, _, _, p, _ => Bool.noConfusion (show false = true from p)
  | .frozenset _, _, _, p, _ => Bool.noConfusion (show false = true from p)
  | .obj _ _, _, _, p, _ => Bool.noConfusion (show false = true from p)
theorem area_all : ∀ (ds : List WData) (vs : List Value), WellAll P h vs ds → plWs ds = true → (∀ d ∈ ds, d.weight ≤ 1048576) → ∃ A : List Addr, (∀ u ∈ vs, OkU A u) ∧ ∀ a ∈ A, ArgOb h A a
  | [], _, x, _, _ => by
    cases x
    exact ⟨[], fun u m => absurd m (by simp), fun a m => absurd m (by simp)⟩
  | d :: ds, _, x, p, z => by
    obtain ⟨v, vs, rfl, x1, x2⟩ := well_cons x
    have q : plW d = true ∧ plWs ds = true := Bool.and_eq_true_iff.mp p
    obtain ⟨A, a1, a2⟩ := area_one d v x1 q.1 (z d (List.mem_cons_self ..))
    obtain ⟨B, b1, b2⟩ := area_all ds vs x2 q.2 fun e he => z e (List.mem_cons_of_mem _ he)
    have kA : ∀ b ∈ A, b ∈ A ++ B := fun b hb => List.mem_append.mpr (.inl hb)
    have kB : ∀ b ∈ B, b ∈ A ++ B := fun b hb => List.mem_append.mpr (.inr hb)
    refine ⟨A ++ B, fun u hu => ?_, fun b hb => ?_⟩
    · rcases List.mem_cons.mp hu with e | m
      · rw [e]
        exact a1.mono kA
      · exact (b1 u m).mono kB
    · rcases List.mem_append.mp hb with m | m
      · exact (a2 b m).mono kA
      · exact (b2 b m).mono kB
end
end
/-- what is tracked of an argument's object -/
noncomputable def hoOf (o : Obj) : Option HO := match o.data with
  | .seq vs _ => if (o.cls == Value.type "list") = true then some (.frz o (.lst (vs.toList.map toV))) else some (.frz o (.tup (vs.toList.map toV)))
  | _ => none
noncomputable def argH (K : PySem.W.Frag) (h : Heap) (A : List Addr) : Hp := fun b => if b ∈ A then (if (K.lookup b).isNone = true then (h.get? b).bind hoOf else none) else none
/-- nothing is tracked but what is known to the object -/
noncomputable def OnlyF (H : Hp) : Prop := ∀ b, H b = none ∨ ∃ o u, H b = some (.frz o u)
theorem hoOf_lst (vs : List Value) : hoOf { cls := .type "list", data := .seq vs.toArray } = some (.frz { cls := .type "list", data := .seq vs.toArray } (.lst (vs.map toV))) := by
  show (if (Value.type "list" == Value.type "list") = true then some (HO.frz { cls := .type "list", data := .seq vs.toArray } (.lst (vs.toArray.toList.map toV))) else some (HO.frz { cls := .type "list", data := .seq vs.toArray } (.tup (vs.toArray.toList.map toV)))) = _
  rw [if_pos (beq_self_eq_true _)]
theorem hoOf_tup (vs : List Value) : hoOf { cls := .type "tuple", data := .seq vs.toArray } = some (.frz { cls := .type "tuple", data := .seq vs.toArray } (.tup (vs.map toV))) := by
  show (if (Value.type "tuple" == Value.type "list") = true then some (HO.frz { cls := .type "tuple", data := .seq vs.toArray } (.lst (vs.toArray.toList.map toV))) else some (HO.frz { cls := .type "tuple", data := .seq vs.toArray } (.tup (vs.toArray.toList.map toV)))) = _
  rw [if_neg (by decide)]
section
variable {P : Program} {w : World} {K : PySem.W.Frag} {h : Heap} {A : List Addr}
theorem argH_at {b : Addr} {o : Obj} (hb : b ∈ A) (hk : K.lookup b = none) (e : h.get? b = some o) : argH K h A b = hoOf o := by
  unfold argH
  rw [if_pos hb, hk, if_pos (show (none : Option Obj).isNone = true from rfl), e] <;> rfl
theorem of_argH {b : Addr} {u : HO} (q : argH K h A b = some u) : b ∈ A ∧ K.lookup b = none := by
  unfold argH at q
  by_cases hb : b ∈ A
  · rw [if_pos hb] at q
    cases hk : K.lookup b with
    | none => exact ⟨hb, rfl⟩
    | some o =>
      rw [hk, if_neg (by simp)] at q
      cases q
  · rw [if_neg hb] at q
    cases q
/-- what stands tracked -/
theorem argH_is (ar : ∀ a ∈ A, ArgOb h A a) {b : Addr} {u : HO} (q : argH K h A b = some u) : K.lookup b = none ∧ ∃ vs : List Value, vs.length ≤ sizeLine ∧ (∀ u ∈ vs, OkU A u) ∧
    ((h.get? b = some { cls := .type "list", data := .seq vs.toArray } ∧ u = .frz { cls := .type "list", data := .seq vs.toArray } (.lst (vs.map toV))) ∨
     (h.get? b = some { cls := .type "tuple", data := .seq vs.toArray } ∧ u = .frz { cls := .type "tuple", data := .seq vs.toArray } (.tup (vs.map toV)))) := by
  obtain ⟨hb, hk⟩ := of_argH q
  obtain ⟨vs, h1, h2, h3⟩ := ar b hb
  refine ⟨hk, vs, h1, h2, ?_⟩
  rcases h3 with e | e
  · rw [argH_at hb hk e, hoOf_lst] at q
    exact .inl ⟨e, (Option.some.inj q).symm⟩
  · rw [argH_at hb hk e, hoOf_tup] at q
    exact .inr ⟨e, (Option.some.inj q).symm⟩
theorem argH_only (ar : ∀ a ∈ A, ArgOb h A a) : OnlyF (argH K h A) := fun b => by
  cases q : argH K h A b with
  | none => exact .inl rfl
  | some u =>
    obtain ⟨_, vs, _, _, ⟨_, e⟩ | ⟨_, e⟩⟩ := argH_is ar q
    · exact .inr ⟨_, _, by rw [e]⟩
    · exact .inr ⟨_, _, by rw [e]⟩
theorem argH_ok (ar : ∀ a ∈ A, ArgOb h A a) : HOk P w (argH K h A) h := fun b u q => by
  obtain ⟨_, vs, h1, h2, ⟨e, rfl⟩ | ⟨e, rfl⟩⟩ := argH_is ar q
  · exact ⟨e, by rw [List.length_map]; exact h1, vs, _, vals_toV h2, e⟩
  · exact ⟨e, by rw [List.length_map]; exact h1, vs, vals_toV h2, _, e, rfl, _, rfl⟩
theorem seq_inj {c c' : Value} {vs us : List Value} (e : (some { cls := c, data := .seq vs.toArray } : Option Obj) = some { cls := c', data := .seq us.toArray }) : c = c' ∧ vs = us := by
  have e1 := Option.some.inj e
  have e2 : c = c' := congrArg Obj.cls e1
  have e3 : Data.seq vs.toArray = Data.seq us.toArray := congrArg Obj.data e1
  injection e3 with e4
  refine ⟨e2, ?_⟩
  have e5 := congrArg Array.toList e4
  simpa using e5
/-- a list argument -/
theorem argL (KX : K.In h) (ar : ∀ a ∈ A, ArgOb h A a) {a : Addr} {vs : List Value} (ha : a ∈ A) (e : h.get? a = some { cls := .type "list", data := .seq vs.toArray }) : (∀ u ∈ vs, OkU A u) ∧ SqL K (argH K h A) a (vs.map toV) := by
  obtain ⟨us, h1, h2, h3⟩ := ar a ha
  have hu : us = vs := by
    rcases h3 with q | q
    · rw [e] at q
      exact (seq_inj q).2.symm
    · rw [e] at q
      exact absurd (Value.type.inj (seq_inj q).1) (by decide)
  subst hu
  refine ⟨h2, ?_⟩
  cases hk : K.lookup a with
  | none => exact .inl (.inr ⟨_, by rw [argH_at ha hk e, hoOf_lst]⟩)
  | some o =>
    have e2 := KX a o hk
    rw [e] at e2
    obtain rfl := Option.some.inj e2
    exact .inr ⟨_, us.toArray, _, hk, rfl, rfl, rfl, by rw [List.size_toArray]; exact h1, by simpa using vals_toV h2⟩
theorem argT (KX : K.In h) (ar : ∀ a ∈ A, ArgOb h A a) {a : Addr} {vs : List Value} (ha : a ∈ A) (e : h.get? a = some { cls := .type "tuple", data := .seq vs.toArray }) : (∀ u ∈ vs, OkU A u) ∧ SqT K (argH K h A) a (vs.map toV) := by
  obtain ⟨us, h1, h2, h3⟩ := ar a ha
  have hu : us = vs := by
    rcases h3 with q | q
    · rw [e] at q
      exact absurd (Value.type.inj (seq_inj q).1) (by decide)
    · rw [e] at q
      exact (seq_inj q).2.symm
  subst hu
  refine ⟨h2, ?_⟩
  cases hk : K.lookup a with
  | none => exact .inl (.inr ⟨_, by rw [argH_at ha hk e, hoOf_tup]⟩)
  | some o =>
    have e2 := KX a o hk
    rw [e] at e2
    obtain rfl := Option.some.inj e2
    exact .inr ⟨_, us.toArray, _, hk, rfl, rfl, by rw [List.size_toArray]; exact h1, by simpa using vals_toV h2⟩
mutual
theorem dw_one {Pm : Params} (KX : K.In h) (ar : ∀ a ∈ A, ArgOb h A a) : ∀ (d : WData) (v : Value), Well Pm h v d → plW d = true → OkU A v → Dw K (argH K h A) (toV v) d
  | .none, _, x, _, _ => by
    cases x
    exact .non
  | .bool b, _, x, _, _ => by
    cases x
    exact .bl b
  | .int i, _, x, _, _ => by
    cases x
    exact .int i
  | .str s, _, x, _, _ => by
    cases x
    exact .str s
  | .bytes b, _, x, _, _ => by
    cases x
    have z := Dw.byt (K := K) (H := argH K h A) b.toArray
    exact z
  | .list ds, _, x, p, hu => by
    obtain ⟨a, vs, rfl, ho, hall⟩ := well_list x
    obtain ⟨h2, hs⟩ := argL KX ar hu ho
    exact .lst hs (dw_all KX ar ds _ hall p h2)
  | .tuple ds, _, x, p, hu => by
    obtain ⟨a, vs, rfl, ho, hall⟩ := well_tuple x
    obtain ⟨h2, hs⟩ := argT KX ar hu ho
    exact .tup hs (dw_all KX ar ds _ hall p h2)
  | .float _, _, _, p, _ => Bool.noConfusion (show false = true from p)
  | .dict _, _, _, p, _ => Bool.noConfusion (show false = true from p)
  | .bytearray _, _, _, p, _ => Bool.noConfusion (show false = true from p)
  | .set _, _, _, p, _ => Bool.noConfusion (show false = true from p)
  | .frozenset _, _, _, p, _ => Bool.noConfusion (show false = true from p)
  | .obj _ _, _, _, p, _ => Bool.noConfusion (show false = true from p)
theorem dw_all {Pm : Params} (KX : K.In h) (ar : ∀ a ∈ A, ArgOb h A a) : ∀ (ds : List WData) (vs : List Value), WellAll Pm h vs ds → plWs ds = true → (∀ u ∈ vs, OkU A u) → DwAll K (argH K h A) (vs.map toV) ds
  | [], _, x, _, _ => by
    cases x
    exact .nil
  | d :: ds, _, x, p, hu => by
    obtain ⟨v, vs, rfl, x1, x2⟩ := well_cons x
    have q : plW d = true ∧ plWs ds = true := Bool.and_eq_true_iff.mp p
    exact .cons (dw_one KX ar d v x1 q.1 (hu _ (List.mem_cons_self ..))) (dw_all KX ar ds vs x2 q.2 fun u m => hu u (List.mem_cons_of_mem _ m))
end
end
/-! ### the call -/
/-! ### the row -/
theorem layable_weight {ds : List WData} (h : WData.layableAll ds = true) : ∀ d ∈ ds, d.weight ≤ 1048576 := fun d hd =>
  (PySem.W.layableW_iff.mp (List.all_eq_true.mp h d hd)).2.2
theorem encAll_len : ∀ (cs : List Codec) (a : Codec.denoteAll cs), (Codec.encAll cs a).length = cs.length
  | [], _ => rfl
  | c :: cs, a => by
    show (Codec.encAll cs a.2).length + 1 = cs.length + 1
    rw [encAll_len cs a.2]
end L2
-- rests on (row put in by the clerk, for the bench that shows a file only what it spells): KE.SpHead KE.OsShapes
end
end
section
set_option maxHeartbeats 4000000
set_option Elab.async false
set_option linter.all false
set_option maxRecDepth 100000
namespace L2
open PySem PySem.Spec PyProof.Rows
/-- a def of the text as it stands behind the top -/
noncomputable def At (K : PySem.W.Frag) (mg : Str → Option Value) (nm : Str) (st : Stmt) (ps : List Str) : Prop :=
  ∃ f fd, Fun K nm nm st f fd ∧ mg nm = some (.ref f) ∧ Binds K fd ps []
/-- a def that may be called -/
noncomputable def Cal (P : Program) (w : World) (K : PySem.W.Frag) (mg : Str → Option Value) (base : Heap) (nm : Str) (ps : List Str) (k : Nat) (sp : Sp) : Prop :=
  ∃ f fd, FnOk P w K mg base CX0 k f fd ps sp ∧ mg nm = some (.ref f) ∧ PySem.W.keepIn K (.ref f) = true ∧ Binds K fd ps []
section
variable {P : Program} {w : World} {K : PySem.W.Frag} {mg : Str → Option Value} {base : Heap}
theorem At.cal {nm : Str} {st : Stmt} {N ps : List Str} {k : Nat} {sp : Sp} (T : At K mg nm st ps) (S : FnScope N ps (defScope st)) (len : ∀ vs H Q E, sp vs H Q E → vs.length = ps.length)
    (hbody : ∀ (f : Addr) (cdv : Value) (A : Around) (outer : List Env) (s : Shared) (H : Hp) (vs : List V) (Q : VK) (E : XK), Room k (A.deeper (envOfC nm (defScope st) s.heap.objs.size f cdv)) → sp vs H Q E →
      ∃ t, PSs (cxOf CX0 P w K mg base N nm (defScope st) f cdv A outer s H E).nox (defBody st) t ∧ t { nx := fun _ H' => Q .non H', rt := Q } (start N vs) H) : Cal P w K mg base nm ps (k + 1) sp := by
  obtain ⟨f, fd, F, hm, hb⟩ := T
  exact ⟨f, fd, F.ok S len (fun cdv A outer s H vs Q E hr h => hbody f cdv A outer s H vs Q E hr h), hm, F.kp, hb⟩
end
section
variable {X : Cx} {e : Expr} {es : List Expr} {t : TA} {p pos : Pos}
theorem pe_cal {nm : Str} {ps : List Str} {k : Nat} {sp : Sp} (C : Cal X.prog X.w X.K X.mg X.base nm ps k sp) (hr : Room k X.A) (hg : Gl X nm)
    (ha : PA X (e :: es) t) (hdb : (nm == ("__debug__" : Str)) = false := by decide) (he : starEach (e :: es) X.env = (false, eval e X.env) :: starEach es X.env := by rfl) (hpl : (backTo pos (starEach es X.env)).any (·.1) = false := by rfl) :
    PE X (.Call (.Name nm p) (e :: es) [] pos) (tCall sp [] E0 t) := by
  obtain ⟨f, fd, F, hm, hk, hb⟩ := C
  exact pe_call F hr hg hm hk hb .nil pass0 ha hdb he hpl
/-- a written number of the file's top -/
noncomputable def IntG (mg : Str → Option Value) (x : Str) (i : Int) : Prop := ∃ t, mg x = some (.int i t)
theorem pe_ig {x : Str} {i : Int} {pos : Pos} (h : IntG X.mg x i) (hg : Gl X x) (hd : (x == ("__debug__" : Str)) = false := by decide) : PE X (.Name x pos) (tC (.int i)) := by
  obtain ⟨t, hm⟩ := h
  exact pe_glob hg hm ⟨t, rfl⟩ hd
/-! numbers of any size that comes up here -/
theorem op_fdivB : OpR X (binaryOp .FloorDiv) (rI (fun _ j => 0 < j ∧ j.natAbs.log2 < 9000) fun i j => .int (i / j)) := opI fun i j _ _ _ _ _ hc q => by
  have h1 : (0 : Int) < j := hc.1
  exact floordiv_int (by omega) (by rw [Int.fdiv_eq_ediv_of_nonneg i (by omega)]; exact q) (.inl (PyProof.noPylong_of_log2 hc.2))
theorem op_shlB : OpR X (binaryOp .LShift) (rI (fun i j => 0 ≤ j ∧ (Builtin.Int.intBits i : Int) + j ≤ 2 ^ 27) fun i j => .int (i * 2 ^ j.toNat)) := opI fun _ _ _ _ _ _ _ hc q => lshift_int hc.1 hc.2 q
theorem op_mulB : OpR X (binaryOp .Mult) (rI (fun i j => Builtin.Int.intBits i ≤ 2 ^ 20 ∧ Builtin.Int.intBits j ≤ 2 ^ 20) fun i j => .int (i * j)) := opI fun _ _ _ _ _ _ _ hc q => mul_int q (IntMulOk.of_bits hc.1 hc.2)
end
/-! promises of defs upon numbers -/
noncomputable def sp1 (pre : Int → Prop) (g : Int → V) : Sp := fun vs H Q _ => ∃ a, vs = [.int a] ∧ pre a ∧ Q (g a) H
noncomputable def sp2 (pre : Int → Int → Prop) (g : Int → Int → V) : Sp := fun vs H Q _ => ∃ a b, vs = [.int a, .int b] ∧ pre a b ∧ Q (g a b) H
theorem sp1_app {pre : Int → Prop} {g : Int → V} {a : Int} {H : Hp} {Q : VK} {E : XK} : sp1 pre g [.int a] H Q E ↔ pre a ∧ Q (g a) H := by
  constructor
  · rintro ⟨b, e, h⟩; cases e; exact h
  · intro h; exact ⟨a, rfl, h⟩
theorem sp2_app {pre : Int → Int → Prop} {g : Int → Int → V} {a b : Int} {H : Hp} {Q : VK} {E : XK} : sp2 pre g [.int a, .int b] H Q E ↔ pre a b ∧ Q (g a b) H := by
  constructor
  · rintro ⟨c, d, e, h⟩; cases e; exact h
  · intro h; exact ⟨a, b, rfl, h⟩
theorem sp1_len {pre : Int → Prop} {g : Int → V} {x : Str} : ∀ vs H Q E, sp1 pre g vs H Q E → vs.length = [x].length := fun vs H Q E h => by
  obtain ⟨a, rfl, _⟩ := h; rfl
end L2
end
section
namespace Bx
open Ew EwIval Wrxtee
/-! ## powers of two -/
theorem two_eq (k : Int) : Ew.two k = (2 : Rat) ^ k := by
  unfold Ew.two
  split
  · rename_i h
    obtain ⟨n, rfl⟩ := Int.eq_ofNat_of_zero_le h
    rw [Rat.zpow_natCast]
    simp [Rat.natCast_pow]
  · rename_i h
    obtain ⟨n, hn⟩ : ∃ n : Nat, k = -(n : Int) := ⟨(-k).toNat, by omega⟩
    subst hn
    rw [Rat.zpow_neg, Rat.zpow_natCast]
    have : (- -(n : Int)).toNat = n := by omega
    rw [this, Rat.div_def, Rat.one_mul]
    simp [Rat.natCast_pow]
theorem two_pos (k : Int) : 0 < Ew.two k := by
  rw [two_eq]; exact Rat.zpow_pos (by decide)
theorem two_add (a b : Int) : Ew.two (a + b) = Ew.two a * Ew.two b := by
  simp only [two_eq]; exact Rat.zpow_add (by decide) a b
theorem two_nat (n : Nat) : Ew.two (n : Int) = ((2 ^ n : Nat) : Rat) := by
  unfold Ew.two; rw [if_pos (by omega)]; congr 2
/-! ## kinds -/
theorem kind_E (x : Float_) : E.kind x =
    if x.exp = 0 then (if 9223372036854775808 ≤ x.frac then .nearly else if x.frac % 9223372036854775808 = 0 then .zero else .small)
    else if ¬ 9223372036854775808 ≤ x.frac then .odd
    else if x.exp < 32767 then .normal else if x.frac % 9223372036854775808 = 0 then .infinite
    else if 4611686018427387904 ≤ x.frac % 9223372036854775808 then .quiet else .loud := by
  simp only [E, Format.kind, Format.expBits]
  simp
/-- the bits of an 80 bit number, taken apart -/
structure Fit (x : Float_) : Prop where
  exp : x.exp < 32768
  frac : x.frac < 18446744073709551616
/-! ## sizes as whole numbers -/
/-- a size over the least exponent -/
noncomputable def M (x : Float_) : Nat := x.frac * 2 ^ (x.exp - 1)
end Bx
end
section
namespace Bx
open Ew EwIval Wrxtee
/-- the size's bits, nearly small ones as normal ones -/
noncomputable def N (x : Float_) : Nat := if x.exp = 0 ∧ 9223372036854775808 ≤ x.frac then x.frac + 18446744073709551616 else x.exp * 18446744073709551616 + x.frac
theorem pow_step {f f' e e' : Nat} (h : e < e') (hf : f < 18446744073709551616) (h0 : e = 0 → f < 9223372036854775808) (hf' : 9223372036854775808 ≤ f') :
    f * 2 ^ (e - 1) < f' * 2 ^ (e' - 1) := by
  by_cases z : e = 0
  · subst z
    have p : 0 < 2 ^ (e' - 1) := Nat.two_pow_pos _
    have q : f < f' := Nat.lt_of_lt_of_le (h0 rfl) hf'
    calc f * 2 ^ (0 - 1) = f := by simp
      _ < f' := q
      _ = f' * 1 := by simp
      _ ≤ f' * 2 ^ (e' - 1) := Nat.mul_le_mul_left _ p
  · have e1 : e' - 1 = (e - 1) + 1 + (e' - 1 - e) := by omega
    have p : 0 < 2 ^ (e - 1) := Nat.two_pow_pos _
    have p2 : 0 < 2 ^ (e' - 1 - e) := Nat.two_pow_pos _
    calc f * 2 ^ (e - 1) < 18446744073709551616 * 2 ^ (e - 1) := (Nat.mul_lt_mul_right p).mpr hf
      _ = 9223372036854775808 * 2 ^ ((e - 1) + 1) := by rw [Nat.pow_succ]; omega
      _ ≤ f' * 2 ^ ((e - 1) + 1) := Nat.mul_le_mul_right _ hf'
      _ = f' * 2 ^ ((e - 1) + 1) * 1 := by simp
      _ ≤ f' * 2 ^ ((e - 1) + 1) * 2 ^ (e' - 1 - e) := Nat.mul_le_mul_left _ p2
      _ = f' * 2 ^ (e' - 1) := by rw [Nat.mul_assoc, ← Nat.pow_add, ← e1]
/-- the place in order of an end -/
noncomputable def P (x : Float_) : Int := if x.sign = true then -1 - (N x : Int) else (N x : Int)
end Bx
end
section
namespace Bx
open Ew EwIval Wrxtee
/-! ## the program's functions -/
noncomputable def expo (a : Int) : Int := a % 604462909807314587353088 / 18446744073709551616
noncomputable def sig (a : Int) : Int := a % 18446744073709551616
noncomputable def isNumber (a : Int) : Bool := if expo a = 0 then true else if expo a = 32767 then decide (sig a = 9223372036854775808) else decide (9223372036854775808 ≤ sig a)
noncomputable def madeNormal (a : Int) : Int := if expo a = 0 ∧ 9223372036854775808 ≤ sig a then a + 18446744073709551616 else a
noncomputable def told (a : Int) : Int := if a = 604462909807314587353088 then 0 else madeNormal a
noncomputable def place (a : Int) : Int := if 604462909807314587353088 ≤ madeNormal a then 604462909807314587353087 - madeNormal a else madeNormal a
noncomputable def areEnds (lo hi : Int) : Bool := if lo = 604453686435277732577280 ∨ hi = 1208916596242592319930368 then false else decide (place lo ≤ place hi)
noncomputable abbrev Bits (a : Int) : Prop := 0 ≤ a ∧ a ≤ 1208925819614629174706175
open WrxteeNeutral (fl)
end Bx
end
section
namespace Bx
open Ew EwIval Wrxtee
/-! ## an exact size by its multiples of powers of two -/
theorem div_iff {n d r : Nat} (hd : 0 < d) : n / d = r ↔ r * d ≤ n ∧ n < (r + 1) * d := by
  rw [← Nat.le_div_iff_mul_le hd, ← Nat.div_lt_iff_lt_mul hd]; omega
/-- rootOf -/
theorem rootFrom_iff (n : Nat) : ∀ (k r : Nat), r * r ≤ n → n < (r + 2 ^ k) * (r + 2 ^ k) → rootFrom k r n * rootFrom k r n ≤ n ∧ n < (rootFrom k r n + 1) * (rootFrom k r n + 1)
  | 0, r, h1, h2 => by
    simp only [rootFrom]; exact ⟨h1, by simpa using h2⟩
  | k + 1, r, h1, h2 => by
    simp only [rootFrom]
    have e : (2 : Nat) ^ (k + 1) = 2 ^ k + 2 ^ k := by rw [Nat.pow_succ]; omega
    split
    · rename_i c
      refine rootFrom_iff n k (r + 2 ^ k) c ?_
      rw [e] at h2
      rw [Nat.add_assoc]; exact h2
    · rename_i c
      exact rootFrom_iff n k r h1 (by omega)
theorem rootOf_iff (n : Nat) : rootOf n * rootOf n ≤ n ∧ n < (rootOf n + 1) * (rootOf n + 1) := by
  unfold rootOf
  refine rootFrom_iff n _ 0 (by simp) ?_
  rw [Nat.zero_add, ← Nat.pow_add]
  have h := @Nat.lt_log2_self n
  refine Nat.lt_of_lt_of_le h (Nat.pow_le_pow_right (by omega) (by omega))
theorem sq_lt_sq {a b : Nat} (h : a * a < b * b) : a < b := by
  by_cases c : a < b
  · exact c
  · exact absurd (Nat.mul_le_mul (Nat.le_of_not_lt c) (Nat.le_of_not_lt c)) (by omega)
theorem sq_le_sq {a b : Nat} (h : a * a ≤ b * b) : a ≤ b := by
  by_cases c : a ≤ b
  · exact c
  · have : b < a := by omega
    exact absurd (Nat.mul_lt_mul'' this this) (by omega)
/-- m times D against the number: (m 2^k not above x), by whole numbers -/
noncomputable def G (x : Size) (m : Nat) : Nat := if x.root = true then m * m else m
noncomputable def D (x : Size) (b : Nat) : Nat := if x.root = true then x.den * 2 ^ (2 * b) else x.den * 2 ^ b
noncomputable def U (x : Size) (a : Nat) : Nat := if x.root = true then x.num * 2 ^ (2 * a) else x.num * 2 ^ a
theorem D_pos {x : Size} (h : 0 < x.den) (b : Nat) : 0 < D x b := by
  unfold D; split <;> exact Nat.mul_pos h (Nat.two_pow_pos _)
theorem G_lt {x : Size} {m n : Nat} : G x m < G x n ↔ m < n := by
  unfold G; split
  · exact ⟨sq_lt_sq, fun h => Nat.mul_lt_mul'' h h⟩
  · rfl
theorem G_le {x : Size} {m n : Nat} : G x m ≤ G x n ↔ m ≤ n := by
  unfold G; split
  · exact ⟨sq_le_sq, fun h => Nat.mul_le_mul h h⟩
  · rfl
/-- over, brought to any two powers -/
theorem over_any {x : Size} {k : Int} {a b : Nat} (e : k = (b : Int) - a) : (x.over k).1 * D x b = U x a * (x.over k).2 := by
  unfold Size.over D U
  cases hr : x.root
  · simp only [hr]
    by_cases c : 0 ≤ k
    · obtain ⟨n, rfl⟩ := Int.eq_ofNat_of_zero_le c
      have : b = a + n := by omega
      subst this
      simp [Nat.pow_add]
      simp only [Nat.mul_assoc, Nat.mul_comm, Nat.mul_left_comm]
    · obtain ⟨n, hn⟩ : ∃ n : Nat, k = -(n : Int) := ⟨(-k).toNat, by omega⟩
      have : a = b + n := by omega
      subst this
      simp [c]
      have t : (-k).toNat = n := by omega
      rw [t, Nat.pow_add]
      simp only [Nat.mul_assoc, Nat.mul_comm, Nat.mul_left_comm]
  · simp only [hr]
    by_cases c : 0 ≤ k
    · obtain ⟨n, rfl⟩ := Int.eq_ofNat_of_zero_le c
      have : b = a + n := by omega
      subst this
      have t : (2 * (n : Int)).toNat = 2 * n := by omega
      have c2 : 0 ≤ 2 * (n : Int) := by omega
      simp [c2, t, Nat.pow_add, Nat.mul_add]
      simp only [Nat.mul_assoc, Nat.mul_comm, Nat.mul_left_comm]
    · obtain ⟨n, hn⟩ : ∃ n : Nat, k = -(n : Int) := ⟨(-k).toNat, by omega⟩
      have : a = b + n := by omega
      subst this
      have t : (-(2 * k)).toNat = 2 * n := by omega
      have c2 : ¬ 0 ≤ 2 * k := by omega
      simp only [c2, if_true, if_false, t]
      rw [Nat.mul_add 2 b n, Nat.pow_add]
      simp only [Nat.mul_assoc, Nat.mul_comm, Nat.mul_left_comm]
theorem over_pos {x : Size} (h : 0 < x.den) (k : Int) : 0 < (x.over k).2 := by
  unfold Size.over
  simp only
  split <;> split
  · exact Nat.mul_pos h (Nat.two_pow_pos _)
  · exact h
  · exact Nat.mul_pos h (Nat.two_pow_pos _)
  · exact h
/-- cross multiplied -/
theorem cross_le {n d u v r : Nat} (hd : 0 < d) (hv : 0 < v) (e : n * v = u * d) : r * d ≤ n ↔ r * v ≤ u := by
  constructor
  · intro h
    have := Nat.mul_le_mul_right v h
    rw [e, Nat.mul_assoc, Nat.mul_comm d v, ← Nat.mul_assoc] at this
    exact Nat.le_of_mul_le_mul_right this hd
  · intro h
    have := Nat.mul_le_mul_right d h
    rw [← e, Nat.mul_assoc, Nat.mul_comm v d, ← Nat.mul_assoc] at this
    exact Nat.le_of_mul_le_mul_right this hv
theorem cross_lt {n d u v r : Nat} (hd : 0 < d) (hv : 0 < v) (e : n * v = u * d) : n < r * d ↔ u < r * v := by
  rw [← Nat.not_le, ← Nat.not_le, cross_le hd hv e]
theorem cross_eq {n d u v r : Nat} (hd : 0 < d) (hv : 0 < v) (e : n * v = u * d) : r * d = n ↔ r * v = u := by
  constructor
  · rintro rfl
    refine Nat.eq_of_mul_eq_mul_right hd ?_
    rw [← e, Nat.mul_assoc, Nat.mul_assoc, Nat.mul_comm v d]
  · rintro rfl
    refine Nat.eq_of_mul_eq_mul_right hv ?_
    rw [e, Nat.mul_assoc, Nat.mul_assoc, Nat.mul_comm v d]
theorem floorAt_iff {x : Size} (h : 0 < x.den) {k : Int} {a b : Nat} (e : k = (b : Int) - a) (r : Nat) :
    x.floorAt k = r ↔ G x r * D x b ≤ U x a ∧ U x a < G x (r + 1) * D x b := by
  have ov := over_any (x := x) e
  have op := over_pos h k
  have dp := D_pos h b
  rw [← cross_le op dp ov, ← cross_lt op dp ov]
  have q := div_iff (n := (x.over k).1) (r := (x.over k).1 / (x.over k).2) op
  obtain ⟨q1, q2⟩ := q.mp rfl
  unfold Size.floorAt
  simp only
  cases hr : x.root
  · simp [G, hr]
    exact div_iff op
  · simp [G, hr]
    have rt := rootOf_iff ((x.over k).1 / (x.over k).2)
    constructor
    · rintro rfl
      exact ⟨Nat.le_trans (Nat.mul_le_mul_right _ rt.1) q1, Nat.lt_of_lt_of_le q2 (Nat.mul_le_mul_right _ rt.2)⟩
    · rintro ⟨g1, g2⟩
      have h1 : r * r ≤ (x.over k).1 / (x.over k).2 := (Nat.le_div_iff_mul_le op).mpr g1
      have h2 : (x.over k).1 / (x.over k).2 < (r + 1) * (r + 1) := (Nat.div_lt_iff_lt_mul op).mpr g2
      have a1 : r < rootOf ((x.over k).1 / (x.over k).2) + 1 := sq_lt_sq (Nat.lt_of_le_of_lt h1 rt.2)
      have a2 : rootOf ((x.over k).1 / (x.over k).2) < r + 1 := sq_lt_sq (Nat.lt_of_le_of_lt rt.1 h2)
      omega
theorem exactAt_iff {x : Size} (h : 0 < x.den) {k : Int} {a b : Nat} (e : k = (b : Int) - a) :
    x.exactAt k = true ↔ G x (x.floorAt k) * D x b = U x a := by
  have ov := over_any (x := x) e
  have op := over_pos h k
  have dp := D_pos h b
  unfold Size.exactAt
  simp only [beq_iff_eq]
  rw [show (if x.root = true then x.floorAt k * x.floorAt k else x.floorAt k) = G x (x.floorAt k) from rfl]
  exact cross_eq op dp ov
theorem floor_le {x : Size} (h : 0 < x.den) {k : Int} {a b : Nat} (e : k = (b : Int) - a) (r : Nat) : r ≤ x.floorAt k ↔ G x r * D x b ≤ U x a := by
  obtain ⟨f1, f2⟩ := (floorAt_iff h e (x.floorAt k)).mp rfl
  have dp := D_pos h b
  constructor
  · intro q
    exact Nat.le_trans (Nat.mul_le_mul_right _ (G_le.mpr q)) f1
  · intro q
    have : G x r < G x (x.floorAt k + 1) := Nat.lt_of_mul_lt_mul_right (Nat.lt_of_le_of_lt q f2)
    have := G_lt.mp this
    omega
theorem G_shift {x : Size} (r b j : Nat) : G x r * D x (b + j) = G x (r * 2 ^ j) * D x b := by
  unfold G D
  split
  · rw [Nat.mul_add 2 b j, Nat.pow_add, Nat.two_mul j, Nat.pow_add]
    simp only [Nat.mul_assoc, Nat.mul_comm, Nat.mul_left_comm]
  · rw [Nat.pow_add]
    simp only [Nat.mul_assoc, Nat.mul_comm, Nat.mul_left_comm]
/-- a coarser place -/
theorem floor_up {x : Size} (h : 0 < x.den) (k : Int) (j : Nat) : x.floorAt (k + j) = x.floorAt k / 2 ^ j := by
  obtain ⟨a, b, e⟩ : ∃ a b : Nat, k = (b : Int) - a := ⟨(-k).toNat, k.toNat, by omega⟩
  have e2 : k + j = ((b + j : Nat) : Int) - a := by omega
  have key : ∀ r, r ≤ x.floorAt (k + j) ↔ r ≤ x.floorAt k / 2 ^ j := by
    intro r
    rw [floor_le h e2, G_shift, ← floor_le h e, Nat.le_div_iff_mul_le (Nat.two_pow_pos _)]
  have k1 := (key (x.floorAt (k + j))).mp (Nat.le_refl _)
  have k2 := (key (x.floorAt k / 2 ^ j)).mpr (Nat.le_refl _)
  omega
theorem exact_up {x : Size} (h : 0 < x.den) (k : Int) (j : Nat) : x.exactAt (k + j) = true ↔ (x.exactAt k = true ∧ x.floorAt k % 2 ^ j = 0) := by
  obtain ⟨a, b, e⟩ : ∃ a b : Nat, k = (b : Int) - a := ⟨(-k).toNat, k.toNat, by omega⟩
  have e2 : k + j = ((b + j : Nat) : Int) - a := by omega
  rw [exactAt_iff h e2, exactAt_iff h e, G_shift, floor_up h]
  have dp := D_pos h b
  have dm := Nat.div_add_mod (x.floorAt k) (2 ^ j)
  constructor
  · intro q
    have f2 := (floor_le h e (x.floorAt k)).mp (Nat.le_refl _)
    have le : x.floorAt k ≤ x.floorAt k / 2 ^ j * 2 ^ j := by
      rw [← q] at f2
      exact G_le.mp (Nat.le_of_mul_le_mul_right f2 dp)
    have ge := Nat.div_mul_le_self (x.floorAt k) (2 ^ j)
    have eq : x.floorAt k / 2 ^ j * 2 ^ j = x.floorAt k := by omega
    rw [eq] at q
    refine ⟨q, ?_⟩
    rw [Nat.mul_comm] at eq; omega
  · rintro ⟨q1, q2⟩
    have : x.floorAt k / 2 ^ j * 2 ^ j = x.floorAt k := by rw [Nat.mul_comm]; omega
    rw [this]; exact q1
end Bx
end
section
namespace Bx
open Ew EwIval Wrxtee
theorem floor_one {x : Size} (h : 0 < x.den) {t : Int} (ht : x.floorAt t = 1) (s : Int) : 1 ≤ x.floorAt s ↔ s ≤ t := by
  constructor
  · intro q
    by_cases c : s ≤ t
    · exact c
    · obtain ⟨j, hj⟩ : ∃ j : Nat, s = t + (j + 1 : Nat) := ⟨(s - t - 1).toNat, by omega⟩
      rw [hj, floor_up h, ht] at q
      have : 1 / 2 ^ (j + 1) = 0 := Nat.div_eq_of_lt (Nat.one_lt_two_pow (by omega))
      omega
  · intro q
    obtain ⟨j, hj⟩ : ∃ j : Nat, t = s + j := ⟨(t - s).toNat, by omega⟩
    rw [hj, floor_up h] at ht
    by_cases c : 1 ≤ x.floorAt s
    · exact c
    · have : x.floorAt s = 0 := by omega
      rw [this, Nat.zero_div] at ht; omega
theorem G_one (x : Size) : G x 1 = 1 := by unfold G; split <;> rfl
theorem top_eq {x : Size} (hn : 0 < x.num) (h : 0 < x.den) {t : Int} (ht : x.floorAt t = 1) : x.top = t := by
  have f1 := floor_one h ht
  have n1 := Nat.log2_self_le (n := x.num) (by omega)
  have n2 := @Nat.lt_log2_self x.num
  have d1 := Nat.log2_self_le (n := x.den) (by omega)
  have d2 := @Nat.lt_log2_self x.den
  unfold Size.top
  simp only
  generalize hl : Nat.log2 x.num = ln at *
  generalize hm : Nat.log2 x.den = ld at *
  generalize he : (if x.root = true then ((ln : Int) - ld) / 2 else (ln : Int) - ld) = e
  have B1 : e - 2 ≤ t := by
    rw [← f1]
    cases hr : x.root
    · rw [hr] at he; simp at he
      rw [floor_le h (a := ld + 2) (b := ln) (by omega), G_one, Nat.one_mul]
      unfold D U; rw [hr]; simp only [Bool.false_eq_true, if_false]
      calc x.den * 2 ^ ln ≤ 2 ^ (ld + 1) * x.num := Nat.mul_le_mul (Nat.le_of_lt d2) n1
        _ = x.num * 2 ^ (ld + 1) := Nat.mul_comm _ _
        _ ≤ x.num * 2 ^ (ld + 2) := Nat.mul_le_mul_left _ (Nat.pow_le_pow_right (by omega) (by omega))
    · rw [hr] at he; simp at he
      rw [floor_le h (a := ld + 4) (b := (ld + 2 + e).toNat) (by omega), G_one, Nat.one_mul]
      unfold D U; rw [hr]; simp only [if_true]
      calc x.den * 2 ^ (2 * (ld + 2 + e).toNat) ≤ 2 ^ (ld + 1) * 2 ^ (ln + (ld + 4)) := Nat.mul_le_mul (Nat.le_of_lt d2) (Nat.pow_le_pow_right (by omega) (by omega))
        _ = 2 ^ ln * 2 ^ (ld + 1 + (ld + 4)) := by rw [← Nat.pow_add, ← Nat.pow_add]; congr 1; omega
        _ ≤ x.num * 2 ^ (2 * (ld + 4)) := Nat.mul_le_mul n1 (Nat.pow_le_pow_right (by omega) (by omega))
  have B2 : ¬ e + 2 ≤ t := by
    rw [← f1]
    cases hr : x.root
    · rw [hr] at he; simp at he
      rw [floor_le h (a := ld) (b := ln + 2) (by omega), G_one, Nat.one_mul]
      unfold D U; rw [hr]; simp only [Bool.false_eq_true, if_false]
      rw [Nat.not_le]
      calc x.num * 2 ^ ld < 2 ^ (ln + 1) * 2 ^ ld := (Nat.mul_lt_mul_right (Nat.two_pow_pos _)).mpr n2
        _ ≤ 2 ^ (ln + 1) * x.den := Nat.mul_le_mul_left _ d1
        _ = x.den * 2 ^ (ln + 1) := Nat.mul_comm _ _
        _ ≤ x.den * 2 ^ (ln + 2) := Nat.mul_le_mul_left _ (Nat.pow_le_pow_right (by omega) (by omega))
    · rw [hr] at he; simp at he
      rw [floor_le h (a := ld) (b := (ld + 2 + e).toNat) (by omega), G_one, Nat.one_mul]
      unfold D U; rw [hr]; simp only [if_true]
      rw [Nat.not_le]
      calc x.num * 2 ^ (2 * ld) < 2 ^ (ln + 1) * 2 ^ (2 * ld) := (Nat.mul_lt_mul_right (Nat.two_pow_pos _)).mpr n2
        _ = 2 ^ ld * 2 ^ (ln + 1 + ld) := by rw [← Nat.pow_add, ← Nat.pow_add]; congr 1; omega
        _ ≤ x.den * 2 ^ (2 * (ld + 2 + e).toNat) := Nat.mul_le_mul d1 (Nat.pow_le_pow_right (by omega) (by omega))
  simp only [f1]
  repeat' split
  all_goals omega
/-! ## rounded, to bits -/
/-- the bits of a size m 2^k with the format's own k (64 digits), beyond all: what's told -/
noncomputable def packed (m : Nat) (kk : Int) (over : Nat) : Nat :=
  if m = 18446744073709551616 then (if 16320 ≤ kk then over else (kk + 16447).toNat * 18446744073709551616 + 9223372036854775808)
  else if 16321 ≤ kk then over else if m < 9223372036854775808 then m else (kk + 16446).toNat * 18446744073709551616 + m
noncomputable def overOf (r : Rounding) (sign : Bool) : Nat := if r = .cut ∨ (r = .down ∧ sign = false) ∨ (r = .up ∧ sign = true) then 604444463063240877801471 else 604453686435277732577280
noncomputable def signBits (s : Bool) : Nat := if s = true then 604462909807314587353088 else 0
theorem bitsOf_eq (x : Float_) : bitsOf x = signBits x.sign + (x.exp * 18446744073709551616 + x.frac) := rfl
theorem multiple_cases (x : Size) (r : Rounding) (sign : Bool) (k : Int) : x.multiple r sign k = x.floorAt k ∨ x.multiple r sign k = x.floorAt k + 1 := by
  unfold Size.multiple; split <;> omega
theorem log2_of {m k : Nat} (h1 : 2 ^ k ≤ m) (h2 : m < 2 ^ (k + 1)) : Nat.log2 m = k := (Nat.log2_eq_iff (by have := Nat.two_pow_pos k; omega)).mpr ⟨h1, h2⟩
theorem make_E (sign : Bool) (m : Nat) (k : Int) : E.make sign m k = if m = 0 then E.zero sign else
    E.of sign (if max (((Nat.log2 m : Nat) : Int) + k) (-16382) - ((64 : Nat) : Int) + 1 ≤ k then m * 2 ^ (k - (max (((Nat.log2 m : Nat) : Int) + k) (-16382) - ((64 : Nat) : Int) + 1)).toNat
      else m / 2 ^ (max (((Nat.log2 m : Nat) : Int) + k) (-16382) - ((64 : Nat) : Int) + 1 - k).toNat) (max (((Nat.log2 m : Nat) : Int) + k) (-16382) - ((64 : Nat) : Int) + 1) := rfl
theorem of_E (sign : Bool) (m : Nat) (k : Int) : E.of sign m k = ⟨sign, if m < 2 ^ 63 then 0 else (k - (-16382) + ((64 : Nat) : Int)).toNat, m⟩ := rfl
theorem bits_of_E (sign : Bool) (m : Nat) (k : Int) : bitsOf (E.of sign m k) = signBits sign + ((if m < 9223372036854775808 then 0 else (k + 16446).toNat) * 18446744073709551616 + m) := by
  rw [of_E, bitsOf_eq]
  have e : k - (-16382) + ((64 : Nat) : Int) = k + 16446 := by omega
  simp only [e]
/-- make, of a normal one's m -/
theorem make_normal {sign : Bool} {m : Nat} {k : Int} (h1 : 9223372036854775808 ≤ m) (h2 : m < 18446744073709551616) (hk : -16445 ≤ k) :
    bitsOf (E.make sign m k) = signBits sign + ((k + 16446).toNat * 18446744073709551616 + m) := by
  have lg : Nat.log2 m = 63 := log2_of (by simpa using h1) (by simpa using h2)
  rw [make_E, if_neg (by omega), lg]
  have j : (max (((63 : Nat) : Int) + k) (-16382) - ((64 : Nat) : Int) + 1 : Int) = k := by omega
  rw [j, if_pos (Int.le_refl _)]
  have z : (k - k).toNat = 0 := by omega
  rw [z, Nat.pow_zero, Nat.mul_one, bits_of_E, if_neg (by omega)]
theorem make_over {sign : Bool} {k : Int} (hk : -16446 ≤ k) :
    bitsOf (E.make sign 18446744073709551616 k) = signBits sign + ((k + 16447).toNat * 18446744073709551616 + 9223372036854775808) := by
  have lg : Nat.log2 18446744073709551616 = 64 := log2_of (by decide) (by decide)
  rw [make_E, if_neg (by omega), lg]
  have j : (max (((64 : Nat) : Int) + k) (-16382) - ((64 : Nat) : Int) + 1 : Int) = k + 1 := by omega
  rw [j, if_neg (by omega)]
  have z : (k + 1 - k).toNat = 1 := by omega
  have z2 : 18446744073709551616 / 2 ^ 1 = 9223372036854775808 := by decide
  rw [z, z2, bits_of_E, if_neg (by omega)]
  have e : k + 1 + 16446 = k + 16447 := by omega
  rw [e]
theorem make_small {sign : Bool} {m : Nat} (h : m < 9223372036854775808) : bitsOf (E.make sign m (-16445)) = signBits sign + m := by
  rw [make_E]
  by_cases c : m = 0
  · rw [if_pos c, c, bitsOf_eq]; simp [Format.zero]
  · rw [if_neg c]
    have lg : Nat.log2 m < 63 := (Nat.log2_lt c).mpr (by simpa using h)
    have j : (max (((Nat.log2 m : Nat) : Int) + (-16445)) (-16382) - ((64 : Nat) : Int) + 1 : Int) = -16445 := by omega
    rw [j, if_pos (Int.le_refl _)]
    have z : ((-16445 : Int) - (-16445)).toNat = 0 := by decide
    rw [z, Nat.pow_zero, Nat.mul_one, bits_of_E, if_pos h]
    omega
theorem greatest_bits (sign : Bool) : bitsOf (E.make sign (18446744073709551616 - 1) (16383 - ((64 : Nat) : Int) + 1)) = signBits sign + 604444463063240877801471 := by
  rw [make_normal (by decide) (by decide) (by decide)]
  have : (16383 - ((64 : Nat) : Int) + 1 + 16446).toNat * 18446744073709551616 + (18446744073709551616 - 1) = 604444463063240877801471 := by decide
  rw [this]
theorem infinite_bits (sign : Bool) : bitsOf (E.infinite sign) = signBits sign + 604453686435277732577280 := by
  cases sign <;> decide
/-- the finest multiples fill: then the coarser ones go up too -/
theorem goes_up_too {x : Size} (h : 0 < x.den) {r : Rounding} {sign : Bool} {k : Int} (f : x.floorAt (k + 1) = 9223372036854775807) (g : x.floorAt k = 18446744073709551615)
    (u : x.multiple r sign k = 18446744073709551616) : x.multiple r sign (k + 1) = 9223372036854775808 := by
  have up := exact_up h k 1
  unfold Size.multiple at u ⊢
  rw [g] at u
  rw [f]
  have gu : goesUp r sign 18446744073709551615 (x.rest k) = true := by
    by_cases c : goesUp r sign 18446744073709551615 (x.rest k) = true
    · exact c
    · rw [if_neg c] at u; omega
  have nk : x.exactAt k = false := by
    cases q : x.exactAt k
    · rfl
    · unfold Size.rest at gu; rw [q] at gu; simp [goesUp] at gu
  have nk1 : x.exactAt (k + 1) = false := by
    cases q : x.exactAt (k + 1)
    · rfl
    · have := up.mp q; rw [nk] at this; simp at this
  have r3 : x.rest (k + 1) = 3 := by
    unfold Size.rest
    have e : k + 1 - 1 = k := by omega
    rw [nk1, e, g, f, nk]; simp
  have r0 : x.rest k ≠ 0 := by
    intro q; rw [q] at gu; simp [goesUp] at gu
  rw [r3]
  have g3 : goesUp r sign 9223372036854775807 3 = true := by
    unfold goesUp at gu ⊢
    cases r with
    | nearest => rfl
    | down => simp only [Bool.and_eq_true] at gu; rw [gu.2]; rfl
    | up => simp only [Bool.and_eq_true] at gu; rw [gu.2]; rfl
    | cut => simp at gu
  rw [if_pos g3]
theorem rounded_bits {x : Size} (hn : 0 < x.num) (h : 0 < x.den) (r : Rounding) (sign : Bool) {t : Int} (ht : x.floorAt t = 1) :
    bitsOf (E.rounded 64 r sign x).1 = signBits sign + packed (x.multiple r sign (max (t - 63) (-16445))) (max (t - 63) (-16445)) (overOf r sign) := by
  have te := top_eq hn h ht
  have fk : x.floorAt (t - 63) / 2 ^ 63 = 1 := by
    rw [← ht, ← floor_up h]; congr 1; omega
  have b1 : 9223372036854775808 ≤ x.floorAt (t - 63) ∧ x.floorAt (t - 63) < 18446744073709551616 := by
    rw [div_iff (by decide)] at fk; omega
  have mc := multiple_cases x r sign (t - 63)
  unfold Format.rounded
  rw [te]
  have k0 : (t - ((64 : Nat) : Int) + 1) = t - 63 := by omega
  simp only [k0]
  have em : E.emax = 16383 := rfl
  have en : E.emin = -16382 := rfl
  rw [em, en]
  have p64 : (2 : Nat) ^ 64 = 18446744073709551616 := by decide
  rw [p64]
  by_cases lo : t - 63 ≤ -16446
  · -- below the least normal one
    have kk : max (t - 63) (-16445) = -16445 := by omega
    rw [kk]
    have fj : x.floorAt (-16445) < 9223372036854775808 := by
      obtain ⟨j, hj⟩ : ∃ j : Nat, (-16445 : Int) = t - 63 + (j + 1 : Nat) := ⟨(-16445 - (t - 63) - 1).toNat, by omega⟩
      rw [hj, floor_up h, Nat.div_lt_iff_lt_mul (Nat.two_pow_pos _)]
      have : (2 : Nat) ^ (j + 1) ≥ 2 := by rw [Nat.pow_succ]; have := Nat.two_pow_pos j; omega
      have := Nat.mul_le_mul_left 9223372036854775808 this
      omega
    have mj := multiple_cases x r sign (-16445)
    by_cases y : x.multiple r sign (t - 63) = 18446744073709551616
    · simp only [y, if_true]
      rw [if_neg (by omega)]
      by_cases last : t + 1 < -16382
      · rw [if_pos last]
        have e : (-16382 - ((64 : Nat) : Int) + 1) = -16445 := by omega
        simp only [e]
        generalize x.multiple r sign (-16445) = m at mj ⊢
        by_cases c : m < 9223372036854775808
        · rw [make_small c]; unfold packed; rw [if_neg (by omega), if_neg (by omega), if_pos c]
        · rw [make_normal (by omega) (by omega) (by omega)]; unfold packed; rw [if_neg (by omega), if_neg (by omega), if_neg c]
      · rw [if_neg last]
        simp only
        rw [make_over (by omega)]
        have tt : t - 63 = -16446 := by omega
        have e1 : (-16445 : Int) = (t - 63) + 1 := by omega
        have g : x.floorAt (t - 63) = 18446744073709551615 := by omega
        have fu : x.floorAt (t - 63 + 1) = 9223372036854775807 := by
          have := floor_up h (t - 63) 1
          rw [g] at this; exact this
        have := goes_up_too h fu g y
        rw [← e1] at this
        rw [this, tt]; rfl
    · simp only [y, if_false]
      rw [if_neg (by omega), if_pos (by omega)]
      have e : (-16382 - ((64 : Nat) : Int) + 1) = -16445 := by omega
      simp only [e]
      generalize x.multiple r sign (-16445) = m at mj ⊢
      by_cases c : m < 9223372036854775808
      · rw [make_small c]; unfold packed; rw [if_neg (by omega), if_neg (by omega), if_pos c]
      · rw [make_normal (by omega) (by omega) (by omega)]; unfold packed; rw [if_neg (by omega), if_neg (by omega), if_neg c]
  · have kk : max (t - 63) (-16445) = t - 63 := by omega
    rw [kk]
    generalize hm : x.multiple r sign (t - 63) = m at mc ⊢
    have e0 : (16383 - ((64 : Nat) : Int) + 1) = 16383 - 64 + 1 := by omega
    have ov : bitsOf (if r = .cut ∨ (r = .down ∧ sign = false) ∨ (r = .up ∧ sign = true) then (E.make sign (18446744073709551616 - 1) (16383 - ((64 : Nat) : Int) + 1), OVER + INEXACT) else (E.infinite sign, OVER + INEXACT + UP)).1 = signBits sign + overOf r sign := by
      unfold overOf
      by_cases c : r = .cut ∨ (r = .down ∧ sign = false) ∨ (r = .up ∧ sign = true)
      · rw [if_pos c, if_pos c]; exact greatest_bits sign
      · rw [if_neg c, if_neg c]; exact infinite_bits sign
    by_cases y : m = 18446744073709551616
    · simp only [y, if_true]
      by_cases big : 16383 < t + 1
      · have pk : packed 18446744073709551616 (t - 63) (overOf r sign) = overOf r sign := by
          unfold packed; rw [if_pos rfl, if_pos (by omega)]
        rw [pk, if_pos big]
        exact ov
      · have pk : packed 18446744073709551616 (t - 63) (overOf r sign) = (t - 63 + 16447).toNat * 18446744073709551616 + 9223372036854775808 := by
          unfold packed; rw [if_pos rfl, if_neg (by omega)]
        rw [pk, if_neg big, if_neg (show ¬ t + 1 < -16382 by omega)]
        exact make_over (by omega)
    · simp only [y, if_false]
      by_cases big : 16383 < t
      · have pk : packed m (t - 63) (overOf r sign) = overOf r sign := by
          unfold packed; rw [if_neg y, if_pos (by omega)]
        rw [pk, if_pos big]
        exact ov
      · have pk : packed m (t - 63) (overOf r sign) = (t - 63 + 16446).toNat * 18446744073709551616 + m := by
          unfold packed; rw [if_neg y, if_neg (by omega), if_neg (by omega)]
        rw [pk, if_neg big, if_neg (show ¬ t < -16382 by omega)]
        exact make_normal (by omega) (by omega) (by omega)
end Bx
end
section
namespace Bx
open Ew EwIval Wrxtee
/-! ## a dyadic number that stands for a size -/
noncomputable def flo (w : Nat) (p k : Int) : Nat := if p ≤ k then w / 2 ^ (k - p).toNat else w * 2 ^ (p - k).toNat
noncomputable def exa (w : Nat) (p k : Int) : Prop := k ≤ p ∨ w % 2 ^ (k - p).toNat = 0
noncomputable instance (w : Nat) (p k : Int) : Decidable (exa w p k) := inferInstanceAs (Decidable (_ ∨ _))
structure Rep (x : Size) (w : Nat) (p : Int) : Prop where
  num : 0 < x.num
  den : 0 < x.den
  pos : 0 < w
  all : ∃ k0 : Int, k0 ≤ p + Nat.log2 w - 63 ∧ ∀ k : Int, k0 ≤ k → x.floorAt k = flo w p k ∧ (x.exactAt k = true ↔ exa w p k)
/-- an exact one: num / den is w 2^p -/
theorem Rep.exact {x : Size} {w : Nat} {p : Int} {a b : Nat} (hr : x.root = false) (hd : 0 < x.den) (hw : 0 < w) (e : p = (a : Int) - b) (h : x.num * 2 ^ b = w * 2 ^ a * x.den) : Rep x w p := by
  have hn : 0 < x.num := by
    have : 0 < x.num * 2 ^ b := by rw [h]; exact Nat.mul_pos (Nat.mul_pos hw (Nat.two_pow_pos _)) hd
    exact Nat.pos_of_mul_pos_right this
  refine ⟨hn, hd, hw, p + Nat.log2 w - 63, Int.le_refl _, ?_⟩
  intro k _
  -- x as the fraction with powers b + c, a + d
  have cross : ∀ (c d : Nat), U x (b + c) * 1 = (w * 2 ^ (a + c)) * x.den := by
    intro c d
    unfold U; rw [hr]; simp only [Bool.false_eq_true, if_false]
    rw [Nat.pow_add, Nat.pow_add, ← Nat.mul_assoc, h, Nat.mul_one]
    simp only [Nat.mul_assoc, Nat.mul_comm, Nat.mul_left_comm]
  have fl : x.floorAt k = flo w p k := by
    unfold flo
    by_cases c : p ≤ k
    · rw [if_pos c]
      obtain ⟨n, hn⟩ : ∃ n : Nat, k = p + n := ⟨(k - p).toNat, by omega⟩
      have t : (k - p).toNat = n := by omega
      rw [t, floorAt_iff hd (a := b) (b := a + n) (by omega)]
      have q := (div_iff (n := w) (r := w / 2 ^ n) (Nat.two_pow_pos n)).mp rfl
      unfold G D U; rw [hr]; simp only [Bool.false_eq_true, if_false]
      rw [h]
      constructor
      · calc w / 2 ^ n * (x.den * 2 ^ (a + n)) = (w / 2 ^ n * 2 ^ n) * (2 ^ a * x.den) := by
              rw [Nat.pow_add]; simp only [Nat.mul_assoc, Nat.mul_comm, Nat.mul_left_comm]
          _ ≤ w * (2 ^ a * x.den) := Nat.mul_le_mul_right _ q.1
          _ = w * 2 ^ a * x.den := by rw [Nat.mul_assoc]
      · calc w * 2 ^ a * x.den = w * (2 ^ a * x.den) := by rw [Nat.mul_assoc]
          _ < (w / 2 ^ n + 1) * 2 ^ n * (2 ^ a * x.den) := (Nat.mul_lt_mul_right (Nat.mul_pos (Nat.two_pow_pos _) hd)).mpr q.2
          _ = (w / 2 ^ n + 1) * (x.den * 2 ^ (a + n)) := by
              rw [Nat.pow_add]; simp only [Nat.mul_assoc, Nat.mul_comm, Nat.mul_left_comm]
    · rw [if_neg c]
      obtain ⟨n, hn⟩ : ∃ n : Nat, k = p - n := ⟨(p - k).toNat, by omega⟩
      have t : (p - k).toNat = n := by omega
      rw [t, floorAt_iff hd (a := b + n) (b := a) (by omega)]
      unfold G D U; rw [hr]; simp only [Bool.false_eq_true, if_false]
      have e1 : x.num * 2 ^ (b + n) = w * 2 ^ n * (x.den * 2 ^ a) := by
        rw [Nat.pow_add, ← Nat.mul_assoc, h]; simp only [Nat.mul_assoc, Nat.mul_comm, Nat.mul_left_comm]
      rw [e1]
      have dp : 0 < x.den * 2 ^ a := Nat.mul_pos hd (Nat.two_pow_pos _)
      exact ⟨Nat.le_refl _, (Nat.mul_lt_mul_right dp).mpr (by omega)⟩
  refine ⟨fl, ?_⟩
  by_cases c : p ≤ k
  · obtain ⟨n, hn⟩ : ∃ n : Nat, k = p + n := ⟨(k - p).toNat, by omega⟩
    have t : (k - p).toNat = n := by omega
    rw [exactAt_iff hd (a := b) (b := a + n) (by omega), fl]
    unfold flo exa; rw [if_pos c, t]
    unfold G D U; rw [hr]; simp only [Bool.false_eq_true, if_false]
    rw [h]
    have dp : 0 < 2 ^ a * x.den := Nat.mul_pos (Nat.two_pow_pos _) hd
    have e1 : w / 2 ^ n * (x.den * 2 ^ (a + n)) = (w / 2 ^ n * 2 ^ n) * (2 ^ a * x.den) := by
      rw [Nat.pow_add]; simp only [Nat.mul_assoc, Nat.mul_comm, Nat.mul_left_comm]
    rw [e1, Nat.mul_assoc w]
    have dm := Nat.div_add_mod w (2 ^ n)
    rw [Nat.mul_comm (2 ^ n)] at dm
    constructor
    · intro q
      have := Nat.eq_of_mul_eq_mul_right dp q
      right; omega
    · intro q
      have : w % 2 ^ n = 0 := by
        rcases q with q | q
        · have : n = 0 := by omega
          subst this; simp; omega
        · exact q
      have : w / 2 ^ n * 2 ^ n = w := by omega
      rw [this]
  · obtain ⟨n, hn⟩ : ∃ n : Nat, k = p - n := ⟨(p - k).toNat, by omega⟩
    have t : (p - k).toNat = n := by omega
    rw [exactAt_iff hd (a := b + n) (b := a) (by omega), fl]
    unfold flo exa; rw [if_neg c, t]
    unfold G D U; rw [hr]; simp only [Bool.false_eq_true, if_false]
    constructor
    · intro _; left; omega
    · intro _
      rw [Nat.pow_add, ← Nat.mul_assoc x.num, h]; simp only [Nat.mul_assoc, Nat.mul_comm, Nat.mul_left_comm]
/-- one with a digit that says whether something is left -/
theorem Rep.sticky {x : Size} {w : Nat} {p : Int} (hn : 0 < x.num) (hd : 0 < x.den) (hw : 9223372036854775808 ≤ w) (s : Nat) (f : x.floorAt p = w) (e : s = 0 ∧ x.exactAt p = true ∨ s = 1 ∧ x.exactAt p = false) :
    Rep x (2 * w + s) (p - 1) := by
  have lg : Nat.log2 (2 * w + s) ≥ 64 := (Nat.le_log2 (by omega)).mpr (by simp; omega)
  refine ⟨hn, hd, by omega, p, by omega, ?_⟩
  intro k hk
  obtain ⟨j, hj⟩ : ∃ j : Nat, k = p + j := ⟨(k - p).toNat, by omega⟩
  subst hj
  have t : (p + (j : Int) - (p - 1)).toNat = j + 1 := by omega
  unfold flo exa
  rw [if_pos (by omega), t, floor_up hd, exact_up hd, f]
  have pp := Nat.two_pow_pos j
  have p2 : (2 : Nat) ^ (j + 1) = 2 * 2 ^ j := by rw [Nat.pow_succ, Nat.mul_comm]
  constructor
  · rw [p2, ← Nat.div_div_eq_div_mul]
    congr 1
    omega
  · rw [p2, Nat.mod_mul]
    have d2 : (2 * w + s) / 2 = w := by omega
    rw [d2]
    rcases e with ⟨rfl, e⟩ | ⟨rfl, e⟩
    · rw [e]; simp; omega
    · rw [e]; simp; omega
theorem flo_top {w : Nat} {p : Int} (hw : 0 < w) : flo w p (p + Nat.log2 w) = 1 := by
  unfold flo
  rw [if_pos (by omega)]
  have t : (p + (Nat.log2 w : Int) - p).toNat = Nat.log2 w := by omega
  rw [t, div_iff (Nat.two_pow_pos _)]
  have h1 := Nat.log2_self_le (n := w) (by omega)
  have h2 := @Nat.lt_log2_self w
  rw [Nat.pow_succ] at h2
  omega
/-- outward of down, up -/
noncomputable def outw (r : Rounding) (sign : Bool) : Bool := (r == .down && sign) || (r == .up && !sign)
noncomputable def sizeBeside (w : Nat) (p : Int) (out : Bool) : Nat :=
  packed (flo w p (max (p + Nat.log2 w - 63) (-16445)) + if out = true ∧ ¬ exa w p (max (p + Nat.log2 w - 63) (-16445)) then 1 else 0) (max (p + Nat.log2 w - 63) (-16445))
    (if out = true then 604453686435277732577280 else 604444463063240877801471)
theorem Rep.rounded {x : Size} {w : Nat} {p : Int} (R : Rep x w p) {r : Rounding} (hr : r = .down ∨ r = .up) (sign : Bool) :
    bitsOf (E.rounded 64 r sign x).1 = signBits sign + sizeBeside w p (outw r sign) := by
  obtain ⟨hn, hd, hw, k0, hk, all⟩ := R
  have tt := (all (p + Nat.log2 w) (by omega)).1
  rw [flo_top hw] at tt
  rw [rounded_bits hn hd r sign tt]
  unfold sizeBeside
  obtain ⟨f, e⟩ := all (max (p + Nat.log2 w - 63) (-16445)) (by omega)
  generalize max (p + Nat.log2 w - 63) (-16445) = kk at *
  congr 2
  · unfold Size.multiple
    rw [f]
    congr 1
    have rest : x.rest kk = 0 ↔ exa w p kk := by
      rw [← e]; unfold Size.rest
      by_cases c : x.exactAt kk = true
      · rw [if_pos c]; simp [c]
      · rw [if_neg c]; simp [c]; split
        · simp
        · split <;> simp
    unfold goesUp outw
    rcases hr with rfl | rfl <;> cases sign <;> simp [rest]
  · unfold overOf outw
    rcases hr with rfl | rfl <;> cases sign <;> simp
end Bx
end
section
namespace Bx
open Ew EwIval Wrxtee
open WrxteeNeutral (fl)
theorem make_sign (f : Format) (s : Bool) (m : Nat) (k : Int) : (f.make s m k).sign = s := by
  unfold Format.make; split <;> rfl
theorem rounded_sign (f : Format) (q : Nat) (r : Rounding) (s : Bool) (x : Size) : (f.rounded q r s x).1.sign = s := by
  unfold Format.rounded
  simp only
  repeat' split
  all_goals first | exact make_sign _ _ _ _ | rfl
theorem kind_zero (x : Float_) : E.kind x = .zero ↔ x.exp * 18446744073709551616 + x.frac = 0 := by
  rw [kind_E]
  by_cases e0 : x.exp = 0
  · rw [if_pos e0]
    by_cases j : 9223372036854775808 ≤ x.frac
    · rw [if_pos j]; simp; omega
    · rw [if_neg j]
      by_cases r : x.frac % 9223372036854775808 = 0
      · rw [if_pos r]; simp; omega
      · rw [if_neg r]; simp; omega
  · rw [if_neg e0]
    constructor
    · intro q; exfalso; revert q
      split
      · exact nofun
      · split
        · exact nofun
        · split
          · exact nofun
          · split <;> exact nofun
    · omega
theorem plain_bits {y : Float_} {s : Bool} {B : Nat} (hs : y.sign = s) (h : bitsOf y = signBits s + B) : bitsOf (plain y) = if B = 0 then 0 else signBits s + B := by
  have : y.exp * 18446744073709551616 + y.frac = B := by
    rw [bitsOf_eq, hs] at h; omega
  unfold plain
  have kz := kind_zero y
  rw [this] at kz
  by_cases c : B = 0
  · rw [if_pos (kz.mpr c), if_pos c]; rfl
  · rw [if_neg (fun q => c (kz.mp q)), if_neg c, h]
theorem two_mul_pow {k : Int} {a b : Nat} (e : k = (a : Int) - b) : Ew.two k * ((2 ^ b : Nat) : Rat) = ((2 ^ a : Nat) : Rat) := by
  rw [← two_nat, ← two_nat, ← two_add]; congr 1; omega
/-- a fraction that's z 2^k, as a size -/
theorem rat_rep {q : Rat} {z : Int} {k : Int} (h : q = (z : Rat) * Ew.two k) (hz : z ≠ 0) : Rep ⟨q.num.natAbs, q.den, false⟩ z.natAbs k := by
  obtain ⟨a, b, e⟩ : ∃ a b : Nat, k = (a : Int) - b := ⟨k.toNat, (-k).toNat, by omega⟩
  refine Rep.exact (a := a) (b := b) rfl q.den_pos (Int.natAbs_pos.mpr hz) e ?_
  show q.num.natAbs * 2 ^ b = z.natAbs * 2 ^ a * q.den
  have h1 : (q.num : Rat) = q * (q.den : Rat) := by
    have : q = (q.num : Rat) / (q.den : Rat) := by
      rw [← Rat.mkRat_eq_div, Rat.mkRat_self]
    have hd : (q.den : Rat) ≠ 0 := by
      have := q.den_pos
      exact fun c => by
        have : (0 : Rat) < (q.den : Rat) := Rat.natCast_pos.mpr q.den_pos
        rw [c] at this; exact Rat.lt_irrefl this
    calc (q.num : Rat) = (q.num : Rat) / (q.den : Rat) * (q.den : Rat) := (Rat.div_mul_cancel hd).symm
      _ = q * (q.den : Rat) := by rw [← this]
  have h2 : ((q.num * ((2 ^ b : Nat) : Int) : Int) : Rat) = ((z * ((2 ^ a : Nat) : Int) * (q.den : Int) : Int) : Rat) := by
    rw [Rat.intCast_mul, Rat.intCast_mul, Rat.intCast_mul, Rat.intCast_natCast, Rat.intCast_natCast, Rat.intCast_natCast, h1, ← two_mul_pow e]
    generalize (q.den : Rat) = d
    generalize ((2 ^ b : Nat) : Rat) = u
    rw [h]
    generalize Ew.two k = v
    grind
  have h3 : q.num * ((2 ^ b : Nat) : Int) = z * ((2 ^ a : Nat) : Int) * (q.den : Int) := Rat.intCast_inj.mp h2
  have h4 := congrArg Int.natAbs h3
  rw [Int.natAbs_mul, Int.natAbs_mul, Int.natAbs_mul] at h4
  simpa using h4
theorem two_ne (k : Int) : Ew.two k ≠ 0 := fun c => by have := two_pos k; rw [c] at this; exact Rat.lt_irrefl this
theorem int_two_zero {z k : Int} : (z : Rat) * Ew.two k = 0 ↔ z = 0 := by
  rw [Rat.mul_eq_zero]
  constructor
  · rintro (h | h)
    · exact Rat.intCast_inj.mp (h.trans Rat.intCast_zero.symm)
    · exact absurd h (two_ne k)
  · rintro rfl; left; rfl
theorem int_two_neg {z k : Int} : (z : Rat) * Ew.two k < 0 ↔ z < 0 := by
  rw [Rat.mul_neg_iff_of_pos_right (two_pos k), ← Rat.intCast_lt_intCast]; rfl
/-- make -/
noncomputable def make (lo hi : Int) : List Int := if (isNumber lo && isNumber hi) = false then [-2] else if areEnds lo hi = false then [-5] else [0, told lo, told hi]
end Bx
end
section
namespace Bx
open Ew EwIval Wrxtee
open WrxteeNeutral (fl)
/-! ## the program's values -/
structure Val where
  whole : Int
  power : Int
  inf : Bool
/-- what a value stands for -/
noncomputable def Stands (v : Val) : End → Prop
  | .minus => v.inf = true ∧ v.whole < 0
  | .plus => v.inf = true ∧ 0 < v.whole
  | .num q => (v.whole = 0 ∧ q = 0) ∨ (v.inf = false ∧ v.whole ≠ 0 ∧ q ≠ 0 ∧ (v.whole < 0 ↔ q < 0) ∧ Rep ⟨q.num.natAbs, q.den, false⟩ v.whole.natAbs v.power)
  | .root q => v.inf = false ∧ 0 < v.whole ∧ 0 < q ∧ Rep ⟨q.num.natAbs, q.den, true⟩ v.whole.natAbs v.power
theorem Stands.exact (w p : Int) : Stands ⟨w, p, false⟩ (.num ((w : Rat) * Ew.two p)) := by
  by_cases c : w = 0
  · left; exact ⟨c, int_two_zero.mpr c⟩
  · right
    exact ⟨rfl, c, fun q => c (int_two_zero.mp q), int_two_neg.symm, rat_rep rfl c⟩
noncomputable def lowEnd (v : Val) : Int := if v.whole = 0 then 0 else if v.inf = true then (if 0 < v.whole then 604453686435277732577280 else 1208916596242592319930368)
  else if 0 < v.whole then (sizeBeside v.whole.toNat v.power false : Int) else 604462909807314587353088 + (sizeBeside (-v.whole).toNat v.power true : Int)
noncomputable def turned (b : Int) : Int := if 604462909807314587353088 ≤ b then b - 604462909807314587353088 else b + 604462909807314587353088
noncomputable def opposite (b : Int) : Int := told (turned b)
noncomputable def highEnd (v : Val) : Int := opposite (lowEnd ⟨-v.whole, v.power, v.inf⟩)
/-- a size as it's told -/
noncomputable def SizeBits (n : Nat) : Prop := n < 9223372036854775808 ∨ (18446744073709551616 ≤ n ∧ 9223372036854775808 ≤ n % 18446744073709551616 ∧ n ≤ 604453686435277732577280)
theorem packed_norm {m : Nat} {kk : Int} {over : Nat} (hm : m ≤ 18446744073709551616) (hk : -16445 ≤ kk) (ho : over = 604453686435277732577280 ∨ over = 604444463063240877801471) : SizeBits (packed m kk over) := by
  have so : SizeBits over := by
    rcases ho with rfl | rfl <;> (right; decide)
  unfold packed
  by_cases y : m = 18446744073709551616
  · rw [if_pos y]
    by_cases b : 16320 ≤ kk
    · rw [if_pos b]; exact so
    · rw [if_neg b]; right; omega
  · rw [if_neg y]
    by_cases b : 16321 ≤ kk
    · rw [if_pos b]; exact so
    · rw [if_neg b]
      by_cases c : m < 9223372036854775808
      · rw [if_pos c]; left; exact c
      · rw [if_neg c]; right; omega
theorem flo_lt {w : Nat} {p : Int} (hw : 0 < w) : flo w p (max (p + Nat.log2 w - 63) (-16445)) < 18446744073709551616 := by
  have h2 := @Nat.lt_log2_self w
  generalize hk : max (p + (Nat.log2 w : Int) - 63) (-16445) = kk
  unfold flo
  split
  · rw [Nat.div_lt_iff_lt_mul (Nat.two_pow_pos _)]
    refine Nat.lt_of_lt_of_le h2 ?_
    rw [show 18446744073709551616 = 2 ^ 64 by decide, ← Nat.pow_add]
    exact Nat.pow_le_pow_right (by omega) (by omega)
  · have e : 18446744073709551616 = 2 ^ (64 - (p - kk).toNat) * 2 ^ (p - kk).toNat := by
      rw [← Nat.pow_add, show 64 - (p - kk).toNat + (p - kk).toNat = 64 by omega]
    rw [e]
    refine (Nat.mul_lt_mul_right (Nat.two_pow_pos _)).mpr ?_
    exact Nat.lt_of_lt_of_le h2 (Nat.pow_le_pow_right (by omega) (by omega))
theorem beside_bits {w : Nat} {p : Int} (hw : 0 < w) (out : Bool) : SizeBits (sizeBeside w p out) := by
  have := flo_lt (p := p) hw
  unfold sizeBeside
  refine packed_norm ?_ (by omega) (by cases out <;> simp)
  split <;> omega
theorem packed_pos {m : Nat} {kk : Int} {over : Nat} (hm : 0 < m) (ho : 0 < over) : 0 < packed m kk over := by
  unfold packed; repeat' split
  all_goals omega
theorem beside_pos {w : Nat} {p : Int} (hw : 0 < w) : 0 < sizeBeside w p true := by
  unfold sizeBeside
  generalize max (p + (Nat.log2 w : Int) - 63) (-16445) = kk
  refine packed_pos ?_ (by simp)
  by_cases c : exa w p kk
  · have : 0 < flo w p kk := by
      unfold flo
      split
      · rename_i le
        rcases c with c | c
        · have : (kk - p).toNat = 0 := by omega
          rw [this]; simpa using hw
        · have := Nat.div_add_mod w (2 ^ (kk - p).toNat)
          rw [c] at this
          by_cases z : w / 2 ^ (kk - p).toNat = 0
          · rw [z] at this; omega
          · exact Nat.pos_of_ne_zero z
      · exact Nat.mul_pos hw (Nat.two_pow_pos _)
    omega
  · rw [if_pos ⟨rfl, c⟩]; omega
theorem told_size {n : Nat} (h : SizeBits n) : told (n : Int) = n ∧ (0 < n → told ((n : Int) + 604462909807314587353088) = n + 604462909807314587353088) ∧ turned ((n : Int)) = n + 604462909807314587353088 ∧ turned ((n : Int) + 604462909807314587353088) = n := by
  unfold told madeNormal turned expo sig
  unfold SizeBits at h
  refine ⟨?_, ?_, ?_, ?_⟩
  · repeat' split
    all_goals omega
  · intro _
    repeat' split
    all_goals omega
  · split <;> omega
  · split <;> omega
theorem opp_size {n : Nat} (h : SizeBits n) : opposite ((n : Int) + 604462909807314587353088) = n ∧ opposite (n : Int) = if n = 0 then 0 else (n : Int) + 604462909807314587353088 := by
  obtain ⟨h1, h2, h3, h4⟩ := told_size h
  unfold opposite
  rw [h3, h4]
  refine ⟨h1, ?_⟩
  by_cases c : n = 0
  · rw [if_pos c, c]; decide
  · rw [if_neg c]; exact h2 (by omega)
theorem zero_down : bitsOf (downTo (.num 0)) = 0 := by decide
theorem zero_up : bitsOf (upTo (.num 0)) = 0 := by decide
theorem low_ok {v : Val} {e : End} (h : Stands v e) : lowEnd v = (bitsOf (downTo e) : Int) := by
  unfold lowEnd
  cases e with
  | minus =>
    obtain ⟨h1, h2⟩ := h
    rw [if_neg (by omega), if_pos h1, if_neg (by omega)]; rfl
  | plus =>
    obtain ⟨h1, h2⟩ := h
    rw [if_neg (by omega), if_pos h1, if_pos h2]; rfl
  | root q =>
    obtain ⟨h1, h2, h3, R⟩ := h
    rw [if_neg (by omega), h1, if_neg (by simp), if_pos h2]
    unfold downTo
    simp only
    rw [if_neg (by rw [Rat.not_le]; exact h3), R.rounded (.inl rfl)]
    have : v.whole.toNat = v.whole.natAbs := by omega
    have o : outw .down false = false := by decide
    rw [this, o]; simp [signBits]
  | num q =>
    rcases h with ⟨h1, rfl⟩ | ⟨h1, h2, h3, h4, R⟩
    · rw [if_pos h1, zero_down]; rfl
    · rw [if_neg h2, h1, if_neg (by simp)]
      unfold downTo
      simp only
      have rd := R.rounded (r := .down) (.inl rfl) (decide (q < 0))
      have pb := plain_bits (rounded_sign _ _ _ _ _) rd
      unfold Format.ofRat
      rw [if_neg h3, pb]
      by_cases c : 0 < v.whole
      · have nq : ¬ q < 0 := by rw [← h4]; omega
        rw [if_pos c]
        have : v.whole.toNat = v.whole.natAbs := by omega
        rw [this]
        simp only [nq, decide_false]
        have o : outw .down false = false := by decide
        rw [o]
        simp only [signBits]
        split
        · rename_i z; rw [z]
        · simp
      · have nq : q < 0 := by rw [← h4]; omega
        rw [if_neg c]
        have : (-v.whole).toNat = v.whole.natAbs := by omega
        rw [this]
        have pos := beside_pos (w := v.whole.natAbs) (p := v.power) (by omega)
        simp only [nq, decide_true]
        have o : outw .down true = true := by decide
        rw [o, if_neg (by omega)]
        simp [signBits]
theorem high_ok {v : Val} {e : End} (h : Stands v e) : highEnd v = (bitsOf (upTo e) : Int) := by
  unfold highEnd lowEnd
  simp only
  cases e with
  | minus =>
    obtain ⟨h1, h2⟩ := h
    rw [if_neg (by omega), if_pos h1, if_pos (by omega)]; decide
  | plus =>
    obtain ⟨h1, h2⟩ := h
    rw [if_neg (by omega), if_pos h1, if_neg (by omega)]; decide
  | root q =>
    obtain ⟨h1, h2, h3, R⟩ := h
    rw [if_neg (by omega), h1, if_neg (by simp), if_neg (by omega)]
    unfold upTo
    simp only
    rw [if_neg (by rw [Rat.not_le]; exact h3), R.rounded (.inr rfl)]
    have : (- -v.whole).toNat = v.whole.natAbs := by omega
    have o : outw .up false = true := by decide
    rw [this, Int.add_comm, (opp_size (beside_bits (by omega) true)).1, o]
    simp [signBits]
  | num q =>
    rcases h with ⟨h1, rfl⟩ | ⟨h1, h2, h3, h4, R⟩
    · rw [if_pos (by omega), zero_up]; decide
    · rw [if_neg (by omega), h1, if_neg (by simp)]
      unfold upTo
      simp only
      have rd := R.rounded (r := .up) (.inr rfl) (decide (q < 0))
      have pb := plain_bits (rounded_sign _ _ _ _ _) rd
      unfold Format.ofRat
      rw [if_neg h3, pb]
      by_cases c : 0 < v.whole
      · have nq : ¬ q < 0 := by rw [← h4]; omega
        rw [if_neg (by omega)]
        have : (- -v.whole).toNat = v.whole.natAbs := by omega
        rw [this, Int.add_comm, (opp_size (beside_bits (by omega) true)).1]
        have pos := beside_pos (w := v.whole.natAbs) (p := v.power) (by omega)
        simp only [nq, decide_false]
        have o : outw .up false = true := by decide
        rw [o, if_neg (by omega)]
        simp [signBits]
      · have nq : q < 0 := by rw [← h4]; omega
        rw [if_pos (by omega)]
        have : (-v.whole).toNat = v.whole.natAbs := by omega
        rw [this, (opp_size (beside_bits (by omega) false)).2]
        simp only [nq, decide_true]
        have o : outw .up true = false := by decide
        rw [o]
        simp only [signBits]
        split
        · rfl
        · simp; omega
/-! ## what's read off the bits -/
end Bx
end
section
namespace Bx
open Ew EwIval Wrxtee
open WrxteeNeutral (fl)
/-! ## told numbers, by a sign and a size -/
/-- a told number -/
noncomputable def TN (a : Int) : Prop := ∃ n : Nat, SizeBits n ∧ (a = n ∨ (0 < n ∧ a = (n : Int) + 604462909807314587353088))
/-- the end that bits stand for -/
noncomputable def en (a : Int) : End := endOf (fl a)
theorem less_irrefl (e : End) : less e e = false := by
  cases e with
  | minus => rfl
  | plus => rfl
  | root q => rfl
  | num q => simp only [less]; rw [decide_eq_false_iff_not]; exact Rat.lt_irrefl
/-! ## told numbers are their own ends -/
/-- the hull's ends, by bits -/
noncomputable def dn (e : End) : Int := bitsOf (downTo e)
noncomputable def up (e : End) : Int := bitsOf (upTo e)
end Bx
end
section
namespace Bx
open Ew EwIval Wrxtee
open WrxteeNeutral (fl)
/-! ## an end's hull: the greatest told number not above it -/
noncomputable abbrev szq (q : Rat) : Size := ⟨q.num.natAbs, q.den, false⟩
theorem rat_num {q : Rat} : (q.num : Rat) = q * (q.den : Rat) := by
  have e : q = (q.num : Rat) / (q.den : Rat) := by rw [← Rat.mkRat_eq_div, Rat.mkRat_self]
  have hd : (q.den : Rat) ≠ 0 := fun c => by
    have : (0 : Rat) < (q.den : Rat) := Rat.natCast_pos.mpr q.den_pos
    rw [c] at this; exact Rat.lt_irrefl this
  calc (q.num : Rat) = (q.num : Rat) / (q.den : Rat) * (q.den : Rat) := (Rat.div_mul_cancel hd).symm
    _ = q * (q.den : Rat) := by rw [← e]
theorem floor_kk {x : Size} (h : 0 < x.den) {t : Int} (ht : x.floorAt t = 1) : x.floorAt (max (t - 63) (-16445)) < 18446744073709551616 ∧ (-16445 < max (t - 63) (-16445) → 9223372036854775808 ≤ x.floorAt (max (t - 63) (-16445))) := by
  by_cases c : t - 63 ≤ -16445
  · have e : max (t - 63) (-16445) = -16445 := by omega
    rw [e]
    refine ⟨?_, by omega⟩
    obtain ⟨j, hj⟩ : ∃ j : Nat, (-16445 : Int) = t - 63 + j := ⟨(-16445 - (t - 63)).toNat, by omega⟩
    have f0 : x.floorAt (t - 63) / 2 ^ 63 = 1 := by rw [← ht, ← floor_up h]; congr 1; omega
    have : x.floorAt (t - 63) < 18446744073709551616 := by rw [div_iff (by decide)] at f0; omega
    rw [hj, floor_up h]
    exact Nat.lt_of_le_of_lt (Nat.div_le_self _ _) this
  · have e : max (t - 63) (-16445) = t - 63 := by omega
    rw [e]
    have f0 : x.floorAt (t - 63) / 2 ^ 63 = 1 := by rw [← ht, ← floor_up h]; congr 1; omega
    rw [div_iff (by decide)] at f0; omega
/-- the three places -/
theorem places {x : Size} (h : 0 < x.den) {t : Int} (ht : x.floorAt t = 1) (k : Int) :
    (max (t - 63) (-16445) < k → x.floorAt k < 9223372036854775808) ∧ (-16445 ≤ k → k < max (t - 63) (-16445) → 18446744073709551616 ≤ x.floorAt k) := by
  obtain ⟨f1, f2⟩ := floor_kk h ht
  generalize max (t - 63) (-16445) = kk at *
  constructor
  · intro c
    obtain ⟨j, hj⟩ : ∃ j : Nat, k = kk + (j + 1 : Nat) := ⟨(k - kk - 1).toNat, by omega⟩
    rw [hj, floor_up h, Nat.div_lt_iff_lt_mul (Nat.two_pow_pos _), Nat.pow_succ]
    have := Nat.two_pow_pos j
    omega
  · intro c0 c
    obtain ⟨j, hj⟩ : ∃ j : Nat, kk = k + (j + 1 : Nat) := ⟨(kk - k - 1).toNat, by omega⟩
    have g := f2 (by omega)
    rw [hj, floor_up h, Nat.le_div_iff_mul_le (Nat.two_pow_pos _), Nat.pow_succ] at g
    have := Nat.two_pow_pos j
    omega
end Bx
end
section
namespace Bx
open Ew EwIval Wrxtee
open WrxteeNeutral (fl)
theorem num_pos {q : Rat} (h : q ≠ 0) : 0 < (szq q).num := by
  have : q.num ≠ 0 := fun c => h (Rat.num_eq_zero.mp c)
  show 0 < q.num.natAbs; omega
/-- roots are no operands -/
noncomputable def Plain : End → Prop
  | .root _ => False
  | _ => True
theorem less_minus_plus : (∀ e, less .plus e = false) ∧ (∀ e, less e .minus = false) := by
  constructor <;> intro e <;> cases e <;> rfl
/-! ## order of ends -/
end Bx
end
section
namespace Bx
open Ew EwIval Wrxtee
open WrxteeNeutral (fl)
/-! ## exact values -/
noncomputable def ExV (v : Val) : End → Prop
  | .minus => v.inf = true ∧ v.whole < 0
  | .plus => v.inf = true ∧ 0 < v.whole
  | .num q => v.inf = false ∧ q = (v.whole : Rat) * Ew.two v.power
  | .root _ => False
theorem ExV.stands {v : Val} {e : End} (h : ExV v e) : Stands v e := by
  cases e with
  | minus => exact h
  | plus => exact h
  | root q => exact h.elim
  | num q =>
    obtain ⟨h1, h2⟩ := h
    have := Stands.exact v.whole v.power
    rw [← h2] at this
    obtain ⟨w, p, i⟩ := v
    simp only at h1
    subst h1
    exact this
theorem ExV.sign {v : Val} {e : End} (h : ExV v e) : (signOf e < 0 ↔ v.whole < 0) ∧ (0 < signOf e ↔ 0 < v.whole) ∧ (signOf e = 0 ↔ v.whole = 0) := by
  cases e with
  | minus =>
    obtain ⟨_, h2⟩ := h
    simp only [signOf]
    refine ⟨?_, ?_, ?_⟩ <;> constructor <;> intro _ <;> omega
  | plus =>
    obtain ⟨_, h2⟩ := h
    simp only [signOf]
    refine ⟨?_, ?_, ?_⟩ <;> constructor <;> intro _ <;> omega
  | root q => exact h.elim
  | num q =>
    obtain ⟨_, h2⟩ := h
    have n := int_two_neg (z := v.whole) (k := v.power)
    have z := int_two_zero (z := v.whole) (k := v.power)
    rw [← h2] at n z
    simp only [signOf]
    by_cases c : q < 0
    · rw [if_pos c]
      have := n.mp c
      refine ⟨?_, ?_, ?_⟩ <;> constructor <;> intro _ <;> omega
    · rw [if_neg c]
      have c' : ¬ v.whole < 0 := fun w => c (n.mpr w)
      by_cases d : q = 0
      · rw [if_pos d]
        have := z.mp d
        refine ⟨?_, ?_, ?_⟩ <;> constructor <;> intro _ <;> omega
      · rw [if_neg d]
        have d' : ¬ v.whole = 0 := fun w => d (z.mpr w)
        refine ⟨?_, ?_, ?_⟩ <;> constructor <;> intro _ <;> omega
/-! ## sums -/
/-! ## products -/
noncomputable def endless (w : Int) : Val := ⟨if 0 < w then 1 else -1, 0, true⟩
theorem endless_exact {w : Int} : (w < 0 → ExV (endless w) .minus) ∧ (0 < w → ExV (endless w) .plus) := by
  unfold endless
  constructor
  · intro h; rw [if_neg (by omega)]; exact ⟨rfl, by decide⟩
  · intro h; rw [if_pos h]; exact ⟨rfl, by decide⟩
end Bx
end
section
namespace Bx
open Ew EwIval Wrxtee
open WrxteeNeutral (fl)
/-! ## quotients by what's above 0 -/
noncomputable def finerV (w p : Int) (ex : Bool) : Val := ⟨2 * w + (if ex = true then 0 else 1), p - 1, false⟩
theorem pos_div (A y : Nat) : (2 * ((A : Int) / y) + (if (A : Int) / y * y = (A : Int) then 0 else 1) : Int) = ((2 * (A / y) + (if A / y * y = A then 0 else 1) : Nat) : Int) := by
  have e : (A : Int) / y = ((A / y : Nat) : Int) := by simp
  rw [e]
  by_cases c : A / y * y = A
  · rw [if_pos c, if_pos (by rw [← Int.natCast_mul, c])]; omega
  · rw [if_neg c, if_neg (by rw [← Int.natCast_mul]; intro h; exact c (Int.ofNat.inj h))]; omega
theorem neg_div (A y : Nat) (hy : 0 < y) : (2 * (-(A : Int) / y) + (if -(A : Int) / y * y = -(A : Int) then 0 else 1) : Int) = -((2 * (A / y) + (if A / y * y = A then 0 else 1) : Nat) : Int) := by
  have q := (div_iff (n := A) (r := A / y) hy).mp rfl
  generalize A / y = W at *
  by_cases c : W * y = A
  · have d : -(A : Int) / y = -(W : Int) := by
      rw [← c, Int.natCast_mul, ← Int.neg_mul]; exact Int.mul_ediv_cancel _ (by omega)
    rw [d, if_pos c, if_pos (by rw [Int.neg_mul, ← Int.natCast_mul, c])]; omega
  · have h1 : (W : Int) * y < A := by rw [← Int.natCast_mul]; omega
    have h2 : (A : Int) < (W + 1 : Int) * y := by
      have := q.2
      have e : (W + 1 : Int) * y = (((W + 1) * y : Nat) : Int) := by rw [Int.natCast_mul]; rfl
      rw [e]; omega
    have e1 : (-(W : Int) - 1) * y = -((W + 1 : Int) * y) := by rw [← Int.neg_mul]; congr 1; omega
    have e2 : (-(W : Int)) * y = -((W : Int) * y) := Int.neg_mul _ _
    have d : -(A : Int) / y = -(W : Int) - 1 := by
      have le : -(W : Int) - 1 ≤ -(A : Int) / y := by
        rw [Int.le_ediv_iff_mul_le (by omega), e1]; omega
      have lt : -(A : Int) / y < -(W : Int) := by
        rw [Int.ediv_lt_iff_lt_mul (by omega), e2]; omega
      omega
    rw [d, if_neg c, if_neg (by rw [e1]; omega)]; omega
/-- a quotient's size; C: so much finer -/
theorem quot_gen (c k : Nat) (hc : k + 63 ≤ c) {z y p1 p2 : Int} (hz : z ≠ 0) (hy : 0 < y) (hy2 : y.natAbs < 2 ^ k) {q : Rat} (hq : q = ((z : Rat) * Ew.two p1) * (1 / ((y : Rat) * Ew.two p2))) :
    Stands (finerV (z * ((2 ^ c : Nat) : Int) / y) (p1 - p2 - c) (decide (z * ((2 ^ c : Nat) : Int) / y * y = z * ((2 ^ c : Nat) : Int)))) (.num q) := by
  have hC : 2 ^ 63 * 2 ^ k ≤ 2 ^ c := by rw [← Nat.pow_add]; exact Nat.pow_le_pow_right (n := 2) (by omega) (by omega)
  have yr : (y : Rat) ≠ 0 := fun c => by have := Rat.intCast_inj.mp (c.trans Rat.intCast_zero.symm); omega
  have yp : (0 : Rat) < (y : Rat) := Rat.intCast_pos.mpr hy
  have qy : q * (y : Rat) = (z : Rat) * Ew.two (p1 - p2) := by
    have t2 := two_ne p2
    have tt : Ew.two p1 = Ew.two (p1 - p2) * Ew.two p2 := by rw [← two_add]; congr 1; omega
    rw [hq, tt, Rat.div_def, Rat.one_mul, Rat.inv_mul_rev]
    have i1 := Rat.mul_inv_cancel _ t2
    have i2 := Rat.inv_mul_cancel _ yr
    generalize (Ew.two p2)⁻¹ = u at *
    generalize ((y : Rat))⁻¹ = v at *
    calc (z : Rat) * (Ew.two (p1 - p2) * Ew.two p2) * (u * v) * (y : Rat) = (z : Rat) * Ew.two (p1 - p2) * (Ew.two p2 * u) * (v * (y : Rat)) := by grind
      _ = (z : Rat) * Ew.two (p1 - p2) := by rw [i1, i2, Rat.mul_one, Rat.mul_one]
  have q0 : q ≠ 0 := fun c => by
    rw [c, Rat.zero_mul] at qy
    exact hz (int_two_zero.mp qy.symm)
  have qn : q < 0 ↔ z < 0 := by
    rw [← Rat.mul_neg_iff_of_pos_right yp, qy, int_two_neg]
  obtain ⟨a, b, e⟩ : ∃ a b : Nat, p1 - p2 = (a : Int) - b := ⟨(p1 - p2).toNat, (-(p1 - p2)).toNat, by omega⟩
  have hI : q.num * y * ((2 ^ b : Nat) : Int) = z * ((2 ^ a : Nat) : Int) * (q.den : Int) := by
    have : ((q.num * y * ((2 ^ b : Nat) : Int) : Int) : Rat) = ((z * ((2 ^ a : Nat) : Int) * (q.den : Int) : Int) : Rat) := by
      rw [Rat.intCast_mul, Rat.intCast_mul, Rat.intCast_mul, Rat.intCast_mul, Rat.intCast_natCast, Rat.intCast_natCast, Rat.intCast_natCast, rat_num, ← two_mul_pow e]
      generalize ((2 ^ b : Nat) : Rat) = B
      generalize (q.den : Rat) = d
      calc q * d * (y : Rat) * B = (q * (y : Rat)) * d * B := by grind
        _ = (z : Rat) * (Ew.two (p1 - p2) * B) * d := by rw [qy]; grind
    exact Rat.intCast_inj.mp this
  have hN : q.num.natAbs * y.natAbs * 2 ^ b = z.natAbs * 2 ^ a * q.den := by
    have h4 := congrArg Int.natAbs hI
    rw [Int.natAbs_mul, Int.natAbs_mul, Int.natAbs_mul, Int.natAbs_mul, Int.natAbs_natCast, Int.natAbs_natCast, Int.natAbs_natCast] at h4
    exact h4
  generalize hW : z.natAbs * 2 ^ c / y.natAbs = W
  have yn : 0 < y.natAbs := by omega
  have hWi := (div_iff yn).mp hW
  have Wbig : 9223372036854775808 ≤ W := by
    rw [← hW, Nat.le_div_iff_mul_le yn]
    calc 9223372036854775808 * y.natAbs ≤ 2 ^ 63 * 2 ^ k := Nat.mul_le_mul (by decide) (by omega)
      _ ≤ 1 * 2 ^ c := by rw [Nat.one_mul]; exact hC
      _ ≤ z.natAbs * 2 ^ c := Nat.mul_le_mul_right _ (by omega)
  have cr : q.num.natAbs * 2 ^ (b + c) * y.natAbs = z.natAbs * 2 ^ c * (q.den * 2 ^ a) := by
    rw [Nat.pow_add]
    generalize 2 ^ c = C at *
    calc q.num.natAbs * (2 ^ b * C) * y.natAbs = (q.num.natAbs * y.natAbs * 2 ^ b) * C := by simp only [Nat.mul_assoc, Nat.mul_comm, Nat.mul_left_comm]
      _ = z.natAbs * C * (q.den * 2 ^ a) := by rw [hN]; simp only [Nat.mul_assoc, Nat.mul_comm, Nat.mul_left_comm]
  have dp : 0 < q.den * 2 ^ a := Nat.mul_pos q.den_pos (Nat.two_pow_pos _)
  have fl : (szq q).floorAt (p1 - p2 - c) = W := by
    rw [floorAt_iff (x := szq q) q.den_pos (a := b + c) (b := a) (by omega)]
    exact ⟨(cross_le dp yn cr).mpr hWi.1, (cross_lt dp yn cr).mpr hWi.2⟩
  have ex : (szq q).exactAt (p1 - p2 - c) = true ↔ W * y.natAbs = z.natAbs * 2 ^ c := by
    rw [exactAt_iff (x := szq q) q.den_pos (a := b + c) (b := a) (by omega), fl]
    exact cross_eq dp yn cr
  have R := Rep.sticky (x := szq q) (w := W) (p := p1 - p2 - c) (num_pos q0) q.den_pos (by omega) (if W * y.natAbs = z.natAbs * 2 ^ c then 0 else 1) fl
    (by by_cases w : W * y.natAbs = z.natAbs * 2 ^ c
        · left; rw [if_pos w]; exact ⟨rfl, ex.mpr w⟩
        · right; rw [if_neg w]; refine ⟨rfl, ?_⟩
          cases h : (szq q).exactAt (p1 - p2 - c)
          · rfl
          · exact absurd (ex.mp h) w)
  have yi : y = (y.natAbs : Int) := by omega
  have key : (2 * (z * ((2 ^ c : Nat) : Int) / y) + (if decide (z * ((2 ^ c : Nat) : Int) / y * y = z * ((2 ^ c : Nat) : Int)) = true then 0 else 1) : Int) =
      (if z < 0 then -((2 * W + (if W * y.natAbs = z.natAbs * 2 ^ c then 0 else 1) : Nat) : Int) else ((2 * W + (if W * y.natAbs = z.natAbs * 2 ^ c then 0 else 1) : Nat) : Int)) := by
    simp only [decide_eq_true_eq]
    generalize 2 ^ c = C at *
    by_cases s : z < 0
    · rw [if_pos s]
      have za : z * (C : Int) = -((z.natAbs * C : Nat) : Int) := by
        rw [Int.natCast_mul, ← Int.neg_mul]; congr 1; omega
      rw [za, ← hW]
      have := neg_div (z.natAbs * C) y.natAbs yn
      rw [← yi] at this
      exact this
    · rw [if_neg s]
      have za : z * (C : Int) = ((z.natAbs * C : Nat) : Int) := by
        rw [Int.natCast_mul]; congr 1; omega
      rw [za, ← hW]
      have := pos_div (z.natAbs * C) y.natAbs
      rw [← yi] at this
      exact this
  right
  unfold finerV
  simp only
  rw [key]
  generalize hs : (2 * W + (if W * y.natAbs = z.natAbs * 2 ^ c then 0 else 1) : Nat) = S at *
  have Sp : 0 < S := by omega
  refine ⟨trivial, ?_, q0, ?_, ?_⟩
  · split <;> omega
  · rw [qn]; split <;> omega
  · have : (if z < 0 then -(S : Int) else (S : Int)).natAbs = S := by split <;> omega
    rw [this]; exact R
end Bx
end
section
namespace Bx
open Ew EwIval Wrxtee
open WrxteeNeutral (fl)
noncomputable def ovS (o : Val) : Nat := 64 + (Nat.log2 o.whole.natAbs + 1)
noncomputable def overV (v o : Val) : Val := if v.whole = 0 ∨ o.inf = true then ⟨0, 0, false⟩ else if v.inf = true ∨ o.whole = 0 then endless v.whole else
  finerV (v.whole * ((2 ^ ovS o : Nat) : Int) / o.whole) (v.power - o.power - ovS o) (decide (v.whole * ((2 ^ ovS o : Nat) : Int) / o.whole * o.whole = v.whole * ((2 ^ ovS o : Nat) : Int)))
/-- what quotients come to -/
noncomputable def quotEnd (a b : End) : End := if signOf b = 0 then (if signOf a < 0 then .minus else if signOf a = 0 then .num 0 else .plus) else timesEnd a (invEnd b)
theorem zero_stands : Stands ⟨0, 0, false⟩ (.num 0) := .inl ⟨rfl, rfl⟩
theorem ex_zero {v : Val} {a : End} (ha : ExV v a) (h : v.whole = 0) : a = .num 0 := by
  cases a with
  | minus => have := ha.2; omega
  | plus => have := ha.2; omega
  | root q => exact ha.elim
  | num q => rw [ha.2, h]; congr 1; exact Rat.zero_mul _
theorem sign_zero : signOf (.num 0) = 0 := by decide
theorem sign_one {y : Rat} (h : 0 < y) : signOf (.num y) = 1 := by
  simp only [signOf]
  rw [if_neg (by rw [Rat.not_lt]; exact Rat.le_of_lt h), if_neg (fun c => by rw [c] at h; exact Rat.lt_irrefl h)]
theorem over_stands {v o : Val} {a b : End} (ha : ExV v a) (hb : ExV o b) (h0 : 0 ≤ o.whole) : Stands (overV v o) (quotEnd a b) := by
  have sa := ha.sign
  have sb := hb.sign
  unfold overV
  by_cases c : v.whole = 0 ∨ o.inf = true
  · rw [if_pos c]
    have : quotEnd a b = .num 0 := by
      unfold quotEnd
      rcases c with c | c
      · rw [ex_zero ha c]
        by_cases d : signOf b = 0
        · rw [if_pos d, sign_zero, if_neg (by decide), if_pos rfl]
        · rw [if_neg d]
          cases b with
          | minus => show End.num (0 * 0) = _; rw [Rat.zero_mul]
          | plus => show End.num (0 * 0) = _; rw [Rat.zero_mul]
          | root q => exact hb.elim
          | num q => show End.num (0 * (1 / q)) = _; rw [Rat.zero_mul]
      · cases b with
        | minus => have := hb.2; omega
        | root q => exact hb.elim
        | num q => rw [hb.1] at c; exact nomatch c
        | plus =>
          rw [if_neg (by decide)]
          cases a with
          | root q => exact ha.elim
          | num q => show End.num (q * 0) = _; rw [Rat.mul_zero]
          | minus => rfl
          | plus => rfl
    rw [this]; exact zero_stands
  · rw [if_neg c]
    have v0 : v.whole ≠ 0 := fun h => c (.inl h)
    have oi : o.inf = false := by simpa using fun h => c (.inr h)
    cases b with
    | minus => rw [hb.1] at oi; exact nomatch oi
    | plus => rw [hb.1] at oi; exact nomatch oi
    | root q => exact hb.elim
    | num y =>
      by_cases d : v.inf = true ∨ o.whole = 0
      · rw [if_pos d]
        unfold quotEnd
        by_cases z : o.whole = 0
        · rw [if_pos (sb.2.2.mpr z)]
          by_cases n : v.whole < 0
          · rw [if_pos (sa.1.mpr n)]; exact (endless_exact.1 n).stands
          · rw [if_neg (fun h => n (sa.1.mp h)), if_neg (fun h => v0 (sa.2.2.mp h))]; exact (endless_exact.2 (by omega)).stands
        · rw [if_neg (fun h => z (sb.2.2.mp h))]
          have vi : v.inf = true := by
            rcases d with d | d
            · exact d
            · exact absurd d z
          have y0 : 0 < y := by
            rw [hb.2, Rat.mul_pos_iff_of_pos_right (two_pos _)]; exact Rat.intCast_pos.mpr (by omega)
          have i0 : 0 < 1 / y := by rw [Rat.div_def, Rat.one_mul]; exact Rat.inv_pos.mpr y0
          have s1 := sign_one i0
          cases a with
          | root q => exact ha.elim
          | num q => rw [ha.1] at vi; exact nomatch vi
          | minus =>
            have e : timesEnd .minus (invEnd (.num y)) = .minus := by
              show (if signOf .minus * signOf (.num (1 / y)) = 0 then End.num 0 else if signOf .minus * signOf (.num (1 / y)) < 0 then .minus else .plus) = .minus
              rw [s1]; rfl
            rw [e]; exact (endless_exact.1 ha.2).stands
          | plus =>
            have e : timesEnd .plus (invEnd (.num y)) = .plus := by
              show (if signOf .plus * signOf (.num (1 / y)) = 0 then End.num 0 else if signOf .plus * signOf (.num (1 / y)) < 0 then .minus else .plus) = .plus
              rw [s1]; rfl
            rw [e]; exact (endless_exact.2 ha.2).stands
      · rw [if_neg d]
        have o0 : ¬ o.whole = 0 := fun h => d (.inr h)
        have vi : v.inf = false := by simpa using fun h => d (.inl h)
        unfold quotEnd
        rw [if_neg (fun h => o0 (sb.2.2.mp h))]
        cases a with
        | root q => exact ha.elim
        | minus => rw [ha.1] at vi; exact nomatch vi
        | plus => rw [ha.1] at vi; exact nomatch vi
        | num x =>
          show Stands _ (.num (x * (1 / y)))
          exact quot_gen (ovS o) (Nat.log2 o.whole.natAbs + 1) (by unfold ovS; omega) v0 (by omega) Nat.lt_log2_self (by rw [ha.2, hb.2])
/-! ## roots -/
end Bx
end
section
namespace Bx
open Ew EwIval Wrxtee
open WrxteeNeutral (fl)
/-! ## ops on told ends -/
/-- told ends of an interval -/
structure IvB (l h : Int) : Prop where
  lo : TN l
  hi : TN h
  le : place l ≤ place h
  np : en l ≠ .plus
  nm : en h ≠ .minus
noncomputable def EMP : Int := 1208921207928610747318272
/-! ### add, sub -/
/-! ### mul -/
/-! ### min, max, join, meet -/
end Bx
end
section
namespace Bx
open Ew EwIval Wrxtee
open WrxteeNeutral (fl)
/-! ### div -/
theorem minus_num {u : Rat} (h : 0 < u) : timesEnd .minus (.num u) = .minus ∧ timesEnd .plus (.num u) = .plus := by
  constructor
  · show (if signOf .minus * signOf (.num u) = 0 then End.num 0 else if signOf .minus * signOf (.num u) < 0 then .minus else .plus) = .minus
    rw [sign_one h]; rfl
  · show (if signOf .plus * signOf (.num u) = 0 then End.num 0 else if signOf .plus * signOf (.num u) < 0 then .minus else .plus) = .plus
    rw [sign_one h]; rfl
theorem num_num (x u : Rat) : timesEnd (.num x) (.num u) = .num (x * u) := rfl
theorem nonneg_cases {u : Rat} (h : 0 ≤ u) : u = 0 ∨ 0 < u := by
  by_cases c : u = 0
  · exact .inl c
  · exact .inr (Rat.lt_of_le_of_ne h (fun q => c q.symm))
theorem T1 {a b : End} (pa : Plain a) (pb : Plain b) {u : Rat} (hu : 0 ≤ u) (h : less b a = false) : less (timesEnd b (.num u)) (timesEnd a (.num u)) = false := by
  rcases nonneg_cases hu with rfl | p
  · have k : ∀ e, Plain e → timesEnd e (.num 0) = .num 0 := by
      intro e pe
      cases e with
      | minus => rfl
      | plus => rfl
      | root q => exact pe.elim
      | num q => rw [num_num, Rat.mul_zero]
    rw [k a pa, k b pb]; exact less_irrefl _
  · cases a with
    | root q => exact pa.elim
    | minus => rw [(minus_num p).1]; exact less_minus_plus.2 _
    | plus =>
      cases b with
      | root q => exact pb.elim
      | plus => exact less_irrefl _
      | minus => simp [less] at h
      | num y => simp [less] at h
    | num x =>
      cases b with
      | root q => exact pb.elim
      | plus => rw [(minus_num p).2]; exact less_minus_plus.1 _
      | minus => simp [less] at h
      | num y =>
        rw [num_num, num_num]
        simp only [less, decide_eq_false_iff_not, Rat.not_lt] at h ⊢
        exact Rat.mul_le_mul_of_nonneg_right h hu
end Bx
end
section
namespace Bx
open Ew EwIval Wrxtee
open WrxteeNeutral (fl)
/-! ### one -/
/-! ## the calls -/
end Bx
end
section
namespace Bx
open Ew EwIval Wrxtee
open WrxteeNeutral (fl)
/-- the program's size_beside, by whole numbers -/
noncomputable def keptI (w p E : Int) (out : Bool) : Int := if p < E - 16446 then (if out = true ∧ ¬ w / 2 ^ (E - 16446 - p).toNat * 2 ^ (E - 16446 - p).toNat = w then w / 2 ^ (E - 16446 - p).toNat + 1 else w / 2 ^ (E - 16446 - p).toNat) else w * 2 ^ (-(E - 16446 - p)).toNat
noncomputable def besideI (w p E : Int) (out : Bool) : Int := if keptI w p E out = 18446744073709551616 then (if 32767 ≤ E + 1 then (if out = true then 604453686435277732577280 else 604444463063240877801471) else (E + 1) * 18446744073709551616 + 9223372036854775808)
  else if 32767 ≤ E then (if out = true then 604453686435277732577280 else 604444463063240877801471) else if keptI w p E out < 9223372036854775808 then keptI w p E out else E * 18446744073709551616 + keptI w p E out
theorem two_pow_int (n : Nat) : (2 : Int) ^ n = ((2 ^ n : Nat) : Int) := by simp
theorem beside_I {w : Nat} (hw : 0 < w) (p : Int) (out : Bool) {E : Int} (hE : E = max (p + ((Nat.log2 w + 1 : Nat) : Int) - 64 + 16446) 1) : (sizeBeside w p out : Int) = besideI w p E out := by
  have hk : max (p + (Nat.log2 w : Int) - 63) (-16445) = E - 16446 := by omega
  have hE1 : 1 ≤ E := by omega
  unfold sizeBeside
  rw [hk]
  have kp : ((flo w p (E - 16446) + (if out = true ∧ ¬ exa w p (E - 16446) then 1 else 0) : Nat) : Int) = keptI w p E out := by
    unfold keptI
    by_cases c : p < E - 16446
    · rw [if_pos c]
      have fo : flo w p (E - 16446) = w / 2 ^ (E - 16446 - p).toNat := by unfold flo; rw [if_pos (by omega)]
      have ex : exa w p (E - 16446) ↔ w % 2 ^ (E - 16446 - p).toNat = 0 := by
        unfold exa
        constructor
        · rintro (h | h)
          · omega
          · exact h
        · exact .inr
      rw [fo]
      generalize (E - 16446 - p).toNat = d at *
      rw [two_pow_int]
      have dm := Nat.div_add_mod w (2 ^ d)
      have e1 : (w : Int) / ((2 ^ d : Nat) : Int) = ((w / 2 ^ d : Nat) : Int) := by simp
      rw [e1]
      have e2 : (((w / 2 ^ d : Nat) : Int) * ((2 ^ d : Nat) : Int) = (w : Int)) ↔ w % 2 ^ d = 0 := by
        rw [← Int.natCast_mul, Int.natCast_inj, Nat.mul_comm]
        generalize 2 ^ d * (w / 2 ^ d) = z at *
        omega
      by_cases hx : out = true ∧ ¬ exa w p (E - 16446)
      · rw [if_pos hx, if_pos ⟨hx.1, fun q => hx.2 (ex.mpr (e2.mp q))⟩]; simp
      · rw [if_neg hx, if_neg (fun q => hx ⟨q.1, fun r => q.2 (e2.mpr (ex.mp r))⟩)]; simp
    · rw [if_neg c]
      have ex : exa w p (E - 16446) := .inl (by omega)
      rw [if_neg (fun q => q.2 ex)]
      have ed : (-(E - 16446 - p)).toNat = (p - (E - 16446)).toNat := by omega
      rw [ed]
      unfold flo
      by_cases z : p ≤ E - 16446
      · have : E - 16446 = p := by omega
        rw [if_pos z, this]; simp
      · rw [if_neg z]
        generalize (p - (E - 16446)).toNat = d
        rw [two_pow_int, ← Int.natCast_mul]; rfl
  unfold besideI
  rw [← kp]
  generalize flo w p (E - 16446) + (if out = true ∧ ¬ exa w p (E - 16446) then 1 else 0) = m
  unfold packed
  cases out <;> simp only [if_true, Bool.false_eq_true, if_false] <;> (repeat' split) <;> omega
theorem xor_turned {a : Int} (h : Bits a) (x : Int) (hx : x = a + 604462909807314587353088 - 2 * ((a / 604462909807314587353088 % 2) * 604462909807314587353088)) : x = turned a := by
  obtain ⟨h0, h1⟩ := h
  unfold turned
  split <;> omega
end Bx
end
section
namespace Bx
open Ew EwIval Wrxtee
open WrxteeNeutral (fl)
/-- what the program's defs want of a value -/
structure Ok (v : Val) : Prop where
  w : v.whole.natAbs.log2 < 1000000
  p0 : -10000000 ≤ v.power
  p1 : v.power ≤ 10000000
theorem Ok.neg {v : Val} (h : Ok v) : Ok ⟨-v.whole, v.power, v.inf⟩ := ⟨by rw [Int.natAbs_neg]; exact h.w, h.p0, h.p1⟩
theorem low_bits (v : Val) : Bits (lowEnd v) := by
  unfold lowEnd
  split
  · constructor <;> omega
  · split
    · split <;> constructor <;> omega
    · split
      · have := beside_bits (w := v.whole.toNat) (p := v.power) (by omega) false
        unfold SizeBits at this; constructor <;> omega
      · have := beside_bits (w := (-v.whole).toNat) (p := v.power) (by omega) true
        unfold SizeBits at this; constructor <;> omega
theorem log2_lt_of {n k : Nat} (hk : 0 < k) (h : n < 2 ^ k) : Nat.log2 n < k := by
  by_cases c : n = 0
  · subst c; simpa using hk
  · exact (Nat.log2_lt c).mpr h
/-! ### the root's loop -/
end Bx
end
section
namespace Bx
open Ew EwIval Wrxtee
open WrxteeNeutral (fl)
end Bx
end
section
namespace Bx
open Ew EwIval Wrxtee
open WrxteeNeutral (fl)
/-- small values -/
structure Sm (v : Val) : Prop where
  w : v.whole.natAbs < 2 ^ 64
  p0 : -20000 ≤ v.power
  p1 : v.power ≤ 20000
theorem endless_ok (w : Int) : Ok (endless w) := by
  unfold endless
  by_cases c : 0 < w
  · rw [if_pos c]; exact ⟨by decide, by decide, by decide⟩
  · rw [if_neg c]; exact ⟨by decide, by decide, by decide⟩
theorem finer_ok {w p : Int} {ex : Bool} (hw : w.natAbs.log2 < 900000) (h0 : -9000000 ≤ p) (h1 : p ≤ 9000000) : Ok (finerV w p ex) := by
  unfold finerV
  refine ⟨?_, by simp only; omega, by simp only; omega⟩
  simp only
  have b := @Nat.lt_log2_self w.natAbs
  have : (2 * w + (if ex = true then 0 else 1)).natAbs < 2 ^ (w.natAbs.log2 + 3) := by
    have e : (2 : Nat) ^ (w.natAbs.log2 + 3) = 4 * 2 ^ (w.natAbs.log2 + 1) := by rw [Nat.pow_add _ _ 3, Nat.pow_succ]; omega
    rw [e]
    have : 1 ≤ 2 ^ (w.natAbs.log2 + 1) := Nat.two_pow_pos _
    split <;> omega
  exact Nat.lt_of_lt_of_le (log2_lt_of (by omega) this) (by omega)
end Bx
end
section
namespace Bx
open Ew EwIval Wrxtee
open WrxteeNeutral (fl)
theorem div_log {z y : Int} (hy : 0 < y) {k : Nat} (hz : z.natAbs < 2 ^ k) : (z / y).natAbs ≤ 2 ^ k := by
  have h1 : -(z.natAbs : Int) ≤ z / y := by
    rw [Int.le_ediv_iff_mul_le hy]
    have : -(z.natAbs : Int) * y ≤ -(z.natAbs : Int) * 1 := Int.mul_le_mul_of_nonpos_left (by omega) (by omega)
    omega
  have h2 : z / y ≤ (z.natAbs : Int) := by
    rw [← Int.lt_add_one_iff, Int.ediv_lt_iff_lt_mul hy]
    have : ((z.natAbs : Int) + 1) * 1 ≤ ((z.natAbs : Int) + 1) * y := Int.mul_le_mul_of_nonneg_left (by omega) (by omega)
    omega
  omega
/-- what over wants of a value -/
structure Md (v : Val) : Prop where
  w : v.whole.natAbs.log2 < 9000
  p0 : -4000000 ≤ v.power
  p1 : v.power ≤ 4000000
end Bx
end
section
namespace Bx
open Ew EwIval Wrxtee
open WrxteeNeutral (fl)
/-! ### relate -/
theorem op_ne {op : Int} (h0 : 0 ≤ op) (k : Nat) : (op.toNat != k) = decide (op ≠ (k : Int)) ∧ (op.toNat == k) = decide (op = (k : Int)) := by
  constructor
  · by_cases c : op = k
    · simp [c]
    · have : op.toNat ≠ k := by omega
      simp [this, c]
  · by_cases c : op = k
    · simp [c]
    · have : op.toNat ≠ k := by omega
      simp [this, c]
/-! ### has -/
end Bx
end
section
namespace Bx
open Ew EwIval Wrxtee
open WrxteeNeutral (fl)
/-! ### width -/
/-! ### div2 -/
end Bx
end
section
namespace Bx
open Ew EwIval Wrxtee
open WrxteeNeutral (fl)
/-! ### powers -/
/-! ### 1 over an interval -/
end Bx
end
section
namespace Bx
open Ew EwIval Wrxtee
open WrxteeNeutral (fl)
/-! ### power -/
end Bx
end
section
namespace Bx
open Ew EwIval Wrxtee
open WrxteeNeutral (fl)
/-! ### to the nearest -/
/-! ### middle -/
end Bx
end
section
namespace Bx
open Ew EwIval Wrxtee
/-! ## texts as lists of whole numbers -/
noncomputable abbrev Byt (l : List Int) : Prop := ∀ z ∈ l, 0 ≤ z ∧ z ≤ 255
noncomputable def u8 (c : Int) : UInt8 := UInt8.ofNat c.toNat
noncomputable abbrev T (l : List Int) : Bytes := l.map u8
theorem u8_nat {c : Int} (h : 0 ≤ c ∧ c ≤ 255) : (u8 c).toNat = c.toNat := by
  unfold u8; rw [UInt8.toNat_ofNat']; omega
theorem u8_eq {c : Int} (h : 0 ≤ c ∧ c ≤ 255) (k : Nat) (hk : k < 256) : u8 c = UInt8.ofNat k ↔ c = k := by
  rw [← UInt8.toNat_inj, u8_nat h, UInt8.toNat_ofNat']; omega
theorem u8_beq {c : Int} (h : 0 ≤ c ∧ c ≤ 255) (k : Nat) (hk : k < 256) : (u8 c == UInt8.ofNat k) = decide (c = k) := by
  have := u8_eq h k hk
  by_cases q : c = k
  · rw [this.mpr q, decide_eq_true q]; simp
  · have : ¬ u8 c = UInt8.ofNat k := fun z => q (this.mp z)
    simp [this, q]
noncomputable def dig10 (c : Int) : Option Nat := if 48 ≤ c ∧ c ≤ 57 then some (c - 48).toNat else none
noncomputable def dig16 (c : Int) : Option Nat := if 97 ≤ c ∧ c ≤ 102 then some (c - 87).toNat else dig10 c
theorem dig10_E {c : Int} (h : 0 ≤ c ∧ c ≤ 255) : digit (u8 c) = dig10 c := by
  have n := u8_nat h
  unfold digit dig10
  by_cases q : 48 ≤ c ∧ c ≤ 57
  · rw [if_pos q, if_pos (by rw [UInt8.le_iff_toNat_le, UInt8.le_iff_toNat_le, n]; simp; omega), n]; congr 1; omega
  · rw [if_neg q, if_neg (by rw [UInt8.le_iff_toNat_le, UInt8.le_iff_toNat_le, n]; simp; omega)]
theorem dig16_E {c : Int} (h : 0 ≤ c ∧ c ≤ 255) : digit16 (u8 c) = dig16 c := by
  have n := u8_nat h
  unfold digit16 dig16
  by_cases q : 97 ≤ c ∧ c ≤ 102
  · rw [if_pos q, if_pos (by rw [UInt8.le_iff_toNat_le, UInt8.le_iff_toNat_le, n]; simp; omega), n]; congr 1; omega
  · rw [if_neg q, if_neg (by rw [UInt8.le_iff_toNat_le, UInt8.le_iff_toNat_le, n]; simp; omega)]
    exact dig10_E h
noncomputable def digitsI (d : Int → Option Nat) (base : Nat) : Nat → Nat → List Int → Nat × Nat × List Int
  | v, n, [] => (v, n, [])
  | v, n, c :: r => match d c with
    | some x => digitsI d base (base * v + x) (n + 1) r
    | none => (v, n, c :: r)
theorem digits_E {f : UInt8 → Option Nat} {d : Int → Option Nat} (hd : ∀ c, 0 ≤ c ∧ c ≤ 255 → f (u8 c) = d c) (base : Nat) (l : List Int) (h : Byt l) (v n : Nat) :
    digitsFrom f base v n (T l) = ((digitsI d base v n l).1, (digitsI d base v n l).2.1, T (digitsI d base v n l).2.2) ∧ Byt (digitsI d base v n l).2.2 := by
  induction l generalizing v n with
  | nil => exact ⟨rfl, h⟩
  | cons c r ih =>
    have hc := h c (by simp)
    have hr : Byt r := fun z m => h z (by simp [m])
    show (match f (u8 c) with | some x => digitsFrom f base (base * v + x) (n + 1) (T r) | none => (v, n, u8 c :: T r)) = _ ∧ _
    rw [hd c hc]
    unfold digitsI
    cases d c with
    | none => exact ⟨rfl, h⟩
    | some x => exact ih hr _ _
theorem head_E {l : List Int} (h : Byt l) (k : Nat) (hk : k < 256) : ((T l).head? = some (UInt8.ofNat k)) ↔ l.head? = some (k : Int) := by
  cases l with
  | nil => simp
  | cons c r =>
    have := u8_eq (h c (by simp)) k hk
    simp [this]
theorem T_nil {l : List Int} : T l = [] ↔ l = [] := by cases l <;> simp
theorem Byt.drop {l : List Int} (h : Byt l) (n : Nat) : Byt (l.drop n) := fun z m => h z (List.mem_of_mem_drop m)
theorem T_drop (l : List Int) (n : Nat) : (T l).drop n = T (l.drop n) := by simp [T]
/-- an exponent -/
noncomputable def exponentI (p : Nat) (b : List Int) : Except Nat Int :=
  let b' := if b.head? = some 45 then b.drop 1 else b
  let p' := if b.head? = some 45 then p + 1 else p
  let x := digitsI dig10 10 0 0 b'
  if x.2.1 = 0 then .error p' else if 5 < x.2.1 then .error (p' + 5) else if x.2.2 ≠ [] then .error (p' + x.2.1) else .ok (if b.head? = some 45 then -(x.1 : Int) else (x.1 : Int))
theorem exponent_E (p : Nat) {b : List Int} (h : Byt b) : exponentAt p (T b) = exponentI p b := by
  have hd := head_E h 45 (by decide)
  unfold exponentAt exponentI
  simp only
  by_cases c : b.head? = some 45
  · have e : ((T b).head? == some 45) = true := by rw [beq_iff_eq]; exact hd.mpr c
    rw [e]
    simp only [if_true, c]
    rw [T_drop]
    obtain ⟨x, _⟩ := digits_E (f := digit) (d := dig10) (fun c hc => dig10_E hc) 10 (b.drop 1) (h.drop 1) 0 0
    rw [x]
    simp only [EXPS]
    split
    · rfl
    · split
      · rfl
      · simp only [ne_eq, T_nil]
  · have e : ((T b).head? == some 45) = false := by
      rw [beq_eq_false_iff_ne]; exact fun q => c (hd.mp q)
    rw [e]
    simp only [c, if_false, Bool.false_eq_true]
    obtain ⟨x, _⟩ := digits_E (f := digit) (d := dig10) (fun c hc => dig10_E hc) 10 b h 0 0
    rw [x]
    simp only [EXPS]
    split
    · rfl
    · split
      · rfl
      · simp only [ne_eq, T_nil]
/-- a number: its digits, so many powers -/
noncomputable def numberI (d : Int → Option Nat) (base letter wt p : Nat) (b : List Int) : Except Nat (Nat × Int) :=
  let x := digitsI d base 0 0 b
  if x.2.1 = 0 then .error p else
  match x.2.2 with
  | [] => .ok (x.1, 0)
  | c :: s => if c = 46 then
      (let y := digitsI d base x.1 0 s
      if y.2.1 = 0 then .error (p + x.2.1 + 1) else match y.2.2 with
      | [] => .ok (y.1, -((wt * y.2.1 : Nat) : Int))
      | e :: u => if e = letter then (exponentI (p + x.2.1 + 1 + y.2.1 + 1) u).map (fun z => (y.1, z - ((wt * y.2.1 : Nat) : Int))) else .error (p + x.2.1 + 1 + y.2.1))
    else if c = letter then (exponentI (p + x.2.1 + 1) s).map (fun z => (x.1, z)) else .error (p + x.2.1)
theorem number_E {f : UInt8 → Option Nat} {d : Int → Option Nat} (hd : ∀ c, 0 ≤ c ∧ c ≤ 255 → f (u8 c) = d c) (base letter wt : Nat) (hl : letter < 256) (power : Int → Rat)
    (h0 : power 0 = 1) (ha : ∀ a b, power (a + b) = power a * power b) (hw : ∀ k : Nat, ((base ^ k : Nat) : Rat) = power ((wt * k : Nat) : Int)) (p : Nat) {b : List Int} (h : Byt b) :
    numberAt f base (UInt8.ofNat letter) power p (T b) = (numberI d base letter wt p b).map (fun x => (x.1 : Rat) * power x.2) := by
  have inv : ∀ k : Nat, ∀ v : Rat, v / ((base ^ k : Nat) : Rat) = v * power (-((wt * k : Nat) : Int)) := by
    intro k v
    have e := ha (-((wt * k : Nat) : Int)) ((wt * k : Nat) : Int)
    rw [show (-((wt * k : Nat) : Int)) + ((wt * k : Nat) : Int) = 0 by omega, h0, ← hw] at e
    have n0 : ((base ^ k : Nat) : Rat) ≠ 0 := fun q => by rw [q, Rat.mul_zero] at e; exact absurd e (by decide)
    have i := Rat.mul_inv_cancel _ n0
    rw [Rat.div_def]
    congr 1
    generalize ((base ^ k : Nat) : Rat) = B at *
    generalize power (-((wt * k : Nat) : Int)) = P at *
    calc B⁻¹ = 1 * B⁻¹ := (Rat.one_mul _).symm
      _ = P * (B * B⁻¹) := by rw [e, Rat.mul_assoc]
      _ = P := by rw [i, Rat.mul_one]
  have emap : ∀ (z : Except Nat Int) (g : Int → Rat) (k : Int → Nat × Int), (∀ i, g i = (((k i).1 : Nat) : Rat) * power (k i).2) → z.map g = (z.map k).map (fun x => (x.1 : Rat) * power x.2) := by
    intro z g k hk
    cases z with
    | error e => rfl
    | ok i => show Except.ok (g i) = Except.ok _; rw [hk]
  unfold numberAt numberI
  obtain ⟨x, bx⟩ := digits_E hd base b h 0 0
  rw [x]
  simp only
  generalize digitsI d base 0 0 b = X at *
  obtain ⟨v, n, r⟩ := X
  simp only at bx ⊢
  by_cases n0 : n = 0
  · rw [if_pos n0, if_pos n0]; rfl
  · rw [if_neg n0, if_neg n0]
    cases r with
    | nil =>
      show Except.ok (v : Rat) = Except.ok ((v : Rat) * power 0)
      rw [h0, Rat.mul_one]
    | cons c s =>
      have hc := bx c (by simp)
      have bs : Byt s := fun z m => bx z (by simp [m])
      simp only [T, List.map_cons]
      have c46 : u8 c = 46 ↔ c = 46 := u8_eq hc 46 (by decide)
      have cl := u8_eq hc letter hl
      by_cases q : c = 46
      · rw [if_pos (c46.mpr q), if_pos q]
        obtain ⟨y, by_⟩ := digits_E hd base s bs v 0
        rw [show (List.map u8 s) = T s from rfl, y]
        simp only
        generalize digitsI d base v 0 s = Y at *
        obtain ⟨w, k, t⟩ := Y
        simp only at by_ ⊢
        by_cases k0 : k = 0
        · rw [if_pos k0, if_pos k0]; rfl
        · rw [if_neg k0, if_neg k0]
          cases t with
          | nil =>
            show Except.ok ((w : Rat) / ((base ^ k : Nat) : Rat)) = Except.ok ((w : Rat) * power (-((wt * k : Nat) : Int)))
            rw [inv]
          | cons e u =>
            have he := by_ e (by simp)
            have bu : Byt u := fun z m => by_ z (by simp [m])
            have el := u8_eq he letter hl
            simp only [T, List.map_cons]
            by_cases g : e = letter
            · rw [if_pos (el.mpr g), if_pos g]
              rw [show (List.map u8 u) = T u from rfl, exponent_E _ bu]
              exact emap _ _ _ (fun i => by simp only; rw [inv, Rat.mul_assoc, ← ha]; congr 2; omega)
            · rw [if_neg (fun z => g (el.mp z)), if_neg g]; rfl
      · rw [if_neg (fun z => q (c46.mp z)), if_neg q]
        by_cases g : c = letter
        · rw [if_pos (cl.mpr g), if_pos g]
          rw [show (List.map u8 s) = T s from rfl, exponent_E _ bs]
          exact emap _ _ _ (fun i => rfl)
        · rw [if_neg (fun z => g (cl.mp z)), if_neg g]; rfl
/-! ### powers of ten -/
theorem ten_eq (k : Int) : Ew.ten k = (10 : Rat) ^ k := by
  unfold Ew.ten
  split
  · rename_i h
    obtain ⟨n, rfl⟩ := Int.eq_ofNat_of_zero_le h
    rw [Rat.zpow_natCast]
    simp [Rat.natCast_pow]
  · rename_i h
    obtain ⟨n, hn⟩ : ∃ n : Nat, k = -(n : Int) := ⟨(-k).toNat, by omega⟩
    subst hn
    rw [Rat.zpow_neg, Rat.zpow_natCast]
    have : (- -(n : Int)).toNat = n := by omega
    rw [this, Rat.div_def, Rat.one_mul]
    simp [Rat.natCast_pow]
theorem ten_add (a b : Int) : Ew.ten (a + b) = Ew.ten a * Ew.ten b := by
  rw [ten_eq, ten_eq, ten_eq, Rat.zpow_add (by decide)]
theorem ten_nat (n : Nat) : Ew.ten (n : Int) = ((10 ^ n : Nat) : Rat) := by
  unfold Ew.ten; rw [if_pos (by omega)]; rfl
theorem ten_pos (k : Int) : 0 < Ew.ten k := by rw [ten_eq]; exact Rat.zpow_pos (by decide)
theorem number10 (p : Nat) {b : List Int} (h : Byt b) : numberAt digit 10 101 Ew.ten p (T b) = (numberI dig10 10 101 1 p b).map (fun x => (x.1 : Rat) * Ew.ten x.2) :=
  number_E (fun _ hc => dig10_E hc) 10 101 1 (by decide) Ew.ten (by decide) ten_add (fun k => by rw [ten_nat, Nat.one_mul]) p h
theorem number16 (p : Nat) {b : List Int} (h : Byt b) : numberAt digit16 16 112 Ew.two p (T b) = (numberI dig16 16 112 4 p b).map (fun x => (x.1 : Rat) * Ew.two x.2) :=
  number_E (fun _ hc => dig16_E hc) 16 112 4 (by decide) Ew.two (by decide) two_add (fun k => by rw [two_nat, Nat.pow_mul]) p h
end Bx
end
section
namespace Bx
open Ew EwIval Wrxtee
/-! ### a number's text -/
inductive RI where
  | inf (neg : Bool)
  | fin (neg hex : Bool) (w : Nat) (e : Int)
noncomputable def scale (hex : Bool) (e : Int) : Rat := if hex = true then Ew.two e else Ew.ten e
noncomputable def valR (neg hex : Bool) (w : Nat) (e : Int) : Rat := if neg = true then -((w : Rat) * scale hex e) else (w : Rat) * scale hex e
noncomputable def endR : RI → End
  | .inf neg => if neg = true then .minus else .plus
  | .fin neg hex w e => .num (valR neg hex w e)
noncomputable def commonI : List Int → List Int → Nat
  | a :: r, b :: s => if a = b then 1 + commonI r s else 0
  | _, _ => 0
theorem u8_inj {a b : Int} (ha : 0 ≤ a ∧ a ≤ 255) (hb : 0 ≤ b ∧ b ≤ 255) : u8 a = u8 b ↔ a = b := by
  rw [← UInt8.toNat_inj, u8_nat ha, u8_nat hb]; omega
theorem T_inj {a b : List Int} (ha : Byt a) (hb : Byt b) : T a = T b ↔ a = b := by
  induction a generalizing b with
  | nil => cases b <;> simp
  | cons x r ih =>
    cases b with
    | nil => simp
    | cons y s =>
      have h1 := u8_inj (ha x (by simp)) (hb y (by simp))
      have h2 := ih (b := s) (fun z m => ha z (by simp [m])) (fun z m => hb z (by simp [m]))
      simp only [T, List.map_cons, List.cons.injEq] at h2 ⊢
      rw [h1, h2]
theorem common_E {a b : List Int} (ha : Byt a) (hb : Byt b) : common (T a) (T b) = commonI a b := by
  induction a generalizing b with
  | nil => cases b <;> rfl
  | cons x r ih =>
    cases b with
    | nil => rfl
    | cons y s =>
      have h1 := u8_inj (ha x (by simp)) (hb y (by simp))
      have h2 := ih (b := s) (fun z m => ha z (by simp [m])) (fun z m => hb z (by simp [m]))
      show (if u8 x = u8 y then 1 + common (T r) (T s) else 0) = (if x = y then 1 + commonI r s else 0)
      rw [h2]
      by_cases q : x = y
      · rw [if_pos q, if_pos (h1.mpr q)]
      · rw [if_neg q, if_neg (fun z => q (h1.mp z))]
noncomputable def INFI : List Int := [105, 110, 102]
theorem INF_E : Ew.INF = T INFI := by decide
theorem INFI_byt : Byt INFI := by decide
noncomputable def readTextI (b : List Int) : Except Nat RI :=
  let neg := decide (b.head? = some 45)
  let r := if neg = true then b.drop 1 else b
  let p := if neg = true then 1 else 0
  if r.head? = some 105 then (if r = INFI then .ok (.inf neg) else .error (p + commonI r INFI))
  else if r.take 2 = [48, 120] then (numberI dig16 16 112 4 (p + 2) (r.drop 2)).map (fun x => .fin neg true x.1 x.2)
  else (numberI dig10 10 101 1 p r).map (fun x => .fin neg false x.1 x.2)
theorem map_map {ε α β γ : Type} (x : Except ε α) (f : α → β) (g : β → γ) : (x.map f).map g = x.map (fun a => g (f a)) := by cases x <;> rfl
theorem map_congr {ε α β : Type} (x : Except ε α) (f g : α → β) (h : ∀ a, f a = g a) : x.map f = x.map g := by cases x <;> simp [Except.map, h]
theorem Byt.take {l : List Int} (h : Byt l) (n : Nat) : Byt (l.take n) := fun z m => h z (List.mem_of_mem_take m)
theorem readText_E {b : List Int} (h : Byt b) : (readText (T b)).map saidValue = (readTextI b).map endR := by
  have hd := head_E h 45 (by decide)
  have e : ((T b).head? == some 45) = decide (b.head? = some 45) := by
    by_cases c : b.head? = some 45
    · rw [decide_eq_true c, beq_iff_eq]; exact hd.mpr c
    · rw [decide_eq_false c, beq_eq_false_iff_ne]; exact fun q => c (hd.mp q)
  unfold readText readTextI
  simp only
  rw [e]
  have er : (if decide (b.head? = some 45) = true then (T b).drop 1 else T b) = T (if decide (b.head? = some 45) = true then b.drop 1 else b) := by
    split
    · exact T_drop b 1
    · rfl
  have br : Byt (if decide (b.head? = some 45) = true then b.drop 1 else b) := by
    split
    · exact h.drop 1
    · exact h
  rw [er]
  generalize (if decide (b.head? = some 45) = true then b.drop 1 else b) = r at *
  generalize (if decide (b.head? = some 45) = true then 1 else 0) = p at *
  generalize decide (b.head? = some 45) = neg at *
  have h105 := head_E br 105 (by decide)
  by_cases c : r.head? = some 105
  · rw [if_pos (show (T r).head? = some 105 from h105.mpr c), if_pos c, INF_E]
    have ti := T_inj br INFI_byt
    by_cases d : r = INFI
    · rw [if_pos (ti.mpr d), if_pos d]; rfl
    · rw [if_neg (fun z => d (ti.mp z)), if_neg d, common_E br INFI_byt]; rfl
  · rw [if_neg (show ¬ (T r).head? = some 105 from fun z => c (h105.mp z)), if_neg c]
    have tk : (T r).take 2 = [48, 120] ↔ r.take 2 = [48, 120] := by
      have : (T r).take 2 = T (r.take 2) := by simp [T]
      rw [this]
      exact T_inj (br.take 2) (show Byt [48, 120] by decide)
    by_cases d : r.take 2 = [48, 120]
    · rw [if_pos (tk.mpr d), if_pos d, T_drop, number16 _ (br.drop 2), map_map, map_map, map_map]
      refine map_congr _ _ _ (fun x => ?_)
      simp only [saidValue, endR, valR, scale, if_true]
    · rw [if_neg (fun z => d (tk.mp z)), if_neg d, number10 _ br, map_map, map_map, map_map]
      refine map_congr _ _ _ (fun x => ?_)
      simp only [saidValue, endR, valR, scale, if_false, Bool.false_eq_true]
/-! ### a pair's text -/
noncomputable def EMPI : List Int := [101, 109, 112, 116, 121]
theorem EMP_bytes : EwIval.EMPTY = T EMPI := by decide
noncomputable def readPairI (b : List Int) : Except Nat (Option (RI × RI)) :=
  if b.head? = some 101 then (if b = EMPI then .ok none else .error (commonI b EMPI))
  else if b.head? = some 91 then
    let r := b.drop 1
    let s := r.takeWhile fun c => c != 44
    match readTextI s with
    | .error k => .error (1 + k)
    | .ok x => if s.length = r.length then .error b.length else
      let p := 2 + s.length
      let u := r.drop (s.length + 1)
      if u.head? ≠ some 32 then .error p else
        let t := (u.drop 1).takeWhile fun c => c != 93
        match readTextI t with
        | .error k => .error (p + 1 + k)
        | .ok y => if 1 + t.length = u.length then .error b.length else if u.length = t.length + 2 then .ok (some (x, y)) else .error (p + 2 + t.length)
  else match readTextI b with
    | .error k => .error k
    | .ok x => .ok (some (x, x))
theorem takeWhile_E {l : List Int} (h : Byt l) (k : Nat) (hk : k < 256) : (T l).takeWhile (fun c => c != UInt8.ofNat k) = T (l.takeWhile fun c => c != (k : Int)) := by
  rw [List.takeWhile_map]
  congr 1
  induction l with
  | nil => rfl
  | cons c r ih =>
    have hb := u8_beq (h c (by simp)) k hk
    have e : ((fun c => c != UInt8.ofNat k) ∘ u8) c = (c != (k : Int)) := by
      show (!(u8 c == UInt8.ofNat k)) = (!(c == (k : Int)))
      rw [hb]; congr 1
    rw [List.takeWhile_cons, List.takeWhile_cons, e, ih (fun z m => h z (by simp [m]))]
theorem Byt.takeWhile {l : List Int} (h : Byt l) (p : Int → Bool) : Byt (l.takeWhile p) := fun z m => h z ((List.takeWhile_prefix p).subset m)
theorem readText_cases {b : List Int} (h : Byt b) : (∃ k, readText (T b) = .error k ∧ readTextI b = .error k) ∨ (∃ x y, readText (T b) = .ok x ∧ readTextI b = .ok y ∧ saidValue x = endR y) := by
  have := readText_E h
  cases e : readText (T b) with
  | error k =>
    cases f : readTextI b with
    | error j => rw [e, f] at this; left; exact ⟨k, rfl, by injection this with q; rw [q]⟩
    | ok y => rw [e, f] at this; exact nomatch this
  | ok x =>
    cases f : readTextI b with
    | error j => rw [e, f] at this; exact nomatch this
    | ok y => rw [e, f] at this; right; exact ⟨x, y, rfl, rfl, by injection this⟩
noncomputable def endRR (x : RI × RI) : End × End := (endR x.1, endR x.2)
theorem readPair_E {b : List Int} (h : Byt b) : readPair (T b) = (readPairI b).map (fun o => o.map endRR) := by
  have h101 := head_E h 101 (by decide)
  have h91 := head_E h 91 (by decide)
  unfold readPair readPairI
  by_cases c : b.head? = some 101
  · rw [if_pos (show (T b).head? = some 101 from h101.mpr c), if_pos c, EMP_bytes]
    have ti := T_inj h (show Byt EMPI by decide)
    by_cases d : b = EMPI
    · rw [if_pos (ti.mpr d), if_pos d]; rfl
    · rw [if_neg (fun z => d (ti.mp z)), if_neg d, common_E h (by decide)]; rfl
  · rw [if_neg (show ¬ (T b).head? = some 101 from fun z => c (h101.mp z)), if_neg c]
    by_cases d : b.head? = some 91
    · rw [if_pos (show (T b).head? = some 91 from h91.mpr d), if_pos d]
      simp only
      rw [T_drop]
      have hr := h.drop 1
      have lb : (T b).length = b.length := by simp [T]
      rw [lb]
      generalize b.drop 1 = r at *
      have e1 : (T r).takeWhile (fun c => c != 44) = T (r.takeWhile fun c => c != 44) := takeWhile_E hr 44 (by decide)
      rw [e1]
      have hs := hr.takeWhile (fun c => c != 44)
      generalize (r.takeWhile fun c => c != 44) = s at *
      have ls : (T s).length = s.length := by simp [T]
      have lr : (T r).length = r.length := by simp [T]
      rw [ls, lr]
      rcases readText_cases hs with ⟨k, e2, e3⟩ | ⟨x, x', e2, e3, ex⟩
      · rw [e2, e3]; rfl
      · rw [e2, e3]
        simp only
        by_cases f : s.length = r.length
        · rw [if_pos f, if_pos f]; rfl
        · rw [if_neg f, if_neg f, T_drop]
          have hu := hr.drop (s.length + 1)
          generalize r.drop (s.length + 1) = u at *
          have h32 := head_E hu 32 (by decide)
          by_cases g : u.head? = some 32
          · rw [if_neg (show ¬ ((T u).head? ≠ some 32) from fun z => z (h32.mpr g)), if_neg (show ¬ (u.head? ≠ some 32) from fun z => z g), T_drop]
            have e4 : (T (u.drop 1)).takeWhile (fun c => c != 93) = T ((u.drop 1).takeWhile fun c => c != 93) := takeWhile_E (hu.drop 1) 93 (by decide)
            rw [e4]
            have ht := (hu.drop 1).takeWhile (fun c => c != 93)
            generalize ((u.drop 1).takeWhile fun c => c != 93) = t at *
            have lt : (T t).length = t.length := by simp [T]
            have lu : (T u).length = u.length := by simp [T]
            rw [lt, lu]
            rcases readText_cases ht with ⟨k, e5, e6⟩ | ⟨y, y', e5, e6, ey⟩
            · rw [e5, e6]; rfl
            · rw [e5, e6]
              simp only
              by_cases m : 1 + t.length = u.length
              · rw [if_pos m, if_pos m]; rfl
              · rw [if_neg m, if_neg m]
                by_cases n : u.length = t.length + 2
                · rw [if_pos n, if_pos n, ex, ey]; rfl
                · rw [if_neg n, if_neg n]; rfl
          · rw [if_pos (show ((T u).head? ≠ some 32) from fun z => g (h32.mp z)), if_pos g]; rfl
    · rw [if_neg (show ¬ (T b).head? = some 91 from fun z => d (h91.mp z)), if_neg d]
      rcases readText_cases h with ⟨k, e5, e6⟩ | ⟨y, y', e5, e6, ey⟩
      · rw [e5, e6]; rfl
      · rw [e5, e6]
        simp only
        rw [ey]; rfl
noncomputable def readB (t : List Int) : List Int := if 8192 < t.length then [-1] else match readPairI t with
  | .error k => [-2, (k : Int)]
  | .ok none => [0, EMP, EMP]
  | .ok (some (a, z)) => if less (endR z) (endR a) = true ∨ endR a = .plus ∨ endR z = .minus then [-5] else [0, dn (endR a), up (endR z)]
theorem read_E {t : List Int} (h : Byt t) : PyWrxtee.read t = readB t := by
  show WrxteeNeutral.told (Wrxtee.answer (.read (WrxteeNeutral.text t))) = _
  have tt : WrxteeNeutral.text t = T t := rfl
  rw [tt]
  unfold Wrxtee.answer readB
  have lt : (T t).length = t.length := by simp [T]
  by_cases o : 8192 < t.length
  · rw [if_pos (show asked (.read (T t)) = false by simp [asked, Wrxtee.LONG]; omega), if_pos o]; rfl
  · rw [if_neg (show ¬ asked (.read (T t)) = false by simp [asked, Wrxtee.LONG]; omega), if_neg o]
    simp only
    unfold EwIval.read
    rw [readPair_E h]
    cases e : readPairI t with
    | error k => rfl
    | ok x =>
      cases x with
      | none => decide
      | some p =>
        obtain ⟨a, z⟩ := p
        show WrxteeNeutral.told (match (if less (endR z) (endR a) = true ∨ endR a = .plus ∨ endR z = .minus then Except.ok none else Except.ok (some (hull (some (endR a, endR z)))) : Except Nat (Option EwIval.Said)) with
          | .error k => .refused [-2, (k : Int)]
          | .ok none => .refused [-5]
          | .ok (some s) => .interval s) = _
        by_cases q : less (endR z) (endR a) = true ∨ endR a = .plus ∨ endR z = .minus
        · rw [if_pos q]
          show [-5] = if less (endR z) (endR a) = true ∨ endR a = .plus ∨ endR z = .minus then [-5] else [0, dn (endR a), up (endR z)]
          rw [if_pos q]
        · rw [if_neg q]
          show [0, dn (endR a), up (endR z)] = if less (endR z) (endR a) = true ∨ endR a = .plus ∨ endR z = .minus then [-5] else [0, dn (endR a), up (endR z)]
          rw [if_neg q]
end Bx
end
section
namespace Bx
open Ew EwIval Wrxtee
open WrxteeNeutral (fl)
/-! ## texts that are told -/
/-! ### the digits from their front, and with 0s behind -/
/-! ### an end's text -/
end Bx
end
section
namespace Bx
open Ew EwIval Wrxtee
open WrxteeNeutral (fl)
/-! ### the opposite of an end -/
/-! ### powers step by step -/
/-! ### power_above_zero -/
/-! ### odd_power, power_of -/
end Bx
end
section
namespace Bx
open Ew EwIval Wrxtee
open WrxteeNeutral (fl)
/-! ### div2 as the program has it -/
/-! ### relate as the program has it -/
/-! ### has -/
end Bx
end
section
namespace Bx
open Ew EwIval Wrxtee
open WrxteeNeutral (fl)
end Bx
end
section
namespace Bx
open Ew EwIval Wrxtee
open WrxteeNeutral (fl)
/-- what over takes, however long -/
structure Lg (v : Val) : Prop where
  w : v.whole.natAbs.log2 < 400000
  p0 : -4000000 ≤ v.power
  p1 : v.power ≤ 4000000
theorem ovS_leL {o : Val} (h : Lg o) : 65 ≤ ovS o ∧ ovS o ≤ 400064 := by
  have := h.w
  unfold ovS; omega
theorem quot_logL {v o : Val} (hv : Lg v) (ho : Lg o) (hy : 0 < o.whole) : (v.whole * ((2 ^ ovS o : Nat) : Int) / o.whole).natAbs.log2 < 810000 := by
  have s := ovS_leL ho
  generalize ovS o = c at s
  have lw := hv.w
  have w : v.whole.natAbs < 2 ^ (v.whole.natAbs.log2 + 1) := Nat.lt_log2_self
  generalize hk : v.whole.natAbs.log2 + 1 = k at w
  have a : (v.whole * ((2 ^ c : Nat) : Int)).natAbs < 2 ^ (k + c) := by
    rw [Int.natAbs_mul, Int.natAbs_natCast, Nat.pow_add]
    exact (Nat.mul_lt_mul_right (Nat.two_pow_pos _)).mpr w
  have b := div_log hy a
  have := log2_lt_of (k := k + c + 1) (by omega) (Nat.lt_of_le_of_lt b (Nat.pow_lt_pow_right (by omega) (by omega)))
  omega
theorem over_okL {v o : Val} (hv : Lg v) (ho : Lg o) (h0 : 0 ≤ o.whole) : Ok (overV v o) := by
  have h1 := hv.p0
  have h2 := hv.p1
  have h3 := ho.p0
  have h4 := ho.p1
  have s := ovS_leL ho
  unfold overV
  split
  · exact ⟨by decide, by decide, by decide⟩
  · split
    · exact endless_ok _
    · rename_i c
      have hy : 0 < o.whole := by
        have : ¬ o.whole = 0 := fun h => c (.inr h)
        omega
      have q := quot_logL hv ho hy
      exact finer_ok (by omega) (by omega) (by omega)
end Bx
end
section
namespace Bx
open Ew EwIval Wrxtee
open WrxteeNeutral (fl)
/-! ### the program's shortened and size_rounded, by whole numbers -/
noncomputable def shortI (w d r : Int) : Int := if d ≤ 0 then w * 2 ^ (-d).toNat else
  if r = 1 ∧ 0 < w - w / 2 ^ d.toNat * 2 ^ d.toNat then w / 2 ^ d.toNat + 1 else
  if r = 2 ∧ (2 ^ (d - 1).toNat < w - w / 2 ^ d.toNat * 2 ^ d.toNat ∨ (w - w / 2 ^ d.toNat * 2 ^ d.toNat = 2 ^ (d - 1).toNat ∧ w / 2 ^ d.toNat % 2 = 1)) then w / 2 ^ d.toNat + 1 else w / 2 ^ d.toNat
noncomputable def packR (m E r : Int) : Int := if m = 18446744073709551616 then (if 32767 ≤ E + 1 then (if r = 0 then 604444463063240877801471 else 604453686435277732577280) else (E + 1) * 18446744073709551616 + 9223372036854775808)
  else if 32767 ≤ E then (if r = 0 then 604444463063240877801471 else 604453686435277732577280) else if m < 9223372036854775808 then m else E * 18446744073709551616 + m
noncomputable def expR (w : Nat) (p : Int) : Int := max (p + ((Nat.log2 w + 1 : Nat) : Int) - 64 + 16446) 1
noncomputable def sizeR (w : Nat) (p r : Int) : Int := packR (shortI w (expR w p - 16446 - p) r) (expR w p) r
theorem shortI_kept {w : Nat} (p E : Int) (out : Bool) : shortI w (E - 16446 - p) (if out = true then 1 else 0) = keptI w p E out := by
  unfold shortI keptI
  by_cases c : p < E - 16446
  · rw [if_neg (by omega), if_pos c]
    generalize (E - 16446 - p).toNat = d
    rw [two_pow_int]
    have dm := Nat.div_add_mod w (2 ^ d)
    have e1 : (w : Int) / ((2 ^ d : Nat) : Int) = ((w / 2 ^ d : Nat) : Int) := by simp
    rw [e1, ← Int.natCast_mul, Nat.mul_comm]
    generalize 2 ^ d * (w / 2 ^ d) = z at *
    cases out
    · simp
    · simp only [if_true, true_and, show ¬ (1 : Int) = 2 by decide, false_and, if_false]
      have e2 : (0 < (w : Int) - (z : Int)) ↔ ¬ ((z : Int) = w) := by omega
      simp only [e2]
  · rw [if_pos (by omega), if_neg c]
theorem sizeR_out {w : Nat} (hw : 0 < w) (p : Int) (out : Bool) : sizeR w p (if out = true then 1 else 0) = sizeBeside w p out := by
  rw [beside_I hw p out (E := expR w p) rfl]
  unfold sizeR besideI packR
  rw [shortI_kept]
  cases out <;> simp
theorem sizeR_in {w : Nat} (hw : 0 < w) (p : Int) : sizeR w p 0 = sizeBeside w p false := sizeR_out hw p false
theorem sizeR_up {w : Nat} (hw : 0 < w) (p : Int) : sizeR w p 1 = sizeBeside w p true := sizeR_out hw p true
end Bx
end
section
namespace Bx
open Ew EwIval Wrxtee
open WrxteeNeutral (fl)
/-! ### texts as the program makes them -/
noncomputable abbrev Pos0 (l : List Int) : Prop := ∀ z ∈ l, 0 ≤ z
end Bx
end
section
namespace Bx
open Ew EwIval Wrxtee
/-! ### how the program reads: digits from the front, so many taken -/
noncomputable def dgt (c : Int) : Int := if 48 ≤ c ∧ c ≤ 57 then c - 48 else if 97 ≤ c ∧ c ≤ 102 then c - 97 + 10 else 16
noncomputable def runD (base : Int) : Nat → List Int → Nat
  | 0, _ => 0
  | _ + 1, [] => 0
  | m + 1, c :: r => if dgt c < base then 1 + runD base m r else 0
noncomputable def valD (base : Int) (w : Int) (l : List Int) : Int := l.foldl (fun w c => w * base + dgt c) w
noncomputable abbrev Par (α : Type) := Except Nat (α × Nat)
noncomputable def takeD (base : Int) (most : Nat) (w : Int) (b : List Int) : Par Int := if runD base most b = 0 then .error 0 else .ok (valD base w (b.take (runD base most b)), runD base most b)
noncomputable def commW : List Int → List Int → Nat
  | a :: r, b :: s => if a = b then 1 + commW r s else 0
  | _, _ => 0
noncomputable def takeW (w b : List Int) : Except Nat Nat := if commW w b = w.length then .ok w.length else .error (commW w b)
/-- a part further on -/
noncomputable def later {α : Type} (j : Nat) : Par α → Par α
  | .error k => .error (j + k)
  | .ok (x, n) => .ok (x, j + n)
noncomputable def pExp (mark : Int) (b : List Int) : Par Int :=
  if b.head? = some mark then
    (if (b.drop 1).head? = some 45 then (match takeD 10 5 0 (b.drop 2) with | .error k => .error (2 + k) | .ok (v, n) => .ok (-1 * v, 2 + n))
     else (match takeD 10 5 0 (b.drop 1) with | .error k => .error (1 + k) | .ok (v, n) => .ok (1 * v, 1 + n)))
  else .ok (0, 0)
structure Ex where
  whole : Int
  twos : Int
  fives : Int
  inf : Bool
noncomputable def mkEx (base sign w e n : Int) : Ex := if base = 16 then ⟨sign * w, e - 4 * n, 0, false⟩ else ⟨sign * w, e - n, e - n, false⟩
noncomputable def pFin (base mark sign w : Int) (b : List Int) : Par Ex :=
  if b.head? = some 46 then
    match takeD base 8192 w (b.drop 1) with
    | .error k => .error (1 + k)
    | .ok (w', n) => (match pExp mark (b.drop (1 + n)) with | .error k => .error (1 + n + k) | .ok (e, m) => .ok (mkEx base sign w' e n, 1 + n + m))
  else match pExp mark b with | .error k => .error k | .ok (e, m) => .ok (mkEx base sign w e 0, m)
noncomputable def pMag (sign : Int) (b : List Int) : Par Ex :=
  if b.head? = some 105 then (match takeW [105, 110, 102] b with | .error k => .error k | .ok n => .ok (⟨sign, 0, 0, true⟩, n))
  else match takeD 10 8192 0 b with
    | .error k => .error k
    | .ok (w, n) => if w = 0 ∧ n = 1 ∧ (b.drop n).head? = some 120 then
        (match takeD 16 8192 0 (b.drop (n + 1)) with | .error k => .error (n + 1 + k) | .ok (w2, n2) => later (n + 1 + n2) (pFin 16 112 sign w2 (b.drop (n + 1 + n2))))
      else later n (pFin 10 101 sign w (b.drop n))
noncomputable def pNum (b : List Int) : Par Ex := if b.head? = some 45 then later 1 (pMag (-1) (b.drop 1)) else pMag 1 b
/-! ### digits, against the specification's -/
theorem dgt10 {c : Int} : (dgt c < 10 ↔ 48 ≤ c ∧ c ≤ 57) := by unfold dgt; split <;> (try split) <;> omega
theorem dgt16 {c : Int} : (dgt c < 16 ↔ (48 ≤ c ∧ c ≤ 57) ∨ (97 ≤ c ∧ c ≤ 102)) := by unfold dgt; split <;> (try split) <;> omega
/-- a reading of digits of a base -/
structure DigOf (d : Int → Option Nat) (base : Int) : Prop where
  some_ : ∀ c x, d c = some x → dgt c < base ∧ dgt c = x
  none_ : ∀ c, d c = none → ¬ dgt c < base
theorem dig10_of : DigOf dig10 10 := by
  constructor
  · intro c x h
    unfold dig10 at h
    split at h
    · rename_i z
      cases h
      unfold dgt; rw [if_pos z]; omega
    · cases h
  · intro c h
    unfold dig10 at h
    split at h
    · cases h
    · rename_i z; rw [dgt10]; exact z
theorem dig16_of : DigOf dig16 16 := by
  constructor
  · intro c x h
    unfold dig16 at h
    split at h
    · rename_i z
      cases h
      unfold dgt; rw [if_neg (by omega), if_pos z]; omega
    · have := dig10_of.some_ c x h
      omega
  · intro c h
    unfold dig16 at h
    split at h
    · cases h
    · rename_i z
      have := dig10_of.none_ c h
      rw [dgt10] at this
      rw [dgt16]; omega
theorem run_le (base : Int) (m : Nat) (b : List Int) : runD base m b ≤ m ∧ runD base m b ≤ b.length := by
  induction m generalizing b with
  | zero => simp [runD]
  | succ m ih =>
    cases b with
    | nil => simp [runD]
    | cons c r =>
      unfold runD
      split
      · have := ih r; simp; omega
      · simp
theorem run_more {base : Int} {m : Nat} {b : List Int} (h : b.length ≤ m) : runD base m b = runD base b.length b := by
  induction m generalizing b with
  | zero =>
    have : b = [] := List.eq_nil_of_length_eq_zero (by omega)
    subst this; rfl
  | succ m ih =>
    cases b with
    | nil => rfl
    | cons c r =>
      simp only [List.length_cons] at h
      simp only [runD, List.length_cons]
      rw [ih (by omega)]
theorem digitsI_run {d : Int → Option Nat} {base : Nat} (D : DigOf d base) (b : List Int) (v n : Nat) :
    (digitsI d base v n b).2.1 = n + runD base b.length b ∧ ((digitsI d base v n b).1 : Int) = valD base v (b.take (runD base b.length b)) ∧ (digitsI d base v n b).2.2 = b.drop (runD base b.length b) := by
  induction b generalizing v n with
  | nil => simp [digitsI, runD, valD]
  | cons c r ih =>
    unfold digitsI
    simp only [List.length_cons, runD]
    cases e : d c with
    | none =>
      have := D.none_ c e
      rw [if_neg this]
      simp [valD]
    | some x =>
      obtain ⟨h1, h2⟩ := D.some_ c x e
      rw [if_pos h1]
      obtain ⟨i1, i2, i3⟩ := ih (base * v + x) (n + 1)
      refine ⟨by rw [i1]; omega, ?_, ?_⟩
      · rw [i2, Nat.add_comm 1, List.take_succ_cons]
        show valD _ _ _ = valD _ ((v : Int) * base + dgt c) _
        congr 1
        rw [h2]; simp [Int.mul_comm]
      · rw [i3, Nat.add_comm 1, List.drop_succ_cons]
end Bx
end
section
namespace Bx
open Ew EwIval Wrxtee
theorem run_min (base : Int) (m : Nat) (b : List Int) : runD base m b = min (runD base b.length b) m := by
  induction m generalizing b with
  | zero => simp [runD]
  | succ m ih =>
    cases b with
    | nil => simp [runD]
    | cons c r =>
      simp only [runD, List.length_cons]
      split
      · rw [ih]; omega
      · simp
/-- to the text's end -/
noncomputable def whole {α : Type} (len : Nat) : Par α → Except Nat α
  | .error k => .error k
  | .ok (x, n) => if n = len then .ok x else .error n
noncomputable def shiftE {α : Type} (q : Nat) : Except Nat α → Except Nat α
  | .error k => .error (q + k)
  | .ok x => .ok x
theorem exp_whole (mark : Int) (q : Nat) (s : List Int) : exponentI (q + 1) s = shiftE q (whole (s.length + 1) (pExp mark (mark :: s))) := by
  unfold exponentI pExp
  rw [if_pos (show (mark :: s).head? = some mark from rfl)]
  have d1 : (mark :: s).drop 1 = s := rfl
  rw [d1]
  by_cases c : s.head? = some 45
  · obtain ⟨s', rfl⟩ : ∃ s', s = 45 :: s' := by
      cases s with
      | nil => cases c
      | cons a r => simp at c; exact ⟨r, by rw [c]⟩
    rw [if_pos c]
    simp only [c, if_true]
    have d2 : (mark :: 45 :: s').drop 2 = s' := rfl
    have d3 : (45 :: s').drop 1 = s' := rfl
    rw [d2, d3]
    obtain ⟨x1, x2, x3⟩ := digitsI_run (base := 10) dig10_of s' 0 0
    have mn := run_min 10 5 s'
    have rl := run_le 10 s'.length s'
    simp only [Nat.zero_add] at x1
    rw [x1, x3]
    unfold takeD
    generalize hN : runD (10 : Nat) s'.length s' = N at *
    have hN' : runD 10 s'.length s' = N := hN
    by_cases c0 : N = 0
    · rw [if_pos c0, if_pos (by omega)]; simp only [whole, shiftE]
    · rw [if_neg c0, if_neg (show ¬ runD 10 5 s' = 0 by omega)]
      simp only [whole]
      by_cases c5 : 5 < N
      · rw [if_pos c5, if_neg (by simp only [List.length_cons]; omega)]; simp only [shiftE]; congr 1; omega
      · have e5 : runD 10 5 s' = N := by omega
        rw [if_neg c5, e5]
        by_cases cl : s'.drop N = []
        · have : s'.length ≤ N := List.drop_eq_nil_iff.mp cl
          rw [if_neg (show ¬ (s'.drop N ≠ []) from fun z => z cl), if_pos (by simp only [List.length_cons]; omega)]
          simp only [shiftE]
          rw [x2]; simp
        · have : ¬ s'.length ≤ N := fun z => cl (List.drop_eq_nil_iff.mpr z)
          rw [if_pos cl, if_neg (by simp only [List.length_cons]; omega)]
          simp only [shiftE]; congr 1; omega
  · rw [if_neg c]
    simp only [c, if_false]
    obtain ⟨x1, x2, x3⟩ := digitsI_run (base := 10) dig10_of s 0 0
    have mn := run_min 10 5 s
    have rl := run_le 10 s.length s
    simp only [Nat.zero_add] at x1
    rw [x1, x3]
    unfold takeD
    generalize hN : runD (10 : Nat) s.length s = N at *
    have hN' : runD 10 s.length s = N := hN
    by_cases c0 : N = 0
    · rw [if_pos c0, if_pos (by omega)]; simp only [whole, shiftE]
    · rw [if_neg c0, if_neg (show ¬ runD 10 5 s = 0 by omega)]
      simp only [whole]
      by_cases c5 : 5 < N
      · rw [if_pos c5, if_neg (by omega)]; simp only [shiftE]; congr 1; omega
      · have e5 : runD 10 5 s = N := by omega
        rw [if_neg c5, e5]
        by_cases cl : s.drop N = []
        · have : s.length ≤ N := List.drop_eq_nil_iff.mp cl
          rw [if_neg (show ¬ (s.drop N ≠ []) from fun z => z cl), if_pos (by omega)]
          simp only [shiftE]
          rw [x2]; simp
        · have : ¬ s.length ≤ N := fun z => cl (List.drop_eq_nil_iff.mpr z)
          rw [if_pos cl, if_neg (by omega)]
          simp only [shiftE]; congr 1; omega
/-! ### a number of a base -/
noncomputable def mkE (base sign w e : Int) : Ex := if base = 16 then ⟨sign * w, e, 0, false⟩ else ⟨sign * w, e, e, false⟩
noncomputable def pRest (base mark sign : Int) (b : List Int) : Par Ex := match takeD base 8192 0 b with
  | .error k => .error k
  | .ok (w, n) => later n (pFin base mark sign w (b.drop n))
theorem drop_len {b : List Int} {n : Nat} {c : Int} {s : List Int} (h : b.drop n = c :: s) : b.length = n + 1 + s.length := by
  have := congrArg List.length h
  rw [List.length_drop, List.length_cons] at this
  omega
theorem num_whole {d : Int → Option Nat} {base letter wt : Nat} (D : DigOf d base) (hw : ∀ (sign w e n : Int), mkEx base sign w e n = mkE base sign w (e - wt * n)) (hl : (letter : Int) ≠ 46) (sign : Int) (p : Nat) (b : List Int) (hb : b.length ≤ 8192) :
    (numberI d base letter wt p b).map (fun x => mkE base sign x.1 x.2) = shiftE p (whole b.length (pRest base letter sign b)) := by
  unfold numberI pRest takeD
  obtain ⟨x1, x2, x3⟩ := digitsI_run D b 0 0
  simp only
  rw [run_more (m := 8192) hb]
  rw [Nat.zero_add] at x1
  have rl := (run_le base b.length b).2
  rw [x1]
  generalize runD base b.length b = n at *
  by_cases n0 : n = 0
  · rw [if_pos n0, if_pos n0]; rfl
  · rw [if_neg n0, if_neg n0]
    simp only
    generalize hv : (digitsI d base 0 0 b).1 = v at *
    rw [x3]
    have x2' : valD base 0 (b.take n) = (v : Int) := by rw [x2]; rfl
    rw [x2']
    cases e : b.drop n with
    | nil =>
      have : b.length ≤ n := List.drop_eq_nil_iff.mp e
      have nn : n = b.length := by omega
      show Except.ok (mkE base sign v 0) = _
      simp only [pFin, pExp, List.head?_nil, reduceCtorEq, if_false, later, whole]
      rw [if_pos (by omega), hw]
      simp [shiftE]
    | cons c s =>
      have bl := drop_len e
      by_cases c46 : c = 46
      · simp only [if_pos c46]
        unfold pFin
        rw [if_pos (show (c :: s).head? = some 46 by rw [c46]; rfl)]
        have d1 : (c :: s).drop 1 = s := rfl
        rw [d1]
        unfold takeD
        obtain ⟨y1, y2, y3⟩ := digitsI_run D s v 0
        rw [run_more (m := 8192) (by omega)]
        rw [Nat.zero_add] at y1
        have rk := (run_le base s.length s).2
        rw [y1]
        generalize runD base s.length s = k at *
        by_cases k0 : k = 0
        · rw [if_pos k0, if_pos k0]; simp only [later, whole, shiftE, Except.map]; congr 1
        · rw [if_neg k0, if_neg k0]
          simp only
          generalize hv2 : (digitsI d base v 0 s).1 = v2 at *
          rw [y3]
          have d2 : (c :: s).drop (1 + k) = s.drop k := by rw [Nat.add_comm, List.drop_succ_cons]
          rw [d2, ← y2]
          cases e2 : s.drop k with
          | nil =>
            have : s.length ≤ k := List.drop_eq_nil_iff.mp e2
            simp only [pExp, List.head?_nil, reduceCtorEq, if_false, later, whole]
            rw [if_pos (by omega), hw]
            simp [shiftE, Except.map]
          | cons f u =>
            have sl := drop_len e2
            by_cases fl : f = letter
            · subst fl
              simp only [if_true]
              have := exp_whole (letter : Int) (p + n + 1 + k) u
              rw [this]
              cases e3 : pExp (letter : Int) ((letter : Int) :: u) with
              | error j => simp only [whole, shiftE, later, Except.map]; congr 1; omega
              | ok zm =>
                obtain ⟨z, m⟩ := zm
                simp only [whole, later]
                by_cases cm : m = u.length + 1
                · rw [if_pos cm, if_pos (by omega), hw]
                  simp [shiftE, Except.map]
                · rw [if_neg cm, if_neg (by omega)]
                  simp only [shiftE, Except.map]; congr 1; omega
            · simp only [if_neg fl]
              simp only [pExp]
              rw [if_neg (show ¬ (f :: u).head? = some (letter : Int) from fun z => fl (by simpa using z))]
              simp only [later, whole]
              rw [if_neg (by omega)]
              simp only [shiftE, Except.map]; congr 1; omega
      · simp only [if_neg c46]
        unfold pFin
        rw [if_neg (show ¬ (c :: s).head? = some 46 from fun z => c46 (by simpa using z))]
        by_cases cl : c = letter
        · subst cl
          simp only [if_true]
          rw [exp_whole (letter : Int) (p + n) s]
          cases e3 : pExp (letter : Int) ((letter : Int) :: s) with
          | error j => simp only [whole, shiftE, later, Except.map]; congr 1; omega
          | ok zm =>
            obtain ⟨z, m⟩ := zm
            simp only [whole, later]
            by_cases cm : m = s.length + 1
            · rw [if_pos cm, if_pos (by omega), hw]
              simp [shiftE, Except.map]
            · rw [if_neg cm, if_neg (by omega)]
              simp only [shiftE, Except.map]; congr 1; omega
        · rw [if_neg cl]
          simp only [pExp]
          rw [if_neg (show ¬ (c :: s).head? = some (letter : Int) from fun z => cl (by simpa using z))]
          simp only [later, whole]
          rw [if_neg (by omega)]
          simp only [shiftE, Except.map]; congr 1
/-! ### a float's text -/
noncomputable def exOf : RI → Ex
  | .inf neg => ⟨if neg = true then -1 else 1, 0, 0, true⟩
  | .fin neg hex w e => if hex = true then ⟨(if neg = true then -1 else 1) * w, e, 0, false⟩ else ⟨(if neg = true then -1 else 1) * w, e, e, false⟩
theorem comm_E (a b : List Int) : commonI a b = commW b a := by
  induction a generalizing b with
  | nil => cases b <;> rfl
  | cons x r ih =>
    cases b with
    | nil => rfl
    | cons y s =>
      show (if x = y then 1 + commonI r s else 0) = (if y = x then 1 + commW s r else 0)
      rw [ih]
      by_cases h : x = y
      · rw [if_pos h, if_pos h.symm]
      · rw [if_neg h, if_neg (fun z => h z.symm)]
theorem commW_le (w b : List Int) : commW w b ≤ w.length ∧ commW w b ≤ b.length := by
  induction w generalizing b with
  | nil => cases b <;> simp [commW]
  | cons x r ih =>
    cases b with
    | nil => simp [commW]
    | cons y s =>
      unfold commW
      split
      · have := ih s; simp; omega
      · simp
theorem commW_full {w b : List Int} (h : commW w b = w.length) : b = w ++ b.drop w.length := by
  induction w generalizing b with
  | nil => simp
  | cons x r ih =>
    cases b with
    | nil => simp [commW] at h
    | cons y s =>
      unfold commW at h
      split at h
      · rename_i e
        have := ih (b := s) (by simp at h; omega)
        subst e
        simp only [List.length_cons, List.drop_succ_cons, List.cons_append]
        rw [← this]
      · simp at h
theorem commW_self (w r : List Int) : commW w (w ++ r) = w.length := by
  induction w with
  | nil => cases r <;> rfl
  | cons x t ih => simp only [List.cons_append, commW, if_true, List.length_cons]; rw [ih]; omega
theorem shift_whole_later {α : Type} (j len : Nat) (r : Par α) : whole (j + len) (later j r) = shiftE j (whole len r) := by
  cases r with
  | error k => rfl
  | ok x =>
    obtain ⟨x, n⟩ := x
    simp only [later, whole]
    by_cases h : n = len
    · rw [if_pos h, if_pos (by omega)]; rfl
    · rw [if_neg h, if_neg (by omega)]; rfl
theorem hexR (sign : Int) (b : List Int) (n : Nat) : (match takeD 16 8192 0 (b.drop (n + 1)) with | .error k => (.error (n + 1 + k) : Par Ex) | .ok (w2, n2) => later (n + 1 + n2) (pFin 16 112 sign w2 (b.drop (n + 1 + n2)))) = later (n + 1) (pRest 16 112 sign (b.drop (n + 1))) := by
  unfold pRest
  cases takeD 16 8192 0 (b.drop (n + 1)) with
  | error k => rfl
  | ok x =>
    obtain ⟨w, m⟩ := x
    simp only [List.drop_drop]
    cases pFin 16 112 sign w (b.drop (n + 1 + m)) with
    | error k => simp only [later]; congr 1; omega
    | ok y => obtain ⟨y, i⟩ := y; simp only [later]; congr 2; omega
theorem mag_whole (sign : Int) (neg : Bool) (hs : sign = if neg = true then -1 else 1) (p : Nat) (r : List Int) (hr : r.length ≤ 8192) :
    (if r.head? = some 105 then (if r = INFI then .ok (.inf neg) else .error (p + commonI r INFI))
     else if r.take 2 = [48, 120] then (numberI dig16 16 112 4 (p + 2) (r.drop 2)).map (fun x => RI.fin neg true x.1 x.2)
     else (numberI dig10 10 101 1 p r).map (fun x => RI.fin neg false x.1 x.2) : Except Nat RI).map exOf = shiftE p (whole r.length (pMag sign r)) := by
  unfold pMag
  by_cases c : r.head? = some 105
  · rw [if_pos c, if_pos c]
    rw [comm_E]
    unfold takeW
    have l3 : ([105, 110, 102] : List Int).length = 3 := rfl
    have li : INFI.length = 3 := rfl
    have le := commW_le INFI r
    by_cases f : commW INFI r = 3
    · rw [if_pos (show commW [105, 110, 102] r = ([105, 110, 102] : List Int).length from f)]
      simp only [whole]
      have e := commW_full (w := INFI) (b := r) f
      by_cases d : r = INFI
      · rw [if_pos d, if_pos (by rw [d]; rfl)]
        simp only [Except.map, exOf, shiftE, hs]
      · rw [if_neg d, if_neg (fun z => d (by
          rw [e, li, List.drop_eq_nil_iff.mpr (by rw [l3] at z; omega), List.append_nil])), f]
        rfl
    · rw [if_neg (show ¬ commW [105, 110, 102] r = ([105, 110, 102] : List Int).length from f)]
      have d : ¬ r = INFI := fun z => f (by rw [z]; rfl)
      rw [if_neg d]; rfl
  · rw [if_neg c, if_neg c]
    by_cases h : r.take 2 = [48, 120]
    · rw [if_pos h]
      obtain ⟨t, rfl⟩ : ∃ t, r = 48 :: 120 :: t := by
        match r, h with
        | a :: b :: t, h => simp at h; exact ⟨t, by rw [h.1, h.2]⟩
      have td : takeD 10 8192 0 (48 :: 120 :: t) = .ok (0, 1) := by
        have r1 : runD 10 8192 (48 :: 120 :: t) = 1 := by
          show (if dgt 48 < 10 then 1 + (if dgt 120 < 10 then 1 + runD 10 8190 t else 0) else 0) = 1
          rw [if_pos (by decide), if_neg (by decide)]
        unfold takeD
        rw [r1, if_neg (by decide)]; rfl
      rw [td]
      simp only
      rw [if_pos ⟨trivial, trivial, rfl⟩]
      refine Eq.trans ?_ (congrArg (fun z => shiftE p (whole (48 :: 120 :: t).length z)) (hexR sign (48 :: 120 :: t) 1).symm)
      show _ = shiftE p (whole (48 :: 120 :: t).length (later 2 (pRest 16 112 sign t)))
      have d2 : (48 :: 120 :: t).drop 2 = t := rfl
      have nw := num_whole (base := 16) (letter := 112) (wt := 4) dig16_of (fun sign w e n => by unfold mkEx mkE; simp) (by decide) sign (p + 2) t (by simp at hr; omega)
      rw [d2]
      have len : (48 :: 120 :: t).length = 2 + t.length := by simp; omega
      rw [len, shift_whole_later 2 t.length (pRest 16 112 sign t)]
      have : ((numberI dig16 16 112 4 (p + 2) t).map (fun x => RI.fin neg true x.1 x.2)).map exOf = (numberI dig16 16 112 4 (p + 2) t).map (fun x => mkE ((16 : Nat) : Int) sign x.1 x.2) := by
        rw [map_map]
        apply map_congr
        intro a
        unfold exOf mkE
        simp [hs]
      rw [this, nw]
      show shiftE (p + 2) (whole t.length (pRest 16 112 sign t)) = _
      cases whole t.length (pRest 16 112 sign t) with
      | error k => simp only [shiftE]; congr 1; omega
      | ok x => rfl
    · rw [if_neg h]
      have nw := num_whole (base := 10) (letter := 101) (wt := 1) dig10_of (fun sign w e n => by unfold mkEx mkE; simp) (by decide) sign p r hr
      have : ((numberI dig10 10 101 1 p r).map (fun x => RI.fin neg false x.1 x.2)).map exOf = (numberI dig10 10 101 1 p r).map (fun x => mkE ((10 : Nat) : Int) sign x.1 x.2) := by
        rw [map_map]
        apply map_congr
        intro a
        unfold exOf mkE
        simp [hs]
      rw [this, nw]
      congr 2
      unfold pRest
      show (match takeD 10 8192 0 r with | .error k => (.error k : Par Ex) | .ok (w, n) => later n (pFin 10 101 sign w (r.drop n))) = _
      cases e : takeD 10 8192 0 r with
      | error k => rfl
      | ok x =>
        obtain ⟨w, n⟩ := x
        simp only
        by_cases g : w = 0 ∧ n = 1 ∧ (r.drop n).head? = some 120
        · exfalso
          obtain ⟨g1, g2, g3⟩ := g
          subst g2
          apply h
          unfold takeD at e
          split at e
          · cases e
          · injection e with e
            injection e with e1 e2
            rw [e2] at e1
            match r, g3, e1, e2 with
            | a :: b :: t, g3, e1, e2 =>
              simp at g3
              have v : dgt a = 0 := by
                have : valD 10 0 [a] = w := e1
                unfold valD at this; simp at this; omega
              have : a = 48 := by
                unfold dgt at v
                split at v
                · omega
                · split at v <;> omega
              simp [this, g3]
        · rw [if_neg g]
theorem text_whole (b : List Int) (hb : b.length ≤ 8192) : (readTextI b).map exOf = whole b.length (pNum b) := by
  unfold readTextI pNum
  simp only
  by_cases c : b.head? = some 45
  · obtain ⟨t, rfl⟩ : ∃ t, b = 45 :: t := by
      cases b with
      | nil => cases c
      | cons a r => simp at c; exact ⟨r, by rw [c]⟩
    simp only [c, decide_true, if_true]
    have d1 : (45 :: t).drop 1 = t := rfl
    rw [d1]
    have := mag_whole (-1) true (by simp) 1 t (by simp at hb; omega)
    rw [this]
    have len : (45 :: t).length = 1 + t.length := by simp; omega
    rw [len, shift_whole_later 1 t.length]
  · simp only [c, decide_false, Bool.false_eq_true, if_false]
    have := mag_whole 1 false (by simp) 0 b hb
    rw [this]
    cases whole b.length (pMag 1 b) with
    | error k => simp only [shiftE, Nat.zero_add]
    | ok x => rfl
end Bx
end
section
namespace Bx
open Ew EwIval Wrxtee
/-! ### a reading stops at a sign that no number has -/
noncomputable abbrev Sep (c : Int) : Prop := c = 44 ∨ c = 93
theorem sep_dgt {c : Int} (h : Sep c) : dgt c = 16 := by rcases h with rfl | rfl <;> decide
theorem run_sep {base c : Int} (hb : base ≤ 16) (h : Sep c) (m : Nat) (s r : List Int) : runD base m (s ++ c :: r) = runD base m s := by
  induction m generalizing s with
  | zero => rfl
  | succ m ih =>
    cases s with
    | nil =>
      have := sep_dgt h
      simp only [List.nil_append, runD]
      rw [if_neg (by omega)]
    | cons a s => simp only [List.cons_append, runD]; rw [ih]
theorem takeD_sep {base c : Int} (hb : base ≤ 16) (h : Sep c) (m : Nat) (w : Int) (s r : List Int) : takeD base m w (s ++ c :: r) = takeD base m w s := by
  unfold takeD
  rw [run_sep hb h]
  have := (run_le base m s).2
  rw [List.take_append_of_le_length this]
theorem head_sep {c k : Int} (hk : c ≠ k) (s r : List Int) : ((s ++ c :: r).head? = some k) ↔ (s.head? = some k) := by
  cases s with
  | nil => simp [hk]
  | cons a s => simp
theorem drop_sep {n : Nat} {s : List Int} (h : n ≤ s.length) (t : List Int) : (s ++ t).drop n = s.drop n ++ t := List.drop_append_of_le_length h
theorem pExp_sep {mark c : Int} (h : Sep c) (hm : c ≠ mark) (s r : List Int) : pExp mark (s ++ c :: r) = pExp mark s := by
  have c45 : c ≠ 45 := by rcases h with rfl | rfl <;> decide
  unfold pExp
  by_cases q : s.head? = some mark
  · obtain ⟨s', rfl⟩ : ∃ s', s = mark :: s' := by
      cases s with
      | nil => cases q
      | cons a t => simp at q; exact ⟨t, by rw [q]⟩
    rw [if_pos ((head_sep hm _ r).mpr q), if_pos q]
    have d1 : (mark :: s' ++ c :: r).drop 1 = s' ++ c :: r := rfl
    have d1' : (mark :: s').drop 1 = s' := rfl
    rw [d1, d1']
    by_cases q2 : s'.head? = some 45
    · obtain ⟨s2, rfl⟩ : ∃ s2, s' = 45 :: s2 := by
        cases s' with
        | nil => cases q2
        | cons a t => simp at q2; exact ⟨t, by rw [q2]⟩
      rw [if_pos ((head_sep c45 _ r).mpr q2), if_pos q2]
      have d2 : (mark :: 45 :: s2 ++ c :: r).drop 2 = s2 ++ c :: r := rfl
      have d2' : (mark :: 45 :: s2).drop 2 = s2 := rfl
      rw [d2, d2', takeD_sep (by decide) h]
    · rw [if_neg (fun z => q2 ((head_sep c45 _ r).mp z)), if_neg q2, takeD_sep (by decide) h]
  · rw [if_neg (fun z => q ((head_sep hm _ r).mp z)), if_neg q]
theorem takeD_len {base : Int} {m : Nat} {w v : Int} {b : List Int} {n : Nat} (h : takeD base m w b = .ok (v, n)) : n ≤ b.length ∧ n ≠ 0 ∧ n = runD base m b := by
  unfold takeD at h
  split at h
  · cases h
  · rename_i z
    injection h with h
    injection h with h1 h2
    rw [← h2]
    exact ⟨(run_le base m b).2, z, rfl⟩
theorem pFin_sep {base mark c : Int} (hb : base ≤ 16) (h : Sep c) (hm : c ≠ mark) (sign w : Int) (s r : List Int) : pFin base mark sign w (s ++ c :: r) = pFin base mark sign w s := by
  have c46 : c ≠ 46 := by rcases h with rfl | rfl <;> decide
  unfold pFin
  by_cases q : s.head? = some 46
  · obtain ⟨s', rfl⟩ : ∃ s', s = 46 :: s' := by
      cases s with
      | nil => cases q
      | cons a t => simp at q; exact ⟨t, by rw [q]⟩
    rw [if_pos ((head_sep c46 _ r).mpr q), if_pos q]
    have d1 : (46 :: s' ++ c :: r).drop 1 = s' ++ c :: r := rfl
    have d1' : (46 :: s').drop 1 = s' := rfl
    rw [d1, d1', takeD_sep hb h]
    cases e : takeD base 8192 w s' with
    | error k => rfl
    | ok x =>
      obtain ⟨v, n⟩ := x
      have ln := (takeD_len e).1
      simp only
      rw [drop_sep (by simp only [List.length_cons]; omega), pExp_sep h hm]
  · rw [if_neg (fun z => q ((head_sep c46 _ r).mp z)), if_neg q, pExp_sep h hm]
theorem commW_sep {w : List Int} {c : Int} (h : c ∉ w) (s r : List Int) : commW w (s ++ c :: r) = commW w s := by
  induction w generalizing s with
  | nil => cases s <;> rfl
  | cons a t ih =>
    cases s with
    | nil =>
      show (if a = c then 1 + commW t r else 0) = 0
      rw [if_neg (fun z => h (by rw [z]; exact List.mem_cons_self))]
    | cons b s =>
      show (if a = b then 1 + commW t (s ++ c :: r) else 0) = (if a = b then 1 + commW t s else 0)
      rw [ih (fun z => h (List.mem_cons_of_mem _ z))]
theorem pMag_sep {c : Int} (h : Sep c) (sign : Int) (s r : List Int) : pMag sign (s ++ c :: r) = pMag sign s := by
  have n105 : c ≠ 105 := by rcases h with rfl | rfl <;> decide
  have n120 : c ≠ 120 := by rcases h with rfl | rfl <;> decide
  have n112 : c ≠ 112 := by rcases h with rfl | rfl <;> decide
  have n101 : c ≠ 101 := by rcases h with rfl | rfl <;> decide
  have nw : c ∉ ([105, 110, 102] : List Int) := by rcases h with rfl | rfl <;> decide
  unfold pMag
  by_cases q : s.head? = some 105
  · rw [if_pos ((head_sep n105 _ r).mpr q), if_pos q]
    unfold takeW
    rw [commW_sep nw]
  · rw [if_neg (fun z => q ((head_sep n105 _ r).mp z)), if_neg q, takeD_sep (by decide) h]
    cases e : takeD 10 8192 0 s with
    | error k => rfl
    | ok x =>
      obtain ⟨v, n⟩ := x
      have ln := (takeD_len e).1
      simp only
      rw [drop_sep ln]
      by_cases g : v = 0 ∧ n = 1 ∧ (s.drop n).head? = some 120
      · rw [if_pos ⟨g.1, g.2.1, (head_sep n120 _ r).mpr g.2.2⟩, if_pos g]
        have l1 : n + 1 ≤ s.length := by
          have : s.drop n ≠ [] := fun z => by rw [z] at g; cases g.2.2
          have : ¬ s.length ≤ n := fun z => this (List.drop_eq_nil_iff.mpr z)
          omega
        rw [drop_sep l1, takeD_sep (by decide) h]
        cases e2 : takeD 16 8192 0 (s.drop (n + 1)) with
        | error k => rfl
        | ok y =>
          obtain ⟨v2, n2⟩ := y
          have l2 := (takeD_len e2).1
          rw [List.length_drop] at l2
          simp only
          rw [drop_sep (by omega), pFin_sep (by decide) h n112]
      · rw [if_neg (fun z => g ⟨z.1, z.2.1, (head_sep n120 _ r).mp z.2.2⟩), if_neg g, pFin_sep (by decide) h n101]
theorem pNum_sep {c : Int} (h : Sep c) (s r : List Int) : pNum (s ++ c :: r) = pNum s := by
  have n45 : c ≠ 45 := by rcases h with rfl | rfl <;> decide
  unfold pNum
  by_cases q : s.head? = some 45
  · obtain ⟨s', rfl⟩ : ∃ s', s = 45 :: s' := by
      cases s with
      | nil => cases q
      | cons a t => simp at q; exact ⟨t, by rw [q]⟩
    rw [if_pos ((head_sep n45 _ r).mpr q), if_pos q]
    have d1 : (45 :: s' ++ c :: r).drop 1 = s' ++ c :: r := rfl
    have d1' : (45 :: s').drop 1 = s' := rfl
    rw [d1, d1', pMag_sep h]
  · rw [if_neg (fun z => q ((head_sep n45 _ r).mp z)), if_neg q, pMag_sep h]
/-! ### no reading goes beyond the text -/
theorem pExp_len {mark : Int} {b : List Int} {e : Int} {n : Nat} (h : pExp mark b = .ok (e, n)) : n ≤ b.length := by
  unfold pExp at h
  split at h
  · split at h
    · split at h
      · cases h
      · rename_i z v m e2
        have := (takeD_len e2).1
        have := (takeD_len e2).2.1
        rw [List.length_drop] at *
        injection h with h; injection h with h1 h2
        omega
    · split at h
      · cases h
      · rename_i z v m e2
        have := (takeD_len e2).1
        have := (takeD_len e2).2.1
        rw [List.length_drop] at *
        injection h with h; injection h with h1 h2
        omega
  · injection h with h; injection h with h1 h2; omega
theorem pFin_len {base mark sign w : Int} {b : List Int} {x : Ex} {n : Nat} (h : pFin base mark sign w b = .ok (x, n)) : n ≤ b.length := by
  unfold pFin at h
  split at h
  · split at h
    · cases h
    · rename_i v m e1
      split at h
      · cases h
      · rename_i e i e2
        have a1 := (takeD_len e1).1
        have a2 := (takeD_len e1).2.1
        have a3 := pExp_len e2
        rw [List.length_drop] at a1 a3
        injection h with h; injection h with h1 h2
        omega
  · split at h
    · cases h
    · rename_i e i e2
      have a3 := pExp_len e2
      injection h with h; injection h with h1 h2
      omega
theorem later_len {α : Type} {j len : Nat} {r : Par α} {x : α} {n : Nat} (h : later j r = .ok (x, n)) (hr : ∀ y m, r = .ok (y, m) → m ≤ len) : n ≤ j + len := by
  cases r with
  | error k => cases h
  | ok z =>
    obtain ⟨y, m⟩ := z
    have := hr y m rfl
    injection h with h; injection h with h1 h2
    omega
theorem pMag_len {sign : Int} {b : List Int} {x : Ex} {n : Nat} (h : pMag sign b = .ok (x, n)) : n ≤ b.length := by
  unfold pMag at h
  split at h
  · split at h
    · cases h
    · rename_i m e
      unfold takeW at e
      split at e
      · rename_i z
        injection e with e
        have := (commW_le [105, 110, 102] b).2
        injection h with h; injection h with h1 h2
        omega
      · cases e
  · split at h
    · cases h
    · rename_i v m e1
      have a1 := (takeD_len e1).1
      split at h
      · split at h
        · cases h
        · rename_i v2 n2 e2
          have a2 := (takeD_len e2).1
          have a3 := (takeD_len e2).2.1
          rw [List.length_drop] at a2
          have := later_len (len := b.length - (m + 1 + n2)) h (fun y i e => by have := pFin_len e; rw [List.length_drop] at this; exact this)
          omega
      · have := later_len (len := b.length - m) h (fun y i e => by have := pFin_len e; rw [List.length_drop] at this; exact this)
        omega
theorem pNum_len {b : List Int} {x : Ex} {n : Nat} (h : pNum b = .ok (x, n)) : n ≤ b.length := by
  unfold pNum at h
  split at h
  · rename_i q
    have : b ≠ [] := fun z => by rw [z] at q; cases q
    have := List.length_pos_iff.mpr this
    have := later_len (len := b.length - 1) h (fun y i e => by have := pMag_len e; rw [List.length_drop] at this; exact this)
    omega
  · exact pMag_len h
/-! ### the whole text -/
noncomputable def pEnds (b : List Int) : Par (List Ex) :=
  if b.head? = some 101 then (match takeW EMPI b with | .error k => .error k | .ok n => .ok ([], n))
  else if b.head? = some 91 then
    match pNum (b.drop 1) with
    | .error k => .error (1 + k)
    | .ok (x, n) => match takeW [44, 32] (b.drop (1 + n)) with
      | .error k => .error (1 + n + k)
      | .ok _ => match pNum (b.drop (1 + n + 2)) with
        | .error k => .error (1 + n + 2 + k)
        | .ok (y, m) => match takeW [93] (b.drop (1 + n + 2 + m)) with
          | .error k => .error (1 + n + 2 + m + k)
          | .ok _ => .ok ([x, y], 1 + n + 2 + m + 1)
  else match pNum b with | .error k => .error k | .ok (x, n) => .ok ([x, x], n)
noncomputable def saidOf : Except Nat (Option (RI × RI)) → Except Nat (List Ex)
  | .error k => .error k
  | .ok none => .ok []
  | .ok (some (x, y)) => .ok [exOf x, exOf y]
theorem split_at (r : List Int) (c : Int) : (r.takeWhile (fun z => z != c)).length = r.length ∧ r.takeWhile (fun z => z != c) = r ∨
    ∃ u, r = r.takeWhile (fun z => z != c) ++ c :: u ∧ r.drop ((r.takeWhile (fun z => z != c)).length + 1) = u ∧ (r.takeWhile (fun z => z != c)).length ≠ r.length := by
  have sp : r.takeWhile (fun z => z != c) ++ r.dropWhile (fun z => z != c) = r := List.takeWhile_append_dropWhile
  cases e : r.dropWhile (fun z => z != c) with
  | nil =>
    rw [e, List.append_nil] at sp
    left; exact ⟨by rw [sp], sp⟩
  | cons a u =>
    right
    have ha : a = c := by
      have := List.head?_dropWhile_not (p := fun z => z != c) (l := r)
      rw [e] at this
      simpa using this
    subst ha
    rw [e] at sp
    refine ⟨u, sp.symm, ?_, ?_⟩
    · generalize r.takeWhile (fun z => z != a) = s at *
      rw [← sp, show s.length + 1 = s.length + 1 from rfl, ← List.drop_drop, List.drop_left]
      rfl
    · intro z
      have := congrArg List.length sp
      rw [List.length_append, List.length_cons] at this
      omega
theorem take_ne (r : List Int) (c : Int) : ∀ z ∈ r.takeWhile (fun z => z != c), z ≠ c := by
  induction r with
  | nil => intro z m; cases m
  | cons a r ih =>
    intro z m
    rw [List.takeWhile_cons] at m
    split at m
    · rename_i h
      rcases List.mem_cons.mp m with rfl | m
      · simpa using h
      · exact ih z m
    · cases m
theorem takeW_one {c : Int} {w b : List Int} (h : b.head? ≠ some c) : takeW (c :: w) b = .error 0 := by
  unfold takeW
  have e : commW (c :: w) b = 0 := by
    cases b with
    | nil => rfl
    | cons a r =>
      show (if c = a then _ else 0) = 0
      rw [if_neg (fun z => h (by rw [z]; rfl))]
  rw [e, if_neg (by simp)]
theorem cases_E {b : List Int} (hb : b.length ≤ 8192) : (∃ k, readTextI b = .error k ∧ whole b.length (pNum b) = .error k) ∨ (∃ x, readTextI b = .ok x ∧ pNum b = .ok (exOf x, b.length)) := by
  have t := text_whole b hb
  cases e : readTextI b with
  | error k => left; rw [e] at t; exact ⟨k, rfl, t.symm⟩
  | ok x =>
    right
    rw [e] at t
    refine ⟨x, rfl, ?_⟩
    cases p : pNum b with
    | error k => rw [p] at t; cases t
    | ok y =>
      obtain ⟨y, n⟩ := y
      rw [p] at t
      simp only [whole] at t
      split at t
      · rename_i z
        have t2 : exOf x = y := by injection t
        rw [t2, z]
      · cases t
theorem head_drop {b : List Int} {n : Nat} : (b.drop n).head? = b[n]? := by simp
theorem pEnds_E {b : List Int} (hb : b.length ≤ 8192) : whole b.length (pEnds b) = saidOf (readPairI b) := by
  unfold pEnds readPairI
  by_cases c1 : b.head? = some 101
  · rw [if_pos c1, if_pos c1, comm_E]
    unfold takeW
    have le := commW_le EMPI b
    have li : EMPI.length = 5 := rfl
    by_cases f : commW EMPI b = 5
    · rw [if_pos (show commW EMPI b = EMPI.length from f)]
      simp only [whole]
      have e := commW_full (w := EMPI) (b := b) f
      by_cases d : b = EMPI
      · rw [if_pos d, if_pos (by rw [d])]; rfl
      · rw [if_neg d, if_neg (fun z => d (by rw [e, List.drop_eq_nil_iff.mpr (by omega), List.append_nil])), f]; rfl
    · rw [if_neg (show ¬ commW EMPI b = EMPI.length from f)]
      have d : ¬ b = EMPI := fun z => f (by rw [z]; rfl)
      rw [if_neg d]; rfl
  · rw [if_neg c1, if_neg c1]
    by_cases c2 : b.head? = some 91
    · rw [if_pos c2, if_pos c2]
      obtain ⟨r, rfl⟩ : ∃ r, b = 91 :: r := by
        cases b with
        | nil => cases c2
        | cons a t => simp at c2; exact ⟨t, by rw [c2]⟩
      simp only [List.length_cons] at hb
      have d1 : (91 :: r).drop 1 = r := rfl
      have dd : ∀ n, (91 :: r).drop (1 + n) = r.drop n := fun n => by rw [Nat.add_comm, List.drop_succ_cons]
      rw [d1]
      simp only
      have tn := take_ne r 44
      have sa := split_at r 44
      generalize hs : r.takeWhile (fun z => z != 44) = s at *
      have pe : pNum r = pNum s := by
        rcases sa with ⟨_, z⟩ | ⟨u, z, _, _⟩
        · rw [z]
        · rw [z, pNum_sep (.inl rfl)]
      have sl : s.length ≤ r.length := by rw [← hs]; exact (List.takeWhile_prefix _).length_le
      rw [pe]
      rcases cases_E (b := s) (by omega) with ⟨k, e1, e2⟩ | ⟨x, e1, e2⟩
      · rw [e1]
        simp only [saidOf]
        cases p : pNum s with
        | error j =>
          rw [p] at e2
          simp only [whole] at e2 ⊢
          have : j = k := by injection e2
          rw [this]
        | ok y =>
          obtain ⟨y, n⟩ := y
          rw [p] at e2
          simp only [whole] at e2
          split at e2
          · cases e2
          · rename_i ne
            have nk : n = k := by injection e2
            have nl := pNum_len p
            subst nk
            simp only
            have hd : (r.drop n).head? ≠ some 44 := by
              rw [head_drop]
              have lt : n < s.length := by omega
              have : r[n]? = s[n]? := by
                rcases sa with ⟨_, z⟩ | ⟨u, z, _, _⟩
                · rw [z]
                · rw [z, List.getElem?_append_left lt]
              rw [this, List.getElem?_eq_getElem lt]
              intro z
              exact tn _ (List.getElem_mem lt) (Option.some.inj z)
            rw [dd, takeW_one hd]
            simp only [whole]
            rw [Nat.add_zero]
      · rw [e1, e2]
        simp only
        rcases sa with ⟨z1, z2⟩ | ⟨u, z1, z2, z3⟩
        · rw [if_pos z1, dd, z1, List.drop_length, takeW_one (by simp)]
          simp only [whole, saidOf, List.length_cons]
          congr 1; omega
        · rw [if_neg z3, dd]
          have du : r.drop s.length = 44 :: u := by rw [z1, List.drop_left]
          have ul : r.length = s.length + 1 + u.length := drop_len du
          rw [du, z2]
          by_cases h32 : u.head? = some 32
          · rw [if_neg (show ¬ (u.head? ≠ some 32) from fun z => z h32)]
            obtain ⟨v, rfl⟩ : ∃ v, u = 32 :: v := by
              cases u with
              | nil => cases h32
              | cons a t => simp at h32; exact ⟨t, by rw [h32]⟩
            have tw : takeW [44, 32] (44 :: 32 :: v) = .ok 2 := by
              unfold takeW
              rw [show commW [44, 32] (44 :: 32 :: v) = 2 from commW_self [44, 32] v]; rfl
            rw [tw]
            simp only
            have dv : ∀ m, (91 :: r).drop (1 + s.length + 2 + m) = v.drop m := fun m => by
              rw [show 1 + s.length + 2 + m = 1 + (s.length + (2 + m)) by omega, dd, ← List.drop_drop, du, show 2 + m = m + 2 by omega]
              simp
            have d3 : (91 :: r).drop (1 + s.length + 2) = v := dv 0
            rw [d3]
            have e32 : (32 :: v).drop 1 = v := rfl
            rw [e32]
            simp only [List.length_cons] at ul ⊢
            have tn2 := take_ne v 93
            have sa2 := split_at v 93
            generalize ht : v.takeWhile (fun z => z != 93) = t at *
            have pe2 : pNum v = pNum t := by
              rcases sa2 with ⟨_, z⟩ | ⟨u2, z, _, _⟩
              · rw [z]
              · rw [z, pNum_sep (.inr rfl)]
            have tl : t.length ≤ v.length := by rw [← ht]; exact (List.takeWhile_prefix _).length_le
            rw [pe2]
            rcases cases_E (b := t) (by omega) with ⟨k, f1, f2⟩ | ⟨y, f1, f2⟩
            · rw [f1]
              simp only [saidOf]
              cases p : pNum t with
              | error j =>
                rw [p] at f2
                simp only [whole] at f2 ⊢
                have : j = k := by injection f2
                rw [this]; congr 1; omega
              | ok yy =>
                obtain ⟨yy, n⟩ := yy
                rw [p] at f2
                simp only [whole] at f2
                split at f2
                · cases f2
                · rename_i ne
                  have nk : n = k := by injection f2
                  have nl := pNum_len p
                  subst nk
                  simp only
                  have hd : (v.drop n).head? ≠ some 93 := by
                    rw [head_drop]
                    have lt : n < t.length := by omega
                    have : v[n]? = t[n]? := by
                      rcases sa2 with ⟨_, z⟩ | ⟨u2, z, _, _⟩
                      · rw [z]
                      · rw [z, List.getElem?_append_left lt]
                    rw [this, List.getElem?_eq_getElem lt]
                    intro z
                    exact tn2 _ (List.getElem_mem lt) (Option.some.inj z)
                  rw [dv, takeW_one hd]
                  simp only [whole]
                  congr 1; omega
            · rw [f1, f2]
              simp only
              rw [dv]
              rcases sa2 with ⟨y1, y2⟩ | ⟨u2, y1, y2, y3⟩
              · rw [if_pos (by omega), y1, List.drop_length, takeW_one (by simp)]
                simp only [whole, saidOf]
                congr 1; omega
              · have du2 : v.drop t.length = 93 :: u2 := by rw [y1, List.drop_left]
                have ul2 : v.length = t.length + 1 + u2.length := drop_len du2
                rw [if_neg (by omega), du2]
                have tw2 : takeW [93] (93 :: u2) = .ok 1 := by
                  unfold takeW
                  rw [show commW [93] (93 :: u2) = 1 from commW_self [93] u2]; rfl
                rw [tw2]
                simp only [whole]
                by_cases fl : v.length + 1 = t.length + 2
                · rw [if_pos fl, if_pos (by omega)]; rfl
                · rw [if_neg fl, if_neg (by omega)]
                  simp only [saidOf]; congr 1; omega
          · rw [if_pos h32]
            have tw : takeW [44, 32] (44 :: u) = .error 1 := by
              unfold takeW
              have : commW [44, 32] (44 :: u) = 1 := by
                show (if (44 : Int) = 44 then 1 + commW [32] u else 0) = 1
                rw [if_pos rfl]
                cases u with
                | nil => rfl
                | cons a t =>
                  show 1 + (if (32 : Int) = a then 1 + commW [] t else 0) = 1
                  rw [if_neg (fun z => h32 (by rw [← z]; rfl))]
              rw [this, if_neg (by decide)]
            rw [tw]
            simp only [whole, saidOf]
            congr 1; omega
    · rw [if_neg c2, if_neg c2]
      rcases cases_E hb with ⟨k, e1, e2⟩ | ⟨x, e1, e2⟩
      · rw [e1]
        simp only [saidOf]
        cases p : pNum b with
        | error j =>
          rw [p] at e2
          simp only [whole] at e2 ⊢
          have : j = k := by injection e2
          rw [this]
        | ok y =>
          obtain ⟨y, n⟩ := y
          rw [p] at e2
          simp only [whole] at e2 ⊢
          split at e2
          · cases e2
          · rename_i ne
            rw [if_neg ne]
            have : n = k := by injection e2
            rw [this]
      · rw [e1, e2]
        simp only [whole, saidOf, if_true]
end Bx
end
section
namespace Bx
open Ew EwIval Wrxtee
/-! ### powers of five, and exact values by twos and fives -/
noncomputable def fiv (k : Int) : Rat := Ew.ten k * Ew.two (-k)
theorem two_zero : Ew.two 0 = 1 := by decide
theorem two_inv (k : Int) : Ew.two k * Ew.two (-k) = 1 := by rw [← two_add, show k + -k = 0 by omega]; exact two_zero
theorem ten_five (k : Int) : Ew.ten k = Ew.two k * fiv k := by
  unfold fiv
  rw [← Rat.mul_assoc, Rat.mul_comm (Ew.two k), Rat.mul_assoc, two_inv, Rat.mul_one]
theorem fiv_add (a b : Int) : fiv (a + b) = fiv a * fiv b := by
  unfold fiv
  rw [ten_add, show -(a + b) = -a + -b by omega, two_add]
  generalize Ew.ten a = x
  generalize Ew.ten b = y
  generalize Ew.two (-a) = z
  generalize Ew.two (-b) = t
  grind
theorem fiv_nat (n : Nat) : fiv (n : Int) = ((5 ^ n : Nat) : Rat) := by
  unfold fiv
  rw [ten_nat, show (10 : Nat) = 5 * 2 from rfl, Nat.mul_pow, Rat.natCast_mul, ← two_nat, Rat.mul_assoc, two_inv, Rat.mul_one]
theorem fiv_zero : fiv 0 = 1 := by
  have := fiv_nat 0
  simpa using this
theorem fiv_pos (k : Int) : 0 < fiv k := Rat.mul_pos (ten_pos k) (two_pos _)
theorem fiv_neg (n : Nat) : fiv (-(n : Int)) = 1 / ((5 ^ n : Nat) : Rat) := by
  have h : fiv (-(n : Int)) * ((5 ^ n : Nat) : Rat) = 1 := by rw [← fiv_nat, ← fiv_add, show -(n : Int) + n = 0 by omega]; exact fiv_zero
  have p : ((5 ^ n : Nat) : Rat) ≠ 0 := fun z => by rw [z, Rat.mul_zero] at h; exact absurd h (by decide)
  have i := Rat.mul_inv_cancel _ p
  rw [Rat.div_def, Rat.one_mul]
  calc fiv (-(n : Int)) = fiv (-(n : Int)) * (((5 ^ n : Nat) : Rat) * (((5 ^ n : Nat) : Rat))⁻¹) := by rw [i, Rat.mul_one]
    _ = 1 * (((5 ^ n : Nat) : Rat))⁻¹ := by rw [← Rat.mul_assoc, h]
    _ = _ := Rat.one_mul _
noncomputable def exVal (x : Ex) : Rat := (x.whole : Rat) * Ew.two x.twos * fiv x.fives
theorem end_fin (neg hex : Bool) (w : Nat) (e : Int) : endR (.fin neg hex w e) = .num (exVal (exOf (.fin neg hex w e))) := by
  show End.num (valR neg hex w e) = _
  congr 1
  unfold valR scale exVal exOf
  cases neg <;> cases hex <;> simp only [if_true, Bool.false_eq_true, if_false, fiv_zero, Rat.mul_one]
  · rw [ten_five, Rat.intCast_mul, Rat.intCast_natCast, show ((1 : Int) : Rat) = 1 from rfl, Rat.one_mul, Rat.mul_assoc]
  · rw [Rat.intCast_mul, Rat.intCast_natCast, show ((1 : Int) : Rat) = 1 from rfl, Rat.one_mul]
  · rw [ten_five, Rat.intCast_mul, Rat.intCast_natCast, show ((-1 : Int) : Rat) = -1 from rfl]; grind
  · rw [Rat.intCast_mul, Rat.intCast_natCast, show ((-1 : Int) : Rat) = -1 from rfl]; grind
theorem exOf_inf (neg hex : Bool) (w : Nat) (e : Int) : (exOf (.fin neg hex w e)).inf = false := by cases hex <;> rfl
noncomputable def besideX (x : Ex) : Val := if x.inf = true then ⟨x.whole, 0, true⟩ else if 0 ≤ x.fives then ⟨x.whole * ((5 ^ x.fives.toNat : Nat) : Int), x.twos, false⟩ else overV ⟨x.whole, x.twos, false⟩ ⟨((5 ^ (-x.fives).toNat : Nat) : Int), 0, false⟩
theorem beside_fin {x : Ex} (hi : x.inf = false) : Stands (besideX x) (.num (exVal x)) := by
  unfold besideX
  rw [if_neg (by rw [hi]; decide)]
  by_cases c : 0 ≤ x.fives
  · rw [if_pos c]
    obtain ⟨n, hn⟩ := Int.eq_ofNat_of_zero_le c
    have t : x.fives.toNat = n := by omega
    rw [t]
    have s := Stands.exact (x.whole * ((5 ^ n : Nat) : Int)) x.twos
    have e : ((x.whole * ((5 ^ n : Nat) : Int) : Int) : Rat) * Ew.two x.twos = exVal x := by
      unfold exVal
      rw [hn, fiv_nat, Rat.intCast_mul, Rat.intCast_natCast]
      generalize ((5 ^ n : Nat) : Rat) = a
      generalize Ew.two x.twos = b
      grind
    rw [e] at s
    exact s
  · rw [if_neg c]
    obtain ⟨n, hn⟩ : ∃ n : Nat, x.fives = -(n : Int) := ⟨(-x.fives).toNat, by omega⟩
    have t : (-x.fives).toNat = n := by omega
    rw [t]
    have s := over_stands (v := ⟨x.whole, x.twos, false⟩) (o := ⟨((5 ^ n : Nat) : Int), 0, false⟩) (a := .num ((x.whole : Rat) * Ew.two x.twos)) (b := .num ((((5 ^ n : Nat) : Int) : Rat) * Ew.two 0)) ⟨rfl, rfl⟩ ⟨rfl, rfl⟩ (Int.natCast_nonneg _)
    have p5 : 0 < 5 ^ n := Nat.pow_pos (by decide)
    have pos : (0 : Rat) < (((5 ^ n : Nat) : Int) : Rat) * Ew.two 0 := by
      rw [two_zero, Rat.mul_one, Rat.intCast_natCast]
      exact Rat.natCast_pos.mpr p5
    unfold quotEnd at s
    rw [sign_one pos, if_neg (by decide)] at s
    have e : timesEnd (.num ((x.whole : Rat) * Ew.two x.twos)) (invEnd (.num ((((5 ^ n : Nat) : Int) : Rat) * Ew.two 0))) = .num (exVal x) := by
      show End.num (((x.whole : Rat) * Ew.two x.twos) * (1 / ((((5 ^ n : Nat) : Int) : Rat) * Ew.two 0))) = _
      congr 1
      unfold exVal
      rw [hn, fiv_neg, two_zero, Rat.mul_one, Rat.intCast_natCast]
    rw [e] at s
    exact s
theorem beside_R (r : RI) : Stands (besideX (exOf r)) (endR r) := by
  cases r with
  | inf neg => cases neg <;> exact ⟨rfl, by decide⟩
  | fin neg hex w e =>
    rw [end_fin]
    exact beside_fin (exOf_inf _ _ _ _)
/-! ### whether one is above the other -/
noncomputable def scaledX (x : Ex) (t f : Int) : Int := x.whole * 2 ^ (x.twos - t).toNat * ((5 ^ (x.fives - f).toNat : Nat) : Int)
theorem scaled_val {x : Ex} {t f : Int} (ht : t ≤ x.twos) (hf : f ≤ x.fives) : exVal x = (scaledX x t f : Rat) * (Ew.two t * fiv f) := by
  obtain ⟨a, ha⟩ : ∃ a : Nat, x.twos = t + a := ⟨(x.twos - t).toNat, by omega⟩
  obtain ⟨c, hc⟩ : ∃ c : Nat, x.fives = f + c := ⟨(x.fives - f).toNat, by omega⟩
  have ta : (x.twos - t).toNat = a := by omega
  have tc : (x.fives - f).toNat = c := by omega
  unfold exVal scaledX
  rw [ta, tc, ha, hc, two_add, fiv_add, two_nat, fiv_nat, Rat.intCast_mul, Rat.intCast_mul, Rat.intCast_natCast, two_pow_int, Rat.intCast_natCast]
  generalize ((2 ^ a : Nat) : Rat) = p
  generalize ((5 ^ c : Nat) : Rat) = q
  generalize Ew.two t = u
  generalize fiv f = v
  grind
noncomputable def aboveX (a z : Ex) : Bool := decide (scaledX z (min a.twos z.twos) (min a.fives z.fives) < scaledX a (min a.twos z.twos) (min a.fives z.fives))
theorem above_val (a z : Ex) : aboveX a z = true ↔ exVal z < exVal a := by
  unfold aboveX
  rw [decide_eq_true_iff]
  have pos : 0 < Ew.two (min a.twos z.twos) * fiv (min a.fives z.fives) := Rat.mul_pos (two_pos _) (fiv_pos _)
  rw [scaled_val (x := z) (t := min a.twos z.twos) (f := min a.fives z.fives) (by omega) (by omega), scaled_val (x := a) (t := min a.twos z.twos) (f := min a.fives z.fives) (by omega) (by omega)]
  generalize Ew.two (min a.twos z.twos) * fiv (min a.fives z.fives) = u at *
  rw [Rat.mul_lt_mul_right pos, Rat.intCast_lt_intCast]
noncomputable def canX (a z : Ex) : Bool := if (a.inf = true ∧ 0 < a.whole) ∨ (z.inf = true ∧ z.whole < 0) then false else a.inf || z.inf || !aboveX a z
theorem can_E (a z : RI) : canX (exOf a) (exOf z) = false ↔ (less (endR z) (endR a) = true ∨ endR a = .plus ∨ endR z = .minus) := by
  cases a with
  | inf na =>
    cases z with
    | inf nz => cases na <;> cases nz <;> decide
    | fin nz hz wz ez =>
      rw [end_fin]
      have iz : (exOf (.fin nz hz wz ez)).inf = false := exOf_inf _ _ _ _
      generalize exOf (.fin nz hz wz ez) = y at *
      unfold canX
      rw [iz]
      cases na <;> simp [exOf, endR, less]
  | fin na ha wa ea =>
    have ia : (exOf (.fin na ha wa ea)).inf = false := exOf_inf _ _ _ _
    cases z with
    | inf nz =>
      rw [end_fin]
      generalize exOf (.fin na ha wa ea) = y at *
      unfold canX
      rw [ia]
      cases nz <;> simp [exOf, endR, less]
    | fin nz hz wz ez =>
      have iz : (exOf (.fin nz hz wz ez)).inf = false := exOf_inf _ _ _ _
      rw [end_fin, end_fin]
      generalize exOf (.fin nz hz wz ez) = y at *
      generalize exOf (.fin na ha wa ea) = x at *
      have av := above_val x y
      unfold canX
      rw [ia, iz]
      simp [less, av]
/-! ### read, as the program has it -/
noncomputable def readP (t : List Int) : List Int := if 8192 < t.length then [-1] else match whole t.length (pEnds t) with
  | .error k => [-2, (k : Int)]
  | .ok (a :: z :: _) => if canX a z = false then [-5] else [0, lowEnd (besideX a), highEnd (besideX z)]
  | .ok _ => [0, EMP, EMP]
theorem read_P {t : List Int} (h : Byt t) : PyWrxtee.read t = readP t := by
  rw [read_E h]
  unfold readB readP
  by_cases c : 8192 < t.length
  · rw [if_pos c, if_pos c]
  · rw [if_neg c, if_neg c, pEnds_E (by omega)]
    cases readPairI t with
    | error k => rfl
    | ok o =>
      cases o with
      | none => rfl
      | some x =>
        obtain ⟨a, z⟩ := x
        simp only [saidOf]
        have ce := can_E a z
        by_cases d : canX (exOf a) (exOf z) = false
        · rw [if_pos d, if_pos (ce.mp d)]
        · rw [if_neg d, if_neg (fun q => d (ce.mpr q)), low_ok (beside_R a), high_ok (beside_R z)]
          rfl
end Bx
end
section
namespace Bx
open Ew EwIval Wrxtee
/-! ### how great what is read can be -/
theorem dgt_pos (c : Int) : 0 ≤ dgt c := by unfold dgt; split <;> (try split) <;> omega
theorem run_digits {base : Int} {m : Nat} {b : List Int} : ∀ c ∈ b.take (runD base m b), dgt c < base := by
  induction m generalizing b with
  | zero => intro c h; simp [runD] at h
  | succ m ih =>
    cases b with
    | nil => intro c h; simp [runD] at h
    | cons a r =>
      intro c h
      unfold runD at h
      split at h
      · rename_i q
        rw [Nat.add_comm, List.take_succ_cons] at h
        rcases List.mem_cons.mp h with rfl | h
        · exact q
        · exact ih c h
      · simp at h
theorem valD_lt {base : Int} (h0 : 0 < base) (h16 : base ≤ 16) {k : Nat} {l : List Int} (hl : ∀ c ∈ l, dgt c < base) {w : Int} (w0 : 0 ≤ w) (w1 : w < ((2 ^ k : Nat) : Int)) :
    0 ≤ valD base w l ∧ valD base w l < ((2 ^ (k + 4 * l.length) : Nat) : Int) := by
  induction l generalizing w k with
  | nil => exact ⟨w0, by simpa [valD] using w1⟩
  | cons c r ih =>
    have dc := hl c (by simp)
    have dp := dgt_pos c
    have n0 : 0 ≤ w * base + dgt c := by
      have := Int.mul_nonneg w0 (show 0 ≤ base by omega)
      omega
    have n1 : w * base + dgt c < ((2 ^ (k + 4) : Nat) : Int) := by
      have e : ((2 ^ (k + 4) : Nat) : Int) = ((2 ^ k : Nat) : Int) * 16 := by rw [Nat.pow_add]; simp
      rw [e]
      have a : w + 1 ≤ ((2 ^ k : Nat) : Int) := by omega
      have b : (w + 1) * base ≤ ((2 ^ k : Nat) : Int) * 16 := Int.mul_le_mul a h16 (by omega) (by omega)
      have c' : (w + 1) * base = w * base + base := by rw [Int.add_mul, Int.one_mul]
      omega
    have := ih (k := k + 4) (fun z m => hl z (by simp [m])) n0 n1
    have e : k + 4 + 4 * r.length = k + 4 * (c :: r).length := by simp only [List.length_cons]; omega
    rw [e] at this
    exact this
theorem takeD_lt {base : Int} (h0 : 0 < base) (h16 : base ≤ 16) {k m : Nat} {b : List Int} {w v : Int} {n : Nat} (w0 : 0 ≤ w) (w1 : w < ((2 ^ k : Nat) : Int)) (h : takeD base m w b = .ok (v, n)) : 0 ≤ v ∧ v < ((2 ^ (k + 4 * n) : Nat) : Int) := by
  have ln := takeD_len h
  unfold takeD at h
  split at h
  · cases h
  · injection h with h
    injection h with h1 h2
    have := valD_lt h0 h16 (k := k) (l := b.take (runD base m b)) run_digits w0 w1
    rw [h1, List.length_take, Nat.min_eq_left (by have := (run_le base m b).2; omega), h2] at this
    exact this
structure ExS (x : Ex) : Prop where
  w : x.whole.natAbs.log2 < 80000
  t0 : -140000 ≤ x.twos
  t1 : x.twos ≤ 110000
  f0 : -110000 ≤ x.fives
  f1 : x.fives ≤ 110000
theorem pExp_small {mark : Int} {b : List Int} {e : Int} {n : Nat} (h : pExp mark b = .ok (e, n)) : -100000 < e ∧ e < 100000 := by
  have go : ∀ (b' : List Int) (v : Int) (m : Nat), takeD 10 5 0 b' = .ok (v, m) → 0 ≤ v ∧ v < 100000 := by
    intro b' v m h
    have ln := takeD_len h
    have m5 := (run_le 10 5 b').1
    unfold takeD at h
    split at h
    · cases h
    · injection h with h
      injection h with h1 h2
      have dg := run_digits (base := 10) (m := 5) (b := b')
      have ll : (b'.take (runD 10 5 b')).length ≤ 5 := by rw [List.length_take]; omega
      generalize b'.take (runD 10 5 b') = l at *
      subst h1
      unfold valD
      match l, dg, ll with
      | [], _, _ => simp
      | [a], dg, _ => have := dg a (by simp); have := dgt_pos a; simp; omega
      | [a, b], dg, _ => have := dg a (by simp); have := dgt_pos a; have := dg b (by simp); have := dgt_pos b; simp; omega
      | [a, b, c], dg, _ => have := dg a (by simp); have := dgt_pos a; have := dg b (by simp); have := dgt_pos b; have := dg c (by simp); have := dgt_pos c; simp; omega
      | [a, b, c, d], dg, _ => have := dg a (by simp); have := dgt_pos a; have := dg b (by simp); have := dgt_pos b; have := dg c (by simp); have := dgt_pos c; have := dg d (by simp); have := dgt_pos d; simp; omega
      | [a, b, c, d, e], dg, _ => have := dg a (by simp); have := dgt_pos a; have := dg b (by simp); have := dgt_pos b; have := dg c (by simp); have := dgt_pos c; have := dg d (by simp); have := dgt_pos d; have := dg e (by simp); have := dgt_pos e; simp; omega
      | a :: b :: c :: d :: e :: f :: r, _, ll => exact absurd ll (by simp)
  unfold pExp at h
  split at h
  · split at h
    · split at h
      · cases h
      · rename_i v m e2
        have := go _ _ _ e2
        injection h with h; injection h with h1 h2
        omega
    · split at h
      · cases h
      · rename_i v m e2
        have := go _ _ _ e2
        injection h with h; injection h with h1 h2
        omega
  · injection h with h; injection h with h1 h2; omega
theorem log_lt {z : Int} {k : Nat} (hk : 0 < k) (h0 : 0 ≤ z) (h : z < ((2 ^ k : Nat) : Int)) : z.natAbs.log2 < k := log2_lt_of hk (by omega)
theorem sign_log {sign z : Int} (hs : sign = 1 ∨ sign = -1) : (sign * z).natAbs = z.natAbs := by
  rcases hs with rfl | rfl <;> simp
theorem mkEx_small {base sign w e n : Int} {k : Nat} (hk : k ≤ 79000) (hs : sign = 1 ∨ sign = -1) (w0 : 0 ≤ w) (w1 : w < ((2 ^ k : Nat) : Int)) (e0 : -100000 < e) (e1 : e < 100000) (n0 : 0 ≤ n) (n1 : n ≤ 8192) : ExS (mkEx base sign w e n) := by
  have lw : (sign * w).natAbs.log2 < 80000 := by
    rw [sign_log hs]
    by_cases z : k = 0
    · subst z
      have : w = 0 := by simp at w1; omega
      rw [this]; decide
    · have := log_lt (Nat.pos_of_ne_zero z) w0 w1
      omega
  unfold mkEx
  split
  · exact ⟨lw, by simp only; omega, by simp only; omega, by simp only; omega, by simp only; omega⟩
  · exact ⟨lw, by simp only; omega, by simp only; omega, by simp only; omega, by simp only; omega⟩
theorem pFin_small {base mark sign w : Int} (h0 : 0 < base) (h16 : base ≤ 16) {k : Nat} (hk : k ≤ 40000) (hs : sign = 1 ∨ sign = -1) (w0 : 0 ≤ w) (w1 : w < ((2 ^ k : Nat) : Int)) {b : List Int} (hb : b.length ≤ 8192) {x : Ex} {n : Nat} (h : pFin base mark sign w b = .ok (x, n)) : ExS x := by
  unfold pFin at h
  split at h
  · split at h
    · cases h
    · rename_i v m e1
      split at h
      · cases h
      · rename_i e i e2
        have a1 := takeD_len e1
        have a2 := takeD_lt h0 h16 w0 w1 e1
        have a3 := pExp_small e2
        rw [List.length_drop] at a1
        injection h with h; injection h with h1 h2
        rw [← h1]
        exact mkEx_small (k := k + 4 * m) (by omega) hs a2.1 a2.2 a3.1 a3.2 (by omega) (by omega)
  · split at h
    · cases h
    · rename_i e i e2
      have a3 := pExp_small e2
      injection h with h; injection h with h1 h2
      rw [← h1]
      exact mkEx_small (k := k) (by omega) hs w0 w1 a3.1 a3.2 (by omega) (by omega)
theorem later_ok {α : Type} {j : Nat} {r : Par α} {x : α} {n : Nat} (h : later j r = .ok (x, n)) : ∃ m, r = .ok (x, m) ∧ n = j + m := by
  cases r with
  | error k => cases h
  | ok z =>
    obtain ⟨y, m⟩ := z
    injection h with h; injection h with h1 h2
    exact ⟨m, by rw [h1], h2.symm⟩
theorem pMag_small {sign : Int} (hs : sign = 1 ∨ sign = -1) {b : List Int} (hb : b.length ≤ 8192) {x : Ex} {n : Nat} (h : pMag sign b = .ok (x, n)) : ExS x := by
  unfold pMag at h
  split at h
  · split at h
    · cases h
    · injection h with h; injection h with h1 h2
      rw [← h1]
      rcases hs with rfl | rfl <;> exact ⟨by decide, by decide, by decide, by decide, by decide⟩
  · split at h
    · cases h
    · rename_i v m e1
      have a1 := takeD_len e1
      have a2 := takeD_lt (k := 0) (by decide) (by decide) (Int.le_refl _) (by decide) e1
      split at h
      · split at h
        · cases h
        · rename_i v2 n2 e2
          have b1 := takeD_len e2
          have b2 := takeD_lt (k := 0) (by decide) (by decide) (Int.le_refl _) (by decide) e2
          rw [List.length_drop] at b1
          obtain ⟨i, e3, _⟩ := later_ok h
          exact pFin_small (by decide) (by decide) (k := 0 + 4 * n2) (by omega) hs b2.1 b2.2 (by rw [List.length_drop]; omega) e3
      · obtain ⟨i, e3, _⟩ := later_ok h
        exact pFin_small (by decide) (by decide) (k := 0 + 4 * m) (by omega) hs a2.1 a2.2 (by rw [List.length_drop]; omega) e3
theorem pNum_small {b : List Int} (hb : b.length ≤ 8192) {x : Ex} {n : Nat} (h : pNum b = .ok (x, n)) : ExS x := by
  unfold pNum at h
  split at h
  · obtain ⟨i, e, _⟩ := later_ok h
    exact pMag_small (.inr rfl) (by rw [List.length_drop]; omega) e
  · exact pMag_small (.inl rfl) hb h
theorem pEnds_small {b : List Int} (hb : b.length ≤ 8192) {xs : List Ex} {n : Nat} (h : pEnds b = .ok (xs, n)) : (xs = [] ∨ ∃ x y, xs = [x, y]) ∧ ∀ x ∈ xs, ExS x := by
  unfold pEnds at h
  split at h
  · split at h
    · cases h
    · injection h with h; injection h with h1 h2
      rw [← h1]; exact ⟨.inl rfl, fun x m => by cases m⟩
  · split at h
    · split at h
      · cases h
      · rename_i x1 n1 e1
        split at h
        · cases h
        · split at h
          · cases h
          · rename_i x2 n2 e2
            split at h
            · cases h
            · injection h with h; injection h with h1 h2
              rw [← h1]
              refine ⟨.inr ⟨_, _, rfl⟩, fun x m => ?_⟩
              simp at m
              rcases m with rfl | rfl
              · exact pNum_small (by rw [List.length_drop]; omega) e1
              · exact pNum_small (by rw [List.length_drop]; omega) e2
    · split at h
      · cases h
      · rename_i x1 n1 e1
        injection h with h; injection h with h1 h2
        rw [← h1]
        refine ⟨.inr ⟨_, _, rfl⟩, fun x m => ?_⟩
        simp at m
        rw [m]
        exact pNum_small hb e1
theorem pEnds_len {b : List Int} {xs : List Ex} {n : Nat} (h : pEnds b = .ok (xs, n)) : n ≤ b.length := by
  unfold pEnds at h
  have tw : ∀ (w c : List Int) (m : Nat), takeW w c = .ok m → m ≤ c.length ∧ m = w.length := by
    intro w c m e
    unfold takeW at e
    split at e
    · rename_i z
      injection e with e
      have := (commW_le w c).2
      omega
    · cases e
  split at h
  · split at h
    · cases h
    · rename_i m e
      have := (tw _ _ _ e).1
      injection h with h; injection h with h1 h2
      omega
  · split at h
    · split at h
      · cases h
      · rename_i x1 n1 e1
        split at h
        · cases h
        · split at h
          · cases h
          · rename_i x2 n2 e2
            split at h
            · cases h
            · rename_i m4 e4
              have a := tw _ _ _ e4
              rw [List.length_drop] at a
              simp at a
              injection h with h; injection h with h1 h2
              omega
    · split at h
      · cases h
      · rename_i x1 n1 e1
        have := pNum_len e1
        injection h with h; injection h with h1 h2
        omega
/-! ### powers of five -/
theorem five_lt (n : Nat) : 5 ^ n < 2 ^ (3 * n + 1) := by
  have h1 : 5 ^ n ≤ 8 ^ n := Nat.pow_le_pow_left (by decide) n
  have e : 8 ^ n = 2 ^ (3 * n) := by rw [Nat.pow_mul]
  rw [e] at h1
  exact Nat.lt_of_le_of_lt h1 (Nat.pow_lt_pow_right (by decide) (by generalize 3 * n = k; exact Nat.lt_succ_self k))
theorem five_log (n : Nat) : (5 ^ n).log2 ≤ 3 * n := by
  have := log2_lt_of (k := 3 * n + 1) (by omega) (five_lt n)
  omega
theorem mul_log {a : Int} {b : Nat} : (a * (b : Int)).natAbs.log2 ≤ a.natAbs.log2 + b.log2 + 1 := by
  rw [Int.natAbs_mul, Int.natAbs_natCast]
  by_cases z : a.natAbs * b = 0
  · rw [z]; simp
  · have l1 : a.natAbs < 2 ^ (a.natAbs.log2 + 1) := Nat.lt_log2_self
    have l2 : b < 2 ^ (b.log2 + 1) := Nat.lt_log2_self
    have : a.natAbs * b < 2 ^ (a.natAbs.log2 + b.log2 + 2) := by
      have h := Nat.mul_lt_mul'' l1 l2
      rw [← Nat.pow_add] at h
      rw [show a.natAbs.log2 + b.log2 + 2 = a.natAbs.log2 + 1 + (b.log2 + 1) by omega]; exact h
    have := log2_lt_of (by omega) this
    omega
theorem besideX_ok {x : Ex} (h : ExS x) : Ok (besideX x) ∧ (x.inf = false → x.fives < 0 → Lg ⟨x.whole, x.twos, false⟩ ∧ Lg ⟨((5 ^ (-x.fives).toNat : Nat) : Int), 0, false⟩) := by
  have hw := h.w
  have t0 := h.t0
  have t1 := h.t1
  have f0 := h.f0
  have f1 := h.f1
  have lg : x.fives < 0 → Lg ⟨x.whole, x.twos, false⟩ ∧ Lg ⟨((5 ^ (-x.fives).toNat : Nat) : Int), 0, false⟩ := fun c => by
    have := five_log (-x.fives).toNat
    exact ⟨⟨by simp only; omega, by simp only; omega, by simp only; omega⟩, ⟨by simp only [Int.natAbs_natCast]; omega, by simp only; omega, by simp only; omega⟩⟩
  refine ⟨?_, fun _ c => lg c⟩
  unfold besideX
  split
  · exact ⟨by simp only; omega, by simp only; omega, by simp only; omega⟩
  · split
    · have := mul_log (a := x.whole) (b := 5 ^ x.fives.toNat)
      have := five_log x.fives.toNat
      exact ⟨by simp only; omega, by simp only; omega, by simp only; omega⟩
    · obtain ⟨a, b⟩ := lg (by omega)
      exact over_okL a b (Int.natCast_nonneg _)
end Bx
end
section
set_option Elab.async false
set_option linter.all false
set_option maxRecDepth 100000
namespace L2
open PySem PySem.Spec PyProof.Rows
/-! ## the program's Value -/
noncomputable def vf (w p : Int) (i : Bool) : List (Str × V) := putF "infinite" (.bl i) (putF "power" (.int p) (putF "whole" (.int w) []))
theorem vf_look (w p : Int) (i : Bool) : (vf w p i).lookup ("whole" : Str) = some (.int w) ∧ (vf w p i).lookup ("power" : Str) = some (.int p) ∧ (vf w p i).lookup ("infinite" : Str) = some (.bl i) := by
  unfold vf
  refine ⟨?_, ?_, ?_⟩
  · rw [lookup_putF, if_neg (by decide +kernel), lookup_putF, if_neg (by decide +kernel), lookup_putF, if_pos rfl]
  · rw [lookup_putF, if_neg (by decide +kernel), lookup_putF, if_pos rfl]
  · rw [lookup_putF, if_pos rfl]
noncomputable def VAt (C : Addr) (H : Hp) (a : Addr) (v : Bx.Val) : Prop := ∃ dx, H a = some (.ins C dx (vf v.whole v.power v.inf))
theorem VAt.same {C : Addr} {H H' : Hp} {a : Addr} {v : Bx.Val} (h : VAt C H a v) (s : Same H H') : VAt C H' a v := by
  obtain ⟨dx, e⟩ := h; exact ⟨dx, s _ _ e⟩
theorem VAt.inj {C : Addr} {H : Hp} {a : Addr} {v u : Bx.Val} (h : VAt C H a v) (k : VAt C H a u) : v = u := by
  obtain ⟨dx, e⟩ := h
  obtain ⟨dy, f⟩ := k
  rw [e] at f
  have f' := Option.some.inj f
  injection f' with _ _ g
  have a1 := vf_look v.whole v.power v.inf
  have a2 := vf_look u.whole u.power u.inf
  rw [g] at a1
  have b1 := Option.some.inj (a1.1.symm.trans a2.1)
  have b2 := Option.some.inj (a1.2.1.symm.trans a2.2.1)
  have b3 := Option.some.inj (a1.2.2.symm.trans a2.2.2)
  injection b1 with b1
  injection b2 with b2
  injection b3 with b3
  cases v; cases u
  simp only at b1 b2 b3
  subst b1 b2 b3
  rfl
theorem vat_ex {C : Addr} {H : Hp} {p : Addr} {v : Bx.Val} (hv : VAt C H p v) {R : Bx.Val → Prop} : (∃ u, VAt C H p u ∧ R u) ↔ R v := by
  constructor
  · rintro ⟨u, h, r⟩; rw [hv.inj h]; exact r
  · intro r; exact ⟨v, hv, r⟩
structure VTxt (K : PySem.W.Frag) (C : Addr) : Prop where
  cl : Cls K C
  n1 : NoAttr K C "whole"
  n2 : NoAttr K C "power"
  n3 : NoAttr K C "infinite"
noncomputable def tFV (C : Addr) (g : Bx.Val → V) (te : TE) : TE := fun σ H Q => te σ H fun x H1 => ∃ a v, x = .ref a ∧ VAt C H1 a v ∧ Q (g v) H1
section
variable {X : Cx} {e : Expr} {es : List Expr} {te : TE} {t : TA} {p pos : Pos} {C : Addr}
theorem pe_whole (T : VTxt X.K C) (he : PE X e te) (hb : attributeBase e "whole" X.env (eval e X.env) = eval e X.env := by rfl) : PE X (.Attribute e "whole" pos) (tFV C (fun v => .int v.whole) te) := by
  intro pins s σ H Q I h
  refine attr_of hb (thn (he pins s σ H _ I h) fun u s1 ⟨x, H1, I1, rx, a, v, ex, ⟨dx, ea⟩, q⟩ => ?_)
  subst ex
  obtain rfl : u = Value.ref a := rx
  exact getattr_ok I1 ea T.cl T.n1 (vf_look _ _ _).1 fun u' s2 I2 ru => ⟨_, H1, I2, ru, q⟩
theorem pe_power (T : VTxt X.K C) (he : PE X e te) (hb : attributeBase e "power" X.env (eval e X.env) = eval e X.env := by rfl) : PE X (.Attribute e "power" pos) (tFV C (fun v => .int v.power) te) := by
  intro pins s σ H Q I h
  refine attr_of hb (thn (he pins s σ H _ I h) fun u s1 ⟨x, H1, I1, rx, a, v, ex, ⟨dx, ea⟩, q⟩ => ?_)
  subst ex
  obtain rfl : u = Value.ref a := rx
  exact getattr_ok I1 ea T.cl T.n2 (vf_look _ _ _).2.1 fun u' s2 I2 ru => ⟨_, H1, I2, ru, q⟩
theorem pe_infinite (T : VTxt X.K C) (he : PE X e te) (hb : attributeBase e "infinite" X.env (eval e X.env) = eval e X.env := by rfl) : PE X (.Attribute e "infinite" pos) (tFV C (fun v => .bl v.inf) te) := by
  intro pins s σ H Q I h
  refine attr_of hb (thn (he pins s σ H _ I h) fun u s1 ⟨x, H1, I1, rx, a, v, ex, ⟨dx, ea⟩, q⟩ => ?_)
  subst ex
  obtain rfl : u = Value.ref a := rx
  exact getattr_ok I1 ea T.cl T.n3 (vf_look _ _ _).2.2 fun u' s2 I2 ru => ⟨_, H1, I2, ru, q⟩
end
noncomputable def spInitV (C : Addr) : Sp := fun vs H Q _ => ∃ p dx w pw i, vs = [.ref p, .int w, .int pw, .bl i] ∧ H p = some (.ins C dx []) ∧ ∀ H' : Hp, VAt C H' p ⟨w, pw, i⟩ → (∀ b o, H b = some o → b ≠ p → H' b = some o) → Q .non H'
noncomputable def MkV (P : Program) (w : World) (K : PySem.W.Frag) (mg : Str → Option Value) (base : Heap) (C : Addr) (k : Nat) : Prop :=
  ∃ f fd, Mk K C f ∧ FnOk P w K mg base CX0 k f fd ["self", "whole", "power", "infinite"] (spInitV C) ∧ mg "Value" = some (.ref C) ∧ Binds K fd ["self", "whole", "power", "infinite"] []
noncomputable def mkq (C : Addr) (vs : List V) (H1 : Hp) (Q : VK) : Prop := ∃ w p i, vs = [.int w, .int p, .bl i] ∧ ∀ (x : Addr) (H' : Hp), Same H1 H' → VAt C H' x ⟨w, p, i⟩ → Q (.ref x) H'
theorem mkq_app {C : Addr} {w p : Int} {i : Bool} {H1 : Hp} {Q : VK} : mkq C [.int w, .int p, .bl i] H1 Q ↔ ∀ (x : Addr) (H' : Hp), Same H1 H' → VAt C H' x ⟨w, p, i⟩ → Q (.ref x) H' := by
  constructor
  · rintro ⟨_, _, _, e, h⟩; cases e; exact h
  · intro h; exact ⟨w, p, i, rfl, h⟩
noncomputable def tMkV (C : Addr) (t : TA) : TE := fun σ H Q => t σ H fun vs H1 => mkq C vs H1 Q
section
variable {X : Cx} {e : Expr} {es : List Expr} {te : TE} {t : TA} {p pos : Pos} {C : Addr} {k : Nat}
theorem pe_mkV (M : MkV X.prog X.w X.K X.mg X.base C k) (hr : Room (k + 1) X.A) (hg : Gl X "Value") (ha : PA X (e :: es) t)
    (he : starEach (e :: es) X.env = (false, eval e X.env) :: starEach es X.env := by rfl) (hpl : (backTo pos (starEach es X.env)).any (·.1) = false := by rfl) :
    PE X (.Call (.Name "Value" p) (e :: es) [] pos) (tMkV C t) := by
  obtain ⟨f, fd, mk, F, hm, hb⟩ := M
  intro pins s σ H Q I h
  refine wpAny_Call_Name_kw (ld_glob I hg hm ?_ (by decide))
  refine PySem.W.callWith_K (h₀ := X.base) I.ok.mod.kin mk.kp (thn (ha pos pins s σ H _ I h) fun us s1 ⟨vs, H1, I1, r, w, pw, i, ev, q⟩ => ⟨I1.kIn, ?_⟩) he hpl
  subst ev
  exact run_make (E := E0) mk F hr hb .nil pass0 I1 r fun x dx nx nd ne => ⟨x, dx, w, pw, i, rfl, upd_same, fun H' hv kp => ⟨rfl, q x H' (Same.made nx nd kp) hv⟩⟩
/-- max(a, b), min(a, b) of two numbers -/
noncomputable def rMx (xs : List V) (H : Hp) (Q : VK) : Prop := ∃ i j, xs = [.int i, .int j] ∧ Q (.int (max i j)) H
noncomputable def rMn (xs : List V) (H : Hp) (Q : VK) : Prop := ∃ i j, xs = [.int i, .int j] ∧ Q (.int (min i j)) H
theorem rMx_app {i j : Int} {H : Hp} {Q : VK} : rMx [.int i, .int j] H Q ↔ Q (.int (max i j)) H := by
  constructor
  · rintro ⟨_, _, e, h⟩; cases e; exact h
  · intro h; exact ⟨i, j, rfl, h⟩
theorem rMn_app {i j : Int} {H : Hp} {Q : VK} : rMn [.int i, .int j] H Q ↔ Q (.int (min i j)) H := by
  constructor
  · rintro ⟨_, _, e, h⟩; cases e; exact h
  · intro h; exact ⟨i, j, rfl, h⟩
theorem call_mx (hc : X.calm = true) : CallR X (.builtin "max") rMx := by
  intro pins s σ H xs us Q I r h
  obtain ⟨i, j, rfl, q⟩ := h
  refine call_max2 hc pins s σ H _ us Q I r ⟨i, j, rfl, ?_⟩
  have e : (if j > i then j else i) = max i j := by split <;> omega
  rw [e]; exact q
theorem call_mn (hc : X.calm = true) : CallR X (.builtin "min") rMn := by
  intro pins s σ H xs us Q I r h
  obtain ⟨i, j, rfl, q⟩ := h
  refine call_min2 hc pins s σ H _ us Q I r ⟨i, j, rfl, ?_⟩
  have e : (if j < i then j else i) = min i j := by split <;> omega
  rw [e]; exact q
theorem boot_mx : bootBuiltins "max" = some (.builtin "max") := by first | rfl | decide +kernel
theorem boot_mn : bootBuiltins "min" = some (.builtin "min") := by first | rfl | decide +kernel
/-- n.bit_length() -/
theorem mt_bitlen : MtR X "int.bit_length" (fun x xs H Q => ∃ i, x = .int i ∧ xs = [] ∧ Q (.int (Builtin.Int.intBits i)) H) := by
  intro pins s σ H x xs v us Q I rx r h
  obtain ⟨i, rfl, rfl, q⟩ := h
  obtain ⟨t, rfl⟩ := rx
  cases r
  exact call_int_bit_length ⟨.int _, H, I.tok _, ⟨_, rfl⟩, q⟩
end
theorem ib_le {x : Int} {k : Nat} (h : x.natAbs < 2 ^ k) : Builtin.Int.intBits x ≤ k := by
  unfold Builtin.Int.intBits
  split
  · exact Nat.zero_le _
  · rename_i c
    have c' : x.natAbs ≠ 0 := by intro z; apply c; simp; omega
    exact (Nat.log2_lt c').mpr h
theorem ib_log {x : Int} : Builtin.Int.intBits x ≤ x.natAbs.log2 + 1 := by
  unfold Builtin.Int.intBits
  split <;> omega
/-- size_beside's end -/
theorem sb_tail {Q : VK} {H : Hp} {E m over : Int} (h0 : 0 ≤ E) (h1 : E < 1000000000)
    (k : Q (.int (if m = 18446744073709551616 then (if 32767 ≤ E + 1 then over else (E + 1) * 18446744073709551616 + 9223372036854775808) else if 32767 ≤ E then over else if m < 9223372036854775808 then m else E * 18446744073709551616 + m)) H) :
    if m = 18446744073709551616 then (if 32767 ≤ E + 1 then Q (.int over) H else (Builtin.Int.intBits (E + 1) ≤ 1048576 ∧ Builtin.Int.intBits 18446744073709551616 ≤ 1048576) ∧ Q (.int ((E + 1) * 18446744073709551616 + 9223372036854775808)) H)
    else if 32767 ≤ E then Q (.int over) H else if m < 9223372036854775808 then Q (.int m) H else (Builtin.Int.intBits E ≤ 1048576 ∧ Builtin.Int.intBits 18446744073709551616 ≤ 1048576) ∧ Q (.int (E * 18446744073709551616 + m)) H := by
  have b1 : Builtin.Int.intBits (E + 1) ≤ 1048576 := Nat.le_trans (ib_le (k := 30) (by omega)) (by decide)
  have b2 : Builtin.Int.intBits E ≤ 1048576 := Nat.le_trans (ib_le (k := 30) (by omega)) (by decide)
  have b3 : Builtin.Int.intBits 18446744073709551616 ≤ 1048576 := Nat.le_trans (ib_le (k := 65) (by decide)) (by decide)
  by_cases y : m = 18446744073709551616
  · simp only [y, if_true] at k ⊢
    by_cases z : 32767 ≤ E + 1
    · simp only [z, if_true] at k ⊢; exact k
    · simp only [z, if_false] at k ⊢; exact ⟨⟨b1, b3⟩, k⟩
  · simp only [y, if_false] at k ⊢
    by_cases z : 32767 ≤ E
    · simp only [z, if_true] at k ⊢; exact k
    · simp only [z, if_false] at k ⊢
      by_cases u : m < 9223372036854775808
      · simp only [u, if_true] at k ⊢; exact k
      · simp only [u, if_false] at k ⊢; exact ⟨⟨b2, b3⟩, k⟩
/-! ## promises -/
noncomputable def spV1 (C : Addr) (pre : Int → Prop) (g : Int → Bx.Val) : Sp := fun vs H Q _ => ∃ a, vs = [.int a] ∧ pre a ∧ ∀ (x : Addr) (H' : Hp), Same H H' → VAt C H' x (g a) → Q (.ref x) H'
noncomputable def spVI (C : Addr) (pre : Bx.Val → Prop) (g : Bx.Val → Int) : Sp := fun vs H Q _ => ∃ p v, vs = [.ref p] ∧ VAt C H p v ∧ pre v ∧ ∀ H' : Hp, Same H H' → Q (.int (g v)) H'
noncomputable def spVVV (C : Addr) (pre : Bx.Val → Bx.Val → Prop) (g : Bx.Val → Bx.Val → Bx.Val) : Sp := fun vs H Q _ => ∃ p q v o, vs = [.ref p, .ref q] ∧ VAt C H p v ∧ VAt C H q o ∧ pre v o ∧ ∀ (x : Addr) (H' : Hp), Same H H' → VAt C H' x (g v o) → Q (.ref x) H'
noncomputable def sp3 (pre : Int → Int → Bool → Prop) (g : Int → Int → Bool → V) : Sp := fun vs H Q _ => ∃ a b c, vs = [.int a, .int b, .bl c] ∧ pre a b c ∧ Q (g a b c) H
noncomputable def spV3 (C : Addr) (pre : Int → Int → Bool → Prop) (g : Int → Int → Bool → Bx.Val) : Sp := fun vs H Q _ => ∃ a b c, vs = [.int a, .int b, .bl c] ∧ pre a b c ∧ ∀ (x : Addr) (H' : Hp), Same H H' → VAt C H' x (g a b c) → Q (.ref x) H'
section
variable {C p q : Addr} {H : Hp} {Q : VK} {E : XK} {v o : Bx.Val}
theorem spV1_app {pre : Int → Prop} {g : Int → Bx.Val} {a : Int} : spV1 C pre g [.int a] H Q E ↔ pre a ∧ ∀ (x : Addr) (H' : Hp), Same H H' → VAt C H' x (g a) → Q (.ref x) H' := by
  constructor
  · rintro ⟨_, e, h⟩; cases e; exact h
  · intro h; exact ⟨a, rfl, h⟩
theorem sp3_app {pre : Int → Int → Bool → Prop} {g : Int → Int → Bool → V} {a b : Int} {c : Bool} : sp3 pre g [.int a, .int b, .bl c] H Q E ↔ pre a b c ∧ Q (g a b c) H := by
  constructor
  · rintro ⟨_, _, _, e, h⟩; cases e; exact h
  · intro h; exact ⟨a, b, c, rfl, h⟩
theorem spV3_app {pre : Int → Int → Bool → Prop} {g : Int → Int → Bool → Bx.Val} {a b : Int} {c : Bool} : spV3 C pre g [.int a, .int b, .bl c] H Q E ↔ pre a b c ∧ ∀ (x : Addr) (H' : Hp), Same H H' → VAt C H' x (g a b c) → Q (.ref x) H' := by
  constructor
  · rintro ⟨_, _, _, e, h⟩; cases e; exact h
  · intro h; exact ⟨a, b, c, rfl, h⟩
theorem spVI_app {pre : Bx.Val → Prop} {g : Bx.Val → Int} (hv : VAt C H p v) : spVI C pre g [.ref p] H Q E ↔ pre v ∧ ∀ H' : Hp, Same H H' → Q (.int (g v)) H' := by
  constructor
  · rintro ⟨_, u, e, hu, h⟩; cases e; rw [hv.inj hu]; exact h
  · intro h; exact ⟨p, v, rfl, hv, h⟩
theorem spVVV_app {pre : Bx.Val → Bx.Val → Prop} {g : Bx.Val → Bx.Val → Bx.Val} (hv : VAt C H p v) (ho : VAt C H q o) : spVVV C pre g [.ref p, .ref q] H Q E ↔ pre v o ∧ ∀ (x : Addr) (H' : Hp), Same H H' → VAt C H' x (g v o) → Q (.ref x) H' := by
  constructor
  · rintro ⟨_, _, u, u', e, hu, hu', h⟩; cases e; rw [hv.inj hu, ho.inj hu']; exact h
  · intro h; exact ⟨p, q, v, o, rfl, hv, ho, h⟩
end
end L2
end
section
set_option Elab.async false
set_option linter.all false
set_option maxRecDepth 100000
set_option maxHeartbeats 4000000
namespace L2
open PySem PySem.Spec PyProof.Rows
section
variable {X : Cx} {e : Expr} {es : List Expr} {t : TA} {p pos kp kpos : Pos} {k : Nat} {sp : Sp} {nm x : Str}
end
section
variable {X : Cx} {e : Expr} {es : List Expr} {t : TA} {p pos kp kpos : Pos} {k : Nat} {sp : Sp} {nm x : Str}
end
/-! ## a def handed on as a value, called -/
section
variable {X : Cx} {e fe : Expr} {es : List Expr} {te : TE} {t : TA} {pos : Pos}
end
/-! ## promises of lists -/
section
variable {H : Hp} {Q : VK} {E : XK} {a b : Int}
end
end L2
end
section
set_option Elab.async false
set_option linter.all false
set_option maxRecDepth 100000
set_option maxHeartbeats 4000000
namespace L2
open PySem PySem.Spec PyProof.Rows
/-! ## a comprehension over Values whose element is a def's number -/
theorem take_snoc1 {α : Type} : ∀ {l : List α} {i : Nat} {x : α}, l[i]? = some x → l.take (i + 1) = l.take i ++ [x]
  | [], i, x, h => by simp at h
  | a :: l, 0, x, h => by
    have e : a = x := Option.some.inj h
    subst e
    rfl
  | a :: l, i + 1, x, h => by
    have ih := take_snoc1 (l := l) (i := i) (x := x) h
    show a :: l.take (i + 1) = a :: l.take i ++ [x]
    rw [ih]
    rfl
end L2
end
section
set_option Elab.async false
set_option linter.all false
set_option maxRecDepth 100000
namespace L2
open PySem PySem.Spec PyProof.Rows
/-! ## more promises -/
/-- three numbers -/
noncomputable def spI3 (pre : Int → Int → Int → Prop) (g : Int → Int → Int → V) : Sp := fun vs H Q _ => ∃ a b c, vs = [.int a, .int b, .int c] ∧ pre a b c ∧ Q (g a b c) H
theorem spI3_app {pre : Int → Int → Int → Prop} {g : Int → Int → Int → V} {H : Hp} {Q : VK} {E : XK} {a b c : Int} : spI3 pre g [.int a, .int b, .int c] H Q E ↔ pre a b c ∧ Q (g a b c) H := by
  constructor
  · rintro ⟨_, _, _, e, h⟩; cases e; exact h
  · intro h; exact ⟨a, b, c, rfl, h⟩
theorem sb_shr {a : Int} (w0 : 0 < a) (w1 : a.natAbs.log2 < 1000000) (d : Nat) : Builtin.Int.intBits (a / 2 ^ d) ≤ 1000001 := by
  obtain ⟨n, rfl⟩ : ∃ n : Nat, a = n := ⟨a.toNat, by omega⟩
  refine Nat.le_trans ib_log ?_
  have e : ((n : Int) / 2 ^ d).natAbs = n / 2 ^ d := by rw [Bx.two_pow_int, ← Int.natCast_ediv, Int.natAbs_natCast]
  rw [e]
  rw [Int.natAbs_natCast] at w1
  have : Nat.log2 (n / 2 ^ d) ≤ Nat.log2 n := by
    by_cases z : n / 2 ^ d = 0
    · rw [z]; exact Nat.zero_le _
    · exact (Nat.le_log2 (by omega)).mpr (Nat.le_trans (Nat.log2_self_le z) (Nat.div_le_self _ _))
  omega
end L2
end
section
set_option maxHeartbeats 4000000
set_option Elab.async false
set_option linter.all false
set_option maxRecDepth 100000
namespace L2
open PySem PySem.Spec PyProof.Rows
open PySem.W (WData Codec OpenSpec Well WellAll ReadsW ReadsAllW)
theorem spec_callS {P : Program} {w : World} {K : PySem.W.Frag} {mg mb : Str → Option Value} {CX : CXT} {k : Nat} {fa : Addr} {fd : FuncData} {ps : List Str} {sp : Sp} {s₁ : Shared} {vals : List Value} {ds : List WData} {R : PySem.W.WRecords} {cl : Str → Option Addr} {d0 : WData}
    (KX : K.In s₁.heap) (hns : s₁.heap.Ns mainGlobals mg) (hb : s₁.heap.Ns builtinsNs mb) (hbb : ∀ x : Str, x ≠ "__name__" → mb x = bootBuiltins x) (hlim : s₁.heap.NoLimit) (hsee : s₁.heap.NoSeer) (hg : s₁.gens = #[])
    (hwl : WellAll w.params s₁.heap vals ds) (hpl : plWs ds = true) (hwt : ∀ d ∈ ds, d.weight ≤ 1048576) (hr : Room k callerA)
    (F : ∀ base : Heap, K.In base → base.Ns mainGlobals mg → base.NoSeer → FnOk P w K mg base CX k fa fd ps sp) (hbind : ∀ (s : Shared) (us : List Value), us.length = ps.length → BindsTo s fd ⟨us, []⟩ (ps.zip us)) (hlen : ds.length = ps.length)
    (hsp : ∀ (H : Hp) (xs : List V), OnlyF H → DwAll K H xs ds → sp xs H (fun v H' => Dw K H' v d0) fun _ _ _ => False)
    (hCX : ∀ H e s', CX [] H s₁ (fun _ _ _ => False) e s' → False) :
    codeAny (model P w) callerA (.call (.ref fa) ⟨vals, []⟩) (fun r s' => ∃ u as, r = .ok (.ret u) ∧ ReadsW R cl s'.heap u d0 as ∧ OldK s₁.heap s'.heap ∧ s'.os = s₁.os ∧ AllBare s'.gens) s₁ := by
  obtain ⟨A, ho, ar⟩ := area_all ds vals hwl hpl hwt
  have hO : OnlyF (argH K s₁.heap A) := argH_only ar
  have hok : HOk P w (argH K s₁.heap A) s₁.heap := argH_ok ar
  have hS := dw_all KX ar ds vals hwl hpl ho
  have hV := vals_toV ho
  have hK : ∀ b u, argH K s₁.heap A b = some u → K.lookup b = none := fun b u q => (argH_is ar q).1
  have noA : ∀ {b : Addr} {o : Obj} {es : Array DictEntry} {ep : Nat}, s₁.heap.get? b = some o → o.data = .dict es ep → argH K s₁.heap A b = none := fun {b o es ep} e d => by
    cases q : argH K s₁.heap A b with
    | none => rfl
    | some u =>
      obtain ⟨_, vs, _, _, ⟨e2, _⟩ | ⟨e2, _⟩⟩ := argH_is ar q
      · rw [e2] at e
        cases e
        have d' : Data.seq vs.toArray _ = Data.dict es ep := d
        cases d'
      · rw [e2] at e
        cases e
        have d' : Data.seq vs.toArray _ = Data.dict es ep := d
        cases d'
  have noM : ∀ {b : Addr} {o : Obj}, s₁.heap.get? b = some o → o.cls = .type "module" → argH K s₁.heap A b = none := fun {b o} e d => by
    cases q : argH K s₁.heap A b with
    | none => rfl
    | some u =>
      obtain ⟨_, vs, _, _, ⟨e2, _⟩ | ⟨e2, _⟩⟩ := argH_is ar q
      · rw [e2] at e
        cases e
        exact absurd d (by simp)
      · rw [e2] at e
        cases e
        exact absurd d (by simp)
  generalize argH K s₁.heap A = H at hO hok hS hK noA noM
  have base_of : ∀ {b : Addr} {o : Obj}, s₁.heap.get? b = some o → H b = none → (hidT s₁.heap H).get? b = some o := fun e n => hidT_get e n
  have nsK : ∀ {b : Addr} {m : Str → Option Value}, s₁.heap.Ns b m → (hidT s₁.heap H).Ns b m := fun {b m} ⟨o, es, ep, e, d, r⟩ => ⟨o, es, ep, base_of e (noA e d), d, r⟩
  have nK : ∀ b o, K.lookup b = some o → H b = none := fun b o e => by
    cases q : H b with
    | none => rfl
    | some u =>
      rw [hK b u q] at e
      cases e
  have hKb : K.In (hidT s₁.heap H) := fun b o e => base_of (KX b o e) (nK b o e)
  have hM : Mod K mg (hidT s₁.heap H) := ⟨hKb, nsK hns, ⟨mb, nsK hb, hbb⟩, let ⟨mc, h1, h2⟩ := hlim; ⟨mc, nsK h1, h2⟩⟩
  have hSee : (hidT s₁.heap H).NoSeer := ⟨let ⟨mc, h1, h2⟩ := hsee.statics; ⟨mc, nsK h1, h2⟩, let ⟨mc, h1, h2⟩ := hsee.mods; ⟨mc, nsK h1, h2⟩, let ⟨mc, h1, h2⟩ := hsee.imp; ⟨mc, nsK h1, h2⟩,
    let ⟨mg', bm, ob, h1, h2, h3, h4, h5⟩ := hsee.main; ⟨mg', bm, ob, nsK h1, h2, base_of h3 (noM h3 h4), h4, h5⟩⟩
  have e0 : Env0 P w K mg (hidT s₁.heap H) callerA [] s₁ H := ⟨rfl, hM, fun b o e => of_hidT e, Nat.le_of_eq (hidT_size _ _), trivial, fun b hb => absurd (show b ∈ ([] : List Addr) from hb) (by simp), hok, .of_eq hg⟩
  have hl : vals.length = ps.length := by rw [wellAll_len hwl]; exact hlen
  refine codeAny_mono ((F _ hKb (nsK hns) hSee).run callerA [] s₁ H ⟨vals, []⟩ vals (vals.map toV) _ _ hr e0 (hbind s₁ vals hl) hV (hsp H _ hO hS)) fun r s' x => ?_
  cases r with
  | error e => exact (hCX H e s' x).elim
  | ok fl =>
    cases fl with
    | next => exact False.elim x
    | brk => exact False.elim x
    | cont => exact False.elim x
    | ret u =>
      obtain ⟨v, H', os, bare, un, hok', r', q⟩ := x
      have kept : ∀ b o, s₁.heap.get? b = some o → s'.heap.get? b = some o := fun b o e => by
        cases q2 : H b with
        | none => exact un.keep b o e q2 (by intro z; exact absurd (show b ∈ ([] : List Addr) from z) (by simp)) (by simp)
        | some u2 =>
          rcases hO b with z | ⟨ob, u3, z⟩
          · rw [q2] at z
            cases z
          · have z2 := un.frzs b ob _ z
            obtain ⟨e1, _⟩ := hok b _ z
            obtain ⟨e2, _⟩ := hok' b _ z2
            rw [e] at e1
            cases e1
            exact e2
      have KX' : K.In s'.heap := fun b o e => kept b o (KX b o e)
      obtain ⟨as, hrd⟩ := Dw.reads (R := R) (cl := cl) hok' KX' d0 v u q r'
      exact ⟨u, as, rfl, hrd, OldK.of_keep kept, os, bare⟩
/-- the goal that k_headS leaves (case hc), from the promise of the row's def: whatever the arguments that the codecs let and the row asks for, the def gives what stands for enc (f ..) -/
theorem walk_specS0 {r : OpenSpec} {k : Nat} {q : Program} {loose : List Str} {XP : (Str → Option Value) → Heap → Prop} {YP : World → Heap → Prop} {d : DefRec} {K : Params → PySem.W.Frag} {CX : World → CXT} {ps : List Str} {sp : World → Sp}
    (hi : importsNone q = true) (hwell : r.wellSaid = true) (hdf : d.params.defaults = []) (hlen : r.args.length = ps.length) (hr : Room k callerA)
    (hY : ∀ (w : World) (h : Heap), YP w h → (K w.params).In h)
    (F : ∀ (w : World) (mg : Str → Option Value) (fa : Addr) (h : Heap), YP w h → (K w.params).In h → h.Ns mainGlobals mg → mg d.name = some (.ref fa) →
      ∃ fd : FuncData, (∀ (s : Shared) (us : List Value), us.length = ps.length → BindsTo s fd ⟨us, []⟩ (ps.zip us)) ∧
        ∀ base : Heap, (K w.params).In base → base.Ns mainGlobals mg → base.NoSeer → FnOk r.prog w (K w.params) mg base (CX w) k fa fd ps (sp w))
    (hsp : ∀ (w : World) (H : Hp) (xs : List V) (a : Codec.denoteAll r.args), OnlyF H → Codec.withinAll r.args a = true → Codec.app r.args r.asked a = true → DwAll (K w.params) H xs (Codec.encAll r.args a) →
      sp w xs H (fun v H' => Dw (K w.params) H' v (r.ret.enc (Codec.app r.args r.f a))) fun _ _ _ => False)
    (hCX : ∀ (w : World) (H : Hp) (s : Shared) (e : Value) (s' : Shared), CX w [] H s (fun _ _ _ => False) e s' → False) :
    PySem.W.WalkOS q loose XP YP r d [] (fun f vs => PySem.call f vs) := by
  intro w s_0 s₁ mg mb G Y fa o pm cd doc dV kV ho hd hcd hD hmg hg args vals as hpre hlay hrd hwl hlo
  obtain ⟨a, e1, e2⟩ := PySem.W.os_pre_some hpre
  obtain ⟨e3, hwi⟩ := Codec.encAll_of_decAll r.args args a e1
  subst e3
  have KX := hY w _ Y
  obtain ⟨fd, hb, hF⟩ := F w mg fa _ Y KX G.T.g hmg
  refine PySem.W.enter_call (codeAny_mono (spec_callS (R := []) (cl := classAt s_0.heap) (d0 := r.ret.enc (Codec.app r.args r.f a)) KX G.T.g G.T.b G.T.builtins G.T.nolimit (G.T.seer hi) hg hwl (pl_encAll _ _) (layable_weight hlay) hr hF hb (by rw [encAll_len]; exact hlen)
    (fun H xs hO hS => hsp w H xs a hO hwi e2 hS) fun H e s' => hCX w H s₁ e s') fun r' s' hq => ?_)
  obtain ⟨u, as', rfl, h1, h2, h3, h4⟩ := hq
  exact ⟨.inl ⟨u, _, as', rfl, fun _ => rfl, h1, (OpenSpec.post_iff hwell hwi _ _).mpr rfl, fun z => Bool.noConfusion (show false = true from z)⟩, h2, h3, h4⟩
/-- the same where the promise hangs on the written part alone -/
theorem walk_specS {r : OpenSpec} {k : Nat} {q : Program} {loose : List Str} {XP : (Str → Option Value) → Heap → Prop} {YP : World → Heap → Prop} {d : DefRec} {K : Params → PySem.W.Frag} {CX : CXT} {ps : List Str} {sp : PySem.W.Frag → Sp}
    (hi : importsNone q = true) (hwell : r.wellSaid = true) (hdf : d.params.defaults = []) (hlen : r.args.length = ps.length) (hr : Room k callerA)
    (hY : ∀ (w : World) (h : Heap), YP w h → (K w.params).In h)
    (F : ∀ (w : World) (mg : Str → Option Value) (fa : Addr) (h : Heap), YP w h → (K w.params).In h → h.Ns mainGlobals mg → mg d.name = some (.ref fa) →
      ∃ fd : FuncData, (∀ (s : Shared) (us : List Value), us.length = ps.length → BindsTo s fd ⟨us, []⟩ (ps.zip us)) ∧
        ∀ base : Heap, (K w.params).In base → base.Ns mainGlobals mg → base.NoSeer → FnOk r.prog w (K w.params) mg base CX k fa fd ps (sp (K w.params)))
    (hsp : ∀ (K : PySem.W.Frag) (H : Hp) (xs : List V) (a : Codec.denoteAll r.args), OnlyF H → Codec.withinAll r.args a = true → Codec.app r.args r.asked a = true → DwAll K H xs (Codec.encAll r.args a) →
      sp K xs H (fun v H' => Dw K H' v (r.ret.enc (Codec.app r.args r.f a))) fun _ _ _ => False)
    (hCX : ∀ (H : Hp) (s : Shared) (e : Value) (s' : Shared), CX [] H s (fun _ _ _ => False) e s' → False) :
    PySem.W.WalkOS q loose XP YP r d [] (fun f vs => PySem.call f vs) :=
  walk_specS0 (K := K) (CX := fun _ => CX) (sp := fun w => sp (K w.params)) hi hwell hdf hlen hr hY F (fun w H xs a h1 h2 h3 h4 => hsp (K w.params) H xs a h1 h2 h3 h4) fun _ H s e s' => hCX H s e s'
section
variable {X : Cx}
theorem room_long {k : Nat} {A : Around} (r : Room k A) (h : 32 ≤ k) : A.depth + Builtin.pylongFrames < recursionLimit := by
  have := r.dp
  show A.depth + 100 < recursionLimit
  omega
/-- // by any number above 0 -/
theorem op_fdivA (hN : X.base.NoSeer) (ht : X.prog.given.tree = none) (hd : X.A.depth + Builtin.pylongFrames < recursionLimit) (hs : X.stack = X.env :: X.outer) (hgen : X.env.scope.isGenerator = false) (hco : X.env.scope.isCoroutine = false) :
    OpR X (binaryOp .FloorDiv) (rI (fun _ j => 0 < j) fun i j => .int (i / j)) := by
  intro pins s σ H x y v u Q I rx ry h
  obtain ⟨i, j, rfl, rfl, hc, q⟩ := h
  obtain ⟨t, rfl⟩ := rx
  obtain ⟨t', rfl⟩ := ry
  have h1 : (0 : Int) < j := hc
  have hS : s.heap.NoSeer := hN.keeps I.bk
  refine floordiv_int (by omega) ?_ (.inr (PylongRoom.of I.nolimit hd (SeerAt.of hS ht (by rw [← hs]; exact I.ok.frames) hgen hco I.ok.blt I.ok.glob)))
  rw [Int.fdiv_eq_ediv_of_nonneg i (by omega)]
  exact ⟨.int (i / j), H, I.tok _, ⟨_, rfl⟩, q⟩
end
end L2
end
section
set_option Elab.async false
set_option linter.all false
set_option maxRecDepth 100000
set_option maxHeartbeats 4000000
namespace L2
open PySem PySem.Spec PyProof.Rows
/-! ## texts as lists of whole numbers -/
noncomputable def ST (l : List Int) : Str := ⟨(l.map Int.toNat).toArray⟩
theorem ST_size (l : List Int) : (ST l).cps.size = l.length := by simp [ST]
theorem ST_get (l : List Int) (i : Nat) : (ST l).cps[i]? = (l[i]?).map Int.toNat := by simp [ST]
theorem boot_ord5 : bootBuiltins "ord" = some (.builtin "ord") := by first | rfl | decide +kernel
theorem lit_inf : Str.ofString "inf" = ST [105, 110, 102] := by rw [Str.ofString_eq_toList]; rfl
theorem lit_p : Str.ofString "p" = ST [112] := by rw [Str.ofString_eq_toList]; rfl
theorem lit_minus : Str.ofString "-" = ST [45] := by rw [Str.ofString_eq_toList]; rfl
theorem lit_point : Str.ofString "." = ST [46] := by rw [Str.ofString_eq_toList]; rfl
theorem lit_open : Str.ofString "[" = ST [91] := by rw [Str.ofString_eq_toList]; rfl
theorem lit_close : Str.ofString "]" = ST [93] := by rw [Str.ofString_eq_toList]; rfl
theorem lit_comma : Str.ofString ", " = ST [44, 32] := by rw [Str.ofString_eq_toList]; rfl
theorem lit_empty : Str.ofString "empty" = ST Bx.EMPI := by rw [Str.ofString_eq_toList]; rfl
end L2
end
section
set_option Elab.async false
set_option linter.all false
set_option maxRecDepth 100000
set_option maxHeartbeats 4000000
namespace L2
open PySem PySem.Spec PyProof.Rows
/-! ## exceptions: how one lies behind a def that it leaves -/
/-- a new entry of the trace: the frames fs up to their slots, the exception e's entry is T, all else as it was -/
structure Noted (fs : List Addr) (e T : Addr) (oe : Obj) (fl : Value) (h h' : Heap) : Prop where
  rest : ∀ b o, b ∉ fs → b ≠ e → h.get? b = some o → h'.get? b = some o
  slot : ∀ b o, b ∈ fs → h.get? b = some o → ∃ sl, h'.get? b = some { o with slots := sl }
  exc : h'.get? e = some (oe.mapFields (·.setIfInBounds 1 (.ref T)))
  new : h.get? T = none
  ent : ∃ oT ts, h'.get? T = some oT ∧ oT.data = .fields ts ∧ ts[3]? = some fl
section
variable {M : Model} {A : Around} {E : Value → Shared → Prop} {s : Shared} {base : Heap} {env : Env} {outer : List Env} {L e : Addr} {oe : Obj} {vs : Array Value} {head : Value} {hadNext : Bool}
theorem enter_note {Q : Unit → Shared → Prop} (hfr : A.frames = some (env :: outer)) (hl : s.heap.FunFrames base (env :: outer)) (hf : env.frame = some L) (he : s.heap.get? e = some oe) (hd : oe.data = .fields vs) (hz : 1 < vs.size)
    (h : ∀ h' T, Noted (frs (env :: outer)) e T oe (rawInt L) s.heap h' → Q () { s with heap := h' }) :
    wpAny M A (do setField (.ref e) 1 (← EntryCells.newEntry head (← frameOf env) .none (rawInt L) .none (← entryPlaceOf L hadNext))) Q E s := by
  have ne : e ∉ frs (env :: outer) := fun hm => by
    obtain ⟨_, o, ho, hn⟩ := hl.mem hm
    rw [he] at ho
    cases ho
    exact hn vs hd
  refine wpAny_bind (wpAny_frameOf_fun hfr hl hf fun h1 x1 => wpAny_bind (wpAny_entryPlaceOf fun pl hpl => ?_))
  unfold EntryCells.newEntry newFields
  refine wpAny_bind (wpAny_newObj_type ?_ (hpl.sizeOk5 _ _ _ _ _))
  have e1 : h1.get? e = some oe := (x1.2.1 e ne).trans he
  have lt1 : e < h1.objs.size := Heap.lt_size e1
  refine wpAny_setField (Heap.get?_push_of_some _ e1) hd hz (h _ h1.objs.size ⟨fun b o nb be q => ?_, fun b o mb q => ?_, ?_, Heap.get?_none_of_le (by rw [x1.1]; exact Nat.le_refl _), ?_⟩)
  · rw [Heap.get?_update_other _ _ (Ne.symm be)]
    exact Heap.get?_push_of_some _ ((x1.2.1 b nb).trans q)
  · obtain ⟨sl, q1⟩ := x1.2.2 b o q
    refine ⟨sl, ?_⟩
    rw [Heap.get?_update_other _ _ (show e ≠ b from fun z => ne (by rw [z]; exact mb))]
    exact Heap.get?_push_of_some _ q1
  · exact Heap.get?_update_self _ (Heap.get?_push_of_some _ e1) (Obj.isFreed_of_fields (Obj.data_mapFields hd _))
  · refine ⟨_, _, (Heap.get?_update_other _ _ (Nat.ne_of_lt lt1)).trans (Heap.get?_push_size h1 rfl), rfl, ?_⟩
    rcases hpl with rfl | ⟨_, _, _, _, _, _, _, rfl⟩ <;> simp
/-- the exception e of the class at C, its dict at dx, its trace's first entry at T -/
noncomputable def TrX (h : Heap) (e C dx T : Addr) (fl : Value) : Prop :=
  ∃ oe vs oT ts, h.get? e = some oe ∧ oe.cls = .ref C ∧ oe.dict = some dx ∧ oe.data = .fields vs ∧ vs[1]? = some (.ref T) ∧ T ≠ e ∧ h.get? T = some oT ∧ oT.data = .fields ts ∧ ts[3]? = some fl
/-- behind a step that touches the frames fs (their slots), e and what ch names -/
structure Touch (fs : List Addr) (ch : List Addr) (h h' : Heap) : Prop where
  rest : ∀ b o, b ∉ fs → b ∉ ch → h.get? b = some o → h'.get? b = some o
  slot : ∀ b o, b ∈ fs → b ∉ ch → h.get? b = some o → ∃ sl, h'.get? b = some { o with slots := sl }
theorem Touch.trans {fs ch ch' : List Addr} {h h1 h2 : Heap} (a : Touch fs ch h h1) (b : Touch fs ch' h1 h2) : Touch fs (ch ++ ch') h h2 :=
  ⟨fun c o n m q => b.rest c o n (fun z => m (List.mem_append_right _ z)) (a.rest c o n (fun z => m (List.mem_append_left _ z)) q), fun c o n m q => by
    obtain ⟨sl, q1⟩ := a.slot c o n (fun z => m (List.mem_append_left _ z)) q
    obtain ⟨sl', q2⟩ := b.slot c _ n (fun z => m (List.mem_append_right _ z)) q1
    exact ⟨sl', q2⟩⟩
variable {C dx : Addr}
theorem mapF_dict (o : Obj) (f : Array Value → Array Value) : (o.mapFields f).dict = o.dict := by
  unfold Obj.mapFields; split <;> rfl
theorem Noted.tr {fs : List Addr} {T : Addr} {fl : Value} {h h' : Heap} (n : Noted fs e T oe fl h h') (he : h.get? e = some oe) (hc : oe.cls = .ref C) (hx : oe.dict = some dx) (hd : oe.data = .fields vs) (hz : 1 < vs.size) : TrX h' e C dx T fl := by
  obtain ⟨oT, ts, q1, q2, q3⟩ := n.ent
  refine ⟨_, _, oT, ts, n.exc, (Obj.cls_mapFields _ _).trans hc, (mapF_dict _ _).trans hx, Obj.data_mapFields hd _, by simp [hz], ?_, q1, q2, q3⟩
  intro z
  have := n.new
  rw [z, he] at this
  cases this
theorem Noted.touch {fs : List Addr} {T : Addr} {fl : Value} {h h' : Heap} (n : Noted fs e T oe fl h h') : Touch fs [e] h h' :=
  ⟨fun b o nb m q => n.rest b o nb (fun z => m (by rw [z]; exact List.mem_singleton_self _)) q, fun b o mb _ q => n.slot b o mb q⟩
/-- the flight's mark is taken off -/
theorem land {T : Addr} {fl : Value} {Q : Unit → Shared → Prop} (t : TrX s.heap e C dx T fl) (h : ∀ h', Touch [] [T] s.heap h' → TrX h' e C dx T .none → Q () { s with heap := h' }) : wpAny M A (setFlight (.ref e) none) Q E s := by
  obtain ⟨oe, vs, oT, ts, q1, q2, q3, q4, q5, q6, q7, q8, q9⟩ := t
  have hz : 3 < ts.size := (Array.getElem?_eq_some_iff.mp q9).1
  unfold setFlight
  refine wpAny_bind (wpAny_field q1 q4 q5 ?_)
  rw [if_pos (show (Value.ref T != Value.none) = true by simp)]
  refine wpAny_setField q7 q8 hz (h _ ⟨fun b o _ m q => ?_, fun _ _ m => absurd m (by simp)⟩ ?_)
  · rw [Heap.get?_update_other _ _ (show T ≠ b from fun z => m (by rw [z]; exact List.mem_singleton_self _))]; exact q
  · exact ⟨oe, vs, _, _, (Heap.get?_update_other _ _ q6).trans q1, q2, q3, q4, q5, q6, Heap.get?_update_self _ q7 (Obj.isFreed_of_fields (Obj.data_mapFields q8 _)), Obj.data_mapFields q8 _, by simp [hz]⟩
/-- a frame is noted: the exception is new -/
theorem note_first {Q : Unit → Shared → Prop} (hfr : A.frames = some (env :: outer)) (hl : s.heap.FunFrames base (env :: outer)) (hf : env.frame = some L) (he : s.heap.get? e = some oe) (hc : oe.cls = .ref C) (hx : oe.dict = some dx) (hd : oe.data = .fields vs) (h1 : vs[1]? = some .none)
    (h : ∀ h' T, Touch (frs (env :: outer)) [e] s.heap h' → s.heap.get? T = none → TrX h' e C dx T (rawInt L) → Q () { s with heap := h' }) : wpAny M A (noteFrame (.ref e) env) Q E s := by
  have hz : 1 < vs.size := (Array.getElem?_eq_some_iff.mp h1).1
  unfold noteFrame
  simp only [hf]
  refine wpAny_bind (wpAny_field he hd h1 ?_)
  rw [if_neg (by decide)]
  exact enter_note hfr hl hf he hd hz fun h' T n => h h' T n.touch n.new (n.tr he hc hx hd hz)
/-- .. it came from a callee -/
theorem note_next {T0 : Addr} {Q : Unit → Shared → Prop} (hfr : A.frames = some (env :: outer)) (hl : s.heap.FunFrames base (env :: outer)) (hf : env.frame = some L) (t : TrX s.heap e C dx T0 .none)
    (h : ∀ h' T, Touch (frs (env :: outer)) [T0, e] s.heap h' → s.heap.get? T = none → TrX h' e C dx T (rawInt L) → Q () { s with heap := h' }) : wpAny M A (noteFrame (.ref e) env) Q E s := by
  obtain ⟨oe, vs, oT, ts, q1, q2, q3, q4, q5, q6, q7, q8, q9⟩ := t
  have hz : 1 < vs.size := (Array.getElem?_eq_some_iff.mp q5).1
  have nT : T0 ∉ frs (env :: outer) := fun hm => by
    obtain ⟨_, o, ho, hn⟩ := hl.mem hm
    rw [q7] at ho
    cases ho
    exact hn ts q8
  unfold noteFrame
  simp only [hf]
  refine wpAny_bind (wpAny_field q1 q4 q5 ?_)
  rw [if_pos (show (Value.ref T0 != Value.none) = true by simp)]
  refine wpAny_bind (wpAny_field q7 q8 q9 ?_)
  rw [if_neg (show ¬ ((Value.none == rawInt L) = true) by simp [rawInt])]
  refine wpAny_bind (wpAny_setField q7 q8 (Array.getElem?_eq_some_iff.mp q9).1 ?_)
  have oth : ∀ b, b ≠ T0 → (s.heap.update T0 (Obj.mapFields (·.setIfInBounds 3 Value.none))).get? b = s.heap.get? b := fun b hb => Heap.get?_update_other _ _ (Ne.symm hb)
  have hl1 : (s.heap.update T0 (Obj.mapFields (·.setIfInBounds 3 Value.none))).FunFrames base (env :: outer) := hl.of_keeps fun b o hb hn => ⟨o, (oth b (fun z => by rw [z, q7] at hb; cases hb; exact hn ts q8)).trans hb, rfl⟩
  have t1 : Touch (frs (env :: outer)) [T0] s.heap (s.heap.update T0 (Obj.mapFields (·.setIfInBounds 3 Value.none))) :=
    ⟨fun b o _ m q => (oth b (fun z => m (by rw [z]; exact List.mem_singleton_self _))).trans q, fun b o mb _ q => ⟨o.slots, (oth b (fun z => nT (by rw [← z]; exact mb))).trans q⟩⟩
  refine enter_note hfr hl1 hf ((oth e (Ne.symm q6)).trans q1) q4 hz fun h' T n => h h' T (t1.trans n.touch) ?_ (n.tr ((oth e (Ne.symm q6)).trans q1) q2 q3 q4 hz)
  have nn := n.new
  by_cases z : T = T0
  · rw [z, Heap.get?_update_self _ q7 (Obj.isFreed_of_fields (Obj.data_mapFields q8 _))] at nn; cases nn
  · rw [oth T z] at nn; exact nn
end
theorem HOk.at {P : Program} {w : World} {H : Hp} {h : Heap} {a : Addr} {o : HO} (x : HOk P w H h) (e : H a = some o) : ∃ u, h.get? a = some u := by
  have q := x a o e
  cases o with
  | lst xs => obtain ⟨_, _, _, _, e⟩ := q; exact ⟨_, e⟩
  | tup xs => obtain ⟨_, _, _, ob, e, _⟩ := q; exact ⟨_, e⟩
  | dK kvs => obtain ⟨_, _, _, _, o, _, _, e, _⟩ := q; exact ⟨_, e⟩
  | dT kvs => obtain ⟨_, _, _, _, o, _, _, e, _⟩ := q; exact ⟨_, e⟩
  | set S n => obtain ⟨o, _, _, _, e, _⟩ := q; exact ⟨_, e⟩
  | ins C dx fs => obtain ⟨_, _, _, e, _⟩ := q; exact ⟨_, e⟩
  | own y => exact q
  | xd fs => obtain ⟨_, ⟨_, _, _, e, _⟩, _⟩ := q; exact ⟨_, e⟩
  | rng lo hi => obtain ⟨_, _, _, e⟩ := q; exact ⟨_, e⟩
  | frz ob u => obtain ⟨e, _⟩ := q; exact ⟨_, e⟩
  | tbl ps => exact ⟨_, (show h.get? a = some _ from q)⟩
  | met f y => exact ⟨_, (show h.get? a = some _ from q)⟩
  | ext φ => obtain ⟨_, ⟨_, e⟩, _⟩ := q; exact ⟨_, e⟩
theorem HOk.none {P : Program} {w : World} {H : Hp} {h : Heap} {a : Addr} (x : HOk P w H h) (e : h.get? a = none) : H a = none := by
  cases q : H a with
  | none => rfl
  | some o => obtain ⟨u, z⟩ := x.at q; rw [e] at z; cases z
section
variable {X : Cx} {pins : List (Addr × Obj)} {σ : St} {H : Hp} {s : Shared}
/-- what a def's leaving has touched is nothing to its caller -/
theorem left_un {ch : List Addr} {h' : Heap} (I : Inv X pins σ H s) (hex : X.ex = []) (t : Touch (frs X.stack) ch s.heap h') (hch : ∀ b ∈ ch, H b = none ∧ X.s_0.heap.get? b = none) :
    Un X.fs [] X.H_0 H X.s_0.heap h' ∧ HOk X.prog X.w H h' := by
  have nex : ∀ b, b ∉ X.ex := fun b z => by rw [hex] at z; cases z
  have ncs : ∀ b o, X.s_0.heap.get? b = some o → b ∉ ch := fun b o e z => by rw [(hch b z).2] at e; cases e
  have nL : ∀ b o, X.s_0.heap.get? b = some o → b ≠ X.env.locals := fun b o e => Nat.ne_of_lt (Nat.lt_of_lt_of_le (Heap.lt_size e) I.ok.above)
  have any : ∀ b o, X.s_0.heap.get? b = some o → ∀ o', s.heap.get? b = some o' → ∃ o2, h'.get? b = some o2 := fun b o e o' e' => by
    by_cases z : b ∈ frs X.stack
    · obtain ⟨sl, q⟩ := t.slot b o' z (ncs b o e) e'; exact ⟨_, q⟩
    · exact ⟨_, t.rest b o' z (ncs b o e) e'⟩
  refine ⟨⟨fun b o e n nb _ => ?_, fun b o e n mb _ => ?_, fun b o e n _ => I.base.free b o e n (nex b), fun b o e _ => ?_, I.base.tups, I.base.frzs, I.base.tbls⟩, fun a o e => ?_⟩
  · refine t.rest b o (fun z => ?_) (ncs b o e) (I.base.keep b o e n nb (nex b))
    rcases List.mem_cons.mp (I.stkSub b z) with q | q
    · exact nL b o e q
    · exact nb q
  · obtain ⟨sl, q⟩ := I.base.slot b o e n mb (nex b)
    by_cases z : b ∈ frs X.stack
    · obtain ⟨sl', q'⟩ := t.slot b _ z (ncs b o e) q; exact ⟨sl', q'⟩
    · exact ⟨sl, t.rest b _ z (ncs b o e) q⟩
  · obtain ⟨o', e'⟩ := I.base.there b o e (nex b)
    exact any b o e o' e'
  · have kp : ∀ b v, (∃ u, H b = some u) → s.heap.get? b = some v → h'.get? b = some v := fun b v ⟨u, hb⟩ q => t.rest b v (fun z => by rw [I.stkFree b z] at hb; cases hb) (fun z => by rw [(hch b z).1] at hb; cases hb) q
    exact (I.hok a o e).stay (fun b v hb q => kp b v (hb.elim (fun z => ⟨o, by rw [z]; exact e⟩) fun z => ⟨_, z⟩) q) (fun _ q => q) fun _ _ q => q
end
/-- how an exception lies behind a def that it left -/
noncomputable def CX1 (P : Program) (w : World) : CXT := fun outer H s E e s' => ∃ x C dx T H', e = .ref x ∧ s'.os = s.os ∧ AllBare s'.gens ∧ Un (frs outer) [] H H' s.heap s'.heap ∧ HOk P w H' s'.heap ∧
  TrX s'.heap x C dx T .none ∧ H' x = none ∧ H' T = none ∧ s.heap.get? x = none ∧ s.heap.get? T = none ∧ E (.ref C) (some dx) H'
theorem Inv.afterX {X : Cx} {pins : List (Addr × Obj)} {σ : St} {H H' : Hp} {s s' : Shared} (I : Inv X pins σ H s) (os : s'.os = s.os) (bare : AllBare s'.gens) (un : Un (frs X.stack) [] H H' s.heap s'.heap) (hok : HOk X.prog X.w H' s'.heap) : Inv X pins σ H' s' := by
  obtain ⟨hh, g, d, t, o⟩ := s'
  obtain rfl : o = s.os := os
  exact I.call (h' := hh) (g' := g) (d' := d) (t' := t) (ch := []) un hok bare (fun b z => absurd z (by simp))
theorem there_none {X : Cx} {pins : List (Addr × Obj)} {σ : St} {H : Hp} {s : Shared} (I : Inv X pins σ H s) (hex : X.ex = []) {b : Addr} (e : s.heap.get? b = none) : X.s_0.heap.get? b = none := by
  cases q : X.s_0.heap.get? b with
  | none => rfl
  | some o =>
    obtain ⟨o', z⟩ := I.base.there b o q (by rw [hex]; simp)
    rw [e] at z; cases z
theorem pass1 {P : Program} {w : World} {K : PySem.W.Frag} {mg : Str → Option Value} {base : Heap} {N : List Str} {qual : Str} {scope : Scope} {f : Addr} {cd : Value} {A : Around} {outer : List Env} {s0 : Shared} {H0 : Hp} {E : XK} :
    Passes (CX1 P w) (cxOf (CX1 P w) P w K mg base N qual scope f cd A outer s0 H0 E) E := by
  rintro pins σ H s e s' I ⟨x, C, dx, T, H', rfl, os, bare, un, hok, tr, hx, hT, nx, nT, q⟩
  have I1 := I.afterX os bare un hok
  show wpAny (model P w) _ (leaving _ (.ref x)) (fun _ s'' => CX1 P w outer H0 s0 E (.ref x) s'') _ s'
  unfold leaving
  refine wpAny_bind (note_next I1.ok.frames I1.stack rfl tr fun h1 T1 t1 n1 r1 => land r1 fun h2 t2 r2 => ?_)
  have nT1 : H' T1 = none := hok.none n1
  have t3 : Touch (frs (cxOf (CX1 P w) P w K mg base N qual scope f cd A outer s0 H0 E).stack) ([T, x] ++ [T1]) s'.heap h2 := t1.trans ⟨fun b o _ m z => t2.rest b o (by simp) m z, fun b o _ m z => ⟨o.slots, t2.rest b o (by simp) m z⟩⟩
  have g1 : s0.heap.get? x = none := there_none I rfl nx
  have g2 : s0.heap.get? T1 = none := there_none I1 rfl n1
  have g3 : s0.heap.get? T = none := there_none I rfl nT
  obtain ⟨u2, k2⟩ := left_un I1 rfl t3 (fun b hb => by
    simp only [List.mem_append, List.mem_cons, List.mem_singleton, List.not_mem_nil, or_false] at hb
    rcases hb with (rfl | rfl) | rfl
    · exact ⟨hT, g3⟩
    · exact ⟨hx, g1⟩
    · exact ⟨nT1, g2⟩)
  exact ⟨x, C, dx, T1, H', rfl, I1.os, I1.bare, u2, k2, r2, hx, nT1, g1, g2, q⟩
end L2
end
section
set_option Elab.async false
set_option linter.all false
set_option maxRecDepth 100000
set_option maxHeartbeats 4000000
namespace L2
open PySem PySem.Spec PyProof.Rows
open PySem.Builtin PySem.Builtin.ObjectAttr
section
variable {prog : Program} {w : World} {A : Around} {E : Value → Shared → Prop} {h : Heap} {gs : Array GenState} {dr : Drawn} {tk : Nat} {os : OsState}
variable {nm q : Str} {C N x : Addr} {bs bm : List Value} {sn : List Str} {sub : List Value} {ab : Bool} {col : Option Bool} {dd : Option Addr} {k0 k1 k2 k3 k5 : Option Value} {B newId sa owner : String}
  {mN : Str → Option Value} {name : Str} {v : Value} {o : Obj}
/-- the first attribute of an exception: its dict is new -/
theorem setX_entry {ut : Tok} {Q : Fin → Shared → Prop} (SF : StoreFacts B bm sa owner) (hC : h.get? C = some (excClassObj nm q C N bs bm true sn sub ab col dd k0 k1 k2 k3 k5 newId)) (hN : h.Ns N mN) (hname : mN name = none)
    (hB : typeLookup (.type B) name = pure none) (hx : h.get? x = some o) (hcls : o.cls = .ref C) (hdct : o.dict = none) (hdat : ∀ c, o.data ≠ .cls c)
    (hQ : ∀ h' tk', h'.get? x = some { o with dict := some h.objs.size } → h'.Ns1 h.objs.size (fun y => if y = name then some v else none) → (∀ b ob, b ≠ x → h.get? b = some ob → h'.get? b = some ob) → Q (.done (.ret .none)) ⟨h', gs, dr, tk', os⟩) :
    wpAny (model prog w) A (Builtin.«object.__setattr__» ⟨[.ref x, .str name ut, v], []⟩) Q E ⟨h, gs, dr, tk, os⟩ := by
  have hpass := SF.passes (.ref x)
  have nex : x ≠ h.objs.size := Nat.ne_of_lt (Heap.lt_size hx)
  unfold Builtin.«object.__setattr__»
  repeat (first | rw [refuse_eq] | (rw [refuseLoop_ref, hpass]) | (with_reducible refine wpAny_loadPart_at hx ?_; rw [hcls]) | with_reducible refine wpAny_mroOf_exc hC ?_ | (with_reducible refine wpAny_typeLookup_exc hC hN SF.mro hB ?_; rw [hname]) | wp_step)
  rw [hdct, if_neg (by simp [typeHasDict])]
  split
  · rename_i z; cases z
  split
  · rename_i c z; exact absurd z (hdat c)
  · refine wpAny_bind (wpAny_alloc' (wpAny_bind (wpAny_update' (Heap.get?_push_of_some _ hx) (wpAny_pure ?_))))
    have dnew : ((h.push { cls := .type "dict", data := .dict #[] }).update x fun ob => { cls := ob.cls, dict := some h.objs.size, data := ob.data, slots := ob.slots }).get? h.objs.size = some { cls := .type "dict", data := .dict #[] } :=
      (Heap.get?_update_ne _ _ _ _ nex.symm).trans (Heap.get?_push_at rfl rfl)
    have dns : ((h.push { cls := .type "dict", data := .dict #[] }).update x fun ob => { cls := ob.cls, dict := some h.objs.size, data := ob.data, slots := ob.slots }).Ns h.objs.size (fun _ => none) :=
      ⟨_, #[], _, dnew, rfl, fun e he => absurd he (by simp), fun _ => rfl⟩
    show wpAny _ _ (storeInDict h.objs.size (.str name ut) name v) _ _ _
    unfold storeInDict newKeyGuard
    refine wpAny_bind (wpAny_pure (wpAny_bind (wpAny_nsSet1 (Heap.Ns1.of_empty dns) fun h' n1 same => ?_)))
    obtain ⟨oD, eD, pD, q1, q2, q3⟩ := n1.count (Within.cons name v Within.nil)
    refine wpAny_bind (wpAny_lookBehind q1 (by rw [q2]; exact pastItsLine_dict (Nat.le_trans q3 (by rw [List.length_cons, List.length_nil, sizeLine_eq]; omega))) ?_)
    wp_walk
    refine hQ h' _ ?_ n1 fun b ob nb q => (same.2 b (Nat.ne_of_lt (Heap.lt_size q))).trans ((Heap.get?_update_ne _ _ _ _ nb).trans (Heap.get?_push_of_some _ q))
    refine (same.2 x nex).trans (Heap.get?_update_self _ (Heap.get?_push_of_some _ hx) ?_)
    have fr := (Heap.get?_some_iff.mp hx).2
    obtain ⟨oc, od, odt, osl⟩ := o
    cases odt <;> first | rfl | exact fr
theorem setX_attr {Q : Unit → Shared → Prop} (SF : StoreFacts B bm sa owner) (hC : h.get? C = some (excClassObj nm q C N bs bm true sn sub ab col dd k0 k1 k2 k3 k5 newId)) (hN : h.Ns N mN) (hset : mN "__setattr__" = none) (hname : mN name = none)
    (hB : typeLookup (.type B) name = pure none) (hx : h.get? x = some o) (hcls : o.cls = .ref C) (hdct : o.dict = none) (hdat : ∀ c, o.data ≠ .cls c)
    (hQ : ∀ h' tk', h'.get? x = some { o with dict := some h.objs.size } → h'.Ns1 h.objs.size (fun y => if y = name then some v else none) → (∀ b ob, b ≠ x → h.get? b = some ob → h'.get? b = some ob) → Q () ⟨h', gs, dr, tk', os⟩) :
    wpAny (model prog w) A (setAttr (.ref x) name v) Q E ⟨h, gs, dr, tk, os⟩ := by
  have fb := SF.slot.bind (.ref x)
  unfold setAttr callSpecial? specialOf
  repeat (any_goals (first | assumption | (with_reducible refine wpAny_loadPart_at hx ?_; rw [hcls]) | (with_reducible refine wpAny_typeLookup_exc hC hN SF.mro SF.slot.lookup ?_; rw [hset]) | wp_step))
  refine codeAny_call_builtin SF.slot.plain SF.entry (wpAny_check_sa SF hC hx hcls (setX_entry SF hC hN hname hB hx hcls hdct hdat fun h' tk' a b c => ?_))
  repeat (any_goals (first | assumption | wp_step))
  exact hQ h' tk' a b c
end
/-! ## an exception of one's own, with a number -/
noncomputable def excData (t : Addr) : Data := .fields #[.ref t, .none, .none, .none, .bool false, .none]
/-- made, and without a dict as yet; with its dict -/
noncomputable def ExO (x C t : Addr) : Heap → Prop := fun h => h.get? x = some { cls := .ref C, data := excData t }
noncomputable def ExD (x C t dx : Addr) : Heap → Prop := fun h => h.get? x = some { cls := .ref C, dict := some dx, data := excData t }
/-- what the class is, by the fragment -/
noncomputable def XT (K : PySem.W.Frag) (C fI : Addr) (f : Str) : Prop := ∃ nm q N bs sn sub ab col dd k0 k1 k2 k3 k5 cN dN es ep slN,
  K.lookup C = some (excClassObj nm q C N bs [.type "Exception", .type "BaseException", .type "object"] true sn sub ab col dd k0 k1 k2 k3 k5 "Exception.__new__") ∧
  K.lookup N = some ⟨cN, dN, .dict es ep, slN⟩ ∧ StrKeys es ∧ nsFind es "__init__" = some (.ref fI) ∧ nsFind es "__setattr__" = none ∧ nsFind es "__getattribute__" = none ∧ nsFind es "__getattr__" = none ∧ nsFind es f = none ∧
  (∃ oF, K.lookup fI = some oF ∧ oF.cls = .type "function") ∧ typeLookup (.type "Exception") f = pure none
section
variable {X : Cx} {pins : List (Addr × Obj)} {σ : St} {H : Hp} {s : Shared}
/-- a new object is laid and tracked -/
theorem Inv.newX {a : Addr} {o : HO} {h' : Heap} {t' : Nat} (I : Inv X pins σ H s) (k : ∀ b u, s.heap.get? b = some u → h'.get? b = some u) (hn : s.heap.get? a = none) (new : ObjOk X.prog X.w (upd H a o) h' a o) : Inv X pins σ (upd H a o) { s with heap := h', toks := t' } := by
  have ha := I.hok.none hn
  have ne : ∀ b u, s.heap.get? b = some u → b ≠ a := fun b u q z => by rw [z, hn] at q; cases q
  refine I.un ⟨fun b u q _ _ _ => k b u q, fun b u q _ _ _ => ⟨u.slots, k b u q⟩, fun b u q n _ => by rw [upd_ne (ne b u q)]; exact n, fun b u q _ => ⟨u, k b u q⟩, fun b xs q => by rw [upd_ne (ne_of_none q ha)]; exact q, fun b u xs q => by rw [upd_ne (ne_of_none q ha)]; exact q, fun b ps q => ⟨#[], by rw [upd_ne (ne_of_none q ha), q]; simp⟩⟩ ?_
  intro b u e
  by_cases hb : b = a
  · subst hb; rw [upd_same] at e; cases e; exact new
  · rw [upd_ne hb] at e
    exact (I.hok b u e).stay (fun c v _ q => k c v q) (fun c q => by rw [upd_ne (ne_of_none q ha)]; exact q) fun c xs q => by rw [upd_ne (ne_of_none q ha)]; exact q
/-- an object is tracked no more -/
noncomputable def drp (H : Hp) (a : Addr) : Hp := fun b => if b = a then none else H b
theorem drp_same {H : Hp} {a : Addr} : drp H a a = none := by unfold drp; rw [if_pos rfl]
theorem drp_ne {H : Hp} {a b : Addr} (h : b ≠ a) : drp H a b = H b := by unfold drp; rw [if_neg h]
theorem Inv.dropX {a : Addr} {φ : Heap → Prop} (I : Inv X pins σ H s) (ha : H a = some (.ext φ)) : Inv X pins σ (drp H a) s := by
  have ne : ∀ b u, H b = some u → (∀ ψ, u ≠ .ext ψ) → b ≠ a := fun b u q n z => by rw [z, ha] at q; cases q; exact n _ rfl
  have un : Un X.fs [] H (drp H a) s.heap s.heap := ⟨fun b u q _ _ _ => q, fun b u q _ _ _ => ⟨u.slots, q⟩, fun b u q n _ => by unfold drp; split <;> first | rfl | exact n, fun b u q _ => ⟨u, q⟩,
    fun b xs q => by rw [drp_ne (ne b _ q (fun _ z => by cases z))]; exact q, fun b u xs q => by rw [drp_ne (ne b _ q (fun _ z => by cases z))]; exact q, fun b ps q => ⟨#[], by rw [drp_ne (ne b _ q (fun _ z => by cases z)), q]; simp⟩⟩
  have := I.un (h' := s.heap) (t' := s.toks) un (fun b u e => by
    have hb : b ≠ a := fun z => by rw [z, drp_same] at e; cases e
    rw [drp_ne hb] at e
    exact (I.hok b u e).stay (fun c v _ q => q) (fun c q => by rw [drp_ne (ne c _ q (fun _ z => by cases z))]; exact q) fun c xs q => by rw [drp_ne (ne c _ q (fun _ z => by cases z))]; exact q)
  exact this
noncomputable def sFldX (C : Addr) (f : Str) (ta tv : TE) : TS := fun D σ H => tv σ H fun y H1 => ta σ H1 fun x H2 => ∃ a t k, x = .ref a ∧ y = .int k ∧ H2 a = some (.ext (ExO a C t)) ∧
  ∀ dx, H2 dx = none → dx ≠ a → D.nx σ (upd (upd H2 a (.ext (ExD a C t dx))) dx (.xd [(f, .int k)]))
theorem ps_fldX {C fI : Addr} {o value : Expr} {f : Str} {ta tv : TE} {pos pos' : Pos} (T : XT X.K C fI f) (ha : PE X o ta) (hv : PE X value tv) (hs : swapsWith value (some (.Attribute o f pos')) pos.line X.env = pure false) : PS X (.Assign [.Attribute o f pos'] value pos) (sFldX C f ta tv) := by
  intro pins s σ H D I h
  refine plainObj_wpAny_Assign_Attribute (thn (hv pins s σ H _ I h) fun uv s1 ⟨y, H1, I1, ry, q⟩ => thn (ha pins s1 σ H1 _ I1 q) fun ov s2 ⟨x, H2, I2, rx, a, t, k, ex, ey, ea, q2⟩ => ?_) hs
  subst ex ey
  obtain rfl : ov = Value.ref a := rx
  obtain ⟨nm, q, N, bs, sn, sub, ab, col, dd, k0, k1, k2, k3, k5, cN, dN, es, ep, slN, lC, lN, sk, f1, f2, f3, f4, f5, f6, f7⟩ := T
  obtain ⟨φ, ⟨oa, _⟩, _⟩ := I2.hok a _ ea
  have hx : s2.heap.get? a = some { cls := .ref C, data := excData t } := φ
  have hN : s2.heap.Ns N (nsFind es) := ⟨_, es, ep, I2.kIn _ _ lN, rfl, sk, fun _ => rfl⟩
  obtain ⟨hp, gs, dr, tk, os⟩ := s2
  refine setX_attr F.store_Exception (I2.kIn _ _ lC) hN f2 f5 f7 hx rfl rfl (fun c z => by cases z) fun h' tk' e1 e2 e3 => ?_
  have nd : hp.get? hp.objs.size = none := Heap.get?_none_of_le (Nat.le_refl _)
  have nH : H2 hp.objs.size = none := I2.hok.none nd
  have ne : hp.objs.size ≠ a := fun z => by
    have hz : hp.get? a = _ := hx
    rw [← z, nd] at hz; cases hz
  refine ⟨σ, _, ?_, q2 hp.objs.size nH ne⟩
  have na : ∀ b u, H2 b = some u → (∀ ψ, u ≠ .ext ψ) → b ≠ a ∧ b ≠ hp.objs.size := fun b u qb n => ⟨fun z => by rw [z, ea] at qb; cases qb; exact n _ rfl, fun z => by rw [z, nH] at qb; cases qb⟩
  have up : ∀ b, b ≠ a → b ≠ hp.objs.size → upd (upd H2 a (.ext (ExD a C t hp.objs.size))) hp.objs.size (.xd [(f, .int k)]) b = H2 b := fun b z1 z2 => by rw [upd_ne z2, upd_ne z1]
  have fr : ∀ b u, hp.get? b = some u → b ≠ hp.objs.size := fun b u qb => Nat.ne_of_lt (Heap.lt_size qb)
  have fa : ∀ b, H2 b = none → b ≠ a := fun b n z => by rw [z, ea] at n; cases n
  refine I2.un (h' := h') (t' := tk') ⟨fun b u qb n _ _ => e3 b u (fa b n) qb, fun b u qb n _ _ => ⟨u.slots, e3 b u (fa b n) qb⟩, fun b u qb n _ => by rw [up b (fa b n) (fr b u qb)]; exact n, fun b u qb _ => ?_,
    fun b xs qb => by rw [up b (na b _ qb (fun _ z => by cases z)).1 (na b _ qb (fun _ z => by cases z)).2]; exact qb, fun b u xs qb => by rw [up b (na b _ qb (fun _ z => by cases z)).1 (na b _ qb (fun _ z => by cases z)).2]; exact qb,
    fun b ps qb => ⟨#[], by rw [up b (na b _ qb (fun _ z => by cases z)).1 (na b _ qb (fun _ z => by cases z)).2, qb]; simp⟩⟩ ?_
  · by_cases z : b = a
    · rw [z]; exact ⟨_, e1⟩
    · exact ⟨u, e3 b u z qb⟩
  · intro b u qb
    by_cases z2 : b = hp.objs.size
    · subst z2
      rw [upd_same] at qb
      cases qb
      refine ⟨_, e2, fun g => ?_⟩
      show RelO (List.lookup g [(f, V.int k)]) (if g = f then some uv else none)
      by_cases z : g = f
      · subst z
        rw [if_pos rfl, List.lookup_cons_self]; exact ry
      · rw [if_neg z, List.lookup_cons, show (g == f) = false by simpa using z]; trivial
    · rw [upd_ne z2] at qb
      by_cases z1 : b = a
      · subst z1
        rw [upd_same] at qb
        cases qb
        exact ⟨e1, ⟨_, e1⟩, fun h1 h2 p1 p2 => p2 _ p1⟩
      · rw [upd_ne z1] at qb
        refine (I2.hok b u qb).stay (fun c v hc r => e3 c v ?_ r) (fun c r => by rw [up c (na c _ r (fun _ z => by cases z)).1 (na c _ r (fun _ z => by cases z)).2]; exact r) fun c xs r => by rw [up c (na c _ r (fun _ z => by cases z)).1 (na c _ r (fun _ z => by cases z)).2]; exact r
        rcases hc with rfl | hc
        · exact z1
        · exact (na c _ hc (fun _ z => by cases z)).1
end
end L2
end
section
set_option Elab.async false
set_option linter.all false
set_option maxRecDepth 100000
set_option maxHeartbeats 4000000
namespace L2
open PySem PySem.Spec PyProof.Rows
open PySem.Builtin PySem.Builtin.ObjectAttr
section
variable {M : Model} {A : Around} {E : Value → Shared → Prop} {env : Env}
variable {nm q : Str} {C N : Addr} {bs bm : List Value} {hdct : Bool} {sn : List Str} {sub : List Value} {ab : Bool} {col : Option Bool} {dd : Option Addr} {k0 k1 k2 k3 k5 : Option Value} {newId : String}
theorem raiseX_made {s : Shared} {x : Sem Value} {Q : Flow → Shared → Prop} (hB : bm.contains (.type "BaseException") = true) (hh : A.handled = none)
    (h : wpAny M A x (fun v s1 => ∃ e oe vs, v = .ref e ∧ s1.heap.get? C = some (excClassObj nm q C N bs bm hdct sn sub ab col dd k0 k1 k2 k3 k5 newId) ∧ s1.heap.get? e = some oe ∧ oe.cls = .ref C ∧ oe.data = .fields vs ∧ vs[1]? = some .none ∧ E (.ref e) s1) E s) :
    wpAny M A (raiseStmt env (some x) none) Q E s := by
  have cB : (Value.ref C :: bm).contains (.type "BaseException") = true := by rw [List.contains_cons, hB, Bool.or_true]
  unfold raiseStmt
  refine wpAny_bind (wpAny_mono h (fun v s1 h1 => ?_) fun _ _ z => z)
  obtain ⟨e, oe, vs, rfl, hC, he, hc, hd, h0, hE⟩ := h1
  obtain ⟨hp, gs, dr, tk, os⟩ := s1
  repeat (first | (with_reducible refine wpAny_loadPart_at he ?_; rw [hc]) | with_reducible refine wpAny_loadPart_at he ?_ | with_reducible refine wpAny_loadPart_at hC ?_ | (with_reducible refine wpAny_isSubtype_exc hC ?_; rw [cB]) | wp_step)
  rw [hd]
  refine wpAny_pure ?_
  rw [h0]
  refine wpAny_pure ?_
  rw [if_neg (by decide)]
  exact wpAny_pure (wpAny_raiseNew_none hh hE)
end
/-- a new exception reaches what the body wants of exceptions -/
noncomputable def Throws (X : Cx) (E : XK) : Prop := ∀ (pins : List (Addr × Obj)) (σ : St) (H : Hp) (s : Shared) (x C dx : Addr) (oe : Obj) (vs : Array Value), Inv X pins σ H s → s.heap.get? x = some oe → oe.cls = .ref C → oe.dict = some dx → oe.data = .fields vs → vs[1]? = some .none →
  H x = none → X.s_0.heap.get? x = none → E (.ref C) (some dx) H → X.xe (.ref x) s
theorem throws1 {P : Program} {w : World} {K : PySem.W.Frag} {mg : Str → Option Value} {base : Heap} {N : List Str} {qual : Str} {scope : Scope} {f : Addr} {cd : Value} {A : Around} {outer : List Env} {s0 : Shared} {H0 : Hp} {E : XK} :
    Throws (cxOf (CX1 P w) P w K mg base N qual scope f cd A outer s0 H0 E) E := by
  intro pins σ H s x C dx oe vs I he hc hdx hd h1 hx n0 q
  show wpAny (model P w) _ (leaving _ (.ref x)) (fun _ s'' => CX1 P w outer H0 s0 E (.ref x) s'') _ s
  unfold leaving
  refine wpAny_bind (note_first I.ok.frames I.stack rfl he hc hdx hd h1 fun h1 T1 t1 n1 r1 => land r1 fun h2 t2 r2 => ?_)
  have nT1 : H T1 = none := I.hok.none n1
  have t3 : Touch (frs (cxOf (CX1 P w) P w K mg base N qual scope f cd A outer s0 H0 E).stack) ([x] ++ [T1]) s.heap h2 := t1.trans ⟨fun b o _ m z => t2.rest b o (by simp) m z, fun b o _ m z => ⟨o.slots, t2.rest b o (by simp) m z⟩⟩
  have g2 : s0.heap.get? T1 = none := there_none I rfl n1
  obtain ⟨u2, k2⟩ := left_un I rfl t3 (fun b hb => by
    simp only [List.mem_append, List.mem_singleton] at hb
    rcases hb with rfl | rfl
    · exact ⟨hx, n0⟩
    · exact ⟨nT1, g2⟩)
  exact ⟨x, C, dx, T1, H, rfl, I.os, I.bare, u2, k2, r2, hx, nT1, n0, g2, q⟩
noncomputable def spInitX (C : Addr) (f : Str) : Sp := fun vs H Q _ => ∃ x k t, vs = [.ref x, .int k] ∧ H x = some (.ext (ExO x C t)) ∧ ∀ dx, H dx = none → dx ≠ x → Q .non (upd (upd H x (.ext (ExD x C t dx))) dx (.xd [(f, .int k)]))
/-- the class can be made and raised -/
noncomputable def MkX (P : Program) (w : World) (K : PySem.W.Frag) (mg : Str → Option Value) (base : Heap) (nm : Str) (C : Addr) (fld : Str) (k : Nat) : Prop :=
  ∃ f fd, XT K C f fld ∧ FnOk P w K mg base CX0 k f fd ["self", fld] (spInitX C fld) ∧ mg nm = some (.ref C) ∧ PySem.W.keepIn K (.ref C) = true ∧ Binds K fd ["self", fld] []
noncomputable def tRaise (C : Addr) (fld : Str) (E : XK) (te : TE) : TS := fun _ σ H => te σ H fun v H1 => ∃ k, [v] = [V.int k] ∧ ∀ dx, H1 dx = none → E (.ref C) (some dx) (upd H1 dx (.xd [(fld, .int k)]))
theorem ps_raise {X : Cx} {C : Addr} {nm fld : Str} {k : Nat} {E : XK} {e : Expr} {te : TE} {np cpos pos : Pos} (M : MkX X.prog X.w X.K X.mg X.base nm C fld k) (hc : X.calm = true) (hex : X.ex = []) (th : Throws X E) (hr : Room (k + 1) X.A) (hg : Gl X nm) (ha : PA X [e] (tCons te tNil))
    (hdb : (nm == ("__debug__" : Str)) = false := by decide) (he : starEach [e] X.env = (false, eval e X.env) :: starEach [] X.env := by rfl) (hpl : (backTo cpos (starEach [] X.env)).any (·.1) = false := by rfl) :
    PS X (.Raise (some (.Call (.Name nm np) [e] [] cpos)) none pos) (tRaise C fld E te) := by
  obtain ⟨f, fd, T, F, hm, kp, hb⟩ := M
  intro pins s σ H D I h
  obtain ⟨cnm, q, N, bs, sn, sub, ab, col, dd, k0, k1, k2, k3, k5, cN, dN, es, ep, slN, lC, lN, sk, f1, f2, f3, f4, f5, ⟨oF, f6, f6'⟩, f7⟩ := T
  rw [arm_exec_Raise]
  refine wpAny_bind (wpAny_standAt (raiseX_made (nm := cnm) (q := q) (C := C) (N := N) (bs := bs) (bm := [.type "Exception", .type "BaseException", .type "object"]) (hdct := true) (sn := sn) (sub := sub) (ab := ab) (col := col) (dd := dd) (k0 := k0) (k1 := k1) (k2 := k2) (k3 := k3) (k5 := k5) (newId := "Exception.__new__") (by decide +kernel) (I.ok.hd hc) ?_))
  refine wpAny_bind (wpAny_mono (wpAny_Call_Name_kw (ld_glob I hg hm ?_ hdb)) (fun v s3 h3 => wpAny_bind (wpAny_standAt (wpAny_pure h3))) fun _ _ z => z)
  have h' : tCons te tNil σ H (fun vs H1 => ∃ k, vs = [.int k] ∧ ∀ dx, H1 dx = none → E (.ref C) (some dx) (upd H1 dx (.xd [(fld, .int k)]))) := h
  refine PySem.W.callWith_K (h₀ := X.base) I.ok.mod.kin kp (thn (ha cpos pins s σ H _ I h') fun us s1 ⟨vs, H1, I1, r, j, ev, q1⟩ => ⟨I1.kIn, ?_⟩) he hpl
  subst ev
  obtain ⟨hp, gs, dr, tk, os⟩ := s1
  have hN : hp.Ns N (nsFind es) := ⟨_, es, ep, I1.kIn _ _ lN, rfl, sk, fun _ => rfl⟩
  refine wpAny_call_exc_init PySem.F.excBase_Exception (I1.kIn _ _ lC) hN f1 (I1.kIn _ _ f6) f6' (fun h2 x hm2 => ?_) (by rw [List.nil_append, ← r.length]; show 1 ≤ sizeLine; decide)
  have ue : ∃ u, us = [u] ∧ RelV (.int j) u := by
    cases r with
    | cons r1 r2 => cases r2; exact ⟨_, rfl, r1⟩
  obtain ⟨u, rfl, ru⟩ := ue
  obtain ⟨t, ht, nt, htt⟩ := hm2.there
  have I2 := (I1.newX (a := x) (o := .ext (ExO x C t)) (h' := h2) (t' := tk) hm2.keeps hm2.new ⟨ht, ⟨_, ht⟩, fun a b p1 p2 => p2 _ p1⟩)
  have nx : H1 x = none := I1.hok.none hm2.new
  have r2 : Vals [V.ref x, V.int j] [Value.ref x, u] := .cons rfl (.cons ru .nil)
  have hq : spInitX C fld [V.ref x, V.int j] (upd H1 x (.ext (ExO x C t))) (fun v H2 => v = .non ∧ ∃ dx, H1 dx = none ∧ dx ≠ x ∧ H2 = upd (upd (upd H1 x (.ext (ExO x C t))) x (.ext (ExD x C t dx))) dx (.xd [(fld, .int j)])) E0 :=
    ⟨x, j, t, rfl, upd_same, fun dx hdx nd => ⟨rfl, dx, by rw [upd_ne nd] at hdx; exact hdx, nd, rfl⟩⟩
  refine wpAny_call (codeAny_mono (F.run _ X.stack _ _ ⟨[Value.ref x, u], []⟩ [Value.ref x, u] _ _ E0 (hr.make C [u] []) (I2.env0.make C [u] []) (hb _ [Value.ref x, u] I2.kIn rfl) r2 hq) fun rs s' hq' => ?_)
  cases rs with
  | error e => exact hq'.elim
  | ok fl =>
    cases fl with
    | next => exact False.elim hq'
    | brk => exact False.elim hq'
    | cont => exact False.elim hq'
    | ret v =>
      obtain ⟨w, H3, I3, rv, ⟨rfl, dx, ndx, nd, rfl⟩⟩ := I2.after hq'
      refine ⟨rv, ?_⟩
      have hx3 : upd (upd (upd H1 x (.ext (ExO x C t))) x (.ext (ExD x C t dx))) dx (.xd [(fld, .int j)]) x = some (.ext (ExD x C t dx)) := by rw [upd_ne (Ne.symm nd), upd_same]
      obtain ⟨φ, _, _⟩ := I3.hok x _ hx3
      have ed : drp (upd (upd (upd H1 x (.ext (ExO x C t))) x (.ext (ExD x C t dx))) dx (.xd [(fld, .int j)])) x = upd H1 dx (.xd [(fld, .int j)]) := by
        funext b
        by_cases z : b = x
        · rw [z, drp_same, upd_ne (Ne.symm nd), nx]
        · rw [drp_ne z]
          by_cases z2 : b = dx
          · rw [z2, upd_same, upd_same]
          · rw [upd_ne z2, upd_ne z2, upd_ne z, upd_ne z]
      have I4 := I3.dropX hx3
      rw [ed] at I4
      exact ⟨x, _, _, rfl, I3.kIn _ _ lC, φ, rfl, rfl, rfl, th pins σ _ s' x C dx _ _ I4 φ rfl rfl rfl rfl (by rw [upd_ne (Ne.symm nd)]; exact nx) (there_none I1 hex hm2.new) (q1 dx ndx)⟩
end L2
end
section
set_option Elab.async false
set_option linter.all false
set_option maxRecDepth 100000
set_option maxHeartbeats 4000000
namespace L2
open PySem PySem.Spec PyProof.Rows
section
variable {X : Cx} {pins : List (Addr × Obj)} {σ : St} {H : Hp} {s : Shared}
theorem Inv.apart (I : Inv X pins σ H s) {b : Addr} (e : s.heap.get? b = none) : b ≠ X.env.locals ∧ (∀ x c, X.env.cells.lookup x = some c → c ≠ b) ∧ ∀ p ∈ X.pn ++ pins, p.1 ≠ b := by
  refine ⟨fun z => ?_, fun x c h z => ?_, fun p hp z => ?_⟩
  · obtain ⟨m, ⟨o, _, _, q, _⟩, _⟩ := I.loc
    rw [z, q] at e; cases e
  · obtain ⟨v, o, q, _⟩ := I.cell x c h
    rw [← z, q] at e; cases e
  · have q := (I.pin p hp).1
    rw [z, e] at q; cases q
/-- the frames' slots and some records of our own have changed -/
theorem Inv.touch {ch : List Addr} {h' : Heap} (I : Inv X pins σ H s) (hex : X.ex = []) (t : Touch (frs X.stack) ch s.heap h')
    (hch : ∀ b ∈ ch, H b = none ∧ X.s_0.heap.get? b = none ∧ b ≠ X.env.locals ∧ (∀ x c, X.env.cells.lookup x = some c → c ≠ b) ∧ ∀ p ∈ X.pn ++ pins, p.1 ≠ b) : Inv X pins σ H { s with heap := h' } := by
  obtain ⟨u, k⟩ := left_un I hex t (fun b hb => ⟨(hch b hb).1, (hch b hb).2.1⟩)
  have at_ : ∀ b o, s.heap.get? b = some o → b ∉ ch → ∃ sl, h'.get? b = some { o with slots := sl } := fun b o q n => by
    by_cases z : b ∈ frs X.stack
    · exact t.slot b o z n q
    · exact ⟨o.slots, t.rest b o z n q⟩
  have cellK : ∀ x c, X.env.cells.lookup x = some c → ∀ v, s.heap.IsCell c v → h'.IsCell c v := fun x c e v ⟨o, ho, hd⟩ => by
    obtain ⟨sl, q⟩ := at_ c o ho (fun z => (hch c z).2.2.2.1 x c e rfl)
    exact ⟨_, q, hd⟩
  obtain ⟨m, ⟨o, es, ep, ho, r⟩, hl⟩ := I.loc
  obtain ⟨sl, hL⟩ := at_ _ o ho (fun z => (hch _ z).2.2.1 rfl)
  refine ⟨I.ok, I.os, I.bare, by rw [hex]; exact u, ⟨m, ⟨_, es, ep, hL, r⟩, fun i x v e1 e2 e3 => ?_⟩, fun x c e => ?_, I.free, I.freeC, fun p hp => ?_, k, I.len⟩
  · obtain ⟨u, ru, l⟩ := hl i x v e1 e2 e3
    refine ⟨u, ru, ?_⟩
    rcases l with l | ⟨kk, c, e, z⟩
    · exact .inl l
    · exact .inr ⟨kk, c, e, cellK x c e _ z⟩
  · obtain ⟨v, z⟩ := I.cell x c e
    exact ⟨v, cellK x c e v z⟩
  · obtain ⟨q, n, ne, nf, d⟩ := I.pin p hp
    refine ⟨t.rest p.1 p.2 (fun z => ?_) (fun z => (hch _ z).2.2.2.2 p hp rfl) q, n, ne, nf, d⟩
    rcases List.mem_cons.mp (I.stkSub _ z) with y | y
    · exact ne y
    · exact nf y
/-- a record of our own is tracked -/
theorem Inv.track {a : Addr} {φ : Heap → Prop} (I : Inv X pins σ H s) (hn : H a = none) (h0 : X.s_0.heap.get? a = none) (ap : a ≠ X.env.locals ∧ (∀ x c, X.env.cells.lookup x = some c → c ≠ a) ∧ ∀ p ∈ X.pn ++ pins, p.1 ≠ a) (ok : ObjOk X.prog X.w (upd H a (.ext φ)) s.heap a (.ext φ)) :
    Inv X pins σ (upd H a (.ext φ)) s := by
  have u := I.base
  refine ⟨I.ok, I.os, I.bare, ⟨u.keep, u.slot, fun b o q n x => ?_, u.there, fun b xs q => ?_, fun b o w q => ?_, fun b ps q => ?_⟩, I.loc, I.cell, ?_, fun x c e => ?_, fun p hp => ?_, fun b o q => ?_, I.len⟩
  · rw [upd_ne (fun z => by rw [z, h0] at q; cases q)]; exact u.free b o q n x
  · have := u.tups b xs q
    rw [upd_ne (ne_of_none this hn)]; exact this
  · have := u.frzs b o w q
    rw [upd_ne (ne_of_none this hn)]; exact this
  · obtain ⟨m, e⟩ := u.tbls b ps q
    exact ⟨m, by rw [upd_ne (ne_of_none e hn)]; exact e⟩
  · rw [upd_ne (Ne.symm ap.1)]; exact I.free
  · rw [upd_ne (ap.2.1 x c e)]; exact I.freeC x c e
  · obtain ⟨q, n, r⟩ := I.pin p hp
    exact ⟨q, by rw [upd_ne (ap.2.2 p hp)]; exact n, r⟩
  · by_cases z : b = a
    · subst z; rw [upd_same] at q; cases q; exact ok
    · rw [upd_ne z] at q
      exact (I.hok b o q).stay (fun c v _ e => e) (fun c e => by rw [upd_ne (ne_of_none e hn)]; exact e) fun c xs e => by rw [upd_ne (ne_of_none e hn)]; exact e
/-- the frame's names are as they are -/
theorem Inv.forget {h' : Heap} {m' : Str → Option Value} {t' : Nat} (I : Inv X pins σ H s) (n : h'.Ns X.env.locals m') (sb : Heap.SameBut X.env.locals s.heap h') : Inv X pins (List.replicate X.N.length none) H { s with heap := h', toks := t' } := by
  have u := I.base
  have nL : ∀ b o, X.s_0.heap.get? b = some o → b ≠ X.env.locals := fun b o e => Nat.ne_of_lt (Nat.lt_of_lt_of_le (Heap.lt_size e) I.ok.above)
  have k : ∀ b o, b ≠ X.env.locals → s.heap.get? b = some o → h'.get? b = some o := fun b o z q => (sb.2 b z).trans q
  refine ⟨I.ok, I.os, I.bare, ⟨fun b o q1 q2 q3 q4 => k b o (nL b o q1) (u.keep b o q1 q2 q3 q4), fun b o q1 q2 q3 q4 => ?_, u.free, fun b o q1 q2 => ?_, u.tups, u.frzs, u.tbls⟩, ⟨m', n, fun j x v e1 e2 e3 => ?_⟩, fun x c e => ?_, I.free, I.freeC, fun p hp => ?_, fun b o q => ?_, List.length_replicate⟩
  · obtain ⟨sl, z⟩ := u.slot b o q1 q2 q3 q4
    exact ⟨sl, k b _ (nL b o q1) z⟩
  · obtain ⟨o', z⟩ := u.there b o q1 q2
    exact ⟨o', k b o' (nL b o q1) z⟩
  · rw [List.getElem?_replicate] at e2
    split at e2 <;> cases e2
  · obtain ⟨v, o, ho, hd⟩ := I.cell x c e
    exact ⟨v, o, k c o (I.cne x c e) ho, hd⟩
  · obtain ⟨q, r, ne, z⟩ := I.pin p hp
    exact ⟨k _ _ ne q, r, ne, z⟩
  · refine (I.hok b o q).stay (fun c v hc e => k c v (fun z => ?_) e) (fun _ e => e) fun _ _ e => e
    rcases hc with y | y
    · rw [← y, z, I.free] at q; cases q
    · rw [z, I.free] at y; cases y
/-- within an except suite -/
noncomputable abbrev Cx.within (X : Cx) (v : Value) : Cx := { X with A := X.A.mark (some v), calm := false, xe := fun _ _ => False }
theorem Inv.within (I : Inv X pins σ H s) (v : Value) : Inv (X.within v) pins σ H s :=
  ⟨⟨I.ok.mod, I.ok.kind, I.ok.glob, I.ok.blt, I.ok.above, I.ok.inj, I.ok.has, I.ok.cab, (fun z => by cases z), I.ok.frames, I.ok.stk, I.ok.exf, I.ok.bs, I.ok.bsz, I.ok.noex, I.ok.exfs, I.ok.funs, I.ok.frf⟩, I.os, I.bare, I.base, I.loc, I.cell, I.free, I.freeC, I.pin, I.hok, I.len⟩
theorem Inv.outside {v : Value} (I : Inv (X.within v) pins σ H s) (hd : X.calm = true → X.A.handled = none) : Inv X pins σ H s :=
  ⟨⟨I.ok.mod, I.ok.kind, I.ok.glob, I.ok.blt, I.ok.above, I.ok.inj, I.ok.has, I.ok.cab, hd, I.ok.frames, I.ok.stk, I.ok.exf, I.ok.bs, I.ok.bsz, I.ok.noex, I.ok.exfs, I.ok.funs, I.ok.frf⟩, I.os, I.bare, I.base, I.loc, I.cell, I.free, I.freeC, I.pin, I.hok, I.len⟩
/-- pins of the whole context -/
noncomputable abbrev Cx.bear (X : Cx) (pn : List (Addr × Obj)) (xe : Value → Shared → Prop) : Cx := { X with pn := X.pn ++ pn, xe := xe }
theorem Inv.bear {pn : List (Addr × Obj)} (I : Inv X pn σ H s) (xe : Value → Shared → Prop) : Inv (X.bear pn xe) [] σ H s :=
  ⟨⟨I.ok.mod, I.ok.kind, I.ok.glob, I.ok.blt, I.ok.above, I.ok.inj, I.ok.has, I.ok.cab, I.ok.hd, I.ok.frames, I.ok.stk, I.ok.exf, I.ok.bs, I.ok.bsz, I.ok.noex, I.ok.exfs, I.ok.funs, I.ok.frf⟩, I.os, I.bare, I.base, I.loc, I.cell, I.free, I.freeC, fun p hp => I.pin p (by rw [List.append_nil] at hp; exact hp), I.hok, I.len⟩
theorem Inv.unbear {pn : List (Addr × Obj)} {xe : Value → Shared → Prop} (I : Inv (X.bear pn xe) pins σ H s) : Inv X pn σ H s :=
  ⟨⟨I.ok.mod, I.ok.kind, I.ok.glob, I.ok.blt, I.ok.above, I.ok.inj, I.ok.has, I.ok.cab, I.ok.hd, I.ok.frames, I.ok.stk, I.ok.exf, I.ok.bs, I.ok.bsz, I.ok.noex, I.ok.exfs, I.ok.funs, I.ok.frf⟩, I.os, I.bare, I.base, I.loc, I.cell, I.free, I.freeC, fun p hp => I.pin p (List.mem_append_left _ hp), I.hok, I.len⟩
end
theorem SP.unbear {X : Cx} {pn pins : List (Addr × Obj)} {xe : Value → Shared → Prop} {D : Ends} {f : Flow} {s' : Shared} (h : SP (X.bear pn xe) pins D f s') : SP X pn D f s' := by
  cases f with
  | next => obtain ⟨σ', H', I, q⟩ := h; exact ⟨σ', H', I.unbear, q⟩
  | brk => obtain ⟨σ', H', I, q⟩ := h; exact ⟨σ', H', I.unbear, q⟩
  | cont => obtain ⟨σ', H', I, q⟩ := h; exact ⟨σ', H', I.unbear, q⟩
  | ret u => obtain ⟨v, σ', H', I, r, q⟩ := h; exact ⟨v, σ', H', I.unbear, r, q⟩
/-- an exception in hand: its class, its dict -/
noncomputable def ExT (x C dx : Addr) : Heap → Prop := fun h => ∃ oe vs, h.get? x = some oe ∧ oe.cls = .ref C ∧ oe.dict = some dx ∧ oe.data = .fields vs
theorem ExT.ok {P : Program} {w : World} {H : Hp} {h : Heap} {x C dx : Addr} (e : ExT x C dx h) : ObjOk P w H h x (.ext (ExT x C dx)) := by
  obtain ⟨oe, vs, q, r⟩ := id e
  exact ⟨e, ⟨oe, q⟩, fun h1 h2 ⟨oe, vs, q, r⟩ k => ⟨oe, vs, k _ q, r⟩⟩
/-- what is wanted of an exception that a try takes: the suite's reading, the exception as the name's value -/
noncomputable def EF (C : Addr) (fld : Str) (i : Nat) (ts : TS) (D : Ends) : XK := fun c d H' => c = .ref C ∧ ∃ dx k, d = some dx ∧ H' dx = some (.xd [(fld, .int k)]) ∧ ∀ (x : Addr) (σ : St), H' x = none → i < σ.length →
  ts { nx := fun _ _ => False, rt := fun v H2 => H2 x = some (.ext (ExT x C dx)) ∧ D.rt v (drp H2 x) } (σ.set i (some (.ref x))) (upd H' x (.ext (ExT x C dx)))
theorem ps_try {X : Cx} {C fI : Addr} {nm fld n : Str} {i : Nat} {body suite : List Stmt} {b0 : Stmt} {tb : XK → TS} {ts : TS} {np hpos pos : Pos} (T : XT X.K C fI fld) (hm : X.mg nm = some (.ref C)) (hg : Gl X nm) (hex : X.ex = []) (hst : X.stack = X.env :: X.outer) (hfr : X.env.frame = some X.env.locals)
    (hN : X.N.Nodup) (hi : X.N[i]? = some n) (hl : X.env.scope.names.lookup n = some .local)
    (hb : ∀ (E' : XK) (pn : List (Addr × Obj)) (xe : Value → Shared → Prop), Passes (CX1 X.prog X.w) (X.bear pn xe) E' → PSs (X.bear pn xe) body (tb E')) (hs : ∀ v, PSs (X.within v) (b0 :: suite) ts) (hdb : (nm == ("__debug__" : Str)) = false := by decide) :
    PS X (.Try body [.ExceptHandler (some (.Name nm np)) (some n) (b0 :: suite) hpos] [] [] pos) (fun D σ H => tb (EF C fld i ts D) D σ H) := by
  intro pins s σ H D I h
  obtain ⟨cnm, q, N, bs, sn, sub, ab, col, dd, k0, k1, k2, k3, k5, cN, dN, es, ep, slN, lC, lN, sk, f1, f2, f3, f4, f5, f6, f7⟩ := T
  refine wpAny_Try_except ?_
  refine wpAny_mono (hb (EF C fld i ts D) pins _ ?_ [] s σ H D (I.bear _) h) (fun f s1 z => ?_) (fun e s1 z => z)
  · rintro pins2 σ2 H2 s2 e s3 J ⟨x, C', dx, T0, H3, rfl, os, bare, un, hok, tr, hx, hT, nx, nT, hC, dx', k, hdx, hxd, hsuite⟩
    cases hC
    cases hdx
    have J := J.unbear
    have un : Un (frs X.stack) [] H2 H3 s2.heap s3.heap := un
    have K1 := J.afterX os bare un hok
    have fr1 : X.A.frames = some (X.env :: X.outer) := by rw [← hst]; exact K1.ok.frames
    show wpAny (model X.prog X.w) X.A (noteFrame (.ref x) X.env) _ _ s3
    refine note_next (base := X.base) (outer := X.outer) fr1 (by have := K1.stack; rw [hst] at this; exact this) hfr tr fun h1 T1 t1 n1 r1 => land r1 fun h2 t2 r2 => ?_
    have g1 : X.s_0.heap.get? x = none := there_none J hex nx
    have g2 : X.s_0.heap.get? T1 = none := there_none K1 hex n1
    have g3 : X.s_0.heap.get? T0 = none := there_none J hex nT
    have nT1 : H3 T1 = none := hok.none n1
    have tt : Touch (frs X.stack) ([T0, x] ++ [T1]) s3.heap h2 := by
      rw [hst]
      exact t1.trans ⟨fun b o _ m z => t2.rest b o (by simp) m z, fun b o _ m z => ⟨o.slots, t2.rest b o (by simp) m z⟩⟩
    have apx := J.apart nx
    have K2 := K1.touch hex tt (fun b hb => by
      simp only [List.mem_append, List.mem_cons, List.mem_singleton, List.not_mem_nil, or_false] at hb
      rcases hb with (rfl | rfl) | rfl
      · exact ⟨hT, g3, J.apart nT⟩
      · exact ⟨hx, g1, apx⟩
      · exact ⟨nT1, g2, K1.apart n1⟩)
    obtain ⟨oe, vs, oT, ts', q1, q2, q3, q4, q5, q6, q7, q8, q9⟩ := id r2
    refine wpAny_handleBy_cons (codeAny_handlers_test (ld_glob (X := X.within (.ref x)) (K2.within (.ref x)) hg hm (wpAny_excMatches_sub_self (K2.kIn _ _ lC) q1 q2 (by decide +kernel) ?_) hdb)) (by intro z; cases z)
    show codeAny _ _ (.handlers _ _ _) _ _
    refine codeAny_handlers_suite_as (land r2 fun h3 t3 r3 => ?_)
    have K3 := K2.touch hex (h' := h3) (ch := [T1]) ⟨fun b o _ m z => t3.rest b o (by simp) m z, fun b o _ m z => ⟨o.slots, t3.rest b o (by simp) m z⟩⟩ (fun b hb => by
      rw [List.mem_singleton] at hb
      subst hb
      exact ⟨nT1, g2, K1.apart n1⟩)
    obtain ⟨oe3, vs3, _, _, w1, w2, w3, w4, _⟩ := r3
    have K4 := K3.track (a := x) (φ := ExT x C dx) hx g1 apx (ExT.ok ⟨oe3, vs3, w1, w2, w3, w4⟩)
    refine store_ok K4 hN hi (.inl hl) (v := .ref x) (u := .ref x) rfl (fun s5 K5 => ?_) (.inr hl)
    have iσ : i < σ2.length := by rw [J.len]; exact (List.getElem?_eq_some_iff.mp hi).1
    have K7 : Inv (X.within (.ref x)) pins (σ2.set i (some (.ref x))) (upd H3 x (.ext (ExT x C dx))) s5 := K5.within (.ref x)
    refine wpAny_mono (hs (.ref x) pins s5 _ _ _ K7 (hsuite x σ2 hx iσ)) (fun f s6 z => ?_) (fun e s6 z => z.elim)
    cases f with
    | next => obtain ⟨_, _, _, z⟩ := z; exact z.elim
    | brk => obtain ⟨_, _, _, z⟩ := z; exact z.elim
    | cont => obtain ⟨_, _, _, z⟩ := z; exact z.elim
    | ret u =>
      obtain ⟨v, σ6, H6, J6, rv, hx6, q6⟩ := z
      have J7 := (J6.outside (X := X) I.ok.hd).dropX hx6
      obtain ⟨m, hn, _⟩ := id J7.loc
      refine wpAny_nameGoes (m := m) hl hn (by rw [I.ok.kind]; rfl) fun h7 m7 n7 sb => ⟨v, List.replicate X.N.length none, _, ?_, rv, q6⟩
      exact J7.forget n7 sb
  · have z1 := SP.unbear z
    cases f with
    | next => exact wpAny_execs_nil z1
    | brk => exact z1
    | cont => exact z1
    | ret u => exact z1
end L2
end
section
set_option Elab.async false
set_option linter.all false
set_option maxRecDepth 100000
set_option maxHeartbeats 4000000
namespace L2
open PySem PySem.Spec PyProof.Rows
open PySem.Builtin PySem.Builtin.ObjectAttr
section
variable {prog : Program} {w : World} {A : Around} {E : Value → Shared → Prop} {h : Heap} {gs : Array GenState} {dr : Drawn} {tk : Nat} {os : OsState}
variable {nm q : Str} {C N x dx : Addr} {bs : List Value} {sn : List Str} {sub : List Value} {ab : Bool} {col : Option Bool} {dd : Option Addr} {k0 k1 k2 k3 k5 : Option Value} {newId : String}
  {mN mA : Str → Option Value} {name : Str} {v : Value} {o : Obj} {vs : Array Value}
noncomputable abbrev excBm : List Value := [.type "Exception", .type "BaseException", .type "object"]
theorem getX_entry {ut : Tok} {Q : Fin → Shared → Prop} (hC : h.get? C = some (excClassObj nm q C N bs excBm true sn sub ab col dd k0 k1 k2 k3 k5 newId)) (hN : h.Ns N mN) (hname : mN name = none) (hB : typeLookup (.type "Exception") name = pure none)
    (hx : h.get? x = some o) (hc : o.cls = .ref C) (hdct : o.dict = some dx) (hd : o.data = .fields vs) (hns : h.Ns1 dx mA) (hv : mA name = some v) (hq : Q (.done (.ret v)) ⟨h, gs, dr, tk, os⟩) :
    wpAny (model prog w) A (Builtin.«object.__getattribute__» ⟨[.ref x, .str name ut], []⟩) Q E ⟨h, gs, dr, tk, os⟩ := by
  unfold Builtin.«object.__getattribute__»
  repeat (first | (with_reducible refine wpAny_loadPart_at hx ?_; rw [hc]) | (with_reducible refine wpAny_typeLookup_exc hC hN F.attrBase_Exception.mro hB ?_; rw [hname]) | wp_step)
  rw [hd]
  show wpAny _ _ (instanceDict x false) _ _ _
  unfold instanceDict
  repeat (first | (with_reducible refine wpAny_loadPart_at hx ?_; rw [hc]) | with_reducible refine wpAny_loadPart_at hC ?_ | wp_step)
  rw [hdct]
  repeat (first | (with_reducible refine wpAny_nsGet hns.ns ?_; rw [hv]) | wp_step)
  exact hq
theorem getX_check {M : Model} {nameV : Value} {Q : Unit → Shared → Prop} (hC : h.get? C = some (excClassObj nm q C N bs excBm true sn sub ab col dd k0 k1 k2 k3 k5 newId))
    (hx : h.get? x = some o) (hc : o.cls = .ref C) (hq : Q () ⟨h, gs, dr, tk, os⟩) : wpAny M A (checkBuiltinCall "BaseException.__getattribute__" ⟨[.ref x, nameV], []⟩) Q E ⟨h, gs, dr, tk, os⟩ := by
  have kd : builtinKind "BaseException.__getattribute__" = some .slot := by decide +kernel
  have spl : splitId "BaseException.__getattribute__" = some ("BaseException", "__getattribute__") := by decide +kernel
  have cB : (Value.ref C :: excBm).contains (.type "BaseException") = true := by rw [List.contains_cons, show excBm.contains (.type "BaseException") = true by decide +kernel, Bool.or_true]
  have ar := F.args_bexc_ga (.ref x) nameV
  simp only [checkBuiltinCall, kd, spl]
  refine wpAny_bind ?_
  unfold isInstance
  repeat (first | (with_reducible refine wpAny_loadPart_at hx ?_; rw [hc]) | (with_reducible refine wpAny_isSubtype_exc hC ?_; rw [cB]) | wp_step)
  exact hq
theorem getX_attr {expr : Bool} {Q : Value → Shared → Prop} (hC : h.get? C = some (excClassObj nm q C N bs excBm true sn sub ab col dd k0 k1 k2 k3 k5 newId)) (hN : h.Ns N mN) (hga : mN "__getattribute__" = none) (hgt : mN "__getattr__" = none) (hname : mN name = none) (hB : typeLookup (.type "Exception") name = pure none)
    (hx : h.get? x = some o) (hc : o.cls = .ref C) (hdct : o.dict = some dx) (hd : o.data = .fields vs) (hns : h.Ns1 dx mA) (hv : mA name = some v) (hh : handedOut v = pure v) (hq : Q v ⟨h, gs, dr, tk + 1, os⟩) :
    wpAny (model prog w) A (getAttr (.ref x) name expr) Q E ⟨h, gs, dr, tk, os⟩ := by
  have fb := F.attrBase_Exception.ga.bind (.ref x)
  have g0 : (expr && onTheHeap (Value.builtin "BaseException.__getattribute__")) = false := by cases expr <;> rfl
  have g2 : (Value.builtin "BaseException.__getattribute__" == Value.builtin "object.__getattribute__") = false := by decide +kernel
  have g1 : (onTheHeap (Value.ref C) && Value.builtin "BaseException.__getattribute__" == Value.builtin "object.__getattribute__") = false := by rw [g2]; rfl
  unfold getAttr
  repeat (any_goals (first | assumption | (with_reducible refine wpAny_loadPart_at hx ?_; rw [hc]) | (with_reducible refine wpAny_typeLookup_exc hC hN F.attrBase_Exception.mro F.attrBase_Exception.ga.lookup ?_; rw [hga]) | (with_reducible refine wpAny_typeLookup_exc hC hN F.attrBase_Exception.mro F.attrBase_Exception.noGetattr ?_; rw [hgt]) | wp_step))
  refine codeAny_call_builtin F.attrBase_Exception.ga.plain F.entry_bexc_ga (getX_check hC hx hc (getX_entry hC hN hname hB hx hc hdct hd hns hv ?_))
  show wpAny _ _ (handedOut v) _ _ _
  rw [hh]
  exact wpAny_pure hq
end
/-- e.f of an exception in hand -/
noncomputable def tXF (C : Addr) (f : Str) (te : TE) : TE := fun σ H Q => te σ H fun v H1 => ∃ x dx k, v = .ref x ∧ H1 x = some (.ext (ExT x C dx)) ∧ H1 dx = some (.xd [(f, .int k)]) ∧ Q (.int k) H1
theorem pe_xfld {X : Cx} {C fI : Addr} {f : Str} {e : Expr} {te : TE} {pos : Pos} (T : XT X.K C fI f) (he : PE X e te) (hb : attributeBase e f X.env (eval e X.env) = eval e X.env := by rfl) : PE X (.Attribute e f pos) (tXF C f te) := by
  obtain ⟨cnm, q, N, bs, sn, sub, ab, col, dd, k0, k1, k2, k3, k5, cN, dN, es, ep, slN, lC, lN, sk, f1, f2, f3, f4, f5, f6, f7⟩ := T
  intro pins s σ H Q I h
  refine attr_of hb (thn (he pins s σ H _ I h) fun u s1 ⟨y, H1, I1, rx, x, dx, k, ey, hx, hdx, q2⟩ => ?_)
  subst ey
  obtain rfl : u = Value.ref x := rx
  obtain ⟨⟨oe, vs, w1, w2, w3, w4⟩, _, _⟩ := I1.hok x _ hx
  obtain ⟨mA, n1, rel⟩ := I1.hok dx _ hdx
  have rf := rel f
  rw [List.lookup_cons_self] at rf
  obtain ⟨uv, hu, ru⟩ := RelO.some_of rf
  obtain ⟨hp, gs, dr, tk, os⟩ := s1
  have hN : hp.Ns N (nsFind es) := ⟨_, es, ep, I1.kIn _ _ lN, rfl, sk, fun _ => rfl⟩
  exact getX_attr (I1.kIn _ _ lC) hN f3 f4 f5 f7 w1 w2 w3 w4 n1 hu (by obtain ⟨t, rfl⟩ := ru; rfl) ⟨.int k, H1, I1.tok _, ru, q2⟩
/-! ## calls that may raise -/
noncomputable def CalX (P : Program) (w : World) (K : PySem.W.Frag) (mg : Str → Option Value) (base : Heap) (nm : Str) (ps : List Str) (k : Nat) (sp : Sp) : Prop :=
  ∃ f fd, FnOk P w K mg base (CX1 P w) k f fd ps sp ∧ mg nm = some (.ref f) ∧ PySem.W.keepIn K (.ref f) = true ∧ Binds K fd ps []
section
variable {P : Program} {w : World} {K : PySem.W.Frag} {mg : Str → Option Value} {base : Heap}
theorem Fun.okX {x qual : Str} {st : Stmt} {f : Addr} {fd : FuncData} {N ps : List Str} {k : Nat} {sp : Sp} (F : Fun K x qual st f fd) (S : FnScope N ps (defScope st)) (len : ∀ vs H Q E, sp vs H Q E → vs.length = ps.length)
    (hbody : ∀ (cdv : Value) (A : Around) (outer : List Env) (s : Shared) (H : Hp) (vs : List V) (Q : VK) (E : XK), Room k (A.deeper (envOfC qual (defScope st) s.heap.objs.size f cdv)) → sp vs H Q E →
      ∃ t, PSs (cxOf (CX1 P w) P w K mg base N qual (defScope st) f cdv A outer s H E) (defBody st) t ∧ t { nx := fun _ H' => Q .non H', rt := Q } (start N vs) H) : FnOk P w K mg base (CX1 P w) (k + 1) f fd ps sp := by
  obtain ⟨oc, od, kV, doc, pm, an, cdv, ct, osl, rfl, lk, hcd⟩ := F.ex
  exact fn_of lk hcd S len fun A outer s H vs Q E hr hsp => hbody cdv A outer s H vs Q E hr hsp
theorem At.calX {nm : Str} {st : Stmt} {N ps : List Str} {k : Nat} {sp : Sp} (T : At K mg nm st ps) (S : FnScope N ps (defScope st)) (len : ∀ vs H Q E, sp vs H Q E → vs.length = ps.length)
    (hbody : ∀ (f : Addr) (cdv : Value) (A : Around) (outer : List Env) (s : Shared) (H : Hp) (vs : List V) (Q : VK) (E : XK), Room k (A.deeper (envOfC nm (defScope st) s.heap.objs.size f cdv)) → sp vs H Q E →
      ∃ t, PSs (cxOf (CX1 P w) P w K mg base N nm (defScope st) f cdv A outer s H E) (defBody st) t ∧ t { nx := fun _ H' => Q .non H', rt := Q } (start N vs) H) : CalX P w K mg base nm ps (k + 1) sp := by
  obtain ⟨f, fd, F, hm, hb⟩ := T
  exact ⟨f, fd, F.okX S len (fun cdv A outer s H vs Q E hr h => hbody f cdv A outer s H vs Q E hr h), hm, F.kp, hb⟩
end
theorem pe_calX {X : Cx} {e : Expr} {es : List Expr} {t : TA} {p pos : Pos} {nm : Str} {ps : List Str} {k : Nat} {sp : Sp} {E : XK} (C : CalX X.prog X.w X.K X.mg X.base nm ps k sp) (hx : Passes (CX1 X.prog X.w) X E) (hr : Room k X.A) (hg : Gl X nm)
    (ha : PA X (e :: es) t) (hdb : (nm == ("__debug__" : Str)) = false := by decide) (he : starEach (e :: es) X.env = (false, eval e X.env) :: starEach es X.env := by rfl) (hpl : (backTo pos (starEach es X.env)).any (·.1) = false := by rfl) :
    PE X (.Call (.Name nm p) (e :: es) [] pos) (tCall sp [] E t) := by
  obtain ⟨f, fd, F, hm, hk, hb⟩ := C
  exact pe_call F hr hg hm hk hb .nil hx ha hdb he hpl
end L2
end
section
set_option Elab.async false
set_option linter.all false
set_option maxRecDepth 100000
set_option maxHeartbeats 4000000
namespace L2
open PySem PySem.Spec PyProof.Rows
/-! ## attributes by what stands at an address -/
theorem putF_putF (f : Str) (v u : V) : ∀ fs : List (Str × V), putF f v (putF f u fs) = putF f v fs
  | [] => by simp [putF]
  | (g, x) :: r => by
    by_cases h : g = f
    · simp [putF, h]
    · simp [putF, h, putF_putF f v u r]
noncomputable def tFA {Y : Type} (At : Hp → Addr → Y → Prop) (g : Y → V) (te : TE) : TE := fun σ H Q => te σ H fun x H1 => ∃ a y, x = .ref a ∧ At H1 a y ∧ Q (g y) H1
noncomputable def FldOf {Y : Type} (K : PySem.W.Frag) (f : Str) (At : Hp → Addr → Y → Prop) (g : Y → V) : Prop := ∀ H a y, At H a y → ∃ C dx fs, H a = some (.ins C dx fs) ∧ Cls K C ∧ NoAttr K C f ∧ fs.lookup f = some (g y)
theorem pe_fat {X : Cx} {Y : Type} {At : Hp → Addr → Y → Prop} {g : Y → V} {f : Str} {e : Expr} {te : TE} {pos : Pos} (T : FldOf X.K f At g) (he : PE X e te) (hb : attributeBase e f X.env (eval e X.env) = eval e X.env := by rfl) : PE X (.Attribute e f pos) (tFA At g te) := by
  intro pins s σ H Q I h
  refine attr_of hb (thn (he pins s σ H _ I h) fun u s1 ⟨x, H1, I1, rx, a, y, ex, ea, q⟩ => ?_)
  subst ex
  obtain rfl : u = Value.ref a := rx
  obtain ⟨C, dx, fs, e1, e2, e3, e4⟩ := T H1 a y ea
  exact getattr_ok I1 e1 e2 e3 e4 fun u' s2 I2 ru => ⟨_, H1, I2, ru, q⟩
/-! ## the program's Exact -/
noncomputable def ef (x : Bx.Ex) : List (Str × V) := putF "infinite" (.bl x.inf) (putF "fives" (.int x.fives) (putF "twos" (.int x.twos) (putF "whole" (.int x.whole) [])))
theorem ef_look (x : Bx.Ex) : (ef x).lookup ("whole" : Str) = some (.int x.whole) ∧ (ef x).lookup ("twos" : Str) = some (.int x.twos) ∧ (ef x).lookup ("fives" : Str) = some (.int x.fives) ∧ (ef x).lookup ("infinite" : Str) = some (.bl x.inf) := by
  unfold ef
  refine ⟨?_, ?_, ?_, ?_⟩
  · rw [lookup_putF, if_neg (by decide +kernel), lookup_putF, if_neg (by decide +kernel), lookup_putF, if_neg (by decide +kernel), lookup_putF, if_pos rfl]
  · rw [lookup_putF, if_neg (by decide +kernel), lookup_putF, if_neg (by decide +kernel), lookup_putF, if_pos rfl]
  · rw [lookup_putF, if_neg (by decide +kernel), lookup_putF, if_pos rfl]
  · rw [lookup_putF, if_pos rfl]
noncomputable def EAt (C : Addr) (H : Hp) (a : Addr) (x : Bx.Ex) : Prop := ∃ dx, H a = some (.ins C dx (ef x))
theorem EAt.same {C : Addr} {H H' : Hp} {a : Addr} {x : Bx.Ex} (h : EAt C H a x) (s : Same H H') : EAt C H' a x := by
  obtain ⟨dx, e⟩ := h; exact ⟨dx, s _ _ e⟩
theorem EAt.inj {C : Addr} {H : Hp} {a : Addr} {x y : Bx.Ex} (h : EAt C H a x) (k : EAt C H a y) : x = y := by
  obtain ⟨dx, e⟩ := h
  obtain ⟨dy, f⟩ := k
  rw [e] at f
  have f' := Option.some.inj f
  injection f' with _ _ g
  have a1 := ef_look x
  have a2 := ef_look y
  rw [g] at a1
  have b1 := Option.some.inj (a1.1.symm.trans a2.1)
  have b2 := Option.some.inj (a1.2.1.symm.trans a2.2.1)
  have b3 := Option.some.inj (a1.2.2.1.symm.trans a2.2.2.1)
  have b4 := Option.some.inj (a1.2.2.2.symm.trans a2.2.2.2)
  injection b1 with b1
  injection b2 with b2
  injection b3 with b3
  injection b4 with b4
  cases x; cases y
  simp only at b1 b2 b3 b4
  subst b1 b2 b3 b4
  rfl
theorem eat_ex {C : Addr} {H : Hp} {p : Addr} {x : Bx.Ex} (hx : EAt C H p x) {R : Bx.Ex → Prop} : (∃ u, EAt C H p u ∧ R u) ↔ R x := by
  constructor
  · rintro ⟨u, h, r⟩; rw [hx.inj h]; exact r
  · intro r; exact ⟨x, hx, r⟩
structure ETxt (K : PySem.W.Frag) (C : Addr) : Prop where
  cl : Cls K C
  n1 : NoAttr K C "whole"
  n2 : NoAttr K C "twos"
  n3 : NoAttr K C "fives"
  n4 : NoAttr K C "infinite"
section
variable {K : PySem.W.Frag} {C : Addr}
theorem ETxt.whole (T : ETxt K C) : FldOf K "whole" (EAt C) (fun x => .int x.whole) := fun H a y ⟨dx, e⟩ => ⟨C, dx, _, e, T.cl, T.n1, (ef_look y).1⟩
theorem ETxt.twos (T : ETxt K C) : FldOf K "twos" (EAt C) (fun x => .int x.twos) := fun H a y ⟨dx, e⟩ => ⟨C, dx, _, e, T.cl, T.n2, (ef_look y).2.1⟩
theorem ETxt.fives (T : ETxt K C) : FldOf K "fives" (EAt C) (fun x => .int x.fives) := fun H a y ⟨dx, e⟩ => ⟨C, dx, _, e, T.cl, T.n3, (ef_look y).2.2.1⟩
theorem ETxt.infinite (T : ETxt K C) : FldOf K "infinite" (EAt C) (fun x => .bl x.inf) := fun H a y ⟨dx, e⟩ => ⟨C, dx, _, e, T.cl, T.n4, (ef_look y).2.2.2⟩
end
noncomputable def spInitE (C : Addr) : Sp := fun vs H Q _ => ∃ p dx w t f i, vs = [.ref p, .int w, .int t, .int f, .bl i] ∧ H p = some (.ins C dx []) ∧ ∀ H' : Hp, EAt C H' p ⟨w, t, f, i⟩ → (∀ b o, H b = some o → b ≠ p → H' b = some o) → Q .non H'
noncomputable def MkE (P : Program) (w : World) (K : PySem.W.Frag) (mg : Str → Option Value) (base : Heap) (C : Addr) (k : Nat) : Prop :=
  ∃ f fd, Mk K C f ∧ FnOk P w K mg base CX0 k f fd ["self", "whole", "twos", "fives", "infinite"] (spInitE C) ∧ mg "Exact" = some (.ref C) ∧ Binds K fd ["self", "whole", "twos", "fives", "infinite"] []
noncomputable def mkeq (C : Addr) (vs : List V) (H1 : Hp) (Q : VK) : Prop := ∃ w t f i, vs = [.int w, .int t, .int f, .bl i] ∧ ∀ (x : Addr) (H' : Hp), Same H1 H' → EAt C H' x ⟨w, t, f, i⟩ → Q (.ref x) H'
theorem mkeq_app {C : Addr} {w t f : Int} {i : Bool} {H1 : Hp} {Q : VK} : mkeq C [.int w, .int t, .int f, .bl i] H1 Q ↔ ∀ (x : Addr) (H' : Hp), Same H1 H' → EAt C H' x ⟨w, t, f, i⟩ → Q (.ref x) H' := by
  constructor
  · rintro ⟨_, _, _, _, e, h⟩; cases e; exact h
  · intro h; exact ⟨w, t, f, i, rfl, h⟩
noncomputable def tMkE (C : Addr) (t : TA) : TE := fun σ H Q => t σ H fun vs H1 => mkeq C vs H1 Q
/-! ## the program's Reader -/
noncomputable def rf (cs : Addr) (i : Int) : List (Str × V) := putF "spot" (.int i) (putF "codes" (.ref cs) [])
theorem rf_look (cs : Addr) (i : Int) : (rf cs i).lookup ("codes" : Str) = some (.ref cs) ∧ (rf cs i).lookup ("spot" : Str) = some (.int i) ∧ (rf cs i).lookup ("ahead" : Str) = none ∧ (rf cs i).lookup ("passes" : Str) = none ∧ (rf cs i).lookup ("take" : Str) = none := by
  unfold rf
  refine ⟨?_, ?_, ?_, ?_, ?_⟩
  · rw [lookup_putF, if_neg (by decide +kernel), lookup_putF, if_pos rfl]
  · rw [lookup_putF, if_pos rfl]
  · rw [lookup_putF, if_neg (by decide +kernel), lookup_putF, if_neg (by decide +kernel)]; rfl
  · rw [lookup_putF, if_neg (by decide +kernel), lookup_putF, if_neg (by decide +kernel)]; rfl
  · rw [lookup_putF, if_neg (by decide +kernel), lookup_putF, if_neg (by decide +kernel)]; rfl
theorem rf_put (cs : Addr) (i j : Int) : putF "spot" (.int j) (rf cs i) = rf cs j := putF_putF _ _ _ _
theorem rf_len (cs : Addr) (i : Int) : (rf cs i).length < 1000 := by
  have h1 := length_putF "spot" (.int i) (putF "codes" (.ref cs) [])
  have h2 := length_putF "codes" (.ref cs) []
  unfold rf
  have : ([] : List (Str × V)).length = 0 := rfl
  omega
noncomputable def R0 (C : Addr) (H : Hp) (a : Addr) (y : Addr × Int) : Prop := ∃ dx, H a = some (.ins C dx (rf y.1 y.2))
structure RTxt (K : PySem.W.Frag) (C : Addr) : Prop where
  cl : Cls K C
  n1 : NoAttr K C "codes"
  n2 : NoAttr K C "spot"
section
variable {K : PySem.W.Frag} {C : Addr}
theorem RTxt.codes (T : RTxt K C) : FldOf K "codes" (R0 C) (fun y => .ref y.1) := fun H a y ⟨dx, e⟩ => ⟨C, dx, _, e, T.cl, T.n1, (rf_look y.1 y.2).1⟩
theorem RTxt.spot (T : RTxt K C) : FldOf K "spot" (R0 C) (fun y => .int y.2) := fun H a y ⟨dx, e⟩ => ⟨C, dx, _, e, T.cl, T.n2, (rf_look y.1 y.2).2.1⟩
end
noncomputable def spInitR (C : Addr) : Sp := fun vs H Q _ => ∃ p dx cs, vs = [.ref p, .ref cs] ∧ H p = some (.ins C dx []) ∧ ∀ H' : Hp, R0 C H' p (cs, 0) → (∀ b o, H b = some o → b ≠ p → H' b = some o) → Q .non H'
noncomputable def MkR (P : Program) (w : World) (K : PySem.W.Frag) (mg : Str → Option Value) (base : Heap) (C : Addr) (k : Nat) : Prop :=
  ∃ f fd, Mk K C f ∧ FnOk P w K mg base CX0 k f fd ["self", "codes"] (spInitR C) ∧ mg "Reader" = some (.ref C) ∧ Binds K fd ["self", "codes"] []
noncomputable def tMkR (C : Addr) (t : TA) : TE := fun σ H Q => t σ H fun vs H1 => ∃ cs, vs = [.ref cs] ∧ ∀ (x : Addr) (H' : Hp), H1 x = none → Same H1 H' → R0 C H' x (cs, 0) → Q (.ref x) H'
section
variable {X : Cx} {e : Expr} {es : List Expr} {te : TE} {t : TA} {p pos : Pos} {C : Addr} {k : Nat}
theorem pe_mkE (M : MkE X.prog X.w X.K X.mg X.base C k) (hr : Room (k + 1) X.A) (hg : Gl X "Exact") (ha : PA X (e :: es) t)
    (he : starEach (e :: es) X.env = (false, eval e X.env) :: starEach es X.env := by rfl) (hpl : (backTo pos (starEach es X.env)).any (·.1) = false := by rfl) :
    PE X (.Call (.Name "Exact" p) (e :: es) [] pos) (tMkE C t) := by
  obtain ⟨f, fd, mk, F, hm, hb⟩ := M
  intro pins s σ H Q I h
  refine wpAny_Call_Name_kw (ld_glob I hg hm ?_ (by decide))
  refine PySem.W.callWith_K (h₀ := X.base) I.ok.mod.kin mk.kp (thn (ha pos pins s σ H _ I h) fun us s1 ⟨vs, H1, I1, r, w, tw, fi, i, ev, q⟩ => ⟨I1.kIn, ?_⟩) he hpl
  subst ev
  exact run_make (E := E0) mk F hr hb .nil pass0 I1 r fun x dx nx nd ne => ⟨x, dx, w, tw, fi, i, rfl, upd_same, fun H' hv kp => ⟨rfl, q x H' (Same.made nx nd kp) hv⟩⟩
theorem pe_mkR (M : MkR X.prog X.w X.K X.mg X.base C k) (hr : Room (k + 1) X.A) (hg : Gl X "Reader") (ha : PA X (e :: es) t)
    (he : starEach (e :: es) X.env = (false, eval e X.env) :: starEach es X.env := by rfl) (hpl : (backTo pos (starEach es X.env)).any (·.1) = false := by rfl) :
    PE X (.Call (.Name "Reader" p) (e :: es) [] pos) (tMkR C t) := by
  obtain ⟨f, fd, mk, F, hm, hb⟩ := M
  intro pins s σ H Q I h
  refine wpAny_Call_Name_kw (ld_glob I hg hm ?_ (by decide))
  refine PySem.W.callWith_K (h₀ := X.base) I.ok.mod.kin mk.kp (thn (ha pos pins s σ H _ I h) fun us s1 ⟨vs, H1, I1, r, cs, ev, q⟩ => ⟨I1.kIn, ?_⟩) he hpl
  subst ev
  exact run_make (E := E0) mk F hr hb .nil pass0 I1 r fun x dx nx nd ne => ⟨x, dx, cs, rfl, upd_same, fun H' hv kp => ⟨rfl, q x H' nx (Same.made nx nd kp) hv⟩⟩
end
/-! ## the heap but for the reader -/
noncomputable def But (r : Addr) (H H' : Hp) : Prop := ∀ b o, b ≠ r → H b = some o → H' b = some o
theorem But.refl {r : Addr} (H : Hp) : But r H H := fun _ _ _ e => e
theorem But.trans {r : Addr} {H H1 H2 : Hp} (a : But r H H1) (b : But r H1 H2) : But r H H2 := fun c o n e => b c o n (a c o n e)
theorem Same.but {r : Addr} {H H' : Hp} (s : Same H H') : But r H H' := fun b o _ e => s b o e
theorem But.put {r : Addr} {H : Hp} {o : HO} : But r H (upd H r o) := fun b u n e => by rw [upd_ne n]; exact e
theorem But.new {r p : Addr} {H H' : Hp} {o : HO} (b : But r H H') (hp : H' p = none) : But r H (upd H' p o) := fun c u n e => by
  have := b c u n e
  rw [upd_ne (ne_of_none this hp)]; exact this
theorem EAt.but {C r : Addr} {H H' : Hp} {a : Addr} {x : Bx.Ex} (h : EAt C H a x) (n : a ≠ r) (s : But r H H') : EAt C H' a x := by
  obtain ⟨dx, e⟩ := h; exact ⟨dx, s _ _ n e⟩
/-- the reader at r is at place i of the text l -/
noncomputable def RAt (K : PySem.W.Frag) (C : Addr) (l : List Int) (H : Hp) (r : Addr) (i : Nat) : Prop := ∃ cs, R0 C H r (cs, (i : Int)) ∧ SqL K H cs (l.map V.int)
theorem SqL.but {K : PySem.W.Frag} {C dx r : Addr} {fs : List (Str × V)} {H H' : Hp} {cs : Addr} {xs : List V} (h : SqL K H cs xs) (hr : H r = some (.ins C dx fs)) (b : But r H H') : SqL K H' cs xs := by
  rcases h with (h | ⟨o, h⟩) | h
  · exact .inl (.inl (b _ _ (fun z => by rw [z, hr] at h; cases h) h))
  · exact .inl (.inr ⟨o, b _ _ (fun z => by rw [z, hr] at h; cases h) h⟩)
  · exact .inr h
theorem SqL.same {K : PySem.W.Frag} {H H' : Hp} {cs : Addr} {xs : List V} (h : SqL K H cs xs) (b : Same H H') : SqL K H' cs xs := by
  rcases h with (h | ⟨o, h⟩) | h
  · exact .inl (.inl (b _ _ h))
  · exact .inl (.inr ⟨o, b _ _ h⟩)
  · exact .inr h
theorem RAt.same {K : PySem.W.Frag} {C : Addr} {l : List Int} {H H' : Hp} {r : Addr} {i : Nat} (h : RAt K C l H r i) (s : Same H H') : RAt K C l H' r i := by
  obtain ⟨cs, ⟨dx, e⟩, q⟩ := h
  exact ⟨cs, ⟨dx, s _ _ e⟩, q.same s⟩
theorem RAt.moved {K : PySem.W.Frag} {C : Addr} {l : List Int} {H : Hp} {r cs dx : Addr} {i : Nat} {j : Int} (e : H r = some (.ins C dx (rf cs (i : Int)))) (q : SqL K H cs (l.map V.int)) {n : Nat} (hj : j = n) : RAt K C l (upd H r (.ins C dx (putF "spot" (.int j) (rf cs (i : Int))))) r n := by
  subst hj
  rw [rf_put]
  exact ⟨cs, ⟨dx, upd_same⟩, q.but e But.put⟩
noncomputable def aheadI (l : List Int) (i : Nat) : Int := (l[i]?).getD (-1)
noncomputable def MCal (P : Program) (w : World) (K : PySem.W.Frag) (mg : Str → Option Value) (base : Heap) (CX : CXT) (C : Addr) (m : Str) (ps : List Str) (k : Nat) (sp : Sp) : Prop := ∃ f fd, Meth K C m f ∧ FnOk P w K mg base CX k f fd ps sp ∧ Binds K fd ps []
/-! ## promises -/
noncomputable def spAhead (K : PySem.W.Frag) (CR : Addr) : Sp := fun vs H Q _ => ∃ l r i, vs = [.ref r] ∧ RAt K CR l H r i ∧ Q (.int (aheadI l i)) H
noncomputable def spPasses (K : PySem.W.Frag) (CR : Addr) : Sp := fun vs H Q _ => ∃ l r i c, vs = [.ref r, .str (ST [c])] ∧ 0 ≤ c ∧ RAt K CR l H r i ∧ (if l[i]? = some c then ∀ H', But r H H' → RAt K CR l H' r (i + 1) → Q (.bl true) H' else Q (.bl false) H)
/-- a fault at n -/
noncomputable def Flt (CF r : Addr) (H : Hp) (E : XK) (n : Nat) : Prop := ∀ H' dx, But r H H' → H' dx = some (.xd [("spot", .int (n : Int))]) → E (.ref CF) (some dx) H'
noncomputable def parQ {α : Type} (K : PySem.W.Frag) (CR CF r : Addr) (l : List Int) (i : Nat) (H : Hp) (E : XK) (R : α → Hp → Prop) : Bx.Par α → Prop
  | .error k => Flt CF r H E (i + k)
  | .ok (x, n) => ∀ H', But r H H' → RAt K CR l H' r (i + n) → R x H'
noncomputable def spTake (K : PySem.W.Frag) (CR CF : Addr) : Sp := fun vs H Q E => ∃ l r i ws, vs = [.ref r, .str (ST ws)] ∧ Bx.Pos0 ws ∧ RAt K CR l H r i ∧ parQ K CR CF r l i H E (fun (_ : Unit) H' => Q .non H') (match Bx.takeW ws (l.drop i) with | .error k => .error k | .ok n => .ok ((), n))
noncomputable def spDigits (K : PySem.W.Frag) (CR CF : Addr) : Sp := fun vs H Q E => ∃ l r i base most w, vs = [.ref r, .int base, .int most, .int w] ∧ (base = 10 ∨ base = 16) ∧ 0 ≤ most ∧ most ≤ 8192 ∧ 0 ≤ w ∧ w < ((2 ^ 40000 : Nat) : Int) ∧ l.length ≤ 8192 ∧ RAt K CR l H r i ∧
  parQ K CR CF r l i H E (fun v H' => Q (.int v) H') (Bx.takeD base most.toNat w (l.drop i))
noncomputable def spExpo (K : PySem.W.Frag) (CR CF : Addr) : Sp := fun vs H Q E => ∃ l r i mark, vs = [.ref r, .str (ST [mark])] ∧ 0 ≤ mark ∧ l.length ≤ 8192 ∧ RAt K CR l H r i ∧ parQ K CR CF r l i H E (fun v H' => Q (.int v) H') (Bx.pExp mark (l.drop i))
noncomputable def exQ (CE r : Addr) (Q : VK) (x : Bx.Ex) (H' : Hp) : Prop := ∀ a H2, But r H' H2 → (∀ b o, H' b = some o → H2 b = some o) → a ≠ r → EAt CE H2 a x → Q (.ref a) H2
noncomputable def spFinite (K : PySem.W.Frag) (CE CR CF : Addr) : Sp := fun vs H Q E => ∃ l r i base mark sign w, vs = [.ref r, .int base, .str (ST [mark]), .int sign, .int w] ∧ (base = 10 ∨ base = 16) ∧ 0 ≤ mark ∧ (sign = 1 ∨ sign = -1) ∧ 0 ≤ w ∧ w < ((2 ^ 40000 : Nat) : Int) ∧ l.length ≤ 8192 ∧ RAt K CR l H r i ∧
  parQ K CR CF r l i H E (exQ CE r Q) (Bx.pFin base mark sign w (l.drop i))
noncomputable def spNumber (K : PySem.W.Frag) (CE CR CF : Addr) : Sp := fun vs H Q E => ∃ l r i, vs = [.ref r] ∧ l.length ≤ 8192 ∧ RAt K CR l H r i ∧ parQ K CR CF r l i H E (exQ CE r Q) (Bx.pNum (l.drop i))
noncomputable def lstQ (CE : Addr) (Q : VK) (xs : List Bx.Ex) (H' : Hp) : Prop := ∀ p as H2, Same H' H2 → H2 p = some (.lst (as.map V.ref)) → Paired (fun a x => EAt CE H2 a x) as xs → Q (.ref p) H2
noncomputable def spEnds (K : PySem.W.Frag) (CE CR CF : Addr) : Sp := fun vs H Q E => ∃ l r, vs = [.ref r] ∧ l.length ≤ 8192 ∧ RAt K CR l H r 0 ∧ parQ K CR CF r l 0 H E (lstQ CE Q) (Bx.pEnds l)
noncomputable def spSaid (K : PySem.W.Frag) (CE CF : Addr) : Sp := fun vs H Q E => ∃ l cs, vs = [.ref cs] ∧ l.length ≤ 8192 ∧ SqL K H cs (l.map V.int) ∧ match Bx.whole l.length (Bx.pEnds l) with
  | .error k => ∀ H' dx, Same H H' → H' dx = some (.xd [("spot", .int (k : Int))]) → E (.ref CF) (some dx) H'
  | .ok xs => ∀ H', Same H H' → lstQ CE Q xs H'
end L2
end
section
set_option Elab.async false
set_option linter.all false
set_option maxRecDepth 100000
set_option maxHeartbeats 4000000
namespace L2
open PySem PySem.Spec PyProof.Rows
/-- for sign in a text -/
theorem for_str {x : Str} {g : TG} {tb : TS} {D : Ends} {σ : St} {H : Hp} (Pv : Nat → St → Hp → Prop) (h0 : Pv 0 σ H)
    (hs : ∀ i c σ H, x.cps[i]? = some c → Pv i σ H → g (.str ⟨#[c]⟩) σ H fun σ2 H2 => tb { D with nx := Pv (i + 1), ct := Pv (i + 1), bk := D.nx } σ2 H2) (hd : ∀ σ H, Pv x.cps.size σ H → D.nx σ H) :
    ∃ W : Nat → Nat → St → Hp → Prop, (∃ m, W 0 m σ H) ∧ ∀ i m σ H, W i m σ H →
      ((Its x).stop i H ∧ D.nx σ H) ∨ ((Its x).go i H ∧ ∃ N : St → Hp → Prop, (∀ σ' H', N σ' H' → ∃ m', m' < m ∧ W (i + 1) m' σ' H') ∧ ∀ y H', (Its x).yld i H y H' → g y σ H' fun σ2 H2 => tb { D with nx := N, ct := N, bk := D.nx } σ2 H2) := by
  refine ⟨fun i m σ H => m = x.cps.size - i ∧ i ≤ x.cps.size ∧ Pv i σ H, ⟨x.cps.size, by simp, Nat.zero_le _, h0⟩, ?_⟩
  rintro i m σ H ⟨rfl, hi, p⟩
  by_cases hlt : i < x.cps.size
  · refine .inr ⟨hlt, Pv (i + 1), fun σ' H' p' => ⟨x.cps.size - (i + 1), by omega, rfl, hlt, p'⟩, fun y H' z => ?_⟩
    obtain ⟨e, c, hc, rfl⟩ := z
    subst e
    exact hs i c σ _ hc p
  · have e : i = x.cps.size := by omega
    subst e
    exact .inl ⟨Nat.le_refl _, hd σ H p⟩
theorem ST_ord {c : Int} (h : 0 ≤ c) : (((ST [c]).cps[0]?.getD 0 : Nat) : Int) = c := by
  show ((c.toNat : Nat) : Int) = c
  omega
theorem ord_0 : (((Str.ofString "0").cps[0]?.getD 0 : Nat) : Int) = 48 := by decide +kernel
theorem ord_9 : (((Str.ofString "9").cps[0]?.getD 0 : Nat) : Int) = 57 := by decide +kernel
theorem ord_a : (((Str.ofString "a").cps[0]?.getD 0 : Nat) : Int) = 97 := by decide +kernel
theorem ord_f : (((Str.ofString "f").cps[0]?.getD 0 : Nat) : Int) = 102 := by decide +kernel
theorem lit_x : Str.ofString "x" = ST [120] := by rw [Str.ofString_eq_toList]; rfl
theorem lit_e : Str.ofString "e" = ST [101] := by rw [Str.ofString_eq_toList]; rfl
theorem one_sign : (Str.ofString "0").length = 1 ∧ (Str.ofString "9").length = 1 ∧ (Str.ofString "a").length = 1 ∧ (Str.ofString "f").length = 1 ∧ (Str.ofString "i").length = 1 ∧ (Str.ofString "e").length = 1 := by decide +kernel
theorem ahead_ne {l : List Int} {i : Nat} {c : Int} (h : 0 ≤ c) (q : ¬ l[i]? = some c) : ¬ aheadI l i = c := by
  unfold aheadI
  cases e : l[i]? with
  | none => simp; omega
  | some z =>
    intro w
    apply q
    rw [e]
    simpa using w
theorem ahead_eq {l : List Int} {i : Nat} {c : Int} (q : l[i]? = some c) : aheadI l i = c := by unfold aheadI; rw [q]; rfl
theorem ahead_iff {l : List Int} {i : Nat} {c : Int} (h : 0 ≤ c) : aheadI l i = c ↔ (l.drop i).head? = some c := by
  rw [Bx.head_drop]
  constructor
  · intro w
    by_cases q : l[i]? = some c
    · exact q
    · exact absurd w (ahead_ne h q)
  · exact ahead_eq
theorem commW_step {ws b : List Int} {c : Int} {j : Nat} (h : ws[j]? = some c) : Bx.commW (ws.drop j) b = if b.head? = some c then 1 + Bx.commW (ws.drop (j + 1)) (b.drop 1) else 0 := by
  have e : ws.drop j = c :: ws.drop (j + 1) := by
    obtain ⟨lt, e⟩ := List.getElem?_eq_some_iff.mp h
    rw [← e]; exact List.drop_eq_getElem_cons lt
  rw [e]
  cases b with
  | nil => rfl
  | cons a r =>
    show (if c = a then 1 + Bx.commW (ws.drop (j + 1)) r else 0) = _
    by_cases z : c = a
    · subst z; simp
    · rw [if_neg z, if_neg (fun w => z (by simpa using w.symm))]
/-! ## the reader's steps -/
section
variable {K : PySem.W.Frag} {CR CF r : Addr} {l : List Int} {i j0 : Nat} {σ : St} {H : Hp} {Q : VK} {E : XK}
theorem rd_spot (h0 : σ[j0]? = some (some (.ref r))) (a : RAt K CR l H r i) (k : Q (.int (i : Int)) H) : tFA (R0 CR) (fun y => V.int y.2) (tVar j0) σ H Q := by
  obtain ⟨cs, hR, _⟩ := a
  exact ⟨_, h0, r, (cs, (i : Int)), rfl, hR, k⟩
theorem rd_ahead (h0 : σ[j0]? = some (some (.ref r))) (a : RAt K CR l H r i) (k : Q (.int (aheadI l i)) H) : tMeth CR "ahead" (spAhead K CR) [] E0 (tVar j0) tNil σ H Q := by
  obtain ⟨cs, ⟨dx, e⟩, hS⟩ := id a
  exact ⟨_, h0, r, dx, _, rfl, e, (rf_look _ _).2.2.1, l, r, i, rfl, a, k⟩
theorem rd_passes {c : Int} {te : TE} {ch : V} (h0 : σ[j0]? = some (some (.ref r))) (a : RAt K CR l H r i) (c0 : 0 ≤ c) (hc : ch = .str (ST [c])) (ht : ∀ R : VK, R ch H → te σ H R) (k1 : l[i]? = some c → ∀ H', But r H H' → RAt K CR l H' r (i + 1) → Q (.bl true) H') (k0 : ¬ l[i]? = some c → Q (.bl false) H) :
    tMeth CR "passes" (spPasses K CR) [] E0 (tVar j0) (tCons te tNil) σ H Q := by
  subst hc
  obtain ⟨cs, ⟨dx, e⟩, hS⟩ := id a
  refine ⟨_, h0, r, dx, _, rfl, e, (rf_look _ _).2.2.2.1, ht _ ⟨l, r, i, c, rfl, c0, a, ?_⟩⟩
  by_cases q : l[i]? = some c
  · rw [if_pos q]; exact k1 q
  · rw [if_neg q]; exact k0 q
theorem rd_take {ws : List Int} {te : TE} {ch : V} (h0 : σ[j0]? = some (some (.ref r))) (a : RAt K CR l H r i) (w0 : Bx.Pos0 ws) (hc : ch = .str (ST ws)) (ht : ∀ R : VK, R ch H → te σ H R)
    (k1 : ∀ n, Bx.takeW ws (l.drop i) = .ok n → ∀ H', But r H H' → RAt K CR l H' r (i + n) → Q .non H') (k0 : ∀ n, Bx.takeW ws (l.drop i) = .error n → Flt CF r H E (i + n)) :
    tMeth CR "take" (spTake K CR CF) [] E (tVar j0) (tCons te tNil) σ H Q := by
  subst hc
  obtain ⟨cs, ⟨dx, e⟩, hS⟩ := id a
  refine ⟨_, h0, r, dx, _, rfl, e, (rf_look _ _).2.2.2.2, ht _ ⟨l, r, i, ws, rfl, w0, a, ?_⟩⟩
  cases q : Bx.takeW ws (l.drop i) with
  | error n => exact k0 n q
  | ok n => exact k1 n q
theorem Flt.after {H1 : Hp} {n : Nat} (h : Flt CF r H E n) (b : But r H H1) : Flt CF r H1 E n := fun H' dx b' e => h H' dx (b.trans b') e
theorem Flt.raise {H1 : Hp} {n : Nat} {z : Int} (h : Flt CF r H E n) (b : But r H H1) (hz : z = n) : ∀ dx, H1 dx = none → E (.ref CF) (some dx) (upd H1 dx (.xd [("spot", .int z)])) := fun dx hd => by
  subst hz
  exact h _ dx (b.new hd) upd_same
theorem par_err {α : Type} {R : α → Hp → Prop} {p : Bx.Par α} {k : Nat} (h : parQ K CR CF r l i H E R p) (e : p = .error k) : Flt CF r H E (i + k) := by rw [e] at h; exact h
theorem par_ok {α : Type} {R : α → Hp → Prop} {p : Bx.Par α} {x : α} {n : Nat} (h : parQ K CR CF r l i H E R p) (e : p = .ok (x, n)) : ∀ H', But r H H' → RAt K CR l H' r (i + n) → R x H' := by rw [e] at h; exact h
/-- what is read further on -/
theorem par_of {α : Type} {R : α → Hp → Prop} {p : Bx.Par α} (h0 : ∀ k, p = .error k → Flt CF r H E (i + k)) (h1 : ∀ x n, p = .ok (x, n) → ∀ H', But r H H' → RAt K CR l H' r (i + n) → R x H') : parQ K CR CF r l i H E R p := by
  cases p with
  | error k => exact h0 k rfl
  | ok x => obtain ⟨x, n⟩ := x; exact h1 x n rfl
end
theorem runD_step {base : Int} (hb : base ≤ 16) {l : List Int} {i m n : Nat} (h : n ≤ Bx.runD base m (l.drop i)) : (n < Bx.runD base m (l.drop i)) ↔ (Bx.dgt (aheadI l (i + n)) < base ∧ n < m) := by
  have key : ∀ (m : Nat) (b : List Int) (n : Nat), n ≤ Bx.runD base m b → ((n < Bx.runD base m b) ↔ (Bx.dgt ((b[n]?).getD (-1)) < base ∧ n < m)) := by
    intro m
    induction m with
    | zero => intro b n h; simp [Bx.runD]
    | succ m ih =>
      intro b n h
      cases b with
      | nil =>
        have e : Bx.dgt ((([] : List Int)[n]?).getD (-1)) = 16 := by simp; decide
        rw [e]
        simp only [Bx.runD]; omega
      | cons c r =>
        unfold Bx.runD at h ⊢
        by_cases q : Bx.dgt c < base
        · rw [if_pos q] at h ⊢
          cases n with
          | zero => exact ⟨fun _ => ⟨q, by omega⟩, fun _ => by omega⟩
          | succ n =>
            have := ih r n (by omega)
            simp only [List.getElem?_cons_succ]
            omega
        · rw [if_neg q] at h ⊢
          have : n = 0 := by omega
          subst this
          simp; omega
  have := key m (l.drop i) n h
  rw [List.getElem?_drop] at this
  exact this
theorem valD_step {base w c : Int} {b : List Int} {n : Nat} (h : b[n]? = some c) : Bx.valD base w (b.take (n + 1)) = Bx.valD base w (b.take n) * base + Bx.dgt c := by
  unfold Bx.valD
  rw [take_snoc1 h, List.foldl_append]; rfl
theorem valD_bits {base w : Int} (hb : base = 10 ∨ base = 16) {b : List Int} {m n : Nat} (hn : n ≤ Bx.runD base m b) (hm : m ≤ 8192) (w0 : 0 ≤ w) (w1 : w < ((2 ^ 40000 : Nat) : Int)) : Builtin.Int.intBits (Bx.valD base w (b.take n)) ≤ 1048576 := by
  have rl := Bx.run_le base m b
  have dg : ∀ c ∈ b.take n, Bx.dgt c < base := fun c mc => Bx.run_digits (m := m) c (by
    have : (b.take (Bx.runD base m b)).take n = b.take n := by rw [List.take_take, Nat.min_eq_left hn]
    rw [← this] at mc
    exact List.mem_of_mem_take mc)
  have v := Bx.valD_lt (base := base) (by omega) (by omega) (k := 40000) dg w0 w1
  have ln : (b.take n).length ≤ 8192 := by rw [List.length_take]; omega
  refine Nat.le_trans ib_log ?_
  have := Bx.log_lt (k := 40000 + 4 * (b.take n).length) (by omega) v.1 v.2
  omega
theorem expo_bits {b : List Int} {v : Int} {n : Nat} (h : Bx.takeD 10 5 0 b = .ok (v, n)) : Builtin.Int.intBits v ≤ 1048576 := by
  have l5 := Bx.takeD_len h
  have r5 := (Bx.run_le 10 5 b).1
  have := Bx.takeD_lt (k := 0) (by decide) (by decide) (Int.le_refl _) (by decide) h
  refine Nat.le_trans (ib_le (k := 0 + 4 * n) (by omega)) ?_
  omega
theorem EAt.apart {K : PySem.W.Frag} {CE CR r a : Addr} {l : List Int} {i : Nat} {H : Hp} {x : Bx.Ex} (h : EAt CE H a x) (k : RAt K CR l H r i) : a ≠ r := by
  rintro rfl
  obtain ⟨dx, e⟩ := h
  obtain ⟨cs, ⟨dy, f⟩, _⟩ := k
  rw [e] at f
  have f' := Option.some.inj f
  injection f' with _ _ g
  have a1 := (rf_look cs (i : Int)).1
  have a2 : (ef x).lookup ("codes" : Str) = none := by
    unfold ef
    rw [lookup_putF, if_neg (by decide +kernel), lookup_putF, if_neg (by decide +kernel), lookup_putF, if_neg (by decide +kernel), lookup_putF, if_neg (by decide +kernel)]; rfl
  rw [g] at a2
  rw [a2] at a1
  cases a1
theorem takeD_bits {base w v : Int} {m n : Nat} {b : List Int} (hb : base = 10 ∨ base = 16) (hm : m ≤ 8192) (w0 : 0 ≤ w) (w1 : w < ((2 ^ 40000 : Nat) : Int)) (h : Bx.takeD base m w b = .ok (v, n)) : Builtin.Int.intBits v ≤ 1048576 := by
  have ln := Bx.takeD_len h
  have rl := (Bx.run_le base m b).1
  have := Bx.takeD_lt (k := 40000) (by omega) (by omega) w0 w1 h
  refine Nat.le_trans ib_log ?_
  have := Bx.log_lt (k := 40000 + 4 * n) (by omega) this.1 this.2
  omega
theorem w_bits {w : Int} (w0 : 0 ≤ w) (w1 : w < ((2 ^ 40000 : Nat) : Int)) : Builtin.Int.intBits w ≤ 1048576 := by
  refine Nat.le_trans ib_log ?_
  have := Bx.log_lt (k := 40000) (by omega) w0 w1
  omega
theorem ordD_i : (((Str.ofString "i").cps.getD 0 0 : Nat) : Int) = 105 := by decide +kernel
theorem ordD_e : (((Str.ofString "e").cps.getD 0 0 : Nat) : Int) = 101 := by decide +kernel
theorem par_later {K : PySem.W.Frag} {CR CF r : Addr} {l : List Int} {i j : Nat} {H H1 : Hp} {E : XK} {α : Type} {R : α → Hp → Prop} {p : Bx.Par α} (h : parQ K CR CF r l i H E R (Bx.later j p)) (b : But r H H1) : parQ K CR CF r l (i + j) H1 E R p := by
  cases p with
  | error k =>
    have h' : Flt CF r H E (i + (j + k)) := h
    show Flt CF r H1 E (i + j + k)
    rw [show i + j + k = i + (j + k) by omega]
    exact h'.after b
  | ok x =>
    obtain ⟨x, n⟩ := x
    intro H' b' a'
    exact h H' (b.trans b') (by rw [show i + (j + n) = i + j + n by omega]; exact a')
theorem small_lt {base v : Int} {m n : Nat} {b : List Int} (hb : base = 10 ∨ base = 16) (hm : m ≤ 8192) (h : Bx.takeD base m 0 b = .ok (v, n)) : 0 ≤ v ∧ v < ((2 ^ 40000 : Nat) : Int) := by
  have ln := Bx.takeD_len h
  have rl := (Bx.run_le base m b).1
  have t := Bx.takeD_lt (k := 0) (by omega) (by omega) (Int.le_refl _) (by decide) h
  refine ⟨t.1, Int.lt_of_lt_of_le t.2 ?_⟩
  exact Int.ofNat_le.mpr (Nat.pow_le_pow_right (by decide) (by omega))
theorem p40 : (0 : Int) < ((2 ^ 40000 : Nat) : Int) := Int.natCast_pos.mpr (Nat.two_pow_pos 40000)
theorem lit_emp : Str.ofString "empty" = ST [101, 109, 112, 116, 121] := lit_empty
theorem takeW_ok {w b : List Int} {n : Nat} (h : Bx.takeW w b = .ok n) : n = w.length := by
  unfold Bx.takeW at h
  split at h
  · injection h with h; exact h.symm
  · cases h
theorem Same.new {H : Hp} {p : Addr} {o : HO} (hp : H p = none) : Same H (L2.upd H p o) := fun b u e => by rw [upd_ne (ne_of_none e hp)]; exact e
noncomputable def spScaled (CE : Addr) : Sp := fun vs H Q _ => ∃ p x t f, vs = [.ref p, .int t, .int f] ∧ EAt CE H p x ∧ (Bx.ExS x ∧ t ≤ x.twos ∧ -140000 ≤ t ∧ f ≤ x.fives ∧ -110000 ≤ f) ∧ Q (.int (Bx.scaledX x t f)) H
noncomputable def spAbove (CE : Addr) : Sp := fun vs H Q _ => ∃ p o x y, vs = [.ref p, .ref o] ∧ EAt CE H p x ∧ EAt CE H o y ∧ (Bx.ExS x ∧ Bx.ExS y) ∧ Q (.bl (Bx.aboveX x y)) H
noncomputable def spCan (CE : Addr) : Sp := fun vs H Q _ => ∃ p o x y, vs = [.ref p, .ref o] ∧ EAt CE H p x ∧ EAt CE H o y ∧ (Bx.ExS x ∧ Bx.ExS y) ∧ Q (.bl (Bx.canX x y)) H
noncomputable def spBeside (C CE : Addr) : Sp := fun vs H Q _ => ∃ p x, vs = [.ref p] ∧ EAt CE H p x ∧ Bx.ExS x ∧ ∀ (a : Addr) (H' : Hp), Same H H' → VAt C H' a (Bx.besideX x) → Q (.ref a) H'
/-! ## powers of five -/
theorem five_bits {n : Nat} (h : n ≤ 300000) : Builtin.Int.intBits (((5 ^ n : Nat) : Int)) ≤ 1048576 := by
  refine Nat.le_trans ib_log ?_
  rw [Int.natAbs_natCast]
  have := Bx.five_log n
  omega
theorem two_bits {a : Int} {k : Nat} (h : a.natAbs.log2 + k ≤ 1000000) : Builtin.Int.intBits (a * 2 ^ k) ≤ 1048576 := by
  refine Nat.le_trans ib_log ?_
  rw [Bx.two_pow_int]
  have := Bx.mul_log (a := a) (b := 2 ^ k)
  rw [Nat.log2_two_pow] at this
  omega
theorem pow_step {m L j : Nat} (h : j < L) : (((5 ^ (m / 2 ^ (L - j)) : Nat) : Int)) * ((5 ^ (m / 2 ^ (L - j)) : Nat) : Int) = ((5 ^ (2 * (m / 2 ^ (L - j))) : Nat) : Int) ∧ m / 2 ^ (L - (j + 1)) = 2 * (m / 2 ^ (L - j)) + m / 2 ^ (L - (j + 1)) % 2 := by
  constructor
  · rw [← Int.natCast_mul, ← Nat.pow_add, Nat.two_mul]
  · have e : L - j = (L - (j + 1)) + 1 := by omega
    rw [e, Nat.pow_succ, ← Nat.div_div_eq_div_mul]
    omega
noncomputable def spRead (K : PySem.W.Frag) : Sp := fun vs H Q _ => ∃ l cs, vs = [.ref cs] ∧ SqL K H cs (l.map V.int) ∧ ∀ (H' : Hp) (p : Addr), H' p = some (.lst ((Bx.readP l).map V.int)) → Q (.ref p) H'
/-! ## a class's own names, by the fragment -/
theorem ns_some {K : PySem.W.Frag} {N : Addr} {c : Value} {d : Option Addr} {es : Array DictEntry} {ep : Nat} {sl : Array (Option Value)} {n : Str} {v : Value} (l : K.lookup N = some ⟨c, d, .dict es ep, sl⟩) (e : PySem.W.nsIn K N n = some (some v)) : nsFind es n = some v := by
  unfold PySem.W.nsIn at e
  rw [l] at e
  simp only at e
  unfold nsFind findBy
  rw [← Array.find?_toList]
  cases q : es.toList.find? (fun x => x.key.isStr n) with
  | none => rw [q] at e; simp only at e; split at e <;> cases e
  | some y => rw [q] at e; simp only at e; cases e; rfl
theorem ns_none {K : PySem.W.Frag} {N : Addr} {c : Value} {d : Option Addr} {es : Array DictEntry} {ep : Nat} {sl : Array (Option Value)} {n : Str} (l : K.lookup N = some ⟨c, d, .dict es ep, sl⟩) (e : PySem.W.nsIn K N n = some none) : nsFind es n = none := by
  unfold PySem.W.nsIn at e
  rw [l] at e
  simp only at e
  unfold nsFind findBy
  rw [← Array.find?_toList]
  cases q : es.toList.find? (fun x => x.key.isStr n) with
  | none => rfl
  | some y => rw [q] at e; simp only at e; cases e
noncomputable def keysStr : List DictEntry → Bool
  | [] => true
  | ⟨_, .str _ _, _⟩ :: r => keysStr r
  | _ => false
theorem strKeys_of {es : Array DictEntry} (h : keysStr es.toList = true) : StrKeys es := by
  have : ∀ l : List DictEntry, keysStr l = true → ∀ e ∈ l, ∃ n t, e.key = .str n t := by
    intro l
    induction l with
    | nil => intro _ e m; cases m
    | cons a r ih =>
      intro h e m
      obtain ⟨hs, key, v⟩ := a
      cases key with
      | str n t =>
        rcases List.mem_cons.mp m with rfl | m
        · exact ⟨n, t, rfl⟩
        · exact ih h e m
      | _ => cases h
  intro e m
  exact this es.toList h e (by simpa using m)
end L2
end
set_option maxHeartbeats 4000000
set_option Elab.async false
set_option linter.all false
set_option maxRecDepth 100000
namespace Rd
open PySem PySem.Spec PyProof.Rows L2
open PySem.W (Codec)
theorem mask79 (x : Int) : Builtin.bitAnd x 604462909807314587353087 = x % 604462909807314587353088 := PySem.W.kbt_mask x 79
theorem mask64 (x : Int) : Builtin.bitAnd x 18446744073709551615 = x % 18446744073709551616 := PySem.W.kbt_mask x 64
noncomputable def top (i : Nat) : Stmt := PySem.Challenge.pw_betwixt_s12_read.main.body.getD i (.Pass ⟨0, 0, 0, 0⟩)
noncomputable abbrev st_Value___init__ : Stmt := inClass (top 14) 0
noncomputable abbrev st_exponent_of : Stmt := top 15
noncomputable abbrev st_significand_of : Stmt := top 16
noncomputable abbrev st_made_normal : Stmt := top 17
noncomputable abbrev st_told : Stmt := top 18
noncomputable abbrev st_opposite : Stmt := top 19
noncomputable abbrev st_shortened : Stmt := top 20
noncomputable abbrev st_size_rounded : Stmt := top 21
noncomputable abbrev st_low_end : Stmt := top 22
noncomputable abbrev st_high_end : Stmt := top 23
noncomputable abbrev st_endless : Stmt := top 24
noncomputable abbrev st_finer : Stmt := top 25
noncomputable abbrev st_over : Stmt := top 26
noncomputable abbrev st_Fault___init__ : Stmt := inClass (top 30) 0
noncomputable abbrev st_Reader___init__ : Stmt := inClass (top 31) 0
noncomputable abbrev st_Reader_ahead : Stmt := inClass (top 31) 1
noncomputable abbrev st_Reader_passes : Stmt := inClass (top 31) 2
noncomputable abbrev st_Reader_take : Stmt := inClass (top 31) 3
noncomputable abbrev st_Exact___init__ : Stmt := inClass (top 32) 0
noncomputable abbrev st_digit_of : Stmt := top 33
noncomputable abbrev st_take_digits : Stmt := top 34
noncomputable abbrev st_take_exponent : Stmt := top 35
noncomputable abbrev st_take_finite : Stmt := top 36
noncomputable abbrev st_take_number : Stmt := top 37
noncomputable abbrev st_take_ends : Stmt := top 38
noncomputable abbrev st_ends_said : Stmt := top 39
noncomputable abbrev st_power_of_five : Stmt := top 40
noncomputable abbrev st_scaled : Stmt := top 41
noncomputable abbrev st_is_above : Stmt := top 42
noncomputable abbrev st_can_be_ends : Stmt := top 43
noncomputable abbrev st_value_beside : Stmt := top 44
noncomputable abbrev st_read : Stmt := top 46
section
variable {P : Program} {w : World} {K : PySem.W.Frag} {mg : Str → Option Value} {base : Heap}
theorem ok_init {f C : Addr} {fd : FuncData} (F : Fun K "__init__" "Value.__init__" st_Value___init__ f fd) (VT : VTxt K C) : FnOk P w K mg base CX0 1 f fd ["self", "whole", "power", "infinite"] (spInitV C) := by
  have S : FnScope ["self", "whole", "power", "infinite"] ["self", "whole", "power", "infinite"] (defScope st_Value___init__) := ⟨rfl, rfl, rfl, by decide +kernel, rfl, by decide +kernel, by decide +kernel⟩
  refine F.ok S (fun vs H Q E h => ?_) (fun cdv A outer s H vs Q E hr h => ?_)
  · obtain ⟨p, dx, w, pw, i, rfl, _⟩ := h
    rfl
  · obtain ⟨p, dx, w, pw, i, rfl, hp, k⟩ := h
    refine ⟨_, (pss_cons (ps_fld (pv 0) (pv 1) rfl) (pss_cons (ps_fld (pv 0) (pv 2) rfl) (pss_one (ps_fld (pv 0) (pv 3) rfl)))), ?_⟩
    refine ⟨_, rfl, _, rfl, p, C, dx, [], rfl, hp, VT.cl, VT.n1, (by show 0 < 1000; decide), ?_⟩
    refine ⟨_, rfl, _, rfl, p, C, dx, _, rfl, upd_same, VT.cl, VT.n2, Nat.lt_of_le_of_lt (length_putF _ _ _) (by show 0 + 1 < 1000; decide), ?_⟩
    refine ⟨_, rfl, _, rfl, p, C, dx, _, rfl, upd_same, VT.cl, VT.n3, Nat.lt_of_le_of_lt (length_putF _ _ _) (Nat.lt_of_le_of_lt (Nat.succ_le_succ (length_putF _ _ _)) (by show 0 + 1 + 1 < 1000; decide)), ?_⟩
    exact k _ ⟨dx, upd_same⟩ fun b o e hb => by rw [upd_ne hb, upd_ne hb, upd_ne hb]; exact e
noncomputable def sp_exponent_of : Sp := sp1 (fun _ => True) fun a => .int (Bx.expo a)
theorem sc_exponent_of : FnScope ["bits"] ["bits"] (defScope st_exponent_of) := ⟨rfl, rfl, rfl, by decide +kernel, rfl, by decide +kernel, by decide +kernel⟩
theorem ok_exponent_of (T : At K mg "exponent_of" st_exponent_of ["bits"]) (gBEYOND : IntG mg "BEYOND" (18446744073709551616)) (gSIGN : IntG mg "SIGN" (604462909807314587353088)) : Cal P w K mg base "exponent_of" ["bits"] 1 sp_exponent_of := by
  have S := sc_exponent_of
  refine T.cal S sp1_len fun f cdv A outer s H vs Q E hr h => ?_
  obtain ⟨a, rfl, ha, k⟩ := h
  refine ⟨_, (pss_one (ps_ret (pe_op op_fdivB (pe_op op_and (pv 0) (pe_op op_sub (pe_ig gSIGN (by rfl)) pe_int)) (pe_ig gBEYOND (by rfl))))), ?_⟩
  simp [tSeq, tIfS, tRet, tAsg, gName, tVar, tC, tOp, tUn, rI, rI0, rU, rEq, rNe, tTest, tAnd, tOr, tNot, tAndV, tOrV, tNotV, tB, tIf, tCall, tCons, tNil, tNext, tLst, sp1_app, sp2_app, L2.start, scal, mask79]
  exact ⟨by decide, k⟩
noncomputable def sp_significand_of : Sp := sp1 (fun _ => True) fun a => .int (Bx.sig a)
theorem sc_significand_of : FnScope ["bits"] ["bits"] (defScope st_significand_of) := ⟨rfl, rfl, rfl, by decide +kernel, rfl, by decide +kernel, by decide +kernel⟩
theorem ok_significand_of (T : At K mg "significand_of" st_significand_of ["bits"]) (gBEYOND : IntG mg "BEYOND" (18446744073709551616)) : Cal P w K mg base "significand_of" ["bits"] 1 sp_significand_of := by
  have S := sc_significand_of
  refine T.cal S sp1_len fun f cdv A outer s H vs Q E hr h => ?_
  obtain ⟨a, rfl, ha, k⟩ := h
  refine ⟨_, (pss_one (ps_ret (pe_op op_and (pv 0) (pe_op op_sub (pe_ig gBEYOND (by rfl)) pe_int)))), ?_⟩
  simp [tSeq, tIfS, tRet, tAsg, gName, tVar, tC, tOp, tUn, rI, rI0, rU, rEq, rNe, tTest, tAnd, tOr, tNot, tAndV, tOrV, tNotV, tB, tIf, tCall, tCons, tNil, tNext, tLst, sp1_app, sp2_app, L2.start, scal, mask64]
  exact k
noncomputable def sp_made_normal : Sp := sp1 (fun _ => True) fun a => .int (Bx.madeNormal a)
theorem sc_made_normal : FnScope ["bits"] ["bits"] (defScope st_made_normal) := ⟨rfl, rfl, rfl, by decide +kernel, rfl, by decide +kernel, by decide +kernel⟩
theorem ok_made_normal (T : At K mg "made_normal" st_made_normal ["bits"]) (gTOP : IntG mg "TOP" (9223372036854775808)) (gBEYOND : IntG mg "BEYOND" (18446744073709551616)) (c_exponent_of : Cal P w K mg base "exponent_of" ["bits"] 1 sp_exponent_of) (c_significand_of : Cal P w K mg base "significand_of" ["bits"] 1 sp_significand_of) : Cal P w K mg base "made_normal" ["bits"] 2 sp_made_normal := by
  have S := sc_made_normal
  refine T.cal S sp1_len fun f cdv A outer s H vs Q E hr h => ?_
  obtain ⟨a, rfl, ha, k⟩ := h
  refine ⟨_, (pss_cons (ps_if (pw_and (pt_cmpR op_eq (pe_cal c_exponent_of (hr.mono (by decide)) (by rfl) (pa_cons (pv 0) pa_nil)) pe_int (nomark _)) (pw_and1 (pt_cmpR op_ge (pe_cal c_significand_of (hr.mono (by decide)) (by rfl) (pa_cons (pv 0) pa_nil)) (pe_ig gTOP (by rfl)) (nomark _)))).pt (pss_one (ps_ret (pe_op op_add (pv 0) (pe_ig gBEYOND (by rfl))))) pss_nil) (pss_one (ps_ret (pv 0)))), ?_⟩
  simp [sp_exponent_of, sp_significand_of, tSeq, tIfS, tRet, tAsg, gName, tVar, tC, tOp, tUn, rI, rI0, rU, rEq, rNe, tTest, tAnd, tOr, tNot, tAndV, tOrV, tNotV, tB, tIf, tCall, tCons, tNil, tNext, tLst, sp1_app, sp2_app, L2.start, scal]
  simp only [Bx.madeNormal] at k
  (repeat' split) <;> simp_all
noncomputable def sp_told : Sp := sp1 (fun _ => True) fun a => .int (Bx.told a)
theorem sc_told : FnScope ["bits"] ["bits"] (defScope st_told) := ⟨rfl, rfl, rfl, by decide +kernel, rfl, by decide +kernel, by decide +kernel⟩
theorem ok_told (T : At K mg "told" st_told ["bits"]) (gSIGN : IntG mg "SIGN" (604462909807314587353088)) (c_made_normal : Cal P w K mg base "made_normal" ["bits"] 2 sp_made_normal) : Cal P w K mg base "told" ["bits"] 3 sp_told := by
  have S := sc_told
  refine T.cal S sp1_len fun f cdv A outer s H vs Q E hr h => ?_
  obtain ⟨a, rfl, ha, k⟩ := h
  refine ⟨_, (pss_cons (ps_if (pt_cmpR op_eq (pv 0) (pe_ig gSIGN (by rfl)) (nomark _)) (pss_one (ps_ret pe_int)) pss_nil) (pss_one (ps_ret (pe_cal c_made_normal (hr.mono (by decide)) (by rfl) (pa_cons (pv 0) pa_nil))))), ?_⟩
  simp [sp_made_normal, tSeq, tIfS, tRet, tAsg, gName, tVar, tC, tOp, tUn, rI, rI0, rU, rEq, rNe, tTest, tAnd, tOr, tNot, tAndV, tOrV, tNotV, tB, tIf, tCall, tCons, tNil, tNext, tLst, sp1_app, sp2_app, L2.start, scal]
  simp only [Bx.told] at k
  (repeat' split) <;> simp_all
noncomputable def sp_opposite : Sp := sp1 Bx.Bits fun a => .int (Bx.opposite a)
theorem sc_opposite : FnScope ["bits"] ["bits"] (defScope st_opposite) := ⟨rfl, rfl, rfl, by decide +kernel, rfl, by decide +kernel, by decide +kernel⟩
theorem ok_opposite (T : At K mg "opposite" st_opposite ["bits"]) (c_told : Cal P w K mg base "told" ["bits"] 3 sp_told) (gSIGN : IntG mg "SIGN" (604462909807314587353088)) : Cal P w K mg base "opposite" ["bits"] 4 sp_opposite := by
  have S := sc_opposite
  refine T.cal S sp1_len fun f cdv A outer s H vs Q E hr h => ?_
  obtain ⟨a, rfl, ha, k⟩ := h
  refine ⟨_, (pss_one (ps_ret (pe_cal c_told (hr.mono (by decide)) (by rfl) (pa_cons (pe_op op_xor (pv 0) (pe_ig gSIGN (by rfl))) pa_nil)))), ?_⟩
  simp [sp_told, tSeq, tIfS, tRet, tAsg, gName, tVar, tC, tOp, tUn, rI, rI0, rU, rEq, rNe, tTest, tAnd, tOr, tNot, tAndV, tOrV, tNotV, tB, tIf, tCall, tCons, tNil, tNext, tLst, sp1_app, sp2_app, L2.start, scal, tMkV, mkq_app, tFV, spV1_app, sp3_app, spV3_app, tCB, tBM0, tyV, rMx_app, rMn_app]
  have e : Builtin.bitXor a 604462909807314587353088 = Bx.turned a := Bx.xor_turned ha _ (by rw [bitXor_and, show Builtin.bitAnd a 604462909807314587353088 = (a / 604462909807314587353088 % 2) * 604462909807314587353088 from PySem.W.kbt_bit a 79])
  rw [e]; exact k
noncomputable def sp_shortened : Sp := spI3 (fun w d _ => 0 < w ∧ w.natAbs.log2 < 1000000 ∧ -20000000 ≤ d ∧ d ≤ 20000000) fun w d r => .int (Bx.shortI w d r)
theorem sc_shortened : FnScope ["whole", "dropped", "rounding", "kept", "rest", "half"] ["whole", "dropped", "rounding"] (defScope st_shortened) := ⟨rfl, rfl, rfl, by decide +kernel, rfl, by decide +kernel, by decide +kernel⟩
theorem ok_shortened (T : At K mg "shortened" st_shortened ["whole", "dropped", "rounding"]) (gOUTWARD : IntG mg "OUTWARD" (1)) (gNEAREST : IntG mg "NEAREST" (2)) : Cal P w K mg base "shortened" ["whole", "dropped", "rounding"] 1 sp_shortened := by
  have S := sc_shortened
  refine T.cal S (fun vs H Q E h => by obtain ⟨a, b, c, rfl, _⟩ := h; rfl) fun f cdv A outer s H vs Q E hr h => ?_
  obtain ⟨a, b, c, rfl, ha, k⟩ := h
  refine ⟨_, (pss_cons (ps_if (pt_cmpR op_le (pv 1) pe_int (nomark _)) (pss_one (ps_ret (pe_op op_shlB (pv 0) (pe_un un_neg (pv 1))))) pss_nil) (pss_cons (ps_set (i := 3) S.nd rfl (Or.inl rfl) (pe_op op_shr (pv 0) (pv 1))) (pss_cons (ps_set (i := 4) S.nd rfl (Or.inl rfl) (pe_op op_sub (pv 0) (pe_op op_shlB (pv 3) (pv 1)))) (pss_cons (ps_set (i := 5) S.nd rfl (Or.inl rfl) (pe_op op_shlB pe_int (pe_op op_sub (pv 1) pe_int))) (pss_cons (ps_if (pw_and (pt_cmpR op_eq (pv 2) (pe_ig gOUTWARD (by rfl)) (nomark _)) (pw_and1 (pt_cmpR op_gt (pv 4) pe_int (nomark _)))).pt (pss_one (ps_ret (pe_op op_add (pv 3) pe_int))) pss_nil) (pss_cons (ps_if (pw_and (pt_cmpR op_eq (pv 2) (pe_ig gNEAREST (by rfl)) (nomark _)) (pw_and1 (pw_or (pt_cmpR op_gt (pv 4) (pv 5) (nomark _)) (pw_or1 (pw_and (pt_cmpR op_eq (pv 4) (pv 5) (nomark _)) (pw_and1 (pt_cmpR op_eq (pe_op op_mod (pv 3) pe_int) pe_int (nomark _)))).pt)).pt)).pt (pss_one (ps_ret (pe_op op_add (pv 3) pe_int))) pss_nil) (pss_one (ps_ret (pv 3))))))))), ?_⟩
  obtain ⟨w0, w1, p0, p1⟩ := ha
  have ia : Builtin.Int.intBits a ≤ 1000001 := Nat.le_trans ib_log (by omega)
  have sm : Builtin.Int.intBits (a / 2 ^ b.toNat) ≤ 1000001 := sb_shr w0 w1 _
  have i1 : Builtin.Int.intBits 1 ≤ 1 := ib_le (k := 1) (by decide)
  simp only [Bx.shortI] at k
  have eb : (b - 1).toNat = b.toNat - 1 := by omega
  rw [eb] at k
  simp [tSeq, tIfS, tRet, tAsg, gName, tVar, tC, tOp, tUn, rI, rI0, rU, rEq, rNe, tTest, tAnd, tOr, tNot, tAndV, tOrV, tNotV, tB, tIf, tCall, tCons, tNil, tNext, tLst, sp1_app, sp2_app, L2.start, scal, tMkV, mkq_app, tFV, spV1_app, sp3_app, spV3_app, tCB, tBM0, tyV, rMx_app, rMn_app]
  by_cases c0 : b ≤ 0
  · simp only [c0, if_true] at k ⊢
    exact ⟨⟨trivial, by omega⟩, k⟩
  · simp only [c0, if_false] at k ⊢
    refine ⟨by omega, ⟨by omega, by omega⟩, ⟨by omega, by omega⟩, ?_⟩
    by_cases c1 : c = 1
    · subst c1
      simp only [if_true, true_and, show ¬ (1 : Int) = 2 by decide, false_and, if_false] at k ⊢
      split
      · rename_i z; rw [if_pos (by omega)] at k; exact k
      · rename_i z; rw [if_neg (by omega)] at k; exact k
    · simp only [c1, false_and, if_false] at k ⊢
      by_cases c2 : c = 2
      · simp only [c2, if_true, true_and] at k ⊢
        generalize a - a / 2 ^ b.toNat * 2 ^ b.toNat = r at k ⊢
        generalize (2 : Int) ^ (b.toNat - 1) = h at k ⊢
        by_cases d1 : h < r
        · simp only [d1, true_or, if_true] at k ⊢; exact k
        · simp only [d1, false_or, if_false] at k ⊢
          by_cases d2 : r = h
          · simp only [d2, true_and, if_true] at k ⊢
            by_cases d3 : a / 2 ^ b.toNat % 2 = 1
            · simp only [d3, if_true] at k ⊢; exact k
            · simp only [d3, if_false] at k ⊢; exact k
          · simp only [d2, false_and, if_false] at k ⊢; exact k
      · simp only [c2, if_false, false_and] at k ⊢
        exact k
noncomputable def sp_size_rounded : Sp := spI3 (fun w p r => 0 < w ∧ w.natAbs.log2 < 1000000 ∧ -10000000 ≤ p ∧ p ≤ 10000000) fun w p r => .int (Bx.sizeR w.toNat p r)
theorem sc_size_rounded : FnScope ["whole", "power", "rounding", "exponent", "kept"] ["whole", "power", "rounding"] (defScope st_size_rounded) := ⟨rfl, rfl, rfl, by decide +kernel, rfl, by decide +kernel, by decide +kernel⟩
theorem ok_size_rounded (T : At K mg "size_rounded" st_size_rounded ["whole", "power", "rounding"]) (n_max : mg "max" = none) (c_shortened : Cal P w K mg base "shortened" ["whole", "dropped", "rounding"] 1 sp_shortened) (gBEYOND : IntG mg "BEYOND" (18446744073709551616)) (gTOP : IntG mg "TOP" (9223372036854775808)) (gLAST_EXPONENT : IntG mg "LAST_EXPONENT" (32767)) (gOFFSET : IntG mg "OFFSET" (16446)) (gGREATEST : IntG mg "GREATEST" (604444463063240877801471)) (gPLUS_INFINITE : IntG mg "PLUS_INFINITE" (604453686435277732577280)) (gDIGITS : IntG mg "DIGITS" (64)) (gINWARD : IntG mg "INWARD" (0)) : Cal P w K mg base "size_rounded" ["whole", "power", "rounding"] 2 sp_size_rounded := by
  have S := sc_size_rounded
  refine T.cal S (fun vs H Q E h => by obtain ⟨a, b, c, rfl, _⟩ := h; rfl) fun f cdv A outer s H vs Q E hr h => ?_
  obtain ⟨a, b, c, rfl, ha, k⟩ := h
  refine ⟨_, (pss_cons (ps_set (i := 3) S.nd rfl (Or.inl rfl) (pe_callB (call_mx rfl) (by rfl) n_max boot_mx (pa_cons (pe_op op_add (pe_op op_sub (pe_op op_add (pv 1) (pe_bm0 PySem.F.plainAttrs_int PySem.F.slot_int_bit_length PySem.F.type_int_bit_length mt_bitlen (pv 0))) (pe_ig gDIGITS (by rfl))) (pe_ig gOFFSET (by rfl))) (pa_cons pe_int pa_nil)))) (pss_cons (ps_set (i := 4) S.nd rfl (Or.inl rfl) (pe_cal c_shortened (hr.mono (by decide)) (by rfl) (pa_cons (pv 0) (pa_cons (pe_op op_sub (pe_op op_sub (pv 3) (pe_ig gOFFSET (by rfl))) (pv 1)) (pa_cons (pv 2) pa_nil))))) (pss_cons (ps_if (pt_cmpR op_eq (pv 4) (pe_ig gBEYOND (by rfl)) (nomark _)) (pss_cons (ps_set (i := 4) S.nd rfl (Or.inl rfl) (pe_ig gTOP (by rfl))) (pss_one (ps_set (i := 3) S.nd rfl (Or.inl rfl) (pe_op op_add (pv 3) pe_int)))) pss_nil) (pss_cons (ps_if (pt_cmpR op_ge (pv 3) (pe_ig gLAST_EXPONENT (by rfl)) (nomark _)) (pss_one (ps_ret (pe_ifExp (pt_cmpR op_eq (pv 2) (pe_ig gINWARD (by rfl)) (nomark _)) (pe_ig gGREATEST (by rfl)) (pe_ig gPLUS_INFINITE (by rfl))))) pss_nil) (pss_cons (ps_if (pt_cmpR op_lt (pv 4) (pe_ig gTOP (by rfl)) (nomark _)) (pss_one (ps_ret (pv 4))) pss_nil) (pss_one (ps_ret (pe_op op_add (pe_op op_mulB (pv 3) (pe_ig gBEYOND (by rfl))) (pv 4))))))))), ?_⟩
  obtain ⟨w0, w1, p0, p1⟩ := ha
  obtain ⟨n, rfl⟩ : ∃ n : Nat, a = n := ⟨a.toNat, by omega⟩
  have ib : (Builtin.Int.intBits (n : Int) : Int) = ((Nat.log2 n + 1 : Nat) : Int) := by
    unfold Builtin.Int.intBits
    rw [if_neg (by simp; omega)]; simp
  have nn : ((n : Int)).toNat = n := by omega
  simp only [nn] at k
  have lg : Nat.log2 n < 1000000 := by simpa using w1
  simp only [Bx.sizeR] at k
  obtain ⟨E, hE⟩ : ∃ E, E = Bx.expR n b := ⟨_, rfl⟩
  rw [← hE] at k
  have hE' : max (b + ((n.log2 : Int) + 1) - 64 + 16446) 1 = E := by unfold Bx.expR at hE; omega
  simp [ib, sp_shortened, spI3_app, tSeq, tIfS, tRet, tAsg, gName, tVar, tC, tOp, tUn, rI, rI0, rU, rEq, rNe, tTest, tAnd, tOr, tNot, tAndV, tOrV, tNotV, tB, tIf, tCall, tCons, tNil, tNext, tLst, sp1_app, sp2_app, L2.start, scal, tMkV, mkq_app, tFV, spV1_app, sp3_app, spV3_app, tCB, tBM0, tyV, rMx_app, rMn_app]
  simp only [hE']
  refine ⟨⟨by omega, by omega, by omega, by omega⟩, ?_⟩
  simp only [Bx.packR] at k
  generalize Bx.shortI (n : Int) (E - 16446 - b) c = m at k ⊢
  by_cases c1 : c = 0
  · simp only [c1, if_true] at k ⊢
    exact sb_tail (by omega) (by omega) k
  · simp only [c1, if_false] at k ⊢
    exact sb_tail (by omega) (by omega) k
noncomputable def sp_low_end (C : Addr) : Sp := spVI C Bx.Ok Bx.lowEnd
theorem sc_low_end : FnScope ["value"] ["value"] (defScope st_low_end) := ⟨rfl, rfl, rfl, by decide +kernel, rfl, by decide +kernel, by decide +kernel⟩
theorem ok_low_end (T : At K mg "low_end" st_low_end ["value"]) {C : Addr} (VT : VTxt K C) (mkV : MkV P w K mg base C 1) (gSIGN : IntG mg "SIGN" (604462909807314587353088)) (gPLUS_INFINITE : IntG mg "PLUS_INFINITE" (604453686435277732577280)) (gMINUS_INFINITE : IntG mg "MINUS_INFINITE" (1208916596242592319930368)) (c_size_rounded : Cal P w K mg base "size_rounded" ["whole", "power", "rounding"] 2 sp_size_rounded) (gINWARD : IntG mg "INWARD" (0)) (gOUTWARD : IntG mg "OUTWARD" (1)) : Cal P w K mg base "low_end" ["value"] 3 (sp_low_end C) := by
  have S := sc_low_end
  refine T.cal S (fun vs H Q E h => by obtain ⟨p, v, rfl, _⟩ := h; rfl) fun f cdv A outer s H vs Q E hr h => ?_
  obtain ⟨p, v, rfl, hv, ha, k⟩ := h
  refine ⟨_, (pss_cons (ps_if (pt_cmpR op_eq (pe_whole VT (pv 0) (by rfl)) pe_int (nomark _)) (pss_one (ps_ret pe_int)) pss_nil) (pss_cons (ps_if (pt_val (pe_infinite VT (pv 0) (by rfl))) (pss_one (ps_ret (pe_ifExp (pt_cmpR op_gt (pe_whole VT (pv 0) (by rfl)) pe_int (nomark _)) (pe_ig gPLUS_INFINITE (by rfl)) (pe_ig gMINUS_INFINITE (by rfl))))) pss_nil) (pss_cons (ps_if (pt_cmpR op_gt (pe_whole VT (pv 0) (by rfl)) pe_int (nomark _)) (pss_one (ps_ret (pe_cal c_size_rounded (hr.mono (by decide)) (by rfl) (pa_cons (pe_whole VT (pv 0) (by rfl)) (pa_cons (pe_power VT (pv 0) (by rfl)) (pa_cons (pe_ig gINWARD (by rfl)) pa_nil)))))) pss_nil) (pss_one (ps_ret (pe_op op_add (pe_ig gSIGN (by rfl)) (pe_cal c_size_rounded (hr.mono (by decide)) (by rfl) (pa_cons (pe_un un_neg (pe_whole VT (pv 0) (by rfl))) (pa_cons (pe_power VT (pv 0) (by rfl)) (pa_cons (pe_ig gOUTWARD (by rfl)) pa_nil)))))))))), ?_⟩
  have k := k H (Same.refl H)
  have bw := ha.w
  have b0 := ha.p0
  have b1 := ha.p1
  simp only [Bx.lowEnd] at k
  simp [sp_size_rounded, spI3_app, vat_ex hv, tSeq, tIfS, tRet, tAsg, gName, tVar, tC, tOp, tUn, rI, rI0, rU, rEq, rNe, tTest, tAnd, tOr, tNot, tAndV, tOrV, tNotV, tB, tIf, tCall, tCons, tNil, tNext, tLst, sp1_app, sp2_app, L2.start, scal, tMkV, mkq_app, tFV, spV1_app, sp3_app, spV3_app, tCB, tBM0, tyV, rMx_app, rMn_app]
  by_cases c1 : v.whole = 0
  · simp only [c1, if_true] at k ⊢; exact k
  · simp only [c1, if_false] at k ⊢
    cases c2 : v.inf
    · simp [c2] at k ⊢
      by_cases c3 : 0 < v.whole
      · simp only [c3, if_true] at k ⊢
        rw [← Bx.sizeR_in (by omega)] at k
        exact ⟨⟨trivial, by omega, by omega, by omega⟩, k⟩
      · simp only [c3, if_false] at k ⊢
        rw [← Bx.sizeR_up (by omega)] at k
        exact ⟨⟨by omega, by omega, by omega, by omega⟩, k⟩
    · simp [c2] at k ⊢
      by_cases c3 : 0 < v.whole
      · simp only [c3, if_true] at k ⊢; exact k
      · simp only [c3, if_false] at k ⊢; exact k
noncomputable def sp_high_end (C : Addr) : Sp := spVI C Bx.Ok Bx.highEnd
theorem sc_high_end : FnScope ["value"] ["value"] (defScope st_high_end) := ⟨rfl, rfl, rfl, by decide +kernel, rfl, by decide +kernel, by decide +kernel⟩
theorem ok_high_end (T : At K mg "high_end" st_high_end ["value"]) {C : Addr} (VT : VTxt K C) (mkV : MkV P w K mg base C 1) (c_opposite : Cal P w K mg base "opposite" ["bits"] 4 sp_opposite) (c_low_end : Cal P w K mg base "low_end" ["value"] 3 (sp_low_end C)) : Cal P w K mg base "high_end" ["value"] 5 (sp_high_end C) := by
  have S := sc_high_end
  refine T.cal S (fun vs H Q E h => by obtain ⟨p, v, rfl, _⟩ := h; rfl) fun f cdv A outer s H vs Q E hr h => ?_
  obtain ⟨p, v, rfl, hv, ha, k⟩ := h
  refine ⟨_, (pss_one (ps_ret (pe_cal c_opposite (hr.mono (by decide)) (by rfl) (pa_cons (pe_cal c_low_end (hr.mono (by decide)) (by rfl) (pa_cons (pe_mkV mkV (hr.mono (by decide)) (by rfl) (pa_cons (pe_un un_neg (pe_whole VT (pv 0) (by rfl))) (pa_cons (pe_power VT (pv 0) (by rfl)) (pa_cons (pe_infinite VT (pv 0) (by rfl)) pa_nil)))) pa_nil)) pa_nil)))), ?_⟩
  simp [vat_ex hv, tSeq, tIfS, tRet, tAsg, gName, tVar, tC, tOp, tUn, rI, rI0, rU, rEq, rNe, tTest, tAnd, tOr, tNot, tAndV, tOrV, tNotV, tB, tIf, tCall, tCons, tNil, tNext, tLst, sp1_app, sp2_app, L2.start, scal, tMkV, mkq_app, tFV, spV1_app, sp3_app, spV3_app, tCB, tBM0, tyV, rMx_app, rMn_app]
  intro x H1 s1 v1
  refine (spVI_app v1).mpr ⟨ha.neg, fun H2 s2 => ?_⟩
  exact (sp1_app).mpr ⟨Bx.low_bits _, k H2 (s1.trans s2)⟩
noncomputable def sp_endless (C : Addr) : Sp := spV1 C (fun _ => True) Bx.endless
theorem sc_endless : FnScope ["whole"] ["whole"] (defScope st_endless) := ⟨rfl, rfl, rfl, by decide +kernel, rfl, by decide +kernel, by decide +kernel⟩
theorem ok_endless (T : At K mg "endless" st_endless ["whole"]) {C : Addr} (VT : VTxt K C) (mkV : MkV P w K mg base C 1) : Cal P w K mg base "endless" ["whole"] 3 (sp_endless C) := by
  have S := sc_endless
  refine T.cal S (fun vs H Q E h => by obtain ⟨a, rfl, _⟩ := h; rfl) fun f cdv A outer s H vs Q E hr h => ?_
  obtain ⟨a, rfl, ha, k⟩ := h
  refine ⟨_, (pss_one (ps_ret (pe_mkV mkV (hr.mono (by decide)) (by rfl) (pa_cons (pe_ifExp (pt_cmpR op_gt (pv 0) pe_int (nomark _)) pe_int (pe_un un_neg pe_int)) (pa_cons pe_int (pa_cons pe_bl pa_nil)))))), ?_⟩
  simp only [Bx.endless] at k
  simp [tSeq, tIfS, tRet, tAsg, gName, tVar, tC, tOp, tUn, rI, rI0, rU, rEq, rNe, tTest, tAnd, tOr, tNot, tAndV, tOrV, tNotV, tB, tIf, tCall, tCons, tNil, tNext, tLst, sp1_app, sp2_app, L2.start, scal, tMkV, mkq_app, tFV, spV1_app, sp3_app, spV3_app, tCB, tBM0, tyV, rMx_app, rMn_app]
  split
  · rename_i c; simp only [if_pos c] at k; exact k
  · rename_i c; simp only [if_neg c] at k; exact k
noncomputable def sp_finer (C : Addr) : Sp := spV3 C (fun w _ _ => w.natAbs.log2 < 1000000) Bx.finerV
theorem sc_finer : FnScope ["whole", "power", "exact"] ["whole", "power", "exact"] (defScope st_finer) := ⟨rfl, rfl, rfl, by decide +kernel, rfl, by decide +kernel, by decide +kernel⟩
theorem ok_finer (T : At K mg "finer" st_finer ["whole", "power", "exact"]) {C : Addr} (VT : VTxt K C) (mkV : MkV P w K mg base C 1) : Cal P w K mg base "finer" ["whole", "power", "exact"] 3 (sp_finer C) := by
  have S := sc_finer
  refine T.cal S (fun vs H Q E h => by obtain ⟨a, b, c, rfl, _⟩ := h; rfl) fun f cdv A outer s H vs Q E hr h => ?_
  obtain ⟨a, b, c, rfl, ha, k⟩ := h
  refine ⟨_, (pss_one (ps_ret (pe_mkV mkV (hr.mono (by decide)) (by rfl) (pa_cons (pe_op op_add (pe_op op_mulB pe_int (pv 0)) (pe_ifExp (pt_val (pv 2)) pe_int pe_int)) (pa_cons (pe_op op_sub (pv 1) pe_int) (pa_cons pe_bl pa_nil)))))), ?_⟩
  simp only [Bx.finerV] at k
  have i2 : Builtin.Int.intBits 2 ≤ 1048576 := Nat.le_trans (ib_le (k := 2) (by decide)) (by decide)
  have ia : Builtin.Int.intBits a ≤ 1048576 := Nat.le_trans ib_log (by omega)
  cases c
  · simp [tSeq, tIfS, tRet, tAsg, gName, tVar, tC, tOp, tUn, rI, rI0, rU, rEq, rNe, tTest, tAnd, tOr, tNot, tAndV, tOrV, tNotV, tB, tIf, tCall, tCons, tNil, tNext, tLst, sp1_app, sp2_app, L2.start, scal, tMkV, mkq_app, tFV, spV1_app, sp3_app, spV3_app, tCB, tBM0, tyV, rMx_app, rMn_app]
    simp at k
    exact ⟨⟨i2, ia⟩, k⟩
  · simp [tSeq, tIfS, tRet, tAsg, gName, tVar, tC, tOp, tUn, rI, rI0, rU, rEq, rNe, tTest, tAnd, tOr, tNot, tAndV, tOrV, tNotV, tB, tIf, tCall, tCons, tNil, tNext, tLst, sp1_app, sp2_app, L2.start, scal, tMkV, mkq_app, tFV, spV1_app, sp3_app, spV3_app, tCB, tBM0, tyV, rMx_app, rMn_app]
    simp at k
    exact ⟨⟨i2, ia⟩, k⟩
noncomputable def sp_over (C : Addr) : Sp := spVVV C (fun v o => Bx.Lg v ∧ Bx.Lg o ∧ 0 ≤ o.whole) Bx.overV
theorem sc_over : FnScope ["value", "other", "shift", "scaled", "whole"] ["value", "other"] (defScope st_over) := ⟨rfl, rfl, rfl, by decide +kernel, rfl, by decide +kernel, by decide +kernel⟩
theorem ok_over (T : At K mg "over" st_over ["value", "other"]) {C : Addr} (VT : VTxt K C) (mkV : MkV P w K mg base C 1) (hSeer : base.NoSeer) (hTree : P.given.tree = none) (gDIGITS : IntG mg "DIGITS" (64)) (c_finer : Cal P w K mg base "finer" ["whole", "power", "exact"] 3 (sp_finer C)) (c_endless : Cal P w K mg base "endless" ["whole"] 3 (sp_endless C)) : Cal P w K mg base "over" ["value", "other"] 40 (sp_over C) := by
  have S := sc_over
  refine T.cal S (fun vs H Q E h => by obtain ⟨p, q, v, o, rfl, _⟩ := h; rfl) fun f cdv A outer s H vs Q E hr h => ?_
  obtain ⟨p, q, v, o, rfl, hv, ho, ha, k⟩ := h
  refine ⟨_, (pss_cons (ps_if (pw_or (pt_cmpR op_eq (pe_whole VT (pv 0) (by rfl)) pe_int (nomark _)) (pw_or1 (pt_val (pe_infinite VT (pv 1) (by rfl))))).pt (pss_one (ps_ret (pe_mkV mkV (hr.mono (by decide)) (by rfl) (pa_cons pe_int (pa_cons pe_int (pa_cons pe_bl pa_nil)))))) pss_nil) (pss_cons (ps_if (pw_or (pt_val (pe_infinite VT (pv 0) (by rfl))) (pw_or1 (pt_cmpR op_eq (pe_whole VT (pv 1) (by rfl)) pe_int (nomark _)))).pt (pss_one (ps_ret (pe_cal c_endless (hr.mono (by decide)) (by rfl) (pa_cons (pe_whole VT (pv 0) (by rfl)) pa_nil)))) pss_nil) (pss_cons (ps_set (i := 2) S.nd rfl (Or.inl rfl) (pe_op op_add (pe_ig gDIGITS (by rfl)) (pe_bm0 PySem.F.plainAttrs_int PySem.F.slot_int_bit_length PySem.F.type_int_bit_length mt_bitlen (pe_whole VT (pv 1) (by rfl))))) (pss_cons (ps_set (i := 3) S.nd rfl (Or.inl rfl) (pe_op op_shlB (pe_whole VT (pv 0) (by rfl)) (pv 2))) (pss_cons (ps_set (i := 4) S.nd rfl (Or.inl rfl) (pe_op (op_fdivA hSeer hTree (room_long hr (by decide)) rfl rfl rfl) (pv 3) (pe_whole VT (pv 1) (by rfl)))) (pss_one (ps_ret (pe_cal c_finer (hr.mono (by decide)) (by rfl) (pa_cons (pv 4) (pa_cons (pe_op op_sub (pe_op op_sub (pe_power VT (pv 0) (by rfl)) (pe_power VT (pv 1) (by rfl))) (pv 2)) (pa_cons (pe_cmpR op_eq (pe_op op_mulB (pv 4) (pe_whole VT (pv 1) (by rfl))) (pv 3) (nomark _)) pa_nil))))))))))), ?_⟩
  obtain ⟨a1, a2, a3⟩ := ha
  have l1 := a1.w
  have l2 := a2.w
  have i1 : Builtin.Int.intBits v.whole ≤ 400001 := Nat.le_trans ib_log (by omega)
  have i2 : Builtin.Int.intBits o.whole ≤ 400001 := Nat.le_trans ib_log (by omega)
  simp only [Bx.overV, ← Bx.two_pow_int] at k
  simp [vat_ex hv, vat_ex ho, sp_endless, sp_finer, tSeq, tIfS, tRet, tAsg, gName, tVar, tC, tOp, tUn, rI, rI0, rU, rEq, rNe, tTest, tAnd, tOr, tNot, tAndV, tOrV, tNotV, tB, tIf, tCall, tCons, tNil, tNext, tLst, sp1_app, sp2_app, L2.start, scal, tMkV, mkq_app, tFV, spV1_app, sp3_app, spV3_app, tCB, tBM0, tyV, rMx_app, rMn_app]
  by_cases c1 : v.whole = 0
  · simp only [c1, if_true, true_or] at k ⊢; exact k
  · simp only [c1, if_false, false_or] at k ⊢
    cases c2 : o.inf
    · simp only [c2, Bool.false_eq_true, if_false] at k ⊢
      cases c3 : v.inf
      · simp only [c3, Bool.false_eq_true, if_false, false_or] at k ⊢
        by_cases c4 : o.whole = 0
        · simp only [c4, if_true] at k ⊢; exact k
        · simp only [c4, if_false] at k ⊢
          have hy : 0 < o.whole := by omega
          have q := Bx.quot_logL a1 a2 hy
          have ib : Builtin.Int.intBits o.whole = Nat.log2 o.whole.natAbs + 1 := by
            unfold Builtin.Int.intBits
            rw [if_neg (by simp; omega)]
          have es : (64 + (Builtin.Int.intBits o.whole : Int)) = ((Bx.ovS o : Nat) : Int) := by unfold Bx.ovS; omega
          have ov := Bx.ovS_leL a2
          rw [es, Int.toNat_natCast]
          rw [← Bx.two_pow_int] at q
          have iq : Builtin.Int.intBits (v.whole * 2 ^ Bx.ovS o / o.whole) ≤ 1048576 := Nat.le_trans ib_log (by omega)
          refine ⟨⟨by omega, by omega⟩, hy, ⟨iq, by omega⟩, by omega, ?_⟩
          exact k
      · simp only [c3, if_true, true_or] at k ⊢; exact k
    · simp only [c2, if_true] at k ⊢; exact k
structure RC (P : Program) (w : World) (K : PySem.W.Frag) (mg : Str → Option Value) (base : Heap) (C CE CR CF : Addr) : Prop where
  VT : VTxt K C
  mkV : MkV P w K mg base C 1
  ET : ETxt K CE
  mkE : MkE P w K mg base CE 1
  RT : RTxt K CR
  mkR : MkR P w K mg base CR 1
  mkX : MkX P w K mg base "Fault" CF "spot" 1
theorem sc_Reader_ahead : FnScope ["self"] ["self"] (defScope st_Reader_ahead) := ⟨rfl, rfl, rfl, by decide +kernel, rfl, by decide +kernel, by decide +kernel⟩
theorem ok_Reader_ahead {f : Addr} {fd : FuncData} (T : Fun K "ahead" "Reader.ahead" st_Reader_ahead f fd) {C CE CR CF : Addr} (rc : RC P w K mg base C CE CR CF) (n_len : mg "len" = none) : FnOk P w K mg base CX0 3 f fd ["self"] (spAhead K CR) := by
  have S := sc_Reader_ahead
  obtain ⟨VT, mkV, ET, mkE, RT, mkR, mkX⟩ := rc
  obtain ⟨fX, fdX, FX, okX, mgX, kpX, bX⟩ := id mkX
  refine T.ok S (fun vs H Q E h => by obtain ⟨_, _, _, rfl, _⟩ := h; rfl) fun cdv A outer s H vs Q E hr h => ?_
  obtain ⟨l, r, i, rfl, hr0, k⟩ := h
  refine ⟨_, (pss_one (ps_ret (pe_ifExp (pt_cmpR op_lt (pe_fat RT.spot (pv 0) (by rfl)) (pe_callB call_len (by rfl) n_len PySem.boot_len (pa_cons (pe_fat RT.codes (pv 0) (by rfl)) pa_nil)) (nomark _)) (pe_ix ix_list (pe_fat RT.codes (pv 0) (by rfl)) (pe_fat RT.spot (pv 0) (by rfl)) (fun _ _ => rfl)) (pe_un un_neg pe_int)))), ?_⟩
  simp [-List.lookup_eq_none_iff, tSeq, tIfS, tRet, tAsg, gName, tVar, tC, tOp, tUn, rI, rI0, rU, rEq, rNe, tTest, tAnd, tOr, tNot, tAndV, tOrV, tNotV, tB, tIf, tCall, tCons, tNil, tNext, tLst, sp1_app, sp2_app, L2.start, scal, tMkV, mkq_app, tFV, spV1_app, sp3_app, spV3_app, tCB, tBM0, tyV, rMx_app, rMn_app, tFA, tMeth, tCall, mkeq_app, tMkE, sFld, tRaise]
  obtain ⟨cs, hR, hS⟩ := hr0
  refine ⟨cs, (i : Int), hR, cs, ⟨_, hR⟩, l.length, .inl ⟨_, hS, by simp⟩, ?_⟩
  by_cases c : i < l.length
  · rw [if_pos (by omega)]
    have e := ahead_eq (List.getElem?_eq_getElem c)
    rw [e] at k
    exact ⟨cs, ⟨_, hR⟩, cs, (i : Int), hR, cs, _, (i : Int), .int l[i], rfl, rfl, hS, atI_nat (by simp [c]), k⟩
  · rw [if_neg (by omega)]
    have e : aheadI l i = -1 := by unfold aheadI; rw [List.getElem?_eq_none (by omega)]; rfl
    rw [e] at k
    exact k
theorem sc_Reader_passes : FnScope ["self", "sign"] ["self", "sign"] (defScope st_Reader_passes) := ⟨rfl, rfl, rfl, by decide +kernel, rfl, by decide +kernel, by decide +kernel⟩
theorem ok_Reader_passes {f : Addr} {fd : FuncData} (T : Fun K "passes" "Reader.passes" st_Reader_passes f fd) {C CE CR CF : Addr} (rc : RC P w K mg base C CE CR CF) (n_ord : mg "ord" = none) (M_ahead : MCal P w K mg base CX0 CR "ahead" ["self"] 3 (spAhead K CR)) : FnOk P w K mg base CX0 4 f fd ["self", "sign"] (spPasses K CR) := by
  have S := sc_Reader_passes
  obtain ⟨VT, mkV, ET, mkE, RT, mkR, mkX⟩ := rc
  obtain ⟨fX, fdX, FX, okX, mgX, kpX, bX⟩ := id mkX
  obtain ⟨f_ahead, d_ahead, m_ahead, F_ahead, B_ahead⟩ := M_ahead
  refine T.ok S (fun vs H Q E h => by obtain ⟨_, _, _, _, rfl, _⟩ := h; rfl) fun cdv A outer s H vs Q E hr h => ?_
  obtain ⟨l, r, i, c, rfl, c0, hr0, k⟩ := h
  refine ⟨_, (pss_cons (ps_if (pt_cmpR op_ne (pe_meth0 (pv 0) RT.cl m_ahead F_ahead (hr.mono (by decide)) B_ahead .nil pass0) (pe_callB call_ord (by rfl) n_ord boot_ord5 (pa_cons (pv 1) pa_nil)) (nomark _)) (pss_one (ps_ret pe_bl)) pss_nil) (pss_cons (ps_fld (pv 0) (pe_op op_add (pe_fat RT.spot (pv 0) (by rfl)) pe_int) rfl) (pss_one (ps_ret pe_bl)))), ?_⟩
  simp [spAhead, -List.lookup_eq_none_iff, tSeq, tIfS, tRet, tAsg, gName, tVar, tC, tOp, tUn, rI, rI0, rU, rEq, rNe, tTest, tAnd, tOr, tNot, tAndV, tOrV, tNotV, tB, tIf, tCall, tCons, tNil, tNext, tLst, sp1_app, sp2_app, L2.start, scal, tMkV, mkq_app, tFV, spV1_app, sp3_app, spV3_app, tCB, tBM0, tyV, rMx_app, rMn_app, tFA, tMeth, tCall, mkeq_app, tMkE, sFld, tRaise]
  obtain ⟨cs, ⟨dx, e⟩, hS⟩ := hr0
  refine ⟨dx, _, e, (rf_look _ _).2.2.1, l, i, ⟨cs, ⟨dx, e⟩, hS⟩, rfl, ?_⟩
  rw [ST_ord c0]
  by_cases q : l[i]? = some c
  · rw [if_pos q] at k
    exact .inl ⟨ahead_eq q, cs, (i : Int), ⟨dx, e⟩, CR, dx, _, e, RT.cl, RT.n2, rf_len _ _, k _ But.put (RAt.moved e hS (by omega))⟩
  · rw [if_neg q] at k
    exact .inr ⟨ahead_ne c0 q, k⟩
theorem sc_Reader_take : FnScope ["self", "word", "sign"] ["self", "word"] (defScope st_Reader_take) := ⟨rfl, rfl, rfl, by decide +kernel, rfl, by decide +kernel, by decide +kernel⟩
theorem ok_Reader_take {f : Addr} {fd : FuncData} (T : Fun K "take" "Reader.take" st_Reader_take f fd) {C CE CR CF : Addr} (rc : RC P w K mg base C CE CR CF) (M_passes : MCal P w K mg base CX0 CR "passes" ["self", "sign"] 4 (spPasses K CR)) : FnOk P w K mg base (CX1 P w) 5 f fd ["self", "word"] (spTake K CR CF) := by
  have S := sc_Reader_take
  obtain ⟨VT, mkV, ET, mkE, RT, mkR, mkX⟩ := rc
  obtain ⟨fX, fdX, FX, okX, mgX, kpX, bX⟩ := id mkX
  obtain ⟨f_passes, d_passes, m_passes, F_passes, B_passes⟩ := M_passes
  refine T.okX S (fun vs H Q E h => by obtain ⟨_, _, _, _, rfl, _⟩ := h; rfl) fun cdv A outer s H vs Q E hr h => ?_
  obtain ⟨l, r, i, ws, rfl, w0, hr0, k⟩ := h
  refine ⟨_, (pss_one (ps_for PassesOwn.leaving rfl (pi_str (pv 1)) (pg_name (i := 2) S.nd rfl (Or.inl rfl)) (pss_one (ps_if (pt_not (pt_val (pe_meth (pv 0) RT.cl m_passes F_passes (hr.mono (by decide)) B_passes .nil pass0 (pa_cons (pv 2) pa_nil)))) (pss_one (ps_raise mkX rfl rfl throws1 (hr.mono (by decide)) (by rfl) (pa_cons (pe_fat RT.spot (pv 0) (by rfl)) pa_nil))) pss_nil)))), ?_⟩
  refine ⟨_, rfl, _, rfl, ?_⟩
  refine for_str (fun j σ H' => ∃ z, σ = [some (V.ref r), some (V.str (L2.ST ws)), z] ∧ But r H H' ∧ RAt K CR l H' r (i + j) ∧ Bx.commW ws (l.drop i) = j + Bx.commW (ws.drop j) (l.drop (i + j))) ⟨none, rfl, But.refl H, hr0, by simp⟩ ?_ ?_
  · rintro j c σ H1 hc ⟨z, rfl, b1, a1, cw⟩
    rw [ST_get] at hc
    obtain ⟨s, hs, rfl⟩ : ∃ s, ws[j]? = some s ∧ c = s.toNat := by
      cases e : ws[j]? with
      | none => rw [e] at hc; cases hc
      | some s => rw [e] at hc; exact ⟨s, rfl, (Option.some.inj hc).symm⟩
    have s0 := w0 s (List.mem_of_getElem? hs)
    have jl : j < ws.length := (List.getElem?_eq_some_iff.mp hs).1
    simp [-List.lookup_eq_none_iff, tSeq, tIfS, tRet, tAsg, gName, tVar, tC, tOp, tUn, rI, rI0, rU, rEq, rNe, tTest, tAnd, tOr, tNot, tAndV, tOrV, tNotV, tB, tIf, tCall, tCons, tNil, tNext, tLst, sp1_app, sp2_app, L2.start, scal, tMkV, mkq_app, tFV, spV1_app, sp3_app, spV3_app, tCB, tBM0, tyV, rMx_app, rMn_app, tFA, tMeth, tCall, mkeq_app, tMkE, sFld, tRaise]
    obtain ⟨cs, ⟨dx, e⟩, hS⟩ := id a1
    refine ⟨dx, _, e, (rf_look _ _).2.2.2.1, l, r, i + j, s, rfl, s0, a1, ?_⟩
    have st := commW_step (b := l.drop (i + j)) hs
    by_cases q : l[i + j]? = some s
    · rw [if_pos q]
      intro H2 b2 a2
      simp
      rw [if_pos (by rw [Bx.head_drop]; exact q), List.drop_drop] at st
      exact ⟨b1.trans b2, by rw [show i + (j + 1) = i + j + 1 by omega]; exact a2, by rw [cw, st, show i + (j + 1) = i + j + 1 by omega]; omega⟩
    · rw [if_neg q]
      simp
      rw [if_neg (by rw [Bx.head_drop]; exact q)] at st
      refine ⟨cs, _, ⟨dx, e⟩, fun d hd => ?_⟩
      have ce : Bx.commW ws (l.drop i) = j := by omega
      unfold Bx.takeW at k
      rw [ce, if_neg (by omega)] at k
      exact k _ d (b1.new hd) upd_same
  · rintro σ H1 ⟨z, rfl, b1, a1, cw⟩
    rw [ST_size] at a1 cw
    have ce : Bx.commW ws (l.drop i) = ws.length := by
      have : Bx.commW (ws.drop ws.length) (l.drop (i + ws.length)) = 0 := by rw [List.drop_length]; cases l.drop (i + ws.length) <;> rfl
      omega
    unfold Bx.takeW at k
    rw [if_pos ce] at k
    exact k H1 b1 a1
noncomputable def sp_digit_of : Sp := sp1 (fun _ => True) fun a => .int (Bx.dgt a)
theorem sc_digit_of : FnScope ["code"] ["code"] (defScope st_digit_of) := ⟨rfl, rfl, rfl, by decide +kernel, rfl, by decide +kernel, by decide +kernel⟩
theorem ok_digit_of (T : At K mg "digit_of" st_digit_of ["code"]) {C CE CR CF : Addr} (rc : RC P w K mg base C CE CR CF) (n_ord : mg "ord" = none) : Cal P w K mg base "digit_of" ["code"] 3 sp_digit_of := by
  have S := sc_digit_of
  obtain ⟨VT, mkV, ET, mkE, RT, mkR, mkX⟩ := rc
  obtain ⟨fX, fdX, FX, okX, mgX, kpX, bX⟩ := id mkX
  refine T.cal S sp1_len fun f cdv A outer s H vs Q E hr h => ?_
  obtain ⟨a, rfl, ha, k⟩ := h
  refine ⟨_, (pss_cons (ps_if (pw_and (pt_cmpR op_ge (pv 0) (pe_callB call_ord (by rfl) n_ord boot_ord5 (pa_cons pe_str pa_nil)) (nomark _)) (pw_and1 (pt_cmpR op_le (pv 0) (pe_callB call_ord (by rfl) n_ord boot_ord5 (pa_cons pe_str pa_nil)) (nomark _)))).pt (pss_one (ps_ret (pe_op op_sub (pv 0) (pe_callB call_ord (by rfl) n_ord boot_ord5 (pa_cons pe_str pa_nil))))) pss_nil) (pss_cons (ps_if (pw_and (pt_cmpR op_ge (pv 0) (pe_callB call_ord (by rfl) n_ord boot_ord5 (pa_cons pe_str pa_nil)) (nomark _)) (pw_and1 (pt_cmpR op_le (pv 0) (pe_callB call_ord (by rfl) n_ord boot_ord5 (pa_cons pe_str pa_nil)) (nomark _)))).pt (pss_one (ps_ret (pe_op op_add (pe_op op_sub (pv 0) (pe_callB call_ord (by rfl) n_ord boot_ord5 (pa_cons pe_str pa_nil))) pe_int))) pss_nil) (pss_one (ps_ret pe_int)))), ?_⟩
  simp only [Bx.dgt] at k
  simp [-List.lookup_eq_none_iff, tSeq, tIfS, tRet, tAsg, gName, tVar, tC, tOp, tUn, rI, rI0, rU, rEq, rNe, tTest, tAnd, tOr, tNot, tAndV, tOrV, tNotV, tB, tIf, tCall, tCons, tNil, tNext, tLst, sp1_app, sp2_app, L2.start, scal, tMkV, mkq_app, tFV, spV1_app, sp3_app, spV3_app, tCB, tBM0, tyV, rMx_app, rMn_app, tFA, tMeth, tCall, mkeq_app, tMkE, sFld, tRaise]
  simp only [one_sign.1, one_sign.2.1, one_sign.2.2.1, one_sign.2.2.2.1, ord_0, ord_9, ord_a, ord_f, true_and]
  by_cases c1 : 48 ≤ a <;> by_cases c2 : a ≤ 57 <;> by_cases c3 : 97 ≤ a <;> by_cases c4 : a ≤ 102 <;> simp only [c1, c2, c3, c4, and_self, and_true, and_false, true_and, false_and, if_true, if_false] at k ⊢ <;> exact k
theorem sc_take_digits : FnScope ["reader", "base", "most", "whole", "start"] ["reader", "base", "most", "whole"] (defScope st_take_digits) := ⟨rfl, rfl, rfl, by decide +kernel, rfl, by decide +kernel, by decide +kernel⟩
theorem ok_take_digits (T : At K mg "take_digits" st_take_digits ["reader", "base", "most", "whole"]) {C CE CR CF : Addr} (rc : RC P w K mg base C CE CR CF) (M_ahead : MCal P w K mg base CX0 CR "ahead" ["self"] 3 (spAhead K CR)) (c_digit_of : Cal P w K mg base "digit_of" ["code"] 3 sp_digit_of) : CalX P w K mg base "take_digits" ["reader", "base", "most", "whole"] 4 (spDigits K CR CF) := by
  have S := sc_take_digits
  obtain ⟨VT, mkV, ET, mkE, RT, mkR, mkX⟩ := rc
  obtain ⟨fX, fdX, FX, okX, mgX, kpX, bX⟩ := id mkX
  obtain ⟨f_ahead, d_ahead, m_ahead, F_ahead, B_ahead⟩ := M_ahead
  refine T.calX S (fun vs H Q E h => by obtain ⟨_, _, _, _, _, _, rfl, _⟩ := h; rfl) fun f cdv A outer s H vs Q E hr h => ?_
  obtain ⟨l, r, i, base', most, w', rfl, hb, m0, m1, w0, w1, ll, hr0, k⟩ := h
  refine ⟨_, (pss_cons (ps_set (i := 4) S.nd rfl (Or.inl rfl) (pe_fat RT.spot (pv 0) (by rfl))) (pss_cons (ps_while PassesOwn.leaving (pw_and (pt_cmpR op_lt (pe_cal c_digit_of (hr.mono (by decide)) (by rfl) (pa_cons (pe_meth0 (pv 0) RT.cl m_ahead F_ahead (hr.mono (by decide)) B_ahead .nil pass0) pa_nil)) (pv 1) (nomark _)) (pw_and1 (pt_cmpR op_lt (pe_fat RT.spot (pv 0) (by rfl)) (pe_op op_add (pv 4) (pv 2)) (nomark _)))).pt (pss_cons (ps_set (i := 3) S.nd rfl (Or.inl rfl) (pe_op op_add (pe_op op_mulB (pv 3) (pv 1)) (pe_cal c_digit_of (hr.mono (by decide)) (by rfl) (pa_cons (pe_meth0 (pv 0) RT.cl m_ahead F_ahead (hr.mono (by decide)) B_ahead .nil pass0) pa_nil)))) (pss_one (ps_fld (pv 0) (pe_op op_add (pe_fat RT.spot (pv 0) (by rfl)) pe_int) rfl)))) (pss_cons (ps_if (pt_cmpR op_eq (pe_fat RT.spot (pv 0) (by rfl)) (pv 4) (nomark _)) (pss_one (ps_raise mkX rfl rfl throws1 (hr.mono (by decide)) (by rfl) (pa_cons (pv 4) pa_nil))) pss_nil) (pss_one (ps_ret (pv 3)))))), ?_⟩
  simp only [tSeq, tAsg, gName, tRet, tNext, tIfS, tDrop, tB, tNot, tTest, tOp, tAnd, tIf, tUn, tCall, sFld]
  refine rd_spot rfl hr0 ?_
  have rl := Bx.run_le base' most.toNat (l.drop i)
  obtain ⟨N, hN⟩ : ∃ N, N = Bx.runD base' most.toNat (l.drop i) := ⟨_, rfl⟩
  rw [← hN] at rl
  refine ⟨fun m σ H' => ∃ n : Nat, σ = [some (V.ref r), some (V.int base'), some (V.int most), some (V.int (Bx.valD base' w' ((l.drop i).take n))), some (V.int (i : Int))] ∧ But r H H' ∧ RAt K CR l H' r (i + n) ∧ n ≤ N ∧ m = N - n, ⟨_, 0, rfl, But.refl H, hr0, Nat.zero_le _, rfl⟩, ?_⟩
  rintro m σ H1 ⟨n, rfl, b1, a1, nN, rfl⟩
  have rs := runD_step (base := base') (by omega) (l := l) (i := i) (m := most.toNat) (n := n) (by rw [← hN]; exact nN)
  rw [← hN] at rs
  refine rd_ahead rfl a1 ⟨_, rfl, trivial, _, rfl, _, _, rfl, rfl, _, rfl, ?_⟩
  simp only [tSeq, tAsg, gName, tRet, tNext, tIfS, tDrop, tB, tNot, tTest, tOp, tAnd, tIf, tUn, tCall, sFld]
  have fin : ¬ n < N → tFA (R0 CR) (fun y => V.int y.2) (tVar 0) [some (V.ref r), some (V.int base'), some (V.int most), some (V.int (Bx.valD base' w' ((l.drop i).take n))), some (V.int (i : Int))] H1 (fun x H1' => tVar 4 [some (V.ref r), some (V.int base'), some (V.int most), some (V.int (Bx.valD base' w' ((l.drop i).take n))), some (V.int (i : Int))] H1' fun y H2 => rEq x y H2 fun x H' => ∃ k, x = V.bl k ∧ if k = true then tRaise CF "spot" E (tVar 4) { nx := fun σ H => tVar 3 σ H Q, rt := Q } [some (V.ref r), some (V.int base'), some (V.int most), some (V.int (Bx.valD base' w' ((l.drop i).take n))), some (V.int (i : Int))] H' else tVar 3 [some (V.ref r), some (V.int base'), some (V.int most), some (V.int (Bx.valD base' w' ((l.drop i).take n))), some (V.int (i : Int))] H' Q) := fun h => by
    have nn : n = N := by omega
    refine rd_spot rfl a1 ⟨_, rfl, rfl, _, rfl, ?_⟩
    unfold Bx.takeD at k
    rw [← hN] at k
    by_cases n0 : N = 0
    · rw [if_pos n0] at k
      rw [if_pos (by simp; omega)]
      exact ⟨_, rfl, _, rfl, Flt.raise k b1 (by omega)⟩
    · rw [if_neg n0] at k
      rw [if_neg (by simp; omega)]
      subst nn
      exact ⟨_, rfl, k H1 b1 a1⟩
  by_cases c1 : Bx.dgt (aheadI l (i + n)) < base'
  · rw [if_pos (decide_eq_true c1)]
    refine rd_spot rfl a1 ⟨_, rfl, _, rfl, _, _, rfl, rfl, _, _, rfl, rfl, _, rfl, ?_⟩
    by_cases c2 : n < most.toNat
    · rw [if_pos (decide_eq_true (by omega))]
      have lt : n < N := rs.mpr ⟨c1, c2⟩
      refine ⟨fun σ' H' => σ' = [some (V.ref r), some (V.int base'), some (V.int most), some (V.int (Bx.valD base' w' ((l.drop i).take (n + 1)))), some (V.int (i : Int))] ∧ But r H H' ∧ RAt K CR l H' r (i + (n + 1)), fun σ' H' ⟨q1, q2, q3⟩ => ⟨N - (n + 1), by omega, n + 1, q1, q2, q3, by omega, rfl⟩, ?_⟩
      have vb := valD_bits (base := base') hb (b := l.drop i) (m := most.toNat) (n := n) (by omega) (by omega) w0 w1
      have bb : Builtin.Int.intBits base' ≤ 1048576 := Nat.le_trans (ib_le (k := 5) (by omega)) (by decide)
      refine ⟨_, rfl, _, rfl, _, _, rfl, rfl, ⟨vb, bb⟩, ?_⟩
      refine rd_ahead rfl a1 ⟨_, rfl, trivial, _, _, rfl, rfl, ?_⟩
      have il : i + n < l.length := by
        have := rl.2
        rw [List.length_drop] at this
        omega
      have ah := ahead_eq (List.getElem?_eq_getElem il)
      have vs := valD_step (base := base') (w := w') (b := l.drop i) (n := n) (c := l[i + n]) (by rw [List.getElem?_drop]; exact List.getElem?_eq_getElem il)
      obtain ⟨cs, ⟨dx, e⟩, hS⟩ := id a1
      simp only [sFld, tOp]
      refine rd_spot rfl a1 ⟨_, _, rfl, rfl, _, rfl, r, CR, dx, _, rfl, e, RT.cl, RT.n2, rf_len _ _, ?_⟩
      refine ⟨?_, b1.trans But.put, by rw [show i + (n + 1) = i + n + 1 by omega]; exact RAt.moved e hS (by omega)⟩
      rw [vs, ah]
      rfl
    · rw [if_neg (by simp; omega)]
      exact fin (fun z => c2 (rs.mp z).2)
  · rw [if_neg (by simpa using c1)]
    exact fin (fun z => c1 (rs.mp z).1)
theorem sc_take_exponent : FnScope ["reader", "mark", "sign"] ["reader", "mark"] (defScope st_take_exponent) := ⟨rfl, rfl, rfl, by decide +kernel, rfl, by decide +kernel, by decide +kernel⟩
theorem ok_take_exponent (T : At K mg "take_exponent" st_take_exponent ["reader", "mark"]) {C CE CR CF : Addr} (rc : RC P w K mg base C CE CR CF) (M_passes : MCal P w K mg base CX0 CR "passes" ["self", "sign"] 4 (spPasses K CR)) (c_take_digits : CalX P w K mg base "take_digits" ["reader", "base", "most", "whole"] 4 (spDigits K CR CF)) (gMOST_EXPONENT_DIGITS : IntG mg "MOST_EXPONENT_DIGITS" (5)) : CalX P w K mg base "take_exponent" ["reader", "mark"] 5 (spExpo K CR CF) := by
  have S := sc_take_exponent
  obtain ⟨VT, mkV, ET, mkE, RT, mkR, mkX⟩ := rc
  obtain ⟨fX, fdX, FX, okX, mgX, kpX, bX⟩ := id mkX
  obtain ⟨f_passes, d_passes, m_passes, F_passes, B_passes⟩ := M_passes
  refine T.calX S (fun vs H Q E h => by obtain ⟨_, _, _, _, rfl, _⟩ := h; rfl) fun f cdv A outer s H vs Q E hr h => ?_
  obtain ⟨l, r, i, mark, rfl, m0, ll, hr0, k⟩ := h
  refine ⟨_, (pss_cons (ps_if (pt_not (pt_val (pe_meth (pv 0) RT.cl m_passes F_passes (hr.mono (by decide)) B_passes .nil pass0 (pa_cons (pv 1) pa_nil)))) (pss_one (ps_ret pe_int)) pss_nil) (pss_cons (ps_set (i := 2) S.nd rfl (Or.inl rfl) (pe_ifExp (pt_val (pe_meth (pv 0) RT.cl m_passes F_passes (hr.mono (by decide)) B_passes .nil pass0 (pa_cons pe_str pa_nil))) (pe_un un_neg pe_int) pe_int)) (pss_one (ps_ret (pe_op op_mulB (pv 2) (pe_calX c_take_digits pass1 (hr.mono (by decide)) (by rfl) (pa_cons (pv 0) (pa_cons pe_int (pa_cons (pe_ig gMOST_EXPONENT_DIGITS (by rfl)) (pa_cons pe_int pa_nil)))))))))), ?_⟩
  simp only [tSeq, tAsg, gName, tRet, tNext, tIfS, tDrop, tB, tNot, tTest, tOp, tAnd, tIf, tUn, tCall, sFld]
  refine rd_passes (c := mark) rfl hr0 m0 rfl (fun R h => ⟨_, rfl, h⟩) (fun q H1 b1 a1 => ⟨_, rfl, ?_⟩) (fun q => ⟨_, rfl, ?_⟩)
  · simp only [Bool.not_true, Bool.not_false, Bool.false_eq_true, if_false, if_true]
    have hd : (l.drop i).head? = some mark := by rw [Bx.head_drop]; exact q
    have dr : ∀ n, (l.drop i).drop n = l.drop (i + n) := fun n => by rw [List.drop_drop]
    unfold Bx.pExp at k
    rw [if_pos hd] at k
    refine rd_passes (c := 45) rfl a1 (by decide) (by rw [lit_minus]) (fun R h => h) (fun q2 H2 b2 a2 => ⟨_, rfl, ?_⟩) (fun q2 => ⟨_, rfl, ?_⟩)
    · simp only [Bool.not_true, Bool.not_false, Bool.false_eq_true, if_false, if_true]
      have hd2 : ((l.drop i).drop 1).head? = some 45 := by rw [dr, Bx.head_drop]; exact q2
      rw [if_pos hd2, dr] at k
      refine ⟨_, rfl, _, rfl, _, rfl, l, r, i + 1 + 1, 10, 5, 0, rfl, .inl rfl, by decide, by decide, by decide, by have := Nat.two_pow_pos 40000; omega, ll, a2, par_of (fun j e => ?_) (fun v n e H3 b3 a3 => ?_)⟩
      · have e' : Bx.takeD 10 5 0 (l.drop (i + 2)) = .error j := e
        rw [e'] at k
        have := par_err k rfl
        rw [show i + 1 + 1 + j = i + (2 + j) by omega]
        exact this.after (b1.trans b2)
      · have e' : Bx.takeD 10 5 0 (l.drop (i + 2)) = .ok (v, n) := e
        rw [e'] at k
        have kk := par_ok k rfl H3 ((b1.trans b2).trans b3) (by rw [show i + (2 + n) = i + 1 + 1 + n by omega]; exact a3)
        exact ⟨_, _, rfl, rfl, ⟨by decide +kernel, expo_bits e'⟩, kk⟩
    · simp only [Bool.not_true, Bool.not_false, Bool.false_eq_true, if_false, if_true]
      have hd2 : ¬ ((l.drop i).drop 1).head? = some 45 := by rw [dr, Bx.head_drop]; exact q2
      rw [if_neg hd2, dr] at k
      refine ⟨_, rfl, _, rfl, l, r, i + 1, 10, 5, 0, rfl, .inl rfl, by decide, by decide, by decide, by have := Nat.two_pow_pos 40000; omega, ll, a1, par_of (fun j e => ?_) (fun v n e H3 b3 a3 => ?_)⟩
      · have e' : Bx.takeD 10 5 0 (l.drop (i + 1)) = .error j := e
        rw [e'] at k
        have := par_err k rfl
        rw [show i + 1 + j = i + (1 + j) by omega]
        exact this.after b1
      · have e' : Bx.takeD 10 5 0 (l.drop (i + 1)) = .ok (v, n) := e
        rw [e'] at k
        have kk := par_ok k rfl H3 (b1.trans b3) (by rw [show i + (1 + n) = i + 1 + n by omega]; exact a3)
        exact ⟨_, _, rfl, rfl, ⟨by decide +kernel, expo_bits e'⟩, kk⟩
  · simp only [Bool.not_true, Bool.not_false, Bool.false_eq_true, if_false, if_true]
    have hd : ¬ (l.drop i).head? = some mark := by rw [Bx.head_drop]; exact q
    unfold Bx.pExp at k
    rw [if_neg hd] at k
    exact k H (But.refl H) hr0
theorem sc_take_finite : FnScope ["reader", "base", "mark", "sign", "whole", "start", "behind_point", "exponent"] ["reader", "base", "mark", "sign", "whole"] (defScope st_take_finite) := ⟨rfl, rfl, rfl, by decide +kernel, rfl, by decide +kernel, by decide +kernel⟩
theorem ok_take_finite (T : At K mg "take_finite" st_take_finite ["reader", "base", "mark", "sign", "whole"]) {C CE CR CF : Addr} (rc : RC P w K mg base C CE CR CF) (M_passes : MCal P w K mg base CX0 CR "passes" ["self", "sign"] 4 (spPasses K CR)) (c_take_exponent : CalX P w K mg base "take_exponent" ["reader", "mark"] 5 (spExpo K CR CF)) (c_take_digits : CalX P w K mg base "take_digits" ["reader", "base", "most", "whole"] 4 (spDigits K CR CF)) (gMOST_BYTES : IntG mg "MOST_BYTES" (8192)) : CalX P w K mg base "take_finite" ["reader", "base", "mark", "sign", "whole"] 6 (spFinite K CE CR CF) := by
  have S := sc_take_finite
  obtain ⟨VT, mkV, ET, mkE, RT, mkR, mkX⟩ := rc
  obtain ⟨fX, fdX, FX, okX, mgX, kpX, bX⟩ := id mkX
  obtain ⟨f_passes, d_passes, m_passes, F_passes, B_passes⟩ := M_passes
  refine T.calX S (fun vs H Q E h => by obtain ⟨_, _, _, _, _, _, _, rfl, _⟩ := h; rfl) fun f cdv A outer s H vs Q E hr h => ?_
  obtain ⟨l, r, i, base', mark, sign, w', rfl, hb, m0, hs, w0, w1, ll, hr0, k⟩ := h
  refine ⟨_, (pss_cons (ps_set (i := 5) S.nd rfl (Or.inl rfl) (pe_fat RT.spot (pv 0) (by rfl))) (pss_cons (ps_if (pt_val (pe_meth (pv 0) RT.cl m_passes F_passes (hr.mono (by decide)) B_passes .nil pass0 (pa_cons pe_str pa_nil))) (pss_cons (ps_set (i := 5) S.nd rfl (Or.inl rfl) (pe_fat RT.spot (pv 0) (by rfl))) (pss_one (ps_set (i := 4) S.nd rfl (Or.inl rfl) (pe_calX c_take_digits pass1 (hr.mono (by decide)) (by rfl) (pa_cons (pv 0) (pa_cons (pv 1) (pa_cons (pe_ig gMOST_BYTES (by rfl)) (pa_cons (pv 4) pa_nil)))))))) pss_nil) (pss_cons (ps_set (i := 6) S.nd rfl (Or.inl rfl) (pe_op op_sub (pe_fat RT.spot (pv 0) (by rfl)) (pv 5))) (pss_cons (ps_set (i := 7) S.nd rfl (Or.inl rfl) (pe_calX c_take_exponent pass1 (hr.mono (by decide)) (by rfl) (pa_cons (pv 0) (pa_cons (pv 2) pa_nil)))) (pss_cons (ps_if (pt_cmpR op_eq (pv 1) pe_int (nomark _)) (pss_one (ps_ret (pe_mkE mkE (hr.mono (by decide)) (by rfl) (pa_cons (pe_op op_mulB (pv 3) (pv 4)) (pa_cons (pe_op op_sub (pv 7) (pe_op op_mulB pe_int (pv 6))) (pa_cons pe_int (pa_cons pe_bl pa_nil))))))) pss_nil) (pss_one (ps_ret (pe_mkE mkE (hr.mono (by decide)) (by rfl) (pa_cons (pe_op op_mulB (pv 3) (pv 4)) (pa_cons (pe_op op_sub (pv 7) (pv 6)) (pa_cons (pe_op op_sub (pv 7) (pv 6)) (pa_cons pe_bl pa_nil)))))))))))), ?_⟩
  simp only [tSeq, tAsg, gName, tRet, tNext, tIfS, tDrop, tB, tNot, tTest, tOp, tAnd, tIf, tUn, tCall, sFld]
  have dr : ∀ n, (l.drop i).drop n = l.drop (i + n) := fun n => by rw [List.drop_drop]
  refine rd_spot rfl hr0 ?_
  refine rd_passes (c := 46) rfl hr0 (by decide) (by rw [lit_point]) (fun R h => h) (fun q H1 b1 a1 => ⟨_, rfl, ?_⟩) (fun q => ⟨_, rfl, ?_⟩)
  · simp only [Bool.not_true, Bool.not_false, Bool.false_eq_true, if_false, if_true]
    have hd : (l.drop i).head? = some 46 := by rw [Bx.head_drop]; exact q
    unfold Bx.pFin at k
    rw [if_pos hd, dr] at k
    try simp only [tSeq, tAsg, gName, tRet, tNext, tIfS, tDrop, tB, tNot, tTest, tOp, tAnd, tIf, tUn, tCall, sFld]
    refine rd_spot rfl a1 ?_
    refine ⟨_, rfl, _, rfl, _, rfl, l, r, i + 1, base', 8192, w', rfl, hb, by decide, by decide, w0, w1, ll, a1, par_of (fun j e => ?_) (fun v n e H2 b2 a2 => ?_)⟩
    · have e' : Bx.takeD base' 8192 w' (l.drop (i + 1)) = .error j := e
      rw [e'] at k
      have := par_err k rfl
      rw [show i + 1 + j = i + (1 + j) by omega]
      exact this.after b1
    · have e' : Bx.takeD base' 8192 w' (l.drop (i + 1)) = .ok (v, n) := e
      rw [e'] at k
      simp only [dr] at k
      have tl := Bx.takeD_len e'
      have nl : n ≤ 8192 := by have := tl.1; rw [List.length_drop] at this; omega
      rw [show i + (1 + n) = i + 1 + n by omega] at k
      try simp only [tSeq, tAsg, gName, tRet, tNext, tIfS, tDrop, tB, tNot, tTest, tOp, tAnd, tIf, tUn, tCall, sFld]
      refine rd_spot rfl a2 ⟨_, rfl, _, _, rfl, rfl, ?_⟩
      have bpE : (((i + 1 + n : Nat) : Int) - ((i + 1 : Nat) : Int)) = (n : Int) := by omega
      simp only [bpE]
      refine ⟨_, rfl, _, rfl, l, r, i + 1 + n, mark, rfl, m0, ll, a2, par_of (fun j e => ?_) (fun ex n2 e H3 b3 a3 => ?_)⟩
      · try rw [Nat.add_zero] at e
        rw [e] at k
        have := par_err k rfl
        rw [show i + 1 + n + j = i + (1 + n + j) by omega]
        exact this.after (b1.trans b2)
      · try rw [Nat.add_zero] at e
        rw [e] at k
        have kk := par_ok k rfl H3 ((b1.trans b2).trans b3) (by rw [show i + (1 + n + n2) = i + 1 + n + n2 by omega]; exact a3)
        have vb : Builtin.Int.intBits (v) ≤ 1048576 := takeD_bits hb (by decide) w0 w1 e'
        have sb : Builtin.Int.intBits sign ≤ 1048576 := Nat.le_trans (ib_le (k := 1) (by omega)) (by decide)
        have b4 : Builtin.Int.intBits 4 ≤ 1048576 := Nat.le_trans (ib_le (k := 3) (by decide)) (by decide)
        have nb : Builtin.Int.intBits (n : Int) ≤ 1048576 := Nat.le_trans (ib_le (k := 20) (by omega)) (by decide)
        refine ⟨_, rfl, rfl, _, rfl, ?_⟩
        unfold Bx.mkEx at kk
        by_cases c : base' = 16
        · rw [if_pos c] at kk
          rw [if_pos (by simp [c])]
          exact ⟨_, rfl, _, rfl, _, _, rfl, rfl, ⟨sb, vb⟩, _, rfl, _, rfl, _, _, rfl, rfl, ⟨b4, nb⟩, _, _, rfl, rfl, _, _, _, _, rfl, fun x H4 s4 h4 => kk x H4 s4.but s4 (h4.apart (a3.same s4)) h4⟩
        · rw [if_neg c] at kk
          rw [if_neg (by simp [c])]
          exact ⟨_, rfl, _, rfl, _, _, rfl, rfl, ⟨sb, vb⟩, _, rfl, _, rfl, _, _, rfl, rfl, _, rfl, _, rfl, _, _, rfl, rfl, _, _, _, _, rfl, fun x H4 s4 h4 => kk x H4 s4.but s4 (h4.apart (a3.same s4)) h4⟩
  · simp only [Bool.not_true, Bool.not_false, Bool.false_eq_true, if_false, if_true]
    have hd : ¬ (l.drop i).head? = some 46 := by rw [Bx.head_drop]; exact q
    unfold Bx.pFin at k
    rw [if_neg hd] at k
    try simp only [tSeq, tAsg, gName, tRet, tNext, tIfS, tDrop, tB, tNot, tTest, tOp, tAnd, tIf, tUn, tCall, sFld]
    refine rd_spot rfl hr0 ⟨_, rfl, _, _, rfl, rfl, ?_⟩
    have bpE : (((i : Nat) : Int) - ((i : Nat) : Int)) = ((0 : Nat) : Int) := by omega
    simp only [bpE]
    refine ⟨_, rfl, _, rfl, l, r, i + 0, mark, rfl, m0, ll, hr0, par_of (fun j e => ?_) (fun ex n2 e H3 b3 a3 => ?_)⟩
    · try rw [Nat.add_zero] at e
      rw [e] at k
      have := par_err k rfl
      rw [show i + 0 + j = i + ( j) by omega]
      exact this.after (But.refl H)
    · try rw [Nat.add_zero] at e
      rw [e] at k
      have kk := par_ok k rfl H3 ((But.refl H).trans b3) (by rw [show i + ( n2) = i + 0 + n2 by omega]; exact a3)
      have vb : Builtin.Int.intBits (w') ≤ 1048576 := w_bits w0 w1
      have sb : Builtin.Int.intBits sign ≤ 1048576 := Nat.le_trans (ib_le (k := 1) (by omega)) (by decide)
      have b4 : Builtin.Int.intBits 4 ≤ 1048576 := Nat.le_trans (ib_le (k := 3) (by decide)) (by decide)
      have nb : Builtin.Int.intBits ((0 : Nat) : Int) ≤ 1048576 := Nat.le_trans (ib_le (k := 20) (by omega)) (by decide)
      refine ⟨_, rfl, rfl, _, rfl, ?_⟩
      unfold Bx.mkEx at kk
      by_cases c : base' = 16
      · rw [if_pos c] at kk
        rw [if_pos (by simp [c])]
        exact ⟨_, rfl, _, rfl, _, _, rfl, rfl, ⟨sb, vb⟩, _, rfl, _, rfl, _, _, rfl, rfl, ⟨b4, nb⟩, _, _, rfl, rfl, _, _, _, _, rfl, fun x H4 s4 h4 => kk x H4 s4.but s4 (h4.apart (a3.same s4)) h4⟩
      · rw [if_neg c] at kk
        rw [if_neg (by simp [c])]
        exact ⟨_, rfl, _, rfl, _, _, rfl, rfl, ⟨sb, vb⟩, _, rfl, _, rfl, _, _, rfl, rfl, _, rfl, _, rfl, _, _, rfl, rfl, _, _, _, _, rfl, fun x H4 s4 h4 => kk x H4 s4.but s4 (h4.apart (a3.same s4)) h4⟩
theorem sc_take_number : FnScope ["reader", "sign", "start", "whole"] ["reader"] (defScope st_take_number) := ⟨rfl, rfl, rfl, by decide +kernel, rfl, by decide +kernel, by decide +kernel⟩
theorem ok_take_number (T : At K mg "take_number" st_take_number ["reader"]) {C CE CR CF : Addr} (rc : RC P w K mg base C CE CR CF) (n_ord : mg "ord" = none) (M_passes : MCal P w K mg base CX0 CR "passes" ["self", "sign"] 4 (spPasses K CR)) (M_ahead : MCal P w K mg base CX0 CR "ahead" ["self"] 3 (spAhead K CR)) (M_take : MCal P w K mg base (CX1 P w) CR "take" ["self", "word"] 5 (spTake K CR CF)) (c_take_digits : CalX P w K mg base "take_digits" ["reader", "base", "most", "whole"] 4 (spDigits K CR CF)) (gMOST_BYTES : IntG mg "MOST_BYTES" (8192)) (c_take_finite : CalX P w K mg base "take_finite" ["reader", "base", "mark", "sign", "whole"] 6 (spFinite K CE CR CF)) : CalX P w K mg base "take_number" ["reader"] 7 (spNumber K CE CR CF) := by
  have S := sc_take_number
  obtain ⟨VT, mkV, ET, mkE, RT, mkR, mkX⟩ := rc
  obtain ⟨fX, fdX, FX, okX, mgX, kpX, bX⟩ := id mkX
  obtain ⟨f_passes, d_passes, m_passes, F_passes, B_passes⟩ := M_passes
  obtain ⟨f_ahead, d_ahead, m_ahead, F_ahead, B_ahead⟩ := M_ahead
  obtain ⟨f_take, d_take, m_take, F_take, B_take⟩ := M_take
  refine T.calX S (fun vs H Q E h => by obtain ⟨_, _, _, rfl, _⟩ := h; rfl) fun f cdv A outer s H vs Q E hr h => ?_
  obtain ⟨l, r, i, rfl, ll, hr0, k⟩ := h
  refine ⟨_, (pss_cons (ps_set (i := 1) S.nd rfl (Or.inl rfl) (pe_ifExp (pt_val (pe_meth (pv 0) RT.cl m_passes F_passes (hr.mono (by decide)) B_passes .nil pass0 (pa_cons pe_str pa_nil))) (pe_un un_neg pe_int) pe_int)) (pss_cons (ps_if (pt_cmpR op_eq (pe_meth0 (pv 0) RT.cl m_ahead F_ahead (hr.mono (by decide)) B_ahead .nil pass0) (pe_callB call_ord (by rfl) n_ord boot_ord5 (pa_cons pe_str pa_nil)) (nomark _)) (pss_cons (ps_expr (pe_meth (pv 0) RT.cl m_take F_take (hr.mono (by decide)) B_take .nil pass1 (pa_cons pe_str pa_nil))) (pss_one (ps_ret (pe_mkE mkE (hr.mono (by decide)) (by rfl) (pa_cons (pv 1) (pa_cons pe_int (pa_cons pe_int (pa_cons pe_bl pa_nil)))))))) pss_nil) (pss_cons (ps_set (i := 2) S.nd rfl (Or.inl rfl) (pe_fat RT.spot (pv 0) (by rfl))) (pss_cons (ps_set (i := 3) S.nd rfl (Or.inl rfl) (pe_calX c_take_digits pass1 (hr.mono (by decide)) (by rfl) (pa_cons (pv 0) (pa_cons pe_int (pa_cons (pe_ig gMOST_BYTES (by rfl)) (pa_cons pe_int pa_nil)))))) (pss_cons (ps_if (pw_and (pt_cmpR op_eq (pv 3) pe_int (nomark _)) (pw_and (pt_cmpR op_eq (pe_fat RT.spot (pv 0) (by rfl)) (pe_op op_add (pv 2) pe_int) (nomark _)) (pw_and1 (pt_val (pe_meth (pv 0) RT.cl m_passes F_passes (hr.mono (by decide)) B_passes .nil pass0 (pa_cons pe_str pa_nil)))))).pt (pss_one (ps_ret (pe_calX c_take_finite pass1 (hr.mono (by decide)) (by rfl) (pa_cons (pv 0) (pa_cons pe_int (pa_cons pe_str (pa_cons (pv 1) (pa_cons (pe_calX c_take_digits pass1 (hr.mono (by decide)) (by rfl) (pa_cons (pv 0) (pa_cons pe_int (pa_cons (pe_ig gMOST_BYTES (by rfl)) (pa_cons pe_int pa_nil))))) pa_nil)))))))) pss_nil) (pss_one (ps_ret (pe_calX c_take_finite pass1 (hr.mono (by decide)) (by rfl) (pa_cons (pv 0) (pa_cons pe_int (pa_cons pe_str (pa_cons (pv 1) (pa_cons (pv 3) pa_nil))))))))))))), ?_⟩
  simp only [tSeq, tAsg, gName, tRet, tNext, tIfS, tDrop, tB, tNot, tTest, tOp, tAnd, tIf, tUn, tCall, sFld]
  unfold Bx.pNum at k
  refine rd_passes (c := 45) rfl hr0 (by decide) (by rw [lit_minus]) (fun R h => h) (fun q H1 b1 a1 => ⟨_, rfl, ?_⟩) (fun q => ⟨_, rfl, ?_⟩)
  · simp only [Bool.not_true, Bool.not_false, Bool.false_eq_true, if_false, if_true]
    have hd : (l.drop i).head? = some 45 := by rw [Bx.head_drop]; exact q
    rw [if_pos hd] at k
    have k1 := par_later k b1
    rw [List.drop_drop] at k1
    refine ⟨_, rfl, ?_⟩
    try simp only [tSeq, tAsg, gName, tRet, tNext, tIfS, tDrop, tB, tNot, tTest, tOp, tAnd, tIf, tUn, tCall, sFld]
    have hs : (-1 : Int) = 1 ∨ (-1 : Int) = -1 := by decide
    have dr : ∀ n, (l.drop (i + 1)).drop n = l.drop (i + 1 + n) := fun n => by rw [List.drop_drop]
    refine rd_ahead rfl a1 ⟨_, rfl, one_sign.2.2.2.2.1, rfl, _, rfl, ?_⟩
    unfold Bx.pMag at k1
    by_cases c1 : (l.drop (i + 1)).head? = some 105
    · have ah : aheadI l (i + 1) = 105 := (ahead_iff (by decide)).mpr c1
      rw [if_pos (by rw [ah, ordD_i]; simp)]
      rw [if_pos c1] at k1
      try simp only [tSeq, tAsg, gName, tRet, tNext, tIfS, tDrop, tB, tNot, tTest, tOp, tAnd, tIf, tUn, tCall, sFld]
      refine rd_take (ws := [105, 110, 102]) rfl a1 (by decide) (by rw [lit_inf]) (fun R h => h) (fun n e H2 b2 a2 => ?_) (fun n e => ?_)
      · rw [e] at k1
        exact ⟨_, rfl, _, _, _, _, rfl, fun x H4 s4 h4 => k1 H2 b2 a2 x H4 s4.but s4 (h4.apart (a2.same s4)) h4⟩
      · rw [e] at k1
        exact k1
    · have ah : ¬ aheadI l (i + 1) = 105 := fun z => c1 ((ahead_iff (by decide)).mp z)
      rw [if_neg (by rw [ordD_i]; simpa using ah)]
      rw [if_neg c1] at k1
      try simp only [tSeq, tAsg, gName, tRet, tNext, tIfS, tDrop, tB, tNot, tTest, tOp, tAnd, tIf, tUn, tCall, sFld]
      refine rd_spot rfl a1 ?_
      refine ⟨_, rfl, l, r, i + 1, 10, 8192, 0, rfl, .inl rfl, by decide, by decide, by decide, p40, ll, a1, par_of (fun j e => ?_) (fun v n e H2 b2 a2 => ?_)⟩
      · have e' : Bx.takeD 10 8192 0 (l.drop (i + 1)) = .error j := e
        rw [e'] at k1
        exact k1
      · have e' : Bx.takeD 10 8192 0 (l.drop (i + 1)) = .ok (v, n) := e
        rw [e'] at k1
        simp only at k1
        have sv := small_lt (.inl rfl) (by decide) e'
        refine ⟨_, rfl, rfl, _, rfl, ?_⟩
        by_cases v0 : v = 0
        · rw [if_pos (by simp [v0])]
          refine rd_spot rfl a2 ⟨_, rfl, _, _, rfl, rfl, rfl, _, rfl, ?_⟩
          by_cases n1 : n = 1
          · rw [if_pos (by simp; omega)]
            refine rd_passes (c := 120) rfl a2 (by decide) (by rw [lit_x]) (fun R h => h) (fun q H3 b3 a3 => ⟨_, rfl, ?_⟩) (fun q => ⟨_, rfl, ?_⟩)
            · simp only [Bool.not_true, Bool.not_false, Bool.false_eq_true, if_false, if_true]
              have hd : ((l.drop (i + 1)).drop n).head? = some 120 := by rw [dr, Bx.head_drop]; exact q
              rw [if_pos ⟨v0, n1, hd⟩] at k1
              refine ⟨_, rfl, _, rfl, _, rfl, l, r, i + 1 + n + 1, 16, 8192, 0, rfl, .inr rfl, by decide, by decide, by decide, p40, ll, a3, par_of (fun j e2 => ?_) (fun v2 n2 e2 H4 b4 a4 => ?_)⟩
              · have e2' : Bx.takeD 16 8192 0 ((l.drop (i + 1)).drop (n + 1)) = .error j := by rw [dr, ← Nat.add_assoc]; exact e2
                rw [e2'] at k1
                have := par_err k1 rfl
                rw [show i + 1 + n + 1 + j = i + 1 + (n + 1 + j) by omega]
                exact this.after (b2.trans b3)
              · have e2' : Bx.takeD 16 8192 0 ((l.drop (i + 1)).drop (n + 1)) = .ok (v2, n2) := by rw [dr, ← Nat.add_assoc]; exact e2
                rw [e2'] at k1
                have sv2 := small_lt (.inr rfl) (by decide) e2'
                have k5 := par_later k1 ((b2.trans b3).trans b4)
                rw [dr] at k5
                rw [show i + 1 + (n + 1 + n2) = i + 1 + n + 1 + n2 by omega] at k5
                exact ⟨l, r, i + 1 + n + 1 + n2, 16, 112, _, v2, by rw [lit_p]; rfl, .inr rfl, by decide, hs, sv2.1, sv2.2, ll, a4, k5⟩
            · simp only [Bool.not_true, Bool.not_false, Bool.false_eq_true, if_false, if_true]
              have hd : ¬ ((l.drop (i + 1)).drop n).head? = some 120 := by rw [dr, Bx.head_drop]; exact q
              rw [if_neg (fun z => hd z.2.2)] at k1
              have k5 := par_later k1 b2
              rw [dr] at k5
              exact ⟨_, rfl, _, rfl, _, rfl, l, r, i + 1 + n, 10, 101, _, v, by rw [lit_e]; rfl, .inl rfl, by decide, hs, sv.1, sv.2, ll, a2, k5⟩
          · rw [if_neg (by simp; omega)]
            try simp only [Bool.not_true, Bool.not_false, Bool.false_eq_true, if_false, if_true]
            rw [if_neg (fun z => n1 z.2.1)] at k1
            have k5 := par_later k1 b2
            rw [dr] at k5
            exact ⟨_, rfl, _, rfl, _, rfl, l, r, i + 1 + n, 10, 101, _, v, by rw [lit_e]; rfl, .inl rfl, by decide, hs, sv.1, sv.2, ll, a2, k5⟩
        · rw [if_neg (by simp [v0])]
          try simp only [Bool.not_true, Bool.not_false, Bool.false_eq_true, if_false, if_true]
          rw [if_neg (fun z => v0 z.1)] at k1
          have k5 := par_later k1 b2
          rw [dr] at k5
          exact ⟨_, rfl, _, rfl, _, rfl, l, r, i + 1 + n, 10, 101, _, v, by rw [lit_e]; rfl, .inl rfl, by decide, hs, sv.1, sv.2, ll, a2, k5⟩
  · simp only [Bool.not_true, Bool.not_false, Bool.false_eq_true, if_false, if_true]
    have hd : ¬ (l.drop i).head? = some 45 := by rw [Bx.head_drop]; exact q
    rw [if_neg hd] at k
    try simp only [tSeq, tAsg, gName, tRet, tNext, tIfS, tDrop, tB, tNot, tTest, tOp, tAnd, tIf, tUn, tCall, sFld]
    have hs : (1 : Int) = 1 ∨ (1 : Int) = -1 := by decide
    have dr : ∀ n, (l.drop (i)).drop n = l.drop (i + n) := fun n => by rw [List.drop_drop]
    refine rd_ahead rfl hr0 ⟨_, rfl, one_sign.2.2.2.2.1, rfl, _, rfl, ?_⟩
    unfold Bx.pMag at k
    by_cases c1 : (l.drop (i)).head? = some 105
    · have ah : aheadI l (i) = 105 := (ahead_iff (by decide)).mpr c1
      rw [if_pos (by rw [ah, ordD_i]; simp)]
      rw [if_pos c1] at k
      try simp only [tSeq, tAsg, gName, tRet, tNext, tIfS, tDrop, tB, tNot, tTest, tOp, tAnd, tIf, tUn, tCall, sFld]
      refine rd_take (ws := [105, 110, 102]) rfl hr0 (by decide) (by rw [lit_inf]) (fun R h => h) (fun n e H2 b2 a2 => ?_) (fun n e => ?_)
      · rw [e] at k
        exact ⟨_, rfl, _, _, _, _, rfl, fun x H4 s4 h4 => k H2 b2 a2 x H4 s4.but s4 (h4.apart (a2.same s4)) h4⟩
      · rw [e] at k
        exact k
    · have ah : ¬ aheadI l (i) = 105 := fun z => c1 ((ahead_iff (by decide)).mp z)
      rw [if_neg (by rw [ordD_i]; simpa using ah)]
      rw [if_neg c1] at k
      try simp only [tSeq, tAsg, gName, tRet, tNext, tIfS, tDrop, tB, tNot, tTest, tOp, tAnd, tIf, tUn, tCall, sFld]
      refine rd_spot rfl hr0 ?_
      refine ⟨_, rfl, l, r, i, 10, 8192, 0, rfl, .inl rfl, by decide, by decide, by decide, p40, ll, hr0, par_of (fun j e => ?_) (fun v n e H2 b2 a2 => ?_)⟩
      · have e' : Bx.takeD 10 8192 0 (l.drop (i)) = .error j := e
        rw [e'] at k
        exact k
      · have e' : Bx.takeD 10 8192 0 (l.drop (i)) = .ok (v, n) := e
        rw [e'] at k
        simp only at k
        have sv := small_lt (.inl rfl) (by decide) e'
        refine ⟨_, rfl, rfl, _, rfl, ?_⟩
        by_cases v0 : v = 0
        · rw [if_pos (by simp [v0])]
          refine rd_spot rfl a2 ⟨_, rfl, _, _, rfl, rfl, rfl, _, rfl, ?_⟩
          by_cases n1 : n = 1
          · rw [if_pos (by simp; omega)]
            refine rd_passes (c := 120) rfl a2 (by decide) (by rw [lit_x]) (fun R h => h) (fun q H3 b3 a3 => ⟨_, rfl, ?_⟩) (fun q => ⟨_, rfl, ?_⟩)
            · simp only [Bool.not_true, Bool.not_false, Bool.false_eq_true, if_false, if_true]
              have hd : ((l.drop (i)).drop n).head? = some 120 := by rw [dr, Bx.head_drop]; exact q
              rw [if_pos ⟨v0, n1, hd⟩] at k
              refine ⟨_, rfl, _, rfl, _, rfl, l, r, i + n + 1, 16, 8192, 0, rfl, .inr rfl, by decide, by decide, by decide, p40, ll, a3, par_of (fun j e2 => ?_) (fun v2 n2 e2 H4 b4 a4 => ?_)⟩
              · have e2' : Bx.takeD 16 8192 0 ((l.drop (i)).drop (n + 1)) = .error j := by rw [dr, ← Nat.add_assoc]; exact e2
                rw [e2'] at k
                have := par_err k rfl
                rw [show i + n + 1 + j = i + (n + 1 + j) by omega]
                exact this.after (b2.trans b3)
              · have e2' : Bx.takeD 16 8192 0 ((l.drop (i)).drop (n + 1)) = .ok (v2, n2) := by rw [dr, ← Nat.add_assoc]; exact e2
                rw [e2'] at k
                have sv2 := small_lt (.inr rfl) (by decide) e2'
                have k5 := par_later k ((b2.trans b3).trans b4)
                rw [dr] at k5
                rw [show i + (n + 1 + n2) = i + n + 1 + n2 by omega] at k5
                exact ⟨l, r, i + n + 1 + n2, 16, 112, _, v2, by rw [lit_p]; rfl, .inr rfl, by decide, hs, sv2.1, sv2.2, ll, a4, k5⟩
            · simp only [Bool.not_true, Bool.not_false, Bool.false_eq_true, if_false, if_true]
              have hd : ¬ ((l.drop (i)).drop n).head? = some 120 := by rw [dr, Bx.head_drop]; exact q
              rw [if_neg (fun z => hd z.2.2)] at k
              have k5 := par_later k b2
              rw [dr] at k5
              exact ⟨_, rfl, _, rfl, _, rfl, l, r, i + n, 10, 101, _, v, by rw [lit_e]; rfl, .inl rfl, by decide, hs, sv.1, sv.2, ll, a2, k5⟩
          · rw [if_neg (by simp; omega)]
            try simp only [Bool.not_true, Bool.not_false, Bool.false_eq_true, if_false, if_true]
            rw [if_neg (fun z => n1 z.2.1)] at k
            have k5 := par_later k b2
            rw [dr] at k5
            exact ⟨_, rfl, _, rfl, _, rfl, l, r, i + n, 10, 101, _, v, by rw [lit_e]; rfl, .inl rfl, by decide, hs, sv.1, sv.2, ll, a2, k5⟩
        · rw [if_neg (by simp [v0])]
          try simp only [Bool.not_true, Bool.not_false, Bool.false_eq_true, if_false, if_true]
          rw [if_neg (fun z => v0 z.1)] at k
          have k5 := par_later k b2
          rw [dr] at k5
          exact ⟨_, rfl, _, rfl, _, rfl, l, r, i + n, 10, 101, _, v, by rw [lit_e]; rfl, .inl rfl, by decide, hs, sv.1, sv.2, ll, a2, k5⟩
theorem sc_take_ends : FnScope ["reader", "number", "low", "high"] ["reader"] (defScope st_take_ends) := ⟨rfl, rfl, rfl, by decide +kernel, rfl, by decide +kernel, by decide +kernel⟩
theorem ok_take_ends (T : At K mg "take_ends" st_take_ends ["reader"]) {C CE CR CF : Addr} (rc : RC P w K mg base C CE CR CF) (n_ord : mg "ord" = none) (M_passes : MCal P w K mg base CX0 CR "passes" ["self", "sign"] 4 (spPasses K CR)) (M_ahead : MCal P w K mg base CX0 CR "ahead" ["self"] 3 (spAhead K CR)) (M_take : MCal P w K mg base (CX1 P w) CR "take" ["self", "word"] 5 (spTake K CR CF)) (c_take_number : CalX P w K mg base "take_number" ["reader"] 7 (spNumber K CE CR CF)) : CalX P w K mg base "take_ends" ["reader"] 8 (spEnds K CE CR CF) := by
  have S := sc_take_ends
  obtain ⟨VT, mkV, ET, mkE, RT, mkR, mkX⟩ := rc
  obtain ⟨fX, fdX, FX, okX, mgX, kpX, bX⟩ := id mkX
  obtain ⟨f_passes, d_passes, m_passes, F_passes, B_passes⟩ := M_passes
  obtain ⟨f_ahead, d_ahead, m_ahead, F_ahead, B_ahead⟩ := M_ahead
  obtain ⟨f_take, d_take, m_take, F_take, B_take⟩ := M_take
  refine T.calX S (fun vs H Q E h => by obtain ⟨_, _, rfl, _⟩ := h; rfl) fun f cdv A outer s H vs Q E hr h => ?_
  obtain ⟨l, r, rfl, ll, hr0, k⟩ := h
  refine ⟨_, (pss_cons (ps_if (pt_cmpR op_eq (pe_meth0 (pv 0) RT.cl m_ahead F_ahead (hr.mono (by decide)) B_ahead .nil pass0) (pe_callB call_ord (by rfl) n_ord boot_ord5 (pa_cons pe_str pa_nil)) (nomark _)) (pss_cons (ps_expr (pe_meth (pv 0) RT.cl m_take F_take (hr.mono (by decide)) B_take .nil pass1 (pa_cons pe_str pa_nil))) (pss_one (ps_ret (pe_lst pa_nil)))) pss_nil) (pss_cons (ps_if (pt_val (pe_meth (pv 0) RT.cl m_passes F_passes (hr.mono (by decide)) B_passes .nil pass0 (pa_cons pe_str pa_nil))) (pss_cons (ps_set (i := 2) S.nd rfl (Or.inl rfl) (pe_calX c_take_number pass1 (hr.mono (by decide)) (by rfl) (pa_cons (pv 0) pa_nil))) (pss_cons (ps_expr (pe_meth (pv 0) RT.cl m_take F_take (hr.mono (by decide)) B_take .nil pass1 (pa_cons pe_str pa_nil))) (pss_cons (ps_set (i := 3) S.nd rfl (Or.inl rfl) (pe_calX c_take_number pass1 (hr.mono (by decide)) (by rfl) (pa_cons (pv 0) pa_nil))) (pss_cons (ps_expr (pe_meth (pv 0) RT.cl m_take F_take (hr.mono (by decide)) B_take .nil pass1 (pa_cons pe_str pa_nil))) (pss_one (ps_ret (pe_lst (pa_cons (pv 2) (pa_cons (pv 3) pa_nil))))))))) pss_nil) (pss_cons (ps_set (i := 1) S.nd rfl (Or.inl rfl) (pe_calX c_take_number pass1 (hr.mono (by decide)) (by rfl) (pa_cons (pv 0) pa_nil))) (pss_one (ps_ret (pe_lst (pa_cons (pv 1) (pa_cons (pv 1) pa_nil)))))))), ?_⟩
  simp only [tSeq, tAsg, gName, tRet, tNext, tIfS, tDrop, tB, tNot, tTest, tOp, tAnd, tIf, tUn, tCall, sFld]
  unfold Bx.pEnds at k
  have z0 : 0 ≤ sizeLine := Nat.zero_le _
  have z2 : 2 ≤ sizeLine := by decide
  have d0 : l.drop 0 = l := rfl
  refine rd_ahead rfl hr0 ⟨_, rfl, one_sign.2.2.2.2.2, rfl, _, rfl, ?_⟩
  by_cases c1 : l.head? = some 101
  · have ah : aheadI l 0 = 101 := (ahead_iff (by decide)).mpr c1
    rw [if_pos (by rw [ah, ordD_e]; simp)]
    rw [if_pos c1] at k
    try simp only [tSeq, tAsg, gName, tRet, tNext, tIfS, tDrop, tB, tNot, tTest, tOp, tAnd, tIf, tUn, tCall, sFld]
    refine rd_take (ws := [101, 109, 112, 116, 121]) rfl hr0 (by decide) (by rw [lit_emp]) (fun R h => h) (fun n e H2 b2 a2 => ?_) (fun n e => ?_)
    · have e' : Bx.takeW Bx.EMPI l = .ok n := e
      rw [e'] at k
      exact ⟨z0, fun p hp => k H2 b2 a2 p [] _ (Same.new hp) upd_same .nil⟩
    · have e' : Bx.takeW Bx.EMPI l = .error n := e
      rw [e'] at k
      exact k
  · have ah : ¬ aheadI l 0 = 101 := fun z => c1 ((ahead_iff (by decide)).mp z)
    rw [if_neg (by rw [ordD_e]; simpa using ah)]
    rw [if_neg c1] at k
    try simp only [tSeq, tAsg, gName, tRet, tNext, tIfS, tDrop, tB, tNot, tTest, tOp, tAnd, tIf, tUn, tCall, sFld]
    refine rd_passes (c := 91) rfl hr0 (by decide) (by rw [lit_open]) (fun R h => h) (fun q H1 b1 a1 => ⟨_, rfl, ?_⟩) (fun q => ⟨_, rfl, ?_⟩)
    · simp only [Bool.not_true, Bool.not_false, Bool.false_eq_true, if_false, if_true]
      have hd : l.head? = some 91 := by rw [← d0, Bx.head_drop]; exact q
      rw [if_pos hd] at k
      try simp only [tSeq, tAsg, gName, tRet, tNext, tIfS, tDrop, tB, tNot, tTest, tOp, tAnd, tIf, tUn, tCall, sFld]
      refine ⟨_, rfl, l, r, 0 + 1, rfl, ll, a1, par_of (fun j e => ?_) (fun x n e H2 b2 a2 => ?_)⟩
      · have e' : Bx.pNum (l.drop 1) = .error j := e
        rw [e'] at k
        have := par_err k rfl
        rw [show 0 + 1 + j = 0 + (1 + j) by omega]
        exact this.after b1
      · have e' : Bx.pNum (l.drop 1) = .ok (x, n) := e
        rw [e'] at k
        simp only at k
        intro xa H3 b3 s3 ne3 e3
        have a3 := a2.same s3
        rw [show 0 + 1 + n = 1 + n by omega] at a3
        have B3 := (b1.trans b2).trans b3
        refine rd_take (ws := [44, 32]) rfl a3 (by decide) (by rw [lit_comma]) (fun R h => h) (fun m em H4 b4 a4 => ?_) (fun m em => ?_)
        · rw [em] at k
          simp only at k
          have m2 : m = 2 := takeW_ok em
          subst m2
          have e4 := e3.but ne3 b4
          refine ⟨_, rfl, l, r, 1 + n + 2, rfl, ll, a4, par_of (fun j e5 => ?_) (fun y n5 e5 H5 b5 a5 => ?_)⟩
          · rw [e5] at k
            have := par_err k rfl
            rw [show 1 + n + 2 + j = 0 + (1 + n + 2 + j) by omega]
            exact this.after (B3.trans b4)
          · rw [e5] at k
            simp only at k
            intro ya H6 b6 s6 ne6 e6
            have a6 := a5.same s6
            have B6 := ((B3.trans b4).trans b5).trans b6
            have e46 := (e4.but ne3 b5).but ne3 b6
            refine rd_take (ws := [93]) rfl a6 (by decide) (by rw [lit_close]) (fun R h => h) (fun m em H7 b7 a7 => ?_) (fun m em => ?_)
            · rw [em] at k
              have m1 : m = 1 := takeW_ok em
              subst m1
              have kk := par_ok k rfl H7 (B6.trans b7) (by rw [show 0 + (1 + n + 2 + n5 + 1) = 1 + n + 2 + n5 + 1 by omega]; exact a7)
              refine ⟨_, rfl, _, rfl, z2, fun p hp => ?_⟩
              have sn := Same.new (o := .lst [V.ref xa, V.ref ya]) hp
              exact kk p [xa, ya] _ sn upd_same (.cons ((e46.but ne3 b7).same sn) (.cons ((e6.but ne6 b7).same sn) .nil))
            · rw [em] at k
              have := par_err k rfl
              rw [show 1 + n + 2 + n5 + m = 0 + (1 + n + 2 + n5 + m) by omega]
              exact this.after B6
        · rw [em] at k
          have := par_err k rfl
          rw [show 1 + n + m = 0 + (1 + n + m) by omega]
          exact this.after B3
    · simp only [Bool.not_true, Bool.not_false, Bool.false_eq_true, if_false, if_true]
      have hd : ¬ l.head? = some 91 := by rw [← d0, Bx.head_drop]; exact q
      rw [if_neg hd] at k
      try simp only [tSeq, tAsg, gName, tRet, tNext, tIfS, tDrop, tB, tNot, tTest, tOp, tAnd, tIf, tUn, tCall, sFld]
      refine ⟨_, rfl, l, r, 0, rfl, ll, hr0, par_of (fun j e => ?_) (fun x n e H2 b2 a2 => ?_)⟩
      · have e' : Bx.pNum l = .error j := e
        rw [e'] at k
        exact k
      · have e' : Bx.pNum l = .ok (x, n) := e
        rw [e'] at k
        intro xa H3 b3 s3 ne3 e3
        have kk := par_ok k rfl H3 (b2.trans b3) (a2.same s3)
        refine ⟨_, rfl, _, rfl, z2, fun p hp => ?_⟩
        have sn := Same.new (o := .lst [V.ref xa, V.ref xa]) hp
        exact kk p [xa, xa] _ sn upd_same (.cons (e3.same sn) (.cons (e3.same sn) .nil))
theorem sc_ends_said : FnScope ["codes", "reader", "ends"] ["codes"] (defScope st_ends_said) := ⟨rfl, rfl, rfl, by decide +kernel, rfl, by decide +kernel, by decide +kernel⟩
theorem ok_ends_said (T : At K mg "ends_said" st_ends_said ["codes"]) {C CE CR CF : Addr} (rc : RC P w K mg base C CE CR CF) (n_len : mg "len" = none) (c_take_ends : CalX P w K mg base "take_ends" ["reader"] 8 (spEnds K CE CR CF)) : CalX P w K mg base "ends_said" ["codes"] 9 (spSaid K CE CF) := by
  have S := sc_ends_said
  obtain ⟨VT, mkV, ET, mkE, RT, mkR, mkX⟩ := rc
  obtain ⟨fX, fdX, FX, okX, mgX, kpX, bX⟩ := id mkX
  refine T.calX S (fun vs H Q E h => by obtain ⟨_, _, rfl, _⟩ := h; rfl) fun f cdv A outer s H vs Q E hr h => ?_
  obtain ⟨l, cs, rfl, ll, hS, k⟩ := h
  refine ⟨_, (pss_cons (ps_set (i := 1) S.nd rfl (Or.inl rfl) (pe_mkR mkR (hr.mono (by decide)) (by rfl) (pa_cons (pv 0) pa_nil))) (pss_cons (ps_set (i := 2) S.nd rfl (Or.inl rfl) (pe_calX c_take_ends pass1 (hr.mono (by decide)) (by rfl) (pa_cons (pv 1) pa_nil))) (pss_cons (ps_if (pt_cmpR op_lt (pe_fat RT.spot (pv 1) (by rfl)) (pe_callB call_len (by rfl) n_len PySem.boot_len (pa_cons (pv 0) pa_nil)) (nomark _)) (pss_one (ps_raise mkX rfl rfl throws1 (hr.mono (by decide)) (by rfl) (pa_cons (pe_fat RT.spot (pv 1) (by rfl)) pa_nil))) pss_nil) (pss_one (ps_ret (pv 2)))))), ?_⟩
  simp only [tSeq, tAsg, gName, tRet, tNext, tIfS, tDrop, tB, tNot, tTest, tOp, tAnd, tIf, tUn, tCall, sFld]
  refine ⟨_, rfl, cs, rfl, fun x H1 nx s1 r1 => ?_⟩
  have a0 : RAt K CR l H1 x 0 := ⟨cs, r1, hS.same s1⟩
  have sam : ∀ H', But x H1 H' → Same H H' := fun H' b bb o e => b bb o (ne_of_none e nx) (s1 _ _ e)
  try simp only [tSeq, tAsg, gName, tRet, tNext, tIfS, tDrop, tB, tNot, tTest, tOp, tAnd, tIf, tUn, tCall, sFld]
  refine ⟨_, rfl, l, x, rfl, ll, a0, par_of (fun j e => ?_) (fun xs n e H2 b2 a2 => ?_)⟩
  · rw [e] at k
    intro H' dx b' e'
    rw [Nat.zero_add] at e'
    exact k H' dx (sam H' b') e'
  · have nl := Bx.pEnds_len e
    rw [e] at k
    intro p as H3 s3 hp hP
    have a3 := a2.same s3
    rw [Nat.zero_add] at a3
    have B3 : But x H1 H3 := b2.trans s3.but
    refine rd_spot rfl a3 ⟨_, rfl, _, l.length, rfl, .inl ⟨_, hS.same (sam H3 B3), by simp⟩, _, _, rfl, rfl, _, rfl, ?_⟩
    simp only [Bx.whole] at k
    by_cases c : n < l.length
    · rw [if_neg (by omega)] at k
      rw [if_pos (decide_eq_true (by omega))]
      simp only [tRaise]
      refine rd_spot rfl a3 ⟨_, rfl, fun dx hd => ?_⟩
      exact k _ dx (sam _ (B3.new hd)) upd_same
    · rw [if_pos (by omega)] at k
      rw [if_neg (by simp; omega)]
      exact ⟨_, rfl, k H3 (sam H3 B3) p as H3 (Same.refl H3) hp hP⟩
noncomputable def sp_power_of_five : Sp := sp1 (fun n => 0 ≤ n ∧ n ≤ 300000) fun n => .int ((5 ^ n.toNat : Nat) : Int)
theorem sc_power_of_five : FnScope ["n", "power", "place"] ["n"] (defScope st_power_of_five) := ⟨rfl, rfl, rfl, by decide +kernel, rfl, by decide +kernel, by decide +kernel⟩
theorem ok_power_of_five (T : At K mg "power_of_five" st_power_of_five ["n"]) {C CE CR CF : Addr} (rc : RC P w K mg base C CE CR CF) (n_range : mg "range" = none) : Cal P w K mg base "power_of_five" ["n"] 3 sp_power_of_five := by
  have S := sc_power_of_five
  obtain ⟨VT, mkV, ET, mkE, RT, mkR, mkX⟩ := rc
  obtain ⟨fX, fdX, FX, okX, mgX, kpX, bX⟩ := id mkX
  refine T.cal S sp1_len fun f cdv A outer s H vs Q E hr h => ?_
  obtain ⟨a, rfl, ha, k⟩ := h
  refine ⟨_, (pss_cons (ps_set (i := 1) S.nd rfl (Or.inl rfl) pe_int) (pss_cons (ps_for PassesOwn.never rfl (pi_range3 (by rfl) n_range (pa_cons (pe_op op_sub (pe_bm0 PySem.F.plainAttrs_int PySem.F.slot_int_bit_length PySem.F.type_int_bit_length mt_bitlen (pv 0)) pe_int) (pa_cons (pe_un un_neg pe_int) (pa_cons (pe_un un_neg pe_int) pa_nil)))) (pg_name (i := 2) S.nd rfl (Or.inl rfl)) (pss_cons (ps_set (i := 1) S.nd rfl (Or.inl rfl) (pe_op op_mulB (pv 1) (pv 1))) (pss_one (ps_if (pt_cmpR op_eq (pe_op op_mod (pe_op op_shr (pv 0) (pv 2)) pe_int) pe_int (nomark _)) (pss_one (ps_set (i := 1) S.nd rfl (Or.inl rfl) (pe_op op_mulB (pv 1) pe_int))) pss_nil)))) (pss_one (ps_ret (pv 1))))), ?_⟩
  simp only [tSeq, tAsg, gName, tRet, tNext, tIfS, tDrop, tB, tNot, tTest, tOp, tAnd, tIf, tUn, tCall, sFld]
  obtain ⟨n0, n1⟩ := ha
  obtain ⟨m, rfl⟩ : ∃ m : Nat, a = m := ⟨a.toNat, by omega⟩
  have k' : Q (V.int ((5 ^ m : Nat) : Int)) H := k
  obtain ⟨L, hL⟩ : ∃ L, L = Builtin.Int.intBits (m : Int) := ⟨_, rfl⟩
  have Ls : L ≤ 20 := by rw [hL]; exact ib_le (by omega)
  have mL : m < 2 ^ L := by
    by_cases z : m = 0
    · rw [z]; exact Nat.two_pow_pos _
    · have : L = m.log2 + 1 := by
        rw [hL]
        unfold Builtin.Int.intBits
        rw [if_neg (by simp; omega)]; simp
      rw [this]; exact Nat.lt_log2_self
  refine ⟨_, rfl, rfl, _, rfl, rfl, _, _, rfl, rfl, _, rfl, _, rfl, _, -1, -1, L, rfl, ?_, ?_⟩
  · have rg := RgC.neg (i := (L : Int) - 1) (j := -1) (by omega) (by omega) (by decide) (by decide)
    rw [show ((L : Int) - 1 - -1).toNat = L by omega] at rg
    rw [← hL]
    exact rg
  rw [← hL]
  refine for_rangeC (fun j σ H' => H' = H ∧ ∃ z, σ = [some (V.int (m : Int)), some (V.int ((5 ^ (m / 2 ^ (L - j)) : Nat) : Int)), z]) ⟨rfl, none, ?_⟩ ?_ ?_
  · rw [Nat.sub_zero, Nat.div_eq_of_lt mL]; rfl
  · rintro j σ H1 hj ⟨rfl, z, rfl⟩
    obtain ⟨ps, pm⟩ := pow_step (m := m) hj
    have dl : m / 2 ^ (L - j) ≤ m / 2 := by
      have : 2 ^ 1 ≤ 2 ^ (L - j) := Nat.pow_le_pow_right (by decide) (by omega)
      exact Nat.div_le_div_left this (by decide)
    have b1 := five_bits (n := m / 2 ^ (L - j)) (by omega)
    have b2 := five_bits (n := 2 * (m / 2 ^ (L - j))) (by omega)
    have b5 : Builtin.Int.intBits 5 ≤ 1048576 := Nat.le_trans (ib_le (k := 3) (by decide)) (by decide)
    refine ⟨_, rfl, _, rfl, _, _, rfl, rfl, ⟨b1, b1⟩, ?_⟩
    simp only [ps]
    refine ⟨_, rfl, _, rfl, _, _, rfl, rfl, by omega, _, _, rfl, rfl, (show (0 : Int) < 2 by decide), rfl, _, rfl, ?_⟩
    have bit : (m : Int) / 2 ^ ((L : Int) - 1 + (j : Int) * -1).toNat = ((m / 2 ^ (L - (j + 1)) : Nat) : Int) := by
      rw [show ((L : Int) - 1 + (j : Int) * -1).toNat = L - (j + 1) by omega, Bx.two_pow_int, ← Int.natCast_ediv]
    rw [bit]
    dsimp only
    obtain ⟨B, hB⟩ : ∃ B, B = m / 2 ^ (L - (j + 1)) := ⟨_, rfl⟩
    rw [← hB] at pm ⊢
    by_cases c : B % 2 = 1
    · rw [if_pos (by simp; omega)]
      refine ⟨_, rfl, _, _, rfl, rfl, ⟨b2, b5⟩, rfl, some (V.int ((L : Int) - 1 + (j : Int) * -1)), ?_⟩
      rw [c] at pm
      rw [pm, Nat.pow_succ]
      rfl
    · rw [if_neg (by simp; omega)]
      refine ⟨rfl, some (V.int ((L : Int) - 1 + (j : Int) * -1)), ?_⟩
      have c0 : B % 2 = 0 := by omega
      rw [c0, Nat.add_zero] at pm
      rw [pm]
      rfl
  · rintro σ H1 ⟨rfl, z, rfl⟩
    rw [Nat.sub_self, Nat.pow_zero, Nat.div_one]
    exact ⟨_, rfl, k'⟩
theorem sc_scaled : FnScope ["exact", "twos", "fives"] ["exact", "twos", "fives"] (defScope st_scaled) := ⟨rfl, rfl, rfl, by decide +kernel, rfl, by decide +kernel, by decide +kernel⟩
theorem ok_scaled (T : At K mg "scaled" st_scaled ["exact", "twos", "fives"]) {C CE CR CF : Addr} (rc : RC P w K mg base C CE CR CF) (c_power_of_five : Cal P w K mg base "power_of_five" ["n"] 3 sp_power_of_five) : Cal P w K mg base "scaled" ["exact", "twos", "fives"] 4 (spScaled CE) := by
  have S := sc_scaled
  obtain ⟨VT, mkV, ET, mkE, RT, mkR, mkX⟩ := rc
  obtain ⟨fX, fdX, FX, okX, mgX, kpX, bX⟩ := id mkX
  refine T.cal S (fun vs H Q E h => by obtain ⟨_, _, _, _, rfl, _⟩ := h; rfl) fun f cdv A outer s H vs Q E hr h => ?_
  obtain ⟨p, x, t, f, rfl, hx, ha, k⟩ := h
  refine ⟨_, (pss_one (ps_ret (pe_op op_mulB (pe_op op_shlB (pe_fat ET.whole (pv 0) (by rfl)) (pe_op op_sub (pe_fat ET.twos (pv 0) (by rfl)) (pv 1))) (pe_cal c_power_of_five (hr.mono (by decide)) (by rfl) (pa_cons (pe_op op_sub (pe_fat ET.fives (pv 0) (by rfl)) (pv 2)) pa_nil))))), ?_⟩
  simp [eat_ex hx, sp_power_of_five, -List.lookup_eq_none_iff, tSeq, tIfS, tRet, tAsg, gName, tVar, tC, tOp, tUn, rI, rI0, rU, rEq, rNe, tTest, tAnd, tOr, tNot, tAndV, tOrV, tNotV, tB, tIf, tCall, tCons, tNil, tNext, tLst, sp1_app, sp2_app, L2.start, scal, tMkV, mkq_app, tFV, spV1_app, sp3_app, spV3_app, tCB, tBM0, tyV, rMx_app, rMn_app, tFA, tMeth, tCall, mkeq_app, tMkE, sFld, tRaise]
  obtain ⟨hs, t1, t0, f1, f0⟩ := ha
  have hw := hs.w
  have h1 := hs.t1
  have h2 := hs.f1
  have iw : Builtin.Int.intBits x.whole ≤ 80001 := Nat.le_trans ib_log (by omega)
  have k2 := two_bits (a := x.whole) (k := (x.twos - t).toNat) (by omega)
  have k5 := five_bits (n := (x.fives - f).toNat) (by omega)
  simp at k5
  simp [Bx.scaledX] at k
  exact ⟨⟨t1, by omega⟩, ⟨f1, by omega⟩, ⟨k2, k5⟩, k⟩
theorem sc_is_above : FnScope ["exact", "other", "twos", "fives"] ["exact", "other"] (defScope st_is_above) := ⟨rfl, rfl, rfl, by decide +kernel, rfl, by decide +kernel, by decide +kernel⟩
theorem ok_is_above (T : At K mg "is_above" st_is_above ["exact", "other"]) {C CE CR CF : Addr} (rc : RC P w K mg base C CE CR CF) (n_min : mg "min" = none) (c_scaled : Cal P w K mg base "scaled" ["exact", "twos", "fives"] 4 (spScaled CE)) : Cal P w K mg base "is_above" ["exact", "other"] 5 (spAbove CE) := by
  have S := sc_is_above
  obtain ⟨VT, mkV, ET, mkE, RT, mkR, mkX⟩ := rc
  obtain ⟨fX, fdX, FX, okX, mgX, kpX, bX⟩ := id mkX
  refine T.cal S (fun vs H Q E h => by obtain ⟨_, _, _, _, rfl, _⟩ := h; rfl) fun f cdv A outer s H vs Q E hr h => ?_
  obtain ⟨p, o, x, y, rfl, hx, hy, ha, k⟩ := h
  refine ⟨_, (pss_cons (ps_set (i := 2) S.nd rfl (Or.inl rfl) (pe_callB (call_mn rfl) (by rfl) n_min boot_mn (pa_cons (pe_fat ET.twos (pv 0) (by rfl)) (pa_cons (pe_fat ET.twos (pv 1) (by rfl)) pa_nil)))) (pss_cons (ps_set (i := 3) S.nd rfl (Or.inl rfl) (pe_callB (call_mn rfl) (by rfl) n_min boot_mn (pa_cons (pe_fat ET.fives (pv 0) (by rfl)) (pa_cons (pe_fat ET.fives (pv 1) (by rfl)) pa_nil)))) (pss_one (ps_ret (pe_cmpR op_gt (pe_cal c_scaled (hr.mono (by decide)) (by rfl) (pa_cons (pv 0) (pa_cons (pv 2) (pa_cons (pv 3) pa_nil)))) (pe_cal c_scaled (hr.mono (by decide)) (by rfl) (pa_cons (pv 1) (pa_cons (pv 2) (pa_cons (pv 3) pa_nil)))) (nomark _)))))), ?_⟩
  simp [eat_ex hx, eat_ex hy, spScaled, -List.lookup_eq_none_iff, tSeq, tIfS, tRet, tAsg, gName, tVar, tC, tOp, tUn, rI, rI0, rU, rEq, rNe, tTest, tAnd, tOr, tNot, tAndV, tOrV, tNotV, tB, tIf, tCall, tCons, tNil, tNext, tLst, sp1_app, sp2_app, L2.start, scal, tMkV, mkq_app, tFV, spV1_app, sp3_app, spV3_app, tCB, tBM0, tyV, rMx_app, rMn_app, tFA, tMeth, tCall, mkeq_app, tMkE, sFld, tRaise]
  obtain ⟨hs, ht⟩ := ha
  have a1 := hs.t0
  have a2 := ht.t0
  have a3 := hs.f0
  have a4 := ht.f0
  exact ⟨p, x, _, _, ⟨rfl, rfl, rfl⟩, hx, ⟨hs, by omega, by omega, by omega, by omega⟩, o, y, _, _, ⟨rfl, rfl, rfl⟩, hy, ⟨ht, by omega, by omega, by omega, by omega⟩, k⟩
theorem sc_can_be_ends : FnScope ["low", "high"] ["low", "high"] (defScope st_can_be_ends) := ⟨rfl, rfl, rfl, by decide +kernel, rfl, by decide +kernel, by decide +kernel⟩
theorem ok_can_be_ends (T : At K mg "can_be_ends" st_can_be_ends ["low", "high"]) {C CE CR CF : Addr} (rc : RC P w K mg base C CE CR CF) (c_is_above : Cal P w K mg base "is_above" ["exact", "other"] 5 (spAbove CE)) : Cal P w K mg base "can_be_ends" ["low", "high"] 6 (spCan CE) := by
  have S := sc_can_be_ends
  obtain ⟨VT, mkV, ET, mkE, RT, mkR, mkX⟩ := rc
  obtain ⟨fX, fdX, FX, okX, mgX, kpX, bX⟩ := id mkX
  refine T.cal S (fun vs H Q E h => by obtain ⟨_, _, _, _, rfl, _⟩ := h; rfl) fun f cdv A outer s H vs Q E hr h => ?_
  obtain ⟨p, o, x, y, rfl, hx, hy, ha, k⟩ := h
  refine ⟨_, (pss_cons (ps_if (pw_or (pw_and (pt_val (pe_fat ET.infinite (pv 0) (by rfl))) (pw_and1 (pt_cmpR op_gt (pe_fat ET.whole (pv 0) (by rfl)) pe_int (nomark _)))).pt (pw_or1 (pw_and (pt_val (pe_fat ET.infinite (pv 1) (by rfl))) (pw_and1 (pt_cmpR op_lt (pe_fat ET.whole (pv 1) (by rfl)) pe_int (nomark _)))).pt)).pt (pss_one (ps_ret pe_bl)) pss_nil) (pss_one (ps_ret (pe_or (pe_fat ET.infinite (pv 0) (by rfl)) (pe_or (pe_fat ET.infinite (pv 1) (by rfl)) (pe_one (pe_not (pe_cal c_is_above (hr.mono (by decide)) (by rfl) (pa_cons (pv 0) (pa_cons (pv 1) pa_nil)))))))))), ?_⟩
  simp [eat_ex hx, eat_ex hy, spAbove, -List.lookup_eq_none_iff, tSeq, tIfS, tRet, tAsg, gName, tVar, tC, tOp, tUn, rI, rI0, rU, rEq, rNe, tTest, tAnd, tOr, tNot, tAndV, tOrV, tNotV, tB, tIf, tCall, tCons, tNil, tNext, tLst, sp1_app, sp2_app, L2.start, scal, tMkV, mkq_app, tFV, spV1_app, sp3_app, spV3_app, tCB, tBM0, tyV, rMx_app, rMn_app, tFA, tMeth, tCall, mkeq_app, tMkE, sFld, tRaise]
  simp only [Bx.canX] at k
  cases c1 : x.inf <;> cases c2 : y.inf <;> by_cases c3 : 0 < x.whole <;> by_cases c4 : y.whole < 0 <;> simp [c1, c2, c3, c4] at k ⊢ <;> first | exact k | exact ⟨x, hx, y, hy, ha, k⟩ | exact ⟨p, o, ⟨rfl, rfl⟩, x, hx, y, hy, ha, k⟩
theorem sc_value_beside : FnScope ["exact"] ["exact"] (defScope st_value_beside) := ⟨rfl, rfl, rfl, by decide +kernel, rfl, by decide +kernel, by decide +kernel⟩
theorem ok_value_beside (T : At K mg "value_beside" st_value_beside ["exact"]) {C CE CR CF : Addr} (rc : RC P w K mg base C CE CR CF) (c_over : Cal P w K mg base "over" ["value", "other"] 40 (sp_over C)) (c_power_of_five : Cal P w K mg base "power_of_five" ["n"] 3 sp_power_of_five) : Cal P w K mg base "value_beside" ["exact"] 41 (spBeside C CE) := by
  have S := sc_value_beside
  obtain ⟨VT, mkV, ET, mkE, RT, mkR, mkX⟩ := rc
  obtain ⟨fX, fdX, FX, okX, mgX, kpX, bX⟩ := id mkX
  refine T.cal S (fun vs H Q E h => by obtain ⟨_, _, rfl, _⟩ := h; rfl) fun f cdv A outer s H vs Q E hr h => ?_
  obtain ⟨p, x, rfl, hx, ha, k⟩ := h
  refine ⟨_, (pss_cons (ps_if (pt_val (pe_fat ET.infinite (pv 0) (by rfl))) (pss_one (ps_ret (pe_mkV mkV (hr.mono (by decide)) (by rfl) (pa_cons (pe_fat ET.whole (pv 0) (by rfl)) (pa_cons pe_int (pa_cons pe_bl pa_nil)))))) pss_nil) (pss_cons (ps_if (pt_cmpR op_ge (pe_fat ET.fives (pv 0) (by rfl)) pe_int (nomark _)) (pss_one (ps_ret (pe_mkV mkV (hr.mono (by decide)) (by rfl) (pa_cons (pe_op op_mulB (pe_fat ET.whole (pv 0) (by rfl)) (pe_cal c_power_of_five (hr.mono (by decide)) (by rfl) (pa_cons (pe_fat ET.fives (pv 0) (by rfl)) pa_nil))) (pa_cons (pe_fat ET.twos (pv 0) (by rfl)) (pa_cons pe_bl pa_nil)))))) pss_nil) (pss_one (ps_ret (pe_cal c_over (hr.mono (by decide)) (by rfl) (pa_cons (pe_mkV mkV (hr.mono (by decide)) (by rfl) (pa_cons (pe_fat ET.whole (pv 0) (by rfl)) (pa_cons (pe_fat ET.twos (pv 0) (by rfl)) (pa_cons pe_bl pa_nil)))) (pa_cons (pe_mkV mkV (hr.mono (by decide)) (by rfl) (pa_cons (pe_cal c_power_of_five (hr.mono (by decide)) (by rfl) (pa_cons (pe_un un_neg (pe_fat ET.fives (pv 0) (by rfl))) pa_nil)) (pa_cons pe_int (pa_cons pe_bl pa_nil)))) pa_nil))))))), ?_⟩
  simp [eat_ex hx, sp_power_of_five, -List.lookup_eq_none_iff, tSeq, tIfS, tRet, tAsg, gName, tVar, tC, tOp, tUn, rI, rI0, rU, rEq, rNe, tTest, tAnd, tOr, tNot, tAndV, tOrV, tNotV, tB, tIf, tCall, tCons, tNil, tNext, tLst, sp1_app, sp2_app, L2.start, scal, tMkV, mkq_app, tFV, spV1_app, sp3_app, spV3_app, tCB, tBM0, tyV, rMx_app, rMn_app, tFA, tMeth, tCall, mkeq_app, tMkE, sFld, tRaise]
  obtain ⟨bo, bl⟩ := Bx.besideX_ok ha
  have hw := ha.w
  have f0 := ha.f0
  have f1 := ha.f1
  have iw : Builtin.Int.intBits x.whole ≤ 1048576 := Nat.le_trans ib_log (by omega)
  simp only [Bx.besideX] at k
  by_cases c1 : x.inf = true
  · rw [if_pos c1]
    simp only [c1, if_true] at k
    exact k
  · rw [if_neg c1]
    simp only [if_neg c1] at k
    by_cases c2 : 0 ≤ x.fives
    · rw [if_pos c2]
      simp only [if_pos c2] at k
      have k5 := five_bits (n := x.fives.toNat) (by omega)
      simp at k5
      exact ⟨⟨c2, by omega⟩, ⟨iw, k5⟩, by simpa using k⟩
    · rw [if_neg c2]
      simp only [if_neg c2] at k
      intro a1 H1 s1 v1
      refine ⟨x, hx.same s1, ⟨by omega, by omega⟩, fun a2 H2 s2 v2 => ?_⟩
      have v2' : VAt C H2 a2 ⟨((5 ^ (-x.fives).toNat : Nat) : Int), 0, false⟩ := by simpa using v2
      obtain ⟨l1, l2⟩ := bl (by simpa using c1) (by omega)
      exact (spVVV_app (v1.same s2) v2').mpr ⟨⟨l1, l2, Int.natCast_nonneg _⟩, fun a3 H3 s3 v3 => k a3 H3 ((s1.trans s2).trans s3) v3⟩
theorem sc_read : FnScope ["text", "ends", "fault"] ["text"] (defScope st_read) := ⟨rfl, rfl, rfl, by decide +kernel, rfl, by decide +kernel, by decide +kernel⟩
theorem ok_read {f : Addr} {fd : FuncData} (T : Fun K "read" "read" st_read f fd) {C CE CR CF : Addr} (rc : RC P w K mg base C CE CR CF) (n_len : mg "len" = none) (gMOST_BYTES : IntG mg "MOST_BYTES" (8192)) (c_ends_said : CalX P w K mg base "ends_said" ["codes"] 9 (spSaid K CE CF)) (gEMPTY : IntG mg "EMPTY" (1208921207928610747318272)) (c_can_be_ends : Cal P w K mg base "can_be_ends" ["low", "high"] 6 (spCan CE)) (c_low_end : Cal P w K mg base "low_end" ["value"] 3 (sp_low_end C)) (c_high_end : Cal P w K mg base "high_end" ["value"] 5 (sp_high_end C)) (c_value_beside : Cal P w K mg base "value_beside" ["exact"] 41 (spBeside C CE)) : FnOk P w K mg base CX0 45 f fd ["text"] (spRead K) := by
  have S := sc_read
  obtain ⟨VT, mkV, ET, mkE, RT, mkR, mkX⟩ := rc
  obtain ⟨fX, fdX, FX, okX, mgX, kpX, bX⟩ := id mkX
  refine T.ok S (fun vs H Q E h => by obtain ⟨_, _, rfl, _⟩ := h; rfl) fun cdv A outer s H vs Q E hr h => ?_
  obtain ⟨l, cs, rfl, hS, k⟩ := h
  refine ⟨_, (pss_cons (ps_if (pt_cmpR op_gt (pe_callB call_len (by rfl) n_len PySem.boot_len (pa_cons (pv 0) pa_nil)) (pe_ig gMOST_BYTES (by rfl)) (nomark _)) (pss_one (ps_ret (pe_lst (pa_cons (pe_un un_neg pe_int) pa_nil)))) pss_nil) (pss_cons (ps_try (i := 2) FX mgX (by rfl) rfl rfl rfl S.nd rfl rfl (fun _ _ _ hp => (pss_one (ps_set (i := 1) S.nd rfl (Or.inl rfl) (pe_calX c_ends_said hp (hr.mono (by decide)) (by rfl) (pa_cons (pv 0) pa_nil))))) (fun _ => (pss_one (ps_ret (pe_lst (pa_cons (pe_un un_neg pe_int) (pa_cons (pe_xfld FX (pv 2)) pa_nil))))))) (pss_cons (ps_if (pt_cmpR op_eq (pe_callB call_len (by rfl) n_len PySem.boot_len (pa_cons (pv 1) pa_nil)) pe_int (nomark _)) (pss_one (ps_ret (pe_lst (pa_cons pe_int (pa_cons (pe_ig gEMPTY (by rfl)) (pa_cons (pe_ig gEMPTY (by rfl)) pa_nil)))))) pss_nil) (pss_cons (ps_if (pt_not (pt_val (pe_cal c_can_be_ends (hr.mono (by decide)) (by rfl) (pa_cons (pe_ix ix_list (pv 1) pe_int (fun _ _ => rfl)) (pa_cons (pe_ix ix_list (pv 1) pe_int (fun _ _ => rfl)) pa_nil))))) (pss_one (ps_ret (pe_lst (pa_cons (pe_un un_neg pe_int) pa_nil)))) pss_nil) (pss_one (ps_ret (pe_lst (pa_cons pe_int (pa_cons (pe_cal c_low_end (hr.mono (by decide)) (by rfl) (pa_cons (pe_cal c_value_beside (hr.mono (by decide)) (by rfl) (pa_cons (pe_ix ix_list (pv 1) pe_int (fun _ _ => rfl)) pa_nil)) pa_nil)) (pa_cons (pe_cal c_high_end (hr.mono (by decide)) (by rfl) (pa_cons (pe_cal c_value_beside (hr.mono (by decide)) (by rfl) (pa_cons (pe_ix ix_list (pv 1) pe_int (fun _ _ => rfl)) pa_nil)) pa_nil)) pa_nil)))))))))), ?_⟩
  simp only [tSeq, tAsg, gName, tRet, tNext, tIfS, tDrop, tB, tNot, tTest, tOp, tAnd, tIf, tUn, tCall, sFld]
  have z1 : 1 ≤ sizeLine := by decide
  have z2 : 2 ≤ sizeLine := by decide
  have z3 : 3 ≤ sizeLine := by decide
  refine ⟨_, rfl, _, l.length, rfl, .inl ⟨_, hS, by simp⟩, _, _, rfl, rfl, _, rfl, ?_⟩
  unfold Bx.readP at k
  by_cases c0 : 8192 < l.length
  · rw [if_pos (decide_eq_true (by omega))]
    rw [if_pos c0] at k
    exact ⟨_, rfl, z1, fun p hp => k _ _ upd_same⟩
  · rw [if_neg (by simp; omega)]
    rw [if_neg c0] at k
    refine ⟨_, rfl, l, cs, rfl, by omega, hS, ?_⟩
    cases e : Bx.whole l.length (Bx.pEnds l) with
    | error n =>
      rw [e] at k
      intro H' dx s' hd
      refine ⟨rfl, dx, (n : Int), rfl, hd, fun x σ hx hi => ?_⟩
      have ne : dx ≠ x := ne_of_none hd hx
      refine ⟨_, rfl, _, List.getElem?_set_self hi, x, dx, (n : Int), rfl, upd_same, by rw [upd_ne ne]; exact hd, z2, fun p hp => ?_⟩
      have px : p ≠ x := fun z => by rw [z, upd_same] at hp; cases hp
      refine ⟨by rw [upd_ne (Ne.symm px), upd_same], ?_⟩
      refine k _ p ?_
      rw [drp_ne px, upd_same]
      rfl
    | ok xs =>
      rw [e] at k
      intro H' s' p as H2 s2 hp hP
      have pe : ∃ n, Bx.pEnds l = .ok (xs, n) := by
        cases q : Bx.pEnds l with
        | error j => rw [q] at e; cases e
        | ok y =>
          obtain ⟨y, n⟩ := y
          rw [q] at e
          simp only [Bx.whole] at e
          split at e
          · injection e with e; exact ⟨n, by rw [e]⟩
          · cases e
      obtain ⟨n, pe⟩ := pe
      obtain ⟨shape, small⟩ := Bx.pEnds_small (by omega) pe
      refine ⟨_, rfl, _, as.length, rfl, .inl ⟨_, SqL.of hp, by simp⟩, rfl, _, rfl, ?_⟩
      rcases shape with rfl | ⟨x, y, rfl⟩
      · cases hP
        rw [if_pos (by simp)]
        exact ⟨z3, fun q hq => k _ _ upd_same⟩
      · cases hP with
        | cons h1 hP =>
        cases hP with
        | cons h2 hP =>
        cases hP
        rename_i a b
        rw [if_neg (by simp)]
        have sx := small x (by simp)
        have sy := small y (by simp)
        refine ⟨_, rfl, p, _, 0, .ref a, rfl, rfl, SqL.of hp, rfl, _, rfl, p, _, 1, .ref b, rfl, rfl, SqL.of hp, rfl, a, b, x, y, rfl, h1, h2, ⟨sx, sy⟩, _, rfl, ?_⟩
        cases c : Bx.canX x y
        · simp only [c, if_true] at k
          simp only [Bool.not_true, Bool.not_false, Bool.false_eq_true, if_false, if_true]
          exact ⟨_, rfl, z1, fun q hq => k _ _ upd_same⟩
        · simp only [c, Bool.true_eq_false, if_false] at k
          simp only [Bool.not_true, Bool.not_false, Bool.false_eq_true, if_false, if_true]
          refine ⟨_, rfl, p, _, 0, .ref a, rfl, rfl, SqL.of hp, rfl, a, x, rfl, h1, sx, fun v3 H3 s3 e3 => ?_⟩
          refine ⟨v3, _, rfl, e3, (Bx.besideX_ok sx).1, fun H4 s4 => ?_⟩
          have hp4 := s4 _ _ (s3 _ _ hp)
          refine ⟨_, rfl, p, _, 1, .ref b, rfl, rfl, SqL.of hp4, rfl, b, y, rfl, (h2.same s3).same s4, sy, fun v5 H5 s5 e5 => ?_⟩
          exact ⟨v5, _, rfl, e5, (Bx.besideX_ok sy).1, fun H6 s6 => ⟨z3, fun q hq => k _ _ upd_same⟩⟩
end
section
variable {P : Program} {w : World} {K : PySem.W.Frag} {mg : Str → Option Value} {base : Heap}
theorem ok_initE {f CE : Addr} {fd : FuncData} (F : Fun K "__init__" "Exact.__init__" st_Exact___init__ f fd) (ET : ETxt K CE) : FnOk P w K mg base CX0 1 f fd ["self", "whole", "twos", "fives", "infinite"] (spInitE CE) := by
  have S : FnScope ["self", "whole", "twos", "fives", "infinite"] ["self", "whole", "twos", "fives", "infinite"] (defScope st_Exact___init__) := ⟨rfl, rfl, rfl, by decide +kernel, rfl, by decide +kernel, by decide +kernel⟩
  refine F.ok S (fun vs H Q E h => ?_) (fun cdv A outer s H vs Q E hr h => ?_)
  · obtain ⟨p, dx, w, t, f, i, rfl, _⟩ := h
    rfl
  · obtain ⟨p, dx, w, t, f, i, rfl, hp, k⟩ := h
    refine ⟨_, (pss_cons (ps_fld (pv 0) (pv 1) rfl) (pss_cons (ps_fld (pv 0) (pv 2) rfl) (pss_cons (ps_fld (pv 0) (pv 3) rfl) (pss_one (ps_fld (pv 0) (pv 4) rfl))))), ?_⟩
    have l1 := length_putF "whole" (.int w) []
    have l2 := length_putF "twos" (.int t) (putF "whole" (.int w) [])
    have l3 := length_putF "fives" (.int f) (putF "twos" (.int t) (putF "whole" (.int w) []))
    have l0 : ([] : List (Str × V)).length = 0 := rfl
    refine ⟨_, rfl, _, rfl, p, CE, dx, [], rfl, hp, ET.cl, ET.n1, (by show 0 < 1000; decide), ?_⟩
    refine ⟨_, rfl, _, rfl, p, CE, dx, _, rfl, upd_same, ET.cl, ET.n2, (by omega), ?_⟩
    refine ⟨_, rfl, _, rfl, p, CE, dx, _, rfl, upd_same, ET.cl, ET.n3, (by omega), ?_⟩
    refine ⟨_, rfl, _, rfl, p, CE, dx, _, rfl, upd_same, ET.cl, ET.n4, (by omega), ?_⟩
    exact k _ ⟨dx, upd_same⟩ fun b o e hb => by rw [upd_ne hb, upd_ne hb, upd_ne hb, upd_ne hb]; exact e
theorem ok_initR {f CR : Addr} {fd : FuncData} (F : Fun K "__init__" "Reader.__init__" st_Reader___init__ f fd) (RT : RTxt K CR) : FnOk P w K mg base CX0 1 f fd ["self", "codes"] (spInitR CR) := by
  have S : FnScope ["self", "codes"] ["self", "codes"] (defScope st_Reader___init__) := ⟨rfl, rfl, rfl, by decide +kernel, rfl, by decide +kernel, by decide +kernel⟩
  refine F.ok S (fun vs H Q E h => ?_) (fun cdv A outer s H vs Q E hr h => ?_)
  · obtain ⟨p, dx, cs, rfl, _⟩ := h
    rfl
  · obtain ⟨p, dx, cs, rfl, hp, k⟩ := h
    refine ⟨_, (pss_cons (ps_fld (pv 0) (pv 1) rfl) (pss_one (ps_fld (pv 0) pe_int rfl))), ?_⟩
    have l1 := length_putF "codes" (.ref cs) []
    have l0 : ([] : List (Str × V)).length = 0 := rfl
    refine ⟨_, rfl, _, rfl, p, CR, dx, [], rfl, hp, RT.cl, RT.n1, (by show 0 < 1000; decide), ?_⟩
    refine ⟨_, rfl, p, CR, dx, _, rfl, upd_same, RT.cl, RT.n2, (by omega), ?_⟩
    exact k _ ⟨dx, upd_same⟩ fun b o e hb => by rw [upd_ne hb, upd_ne hb]; exact e
theorem ok_initX {f CF : Addr} {fd : FuncData} (F : Fun K "__init__" "Fault.__init__" st_Fault___init__ f fd) (FX : XT K CF f "spot") : FnOk P w K mg base CX0 1 f fd ["self", "spot"] (spInitX CF "spot") := by
  have S : FnScope ["self", "spot"] ["self", "spot"] (defScope st_Fault___init__) := ⟨rfl, rfl, rfl, by decide +kernel, rfl, by decide +kernel, by decide +kernel⟩
  refine F.ok S (fun vs H Q E h => ?_) (fun cdv A outer s H vs Q E hr h => ?_)
  · obtain ⟨x, k, t, rfl, _⟩ := h
    rfl
  · obtain ⟨x, j, t, rfl, hx, k⟩ := h
    refine ⟨_, (pss_one (ps_fldX FX (pv 0) (pv 1) rfl)), ?_⟩
    exact ⟨_, rfl, _, rfl, x, t, j, rfl, rfl, hx, k⟩
theorem spotE : typeLookup (.type "Exception") "spot" = pure none := by rw [typeLookup_type, builtinLookup_eq_fast]; kernel_rfl
end
theorem all_mk {P : Program} {w : World} {K : PySem.W.Frag} {h : Heap} {mg : Str → Option Value} {fa : Addr} (X : K.In h) (G : h.Ns mainGlobals mg) (hfa : mg "read" = some (.ref fa))
    {t_SIGN : Tok} (a_SIGN : PySem.W.nsIn K mainGlobals "SIGN" = some (some (.int (604462909807314587353088) t_SIGN)))
    {t_TOP : Tok} (a_TOP : PySem.W.nsIn K mainGlobals "TOP" = some (some (.int (9223372036854775808) t_TOP)))
    {t_BEYOND : Tok} (a_BEYOND : PySem.W.nsIn K mainGlobals "BEYOND" = some (some (.int (18446744073709551616) t_BEYOND)))
    {t_DIGITS : Tok} (a_DIGITS : PySem.W.nsIn K mainGlobals "DIGITS" = some (some (.int (64) t_DIGITS)))
    {t_LAST_EXPONENT : Tok} (a_LAST_EXPONENT : PySem.W.nsIn K mainGlobals "LAST_EXPONENT" = some (some (.int (32767) t_LAST_EXPONENT)))
    {t_OFFSET : Tok} (a_OFFSET : PySem.W.nsIn K mainGlobals "OFFSET" = some (some (.int (16446) t_OFFSET)))
    {t_PLUS_INFINITE : Tok} (a_PLUS_INFINITE : PySem.W.nsIn K mainGlobals "PLUS_INFINITE" = some (some (.int (604453686435277732577280) t_PLUS_INFINITE)))
    {t_MINUS_INFINITE : Tok} (a_MINUS_INFINITE : PySem.W.nsIn K mainGlobals "MINUS_INFINITE" = some (some (.int (1208916596242592319930368) t_MINUS_INFINITE)))
    {t_GREATEST : Tok} (a_GREATEST : PySem.W.nsIn K mainGlobals "GREATEST" = some (some (.int (604444463063240877801471) t_GREATEST)))
    {t_EMPTY : Tok} (a_EMPTY : PySem.W.nsIn K mainGlobals "EMPTY" = some (some (.int (1208921207928610747318272) t_EMPTY)))
    {t_INWARD : Tok} (a_INWARD : PySem.W.nsIn K mainGlobals "INWARD" = some (some (.int (0) t_INWARD)))
    {t_OUTWARD : Tok} (a_OUTWARD : PySem.W.nsIn K mainGlobals "OUTWARD" = some (some (.int (1) t_OUTWARD)))
    {t_NEAREST : Tok} (a_NEAREST : PySem.W.nsIn K mainGlobals "NEAREST" = some (some (.int (2) t_NEAREST)))
    {t_MOST_BYTES : Tok} (a_MOST_BYTES : PySem.W.nsIn K mainGlobals "MOST_BYTES" = some (some (.int (8192) t_MOST_BYTES)))
    {t_MOST_EXPONENT_DIGITS : Tok} (a_MOST_EXPONENT_DIGITS : PySem.W.nsIn K mainGlobals "MOST_EXPONENT_DIGITS" = some (some (.int (5) t_MOST_EXPONENT_DIGITS)))
    (b_len : PySem.W.nsIn K mainGlobals "len" = some none)
    (b_max : PySem.W.nsIn K mainGlobals "max" = some none)
    (b_min : PySem.W.nsIn K mainGlobals "min" = some none)
    (b_ord : PySem.W.nsIn K mainGlobals "ord" = some none)
    (b_range : PySem.W.nsIn K mainGlobals "range" = some none)
    {f_exponent_of : Addr} {od_exponent_of an_exponent_of : Option Addr} {sl_exponent_of : Array (Option Value)} {oc_exponent_of kV_exponent_of dc_exponent_of pm_exponent_of cd_exponent_of ct_exponent_of : Value} (a_exponent_of : PySem.W.nsIn K mainGlobals "exponent_of" = some (some (.ref f_exponent_of))) (l_exponent_of : K.lookup f_exponent_of = some ⟨oc_exponent_of, od_exponent_of, .func (PySem.W.fnOf "exponent_of" "exponent_of" (defArgs st_exponent_of) (defBody st_exponent_of) (defScope st_exponent_of) .none kV_exponent_of dc_exponent_of pm_exponent_of an_exponent_of cd_exponent_of ct_exponent_of), sl_exponent_of⟩) (q_exponent_of : PySem.W.codeIn K cd_exponent_of "exponent_of" = true) (k_exponent_of : PySem.W.keepIn K (.ref f_exponent_of) = true)
    {f_significand_of : Addr} {od_significand_of an_significand_of : Option Addr} {sl_significand_of : Array (Option Value)} {oc_significand_of kV_significand_of dc_significand_of pm_significand_of cd_significand_of ct_significand_of : Value} (a_significand_of : PySem.W.nsIn K mainGlobals "significand_of" = some (some (.ref f_significand_of))) (l_significand_of : K.lookup f_significand_of = some ⟨oc_significand_of, od_significand_of, .func (PySem.W.fnOf "significand_of" "significand_of" (defArgs st_significand_of) (defBody st_significand_of) (defScope st_significand_of) .none kV_significand_of dc_significand_of pm_significand_of an_significand_of cd_significand_of ct_significand_of), sl_significand_of⟩) (q_significand_of : PySem.W.codeIn K cd_significand_of "significand_of" = true) (k_significand_of : PySem.W.keepIn K (.ref f_significand_of) = true)
    {f_made_normal : Addr} {od_made_normal an_made_normal : Option Addr} {sl_made_normal : Array (Option Value)} {oc_made_normal kV_made_normal dc_made_normal pm_made_normal cd_made_normal ct_made_normal : Value} (a_made_normal : PySem.W.nsIn K mainGlobals "made_normal" = some (some (.ref f_made_normal))) (l_made_normal : K.lookup f_made_normal = some ⟨oc_made_normal, od_made_normal, .func (PySem.W.fnOf "made_normal" "made_normal" (defArgs st_made_normal) (defBody st_made_normal) (defScope st_made_normal) .none kV_made_normal dc_made_normal pm_made_normal an_made_normal cd_made_normal ct_made_normal), sl_made_normal⟩) (q_made_normal : PySem.W.codeIn K cd_made_normal "made_normal" = true) (k_made_normal : PySem.W.keepIn K (.ref f_made_normal) = true)
    {f_told : Addr} {od_told an_told : Option Addr} {sl_told : Array (Option Value)} {oc_told kV_told dc_told pm_told cd_told ct_told : Value} (a_told : PySem.W.nsIn K mainGlobals "told" = some (some (.ref f_told))) (l_told : K.lookup f_told = some ⟨oc_told, od_told, .func (PySem.W.fnOf "told" "told" (defArgs st_told) (defBody st_told) (defScope st_told) .none kV_told dc_told pm_told an_told cd_told ct_told), sl_told⟩) (q_told : PySem.W.codeIn K cd_told "told" = true) (k_told : PySem.W.keepIn K (.ref f_told) = true)
    {f_opposite : Addr} {od_opposite an_opposite : Option Addr} {sl_opposite : Array (Option Value)} {oc_opposite kV_opposite dc_opposite pm_opposite cd_opposite ct_opposite : Value} (a_opposite : PySem.W.nsIn K mainGlobals "opposite" = some (some (.ref f_opposite))) (l_opposite : K.lookup f_opposite = some ⟨oc_opposite, od_opposite, .func (PySem.W.fnOf "opposite" "opposite" (defArgs st_opposite) (defBody st_opposite) (defScope st_opposite) .none kV_opposite dc_opposite pm_opposite an_opposite cd_opposite ct_opposite), sl_opposite⟩) (q_opposite : PySem.W.codeIn K cd_opposite "opposite" = true) (k_opposite : PySem.W.keepIn K (.ref f_opposite) = true)
    {f_shortened : Addr} {od_shortened an_shortened : Option Addr} {sl_shortened : Array (Option Value)} {oc_shortened kV_shortened dc_shortened pm_shortened cd_shortened ct_shortened : Value} (a_shortened : PySem.W.nsIn K mainGlobals "shortened" = some (some (.ref f_shortened))) (l_shortened : K.lookup f_shortened = some ⟨oc_shortened, od_shortened, .func (PySem.W.fnOf "shortened" "shortened" (defArgs st_shortened) (defBody st_shortened) (defScope st_shortened) .none kV_shortened dc_shortened pm_shortened an_shortened cd_shortened ct_shortened), sl_shortened⟩) (q_shortened : PySem.W.codeIn K cd_shortened "shortened" = true) (k_shortened : PySem.W.keepIn K (.ref f_shortened) = true)
    {f_size_rounded : Addr} {od_size_rounded an_size_rounded : Option Addr} {sl_size_rounded : Array (Option Value)} {oc_size_rounded kV_size_rounded dc_size_rounded pm_size_rounded cd_size_rounded ct_size_rounded : Value} (a_size_rounded : PySem.W.nsIn K mainGlobals "size_rounded" = some (some (.ref f_size_rounded))) (l_size_rounded : K.lookup f_size_rounded = some ⟨oc_size_rounded, od_size_rounded, .func (PySem.W.fnOf "size_rounded" "size_rounded" (defArgs st_size_rounded) (defBody st_size_rounded) (defScope st_size_rounded) .none kV_size_rounded dc_size_rounded pm_size_rounded an_size_rounded cd_size_rounded ct_size_rounded), sl_size_rounded⟩) (q_size_rounded : PySem.W.codeIn K cd_size_rounded "size_rounded" = true) (k_size_rounded : PySem.W.keepIn K (.ref f_size_rounded) = true)
    {f_low_end : Addr} {od_low_end an_low_end : Option Addr} {sl_low_end : Array (Option Value)} {oc_low_end kV_low_end dc_low_end pm_low_end cd_low_end ct_low_end : Value} (a_low_end : PySem.W.nsIn K mainGlobals "low_end" = some (some (.ref f_low_end))) (l_low_end : K.lookup f_low_end = some ⟨oc_low_end, od_low_end, .func (PySem.W.fnOf "low_end" "low_end" (defArgs st_low_end) (defBody st_low_end) (defScope st_low_end) .none kV_low_end dc_low_end pm_low_end an_low_end cd_low_end ct_low_end), sl_low_end⟩) (q_low_end : PySem.W.codeIn K cd_low_end "low_end" = true) (k_low_end : PySem.W.keepIn K (.ref f_low_end) = true)
    {f_high_end : Addr} {od_high_end an_high_end : Option Addr} {sl_high_end : Array (Option Value)} {oc_high_end kV_high_end dc_high_end pm_high_end cd_high_end ct_high_end : Value} (a_high_end : PySem.W.nsIn K mainGlobals "high_end" = some (some (.ref f_high_end))) (l_high_end : K.lookup f_high_end = some ⟨oc_high_end, od_high_end, .func (PySem.W.fnOf "high_end" "high_end" (defArgs st_high_end) (defBody st_high_end) (defScope st_high_end) .none kV_high_end dc_high_end pm_high_end an_high_end cd_high_end ct_high_end), sl_high_end⟩) (q_high_end : PySem.W.codeIn K cd_high_end "high_end" = true) (k_high_end : PySem.W.keepIn K (.ref f_high_end) = true)
    {f_endless : Addr} {od_endless an_endless : Option Addr} {sl_endless : Array (Option Value)} {oc_endless kV_endless dc_endless pm_endless cd_endless ct_endless : Value} (a_endless : PySem.W.nsIn K mainGlobals "endless" = some (some (.ref f_endless))) (l_endless : K.lookup f_endless = some ⟨oc_endless, od_endless, .func (PySem.W.fnOf "endless" "endless" (defArgs st_endless) (defBody st_endless) (defScope st_endless) .none kV_endless dc_endless pm_endless an_endless cd_endless ct_endless), sl_endless⟩) (q_endless : PySem.W.codeIn K cd_endless "endless" = true) (k_endless : PySem.W.keepIn K (.ref f_endless) = true)
    {f_finer : Addr} {od_finer an_finer : Option Addr} {sl_finer : Array (Option Value)} {oc_finer kV_finer dc_finer pm_finer cd_finer ct_finer : Value} (a_finer : PySem.W.nsIn K mainGlobals "finer" = some (some (.ref f_finer))) (l_finer : K.lookup f_finer = some ⟨oc_finer, od_finer, .func (PySem.W.fnOf "finer" "finer" (defArgs st_finer) (defBody st_finer) (defScope st_finer) .none kV_finer dc_finer pm_finer an_finer cd_finer ct_finer), sl_finer⟩) (q_finer : PySem.W.codeIn K cd_finer "finer" = true) (k_finer : PySem.W.keepIn K (.ref f_finer) = true)
    {f_over : Addr} {od_over an_over : Option Addr} {sl_over : Array (Option Value)} {oc_over kV_over dc_over pm_over cd_over ct_over : Value} (a_over : PySem.W.nsIn K mainGlobals "over" = some (some (.ref f_over))) (l_over : K.lookup f_over = some ⟨oc_over, od_over, .func (PySem.W.fnOf "over" "over" (defArgs st_over) (defBody st_over) (defScope st_over) .none kV_over dc_over pm_over an_over cd_over ct_over), sl_over⟩) (q_over : PySem.W.codeIn K cd_over "over" = true) (k_over : PySem.W.keepIn K (.ref f_over) = true)
    {f_digit_of : Addr} {od_digit_of an_digit_of : Option Addr} {sl_digit_of : Array (Option Value)} {oc_digit_of kV_digit_of dc_digit_of pm_digit_of cd_digit_of ct_digit_of : Value} (a_digit_of : PySem.W.nsIn K mainGlobals "digit_of" = some (some (.ref f_digit_of))) (l_digit_of : K.lookup f_digit_of = some ⟨oc_digit_of, od_digit_of, .func (PySem.W.fnOf "digit_of" "digit_of" (defArgs st_digit_of) (defBody st_digit_of) (defScope st_digit_of) .none kV_digit_of dc_digit_of pm_digit_of an_digit_of cd_digit_of ct_digit_of), sl_digit_of⟩) (q_digit_of : PySem.W.codeIn K cd_digit_of "digit_of" = true) (k_digit_of : PySem.W.keepIn K (.ref f_digit_of) = true)
    {f_take_digits : Addr} {od_take_digits an_take_digits : Option Addr} {sl_take_digits : Array (Option Value)} {oc_take_digits kV_take_digits dc_take_digits pm_take_digits cd_take_digits ct_take_digits : Value} (a_take_digits : PySem.W.nsIn K mainGlobals "take_digits" = some (some (.ref f_take_digits))) (l_take_digits : K.lookup f_take_digits = some ⟨oc_take_digits, od_take_digits, .func (PySem.W.fnOf "take_digits" "take_digits" (defArgs st_take_digits) (defBody st_take_digits) (defScope st_take_digits) .none kV_take_digits dc_take_digits pm_take_digits an_take_digits cd_take_digits ct_take_digits), sl_take_digits⟩) (q_take_digits : PySem.W.codeIn K cd_take_digits "take_digits" = true) (k_take_digits : PySem.W.keepIn K (.ref f_take_digits) = true)
    {f_take_exponent : Addr} {od_take_exponent an_take_exponent : Option Addr} {sl_take_exponent : Array (Option Value)} {oc_take_exponent kV_take_exponent dc_take_exponent pm_take_exponent cd_take_exponent ct_take_exponent : Value} (a_take_exponent : PySem.W.nsIn K mainGlobals "take_exponent" = some (some (.ref f_take_exponent))) (l_take_exponent : K.lookup f_take_exponent = some ⟨oc_take_exponent, od_take_exponent, .func (PySem.W.fnOf "take_exponent" "take_exponent" (defArgs st_take_exponent) (defBody st_take_exponent) (defScope st_take_exponent) .none kV_take_exponent dc_take_exponent pm_take_exponent an_take_exponent cd_take_exponent ct_take_exponent), sl_take_exponent⟩) (q_take_exponent : PySem.W.codeIn K cd_take_exponent "take_exponent" = true) (k_take_exponent : PySem.W.keepIn K (.ref f_take_exponent) = true)
    {f_take_finite : Addr} {od_take_finite an_take_finite : Option Addr} {sl_take_finite : Array (Option Value)} {oc_take_finite kV_take_finite dc_take_finite pm_take_finite cd_take_finite ct_take_finite : Value} (a_take_finite : PySem.W.nsIn K mainGlobals "take_finite" = some (some (.ref f_take_finite))) (l_take_finite : K.lookup f_take_finite = some ⟨oc_take_finite, od_take_finite, .func (PySem.W.fnOf "take_finite" "take_finite" (defArgs st_take_finite) (defBody st_take_finite) (defScope st_take_finite) .none kV_take_finite dc_take_finite pm_take_finite an_take_finite cd_take_finite ct_take_finite), sl_take_finite⟩) (q_take_finite : PySem.W.codeIn K cd_take_finite "take_finite" = true) (k_take_finite : PySem.W.keepIn K (.ref f_take_finite) = true)
    {f_take_number : Addr} {od_take_number an_take_number : Option Addr} {sl_take_number : Array (Option Value)} {oc_take_number kV_take_number dc_take_number pm_take_number cd_take_number ct_take_number : Value} (a_take_number : PySem.W.nsIn K mainGlobals "take_number" = some (some (.ref f_take_number))) (l_take_number : K.lookup f_take_number = some ⟨oc_take_number, od_take_number, .func (PySem.W.fnOf "take_number" "take_number" (defArgs st_take_number) (defBody st_take_number) (defScope st_take_number) .none kV_take_number dc_take_number pm_take_number an_take_number cd_take_number ct_take_number), sl_take_number⟩) (q_take_number : PySem.W.codeIn K cd_take_number "take_number" = true) (k_take_number : PySem.W.keepIn K (.ref f_take_number) = true)
    {f_take_ends : Addr} {od_take_ends an_take_ends : Option Addr} {sl_take_ends : Array (Option Value)} {oc_take_ends kV_take_ends dc_take_ends pm_take_ends cd_take_ends ct_take_ends : Value} (a_take_ends : PySem.W.nsIn K mainGlobals "take_ends" = some (some (.ref f_take_ends))) (l_take_ends : K.lookup f_take_ends = some ⟨oc_take_ends, od_take_ends, .func (PySem.W.fnOf "take_ends" "take_ends" (defArgs st_take_ends) (defBody st_take_ends) (defScope st_take_ends) .none kV_take_ends dc_take_ends pm_take_ends an_take_ends cd_take_ends ct_take_ends), sl_take_ends⟩) (q_take_ends : PySem.W.codeIn K cd_take_ends "take_ends" = true) (k_take_ends : PySem.W.keepIn K (.ref f_take_ends) = true)
    {f_ends_said : Addr} {od_ends_said an_ends_said : Option Addr} {sl_ends_said : Array (Option Value)} {oc_ends_said kV_ends_said dc_ends_said pm_ends_said cd_ends_said ct_ends_said : Value} (a_ends_said : PySem.W.nsIn K mainGlobals "ends_said" = some (some (.ref f_ends_said))) (l_ends_said : K.lookup f_ends_said = some ⟨oc_ends_said, od_ends_said, .func (PySem.W.fnOf "ends_said" "ends_said" (defArgs st_ends_said) (defBody st_ends_said) (defScope st_ends_said) .none kV_ends_said dc_ends_said pm_ends_said an_ends_said cd_ends_said ct_ends_said), sl_ends_said⟩) (q_ends_said : PySem.W.codeIn K cd_ends_said "ends_said" = true) (k_ends_said : PySem.W.keepIn K (.ref f_ends_said) = true)
    {f_power_of_five : Addr} {od_power_of_five an_power_of_five : Option Addr} {sl_power_of_five : Array (Option Value)} {oc_power_of_five kV_power_of_five dc_power_of_five pm_power_of_five cd_power_of_five ct_power_of_five : Value} (a_power_of_five : PySem.W.nsIn K mainGlobals "power_of_five" = some (some (.ref f_power_of_five))) (l_power_of_five : K.lookup f_power_of_five = some ⟨oc_power_of_five, od_power_of_five, .func (PySem.W.fnOf "power_of_five" "power_of_five" (defArgs st_power_of_five) (defBody st_power_of_five) (defScope st_power_of_five) .none kV_power_of_five dc_power_of_five pm_power_of_five an_power_of_five cd_power_of_five ct_power_of_five), sl_power_of_five⟩) (q_power_of_five : PySem.W.codeIn K cd_power_of_five "power_of_five" = true) (k_power_of_five : PySem.W.keepIn K (.ref f_power_of_five) = true)
    {f_scaled : Addr} {od_scaled an_scaled : Option Addr} {sl_scaled : Array (Option Value)} {oc_scaled kV_scaled dc_scaled pm_scaled cd_scaled ct_scaled : Value} (a_scaled : PySem.W.nsIn K mainGlobals "scaled" = some (some (.ref f_scaled))) (l_scaled : K.lookup f_scaled = some ⟨oc_scaled, od_scaled, .func (PySem.W.fnOf "scaled" "scaled" (defArgs st_scaled) (defBody st_scaled) (defScope st_scaled) .none kV_scaled dc_scaled pm_scaled an_scaled cd_scaled ct_scaled), sl_scaled⟩) (q_scaled : PySem.W.codeIn K cd_scaled "scaled" = true) (k_scaled : PySem.W.keepIn K (.ref f_scaled) = true)
    {f_is_above : Addr} {od_is_above an_is_above : Option Addr} {sl_is_above : Array (Option Value)} {oc_is_above kV_is_above dc_is_above pm_is_above cd_is_above ct_is_above : Value} (a_is_above : PySem.W.nsIn K mainGlobals "is_above" = some (some (.ref f_is_above))) (l_is_above : K.lookup f_is_above = some ⟨oc_is_above, od_is_above, .func (PySem.W.fnOf "is_above" "is_above" (defArgs st_is_above) (defBody st_is_above) (defScope st_is_above) .none kV_is_above dc_is_above pm_is_above an_is_above cd_is_above ct_is_above), sl_is_above⟩) (q_is_above : PySem.W.codeIn K cd_is_above "is_above" = true) (k_is_above : PySem.W.keepIn K (.ref f_is_above) = true)
    {f_can_be_ends : Addr} {od_can_be_ends an_can_be_ends : Option Addr} {sl_can_be_ends : Array (Option Value)} {oc_can_be_ends kV_can_be_ends dc_can_be_ends pm_can_be_ends cd_can_be_ends ct_can_be_ends : Value} (a_can_be_ends : PySem.W.nsIn K mainGlobals "can_be_ends" = some (some (.ref f_can_be_ends))) (l_can_be_ends : K.lookup f_can_be_ends = some ⟨oc_can_be_ends, od_can_be_ends, .func (PySem.W.fnOf "can_be_ends" "can_be_ends" (defArgs st_can_be_ends) (defBody st_can_be_ends) (defScope st_can_be_ends) .none kV_can_be_ends dc_can_be_ends pm_can_be_ends an_can_be_ends cd_can_be_ends ct_can_be_ends), sl_can_be_ends⟩) (q_can_be_ends : PySem.W.codeIn K cd_can_be_ends "can_be_ends" = true) (k_can_be_ends : PySem.W.keepIn K (.ref f_can_be_ends) = true)
    {f_value_beside : Addr} {od_value_beside an_value_beside : Option Addr} {sl_value_beside : Array (Option Value)} {oc_value_beside kV_value_beside dc_value_beside pm_value_beside cd_value_beside ct_value_beside : Value} (a_value_beside : PySem.W.nsIn K mainGlobals "value_beside" = some (some (.ref f_value_beside))) (l_value_beside : K.lookup f_value_beside = some ⟨oc_value_beside, od_value_beside, .func (PySem.W.fnOf "value_beside" "value_beside" (defArgs st_value_beside) (defBody st_value_beside) (defScope st_value_beside) .none kV_value_beside dc_value_beside pm_value_beside an_value_beside cd_value_beside ct_value_beside), sl_value_beside⟩) (q_value_beside : PySem.W.codeIn K cd_value_beside "value_beside" = true) (k_value_beside : PySem.W.keepIn K (.ref f_value_beside) = true)
    {f_read : Addr} {od_read an_read : Option Addr} {sl_read : Array (Option Value)} {oc_read kV_read dc_read pm_read cd_read ct_read : Value} (a_read : PySem.W.nsIn K mainGlobals "read" = some (some (.ref f_read))) (l_read : K.lookup f_read = some ⟨oc_read, od_read, .func (PySem.W.fnOf "read" "read" (defArgs st_read) (defBody st_read) (defScope st_read) .none kV_read dc_read pm_read an_read cd_read ct_read), sl_read⟩) (q_read : PySem.W.codeIn K cd_read "read" = true) (k_read : PySem.W.keepIn K (.ref f_read) = true)
    {C : Addr}
    (v_C : PySem.W.nsIn K mainGlobals "Value" = some (some (.ref C)))
    {f_vI : Addr} {od_vI an_vI : Option Addr} {sl_vI : Array (Option Value)} {oc_vI kV_vI dc_vI pm_vI cd_vI ct_vI : Value}
    (v_i : PySem.W.findIn K (.ref C) "__init__" = some (some (.ref f_vI)))
    (l_vI : K.lookup f_vI = some ⟨oc_vI, od_vI, .func (PySem.W.fnOf "__init__" "Value.__init__" (defArgs st_Value___init__) (defBody st_Value___init__) (defScope st_Value___init__) .none kV_vI dc_vI pm_vI an_vI cd_vI ct_vI), sl_vI⟩) (q_vI : PySem.W.codeIn K cd_vI "Value.__init__" = true) (k_vI : PySem.W.keepIn K (.ref f_vI) = true)
    (v_f : PySem.W.isFn K (.ref f_vI) = true)
    (v_g : PySem.W.plainGet K C Str.empty = true)
    (v_d : PySem.W.hasDictIn K C = true)
    (v_o : PySem.W.plainOver K C = true)
    (v_s : PySem.W.findIn K (.ref C) "__setattr__" = some (some (.builtin "object.__setattr__")))
    (v_m : PySem.W.makesIn K C = true)
    (v_c : PySem.W.keepIn K (.ref C) = true)
    (v_1 : PySem.W.findIn K (.ref C) "whole" = some none)
    (v_2 : PySem.W.findIn K (.ref C) "power" = some none)
    (v_3 : PySem.W.findIn K (.ref C) "infinite" = some none)
    {CE : Addr}
    (e_C : PySem.W.nsIn K mainGlobals "Exact" = some (some (.ref CE)))
    {f_eI : Addr} {od_eI an_eI : Option Addr} {sl_eI : Array (Option Value)} {oc_eI kV_eI dc_eI pm_eI cd_eI ct_eI : Value}
    (e_i : PySem.W.findIn K (.ref CE) "__init__" = some (some (.ref f_eI)))
    (l_eI : K.lookup f_eI = some ⟨oc_eI, od_eI, .func (PySem.W.fnOf "__init__" "Exact.__init__" (defArgs st_Exact___init__) (defBody st_Exact___init__) (defScope st_Exact___init__) .none kV_eI dc_eI pm_eI an_eI cd_eI ct_eI), sl_eI⟩) (q_eI : PySem.W.codeIn K cd_eI "Exact.__init__" = true) (k_eI : PySem.W.keepIn K (.ref f_eI) = true)
    (e_f : PySem.W.isFn K (.ref f_eI) = true)
    (e_g : PySem.W.plainGet K CE Str.empty = true)
    (e_d : PySem.W.hasDictIn K CE = true)
    (e_o : PySem.W.plainOver K CE = true)
    (e_s : PySem.W.findIn K (.ref CE) "__setattr__" = some (some (.builtin "object.__setattr__")))
    (e_m : PySem.W.makesIn K CE = true)
    (e_c : PySem.W.keepIn K (.ref CE) = true)
    (e_1 : PySem.W.findIn K (.ref CE) "whole" = some none)
    (e_2 : PySem.W.findIn K (.ref CE) "twos" = some none)
    (e_3 : PySem.W.findIn K (.ref CE) "fives" = some none)
    (e_4 : PySem.W.findIn K (.ref CE) "infinite" = some none)
    {CR : Addr}
    (r_C : PySem.W.nsIn K mainGlobals "Reader" = some (some (.ref CR)))
    {f_rI : Addr} {od_rI an_rI : Option Addr} {sl_rI : Array (Option Value)} {oc_rI kV_rI dc_rI pm_rI cd_rI ct_rI : Value}
    (r_i : PySem.W.findIn K (.ref CR) "__init__" = some (some (.ref f_rI)))
    (l_rI : K.lookup f_rI = some ⟨oc_rI, od_rI, .func (PySem.W.fnOf "__init__" "Reader.__init__" (defArgs st_Reader___init__) (defBody st_Reader___init__) (defScope st_Reader___init__) .none kV_rI dc_rI pm_rI an_rI cd_rI ct_rI), sl_rI⟩) (q_rI : PySem.W.codeIn K cd_rI "Reader.__init__" = true) (k_rI : PySem.W.keepIn K (.ref f_rI) = true)
    (r_f : PySem.W.isFn K (.ref f_rI) = true)
    (r_g : PySem.W.plainGet K CR Str.empty = true)
    (r_d : PySem.W.hasDictIn K CR = true)
    (r_o : PySem.W.plainOver K CR = true)
    (r_s : PySem.W.findIn K (.ref CR) "__setattr__" = some (some (.builtin "object.__setattr__")))
    (r_m : PySem.W.makesIn K CR = true)
    (r_c : PySem.W.keepIn K (.ref CR) = true)
    (r_1 : PySem.W.findIn K (.ref CR) "codes" = some none)
    (r_2 : PySem.W.findIn K (.ref CR) "spot" = some none)
    {f_ahead : Addr} {od_ahead an_ahead : Option Addr} {sl_ahead : Array (Option Value)} {oc_ahead kV_ahead dc_ahead pm_ahead cd_ahead ct_ahead : Value}
    (a_ahead : PySem.W.findIn K (.ref CR) "ahead" = some (some (.ref f_ahead)))
    (l_ahead : K.lookup f_ahead = some ⟨oc_ahead, od_ahead, .func (PySem.W.fnOf "ahead" "Reader.ahead" (defArgs st_Reader_ahead) (defBody st_Reader_ahead) (defScope st_Reader_ahead) .none kV_ahead dc_ahead pm_ahead an_ahead cd_ahead ct_ahead), sl_ahead⟩) (q_ahead : PySem.W.codeIn K cd_ahead "Reader.ahead" = true) (k_ahead : PySem.W.keepIn K (.ref f_ahead) = true)
    (i_ahead : PySem.W.isFn K (.ref f_ahead) = true)
    {f_passes : Addr} {od_passes an_passes : Option Addr} {sl_passes : Array (Option Value)} {oc_passes kV_passes dc_passes pm_passes cd_passes ct_passes : Value}
    (a_passes : PySem.W.findIn K (.ref CR) "passes" = some (some (.ref f_passes)))
    (l_passes : K.lookup f_passes = some ⟨oc_passes, od_passes, .func (PySem.W.fnOf "passes" "Reader.passes" (defArgs st_Reader_passes) (defBody st_Reader_passes) (defScope st_Reader_passes) .none kV_passes dc_passes pm_passes an_passes cd_passes ct_passes), sl_passes⟩) (q_passes : PySem.W.codeIn K cd_passes "Reader.passes" = true) (k_passes : PySem.W.keepIn K (.ref f_passes) = true)
    (i_passes : PySem.W.isFn K (.ref f_passes) = true)
    {f_take : Addr} {od_take an_take : Option Addr} {sl_take : Array (Option Value)} {oc_take kV_take dc_take pm_take cd_take ct_take : Value}
    (a_take : PySem.W.findIn K (.ref CR) "take" = some (some (.ref f_take)))
    (l_take : K.lookup f_take = some ⟨oc_take, od_take, .func (PySem.W.fnOf "take" "Reader.take" (defArgs st_Reader_take) (defBody st_Reader_take) (defScope st_Reader_take) .none kV_take dc_take pm_take an_take cd_take ct_take), sl_take⟩) (q_take : PySem.W.codeIn K cd_take "Reader.take" = true) (k_take : PySem.W.keepIn K (.ref f_take) = true)
    (i_take : PySem.W.isFn K (.ref f_take) = true)
    {CF NX : Addr} {nmX qX : Str} {bsX subX : List Value} {snX : List Str} {abX : Bool} {colX : Option Bool} {ddX dNX : Option Addr} {k0X k1X k2X k3X k5X : Option Value} {cNX : Value} {esX : Array DictEntry} {epX : Nat} {slNX : Array (Option Value)}
    (x_C : PySem.W.nsIn K mainGlobals "Fault" = some (some (.ref CF)))
    (x_l : K.lookup CF = some (excClassObj nmX qX CF NX bsX [.type "Exception", .type "BaseException", .type "object"] true snX subX abX colX ddX k0X k1X k2X k3X k5X "Exception.__new__"))
    (x_n : K.lookup NX = some ⟨cNX, dNX, .dict esX epX, slNX⟩)
    {f_xI : Addr} {od_xI an_xI : Option Addr} {sl_xI : Array (Option Value)} {oc_xI kV_xI dc_xI pm_xI cd_xI ct_xI : Value}
    (x_1 : PySem.W.nsIn K NX "__init__" = some (some (.ref f_xI)))
    (x_s : keysStr esX.toList = true)
    (x_2 : PySem.W.nsIn K NX "__setattr__" = some none)
    (x_3 : PySem.W.nsIn K NX "__getattribute__" = some none)
    (x_4 : PySem.W.nsIn K NX "__getattr__" = some none)
    (x_5 : PySem.W.nsIn K NX "spot" = some none)
    (l_xI : K.lookup f_xI = some ⟨oc_xI, od_xI, .func (PySem.W.fnOf "__init__" "Fault.__init__" (defArgs st_Fault___init__) (defBody st_Fault___init__) (defScope st_Fault___init__) .none kV_xI dc_xI pm_xI an_xI cd_xI ct_xI), sl_xI⟩) (q_xI : PySem.W.codeIn K cd_xI "Fault.__init__" = true) (k_xI : PySem.W.keepIn K (.ref f_xI) = true)
    (x_o : oc_xI = .type "function")
    (x_c : PySem.W.keepIn K (.ref CF) = true)
    (hTree : P.given.tree = none)
    : ∃ fd : FuncData, (∀ (s : Shared) (us : List Value), us.length = (["text"] : List Str).length → BindsTo s fd ⟨us, []⟩ ((["text"] : List Str).zip us)) ∧ ∀ base : Heap, K.In base → base.Ns mainGlobals mg → base.NoSeer → FnOk P w K mg base CX0 45 fa fd ["text"] (spRead K) := by
  have e := hfa.symm.trans (PySem.W.mg_of X G a_read)
  cases e
  subst x_o
  have gSIGN : IntG mg "SIGN" (604462909807314587353088) := ⟨_, PySem.W.mg_of X G a_SIGN⟩
  have gTOP : IntG mg "TOP" (9223372036854775808) := ⟨_, PySem.W.mg_of X G a_TOP⟩
  have gBEYOND : IntG mg "BEYOND" (18446744073709551616) := ⟨_, PySem.W.mg_of X G a_BEYOND⟩
  have gDIGITS : IntG mg "DIGITS" (64) := ⟨_, PySem.W.mg_of X G a_DIGITS⟩
  have gLAST_EXPONENT : IntG mg "LAST_EXPONENT" (32767) := ⟨_, PySem.W.mg_of X G a_LAST_EXPONENT⟩
  have gOFFSET : IntG mg "OFFSET" (16446) := ⟨_, PySem.W.mg_of X G a_OFFSET⟩
  have gPLUS_INFINITE : IntG mg "PLUS_INFINITE" (604453686435277732577280) := ⟨_, PySem.W.mg_of X G a_PLUS_INFINITE⟩
  have gMINUS_INFINITE : IntG mg "MINUS_INFINITE" (1208916596242592319930368) := ⟨_, PySem.W.mg_of X G a_MINUS_INFINITE⟩
  have gGREATEST : IntG mg "GREATEST" (604444463063240877801471) := ⟨_, PySem.W.mg_of X G a_GREATEST⟩
  have gEMPTY : IntG mg "EMPTY" (1208921207928610747318272) := ⟨_, PySem.W.mg_of X G a_EMPTY⟩
  have gINWARD : IntG mg "INWARD" (0) := ⟨_, PySem.W.mg_of X G a_INWARD⟩
  have gOUTWARD : IntG mg "OUTWARD" (1) := ⟨_, PySem.W.mg_of X G a_OUTWARD⟩
  have gNEAREST : IntG mg "NEAREST" (2) := ⟨_, PySem.W.mg_of X G a_NEAREST⟩
  have gMOST_BYTES : IntG mg "MOST_BYTES" (8192) := ⟨_, PySem.W.mg_of X G a_MOST_BYTES⟩
  have gMOST_EXPONENT_DIGITS : IntG mg "MOST_EXPONENT_DIGITS" (5) := ⟨_, PySem.W.mg_of X G a_MOST_EXPONENT_DIGITS⟩
  have n_len : mg "len" = none := PySem.W.mg_none_of X G b_len
  have n_max : mg "max" = none := PySem.W.mg_none_of X G b_max
  have n_min : mg "min" = none := PySem.W.mg_none_of X G b_min
  have n_ord : mg "ord" = none := PySem.W.mg_none_of X G b_ord
  have n_range : mg "range" = none := PySem.W.mg_none_of X G b_range
  have F_exponent_of := fun_mk (st := st_exponent_of) l_exponent_of q_exponent_of k_exponent_of
  have T_exponent_of : At K mg "exponent_of" st_exponent_of ["bits"] := ⟨_, _, F_exponent_of, PySem.W.mg_of X G a_exponent_of, F_exponent_of.binds (ps := ["bits"]) fun _ _ _ _ _ _ us hl => match us, hl with | [_], _ => rfl⟩
  have F_significand_of := fun_mk (st := st_significand_of) l_significand_of q_significand_of k_significand_of
  have T_significand_of : At K mg "significand_of" st_significand_of ["bits"] := ⟨_, _, F_significand_of, PySem.W.mg_of X G a_significand_of, F_significand_of.binds (ps := ["bits"]) fun _ _ _ _ _ _ us hl => match us, hl with | [_], _ => rfl⟩
  have F_made_normal := fun_mk (st := st_made_normal) l_made_normal q_made_normal k_made_normal
  have T_made_normal : At K mg "made_normal" st_made_normal ["bits"] := ⟨_, _, F_made_normal, PySem.W.mg_of X G a_made_normal, F_made_normal.binds (ps := ["bits"]) fun _ _ _ _ _ _ us hl => match us, hl with | [_], _ => rfl⟩
  have F_told := fun_mk (st := st_told) l_told q_told k_told
  have T_told : At K mg "told" st_told ["bits"] := ⟨_, _, F_told, PySem.W.mg_of X G a_told, F_told.binds (ps := ["bits"]) fun _ _ _ _ _ _ us hl => match us, hl with | [_], _ => rfl⟩
  have F_opposite := fun_mk (st := st_opposite) l_opposite q_opposite k_opposite
  have T_opposite : At K mg "opposite" st_opposite ["bits"] := ⟨_, _, F_opposite, PySem.W.mg_of X G a_opposite, F_opposite.binds (ps := ["bits"]) fun _ _ _ _ _ _ us hl => match us, hl with | [_], _ => rfl⟩
  have F_shortened := fun_mk (st := st_shortened) l_shortened q_shortened k_shortened
  have T_shortened : At K mg "shortened" st_shortened ["whole", "dropped", "rounding"] := ⟨_, _, F_shortened, PySem.W.mg_of X G a_shortened, F_shortened.binds (ps := ["whole", "dropped", "rounding"]) fun _ _ _ _ _ _ us hl => match us, hl with | [_, _, _], _ => rfl⟩
  have F_size_rounded := fun_mk (st := st_size_rounded) l_size_rounded q_size_rounded k_size_rounded
  have T_size_rounded : At K mg "size_rounded" st_size_rounded ["whole", "power", "rounding"] := ⟨_, _, F_size_rounded, PySem.W.mg_of X G a_size_rounded, F_size_rounded.binds (ps := ["whole", "power", "rounding"]) fun _ _ _ _ _ _ us hl => match us, hl with | [_, _, _], _ => rfl⟩
  have F_low_end := fun_mk (st := st_low_end) l_low_end q_low_end k_low_end
  have T_low_end : At K mg "low_end" st_low_end ["value"] := ⟨_, _, F_low_end, PySem.W.mg_of X G a_low_end, F_low_end.binds (ps := ["value"]) fun _ _ _ _ _ _ us hl => match us, hl with | [_], _ => rfl⟩
  have F_high_end := fun_mk (st := st_high_end) l_high_end q_high_end k_high_end
  have T_high_end : At K mg "high_end" st_high_end ["value"] := ⟨_, _, F_high_end, PySem.W.mg_of X G a_high_end, F_high_end.binds (ps := ["value"]) fun _ _ _ _ _ _ us hl => match us, hl with | [_], _ => rfl⟩
  have F_endless := fun_mk (st := st_endless) l_endless q_endless k_endless
  have T_endless : At K mg "endless" st_endless ["whole"] := ⟨_, _, F_endless, PySem.W.mg_of X G a_endless, F_endless.binds (ps := ["whole"]) fun _ _ _ _ _ _ us hl => match us, hl with | [_], _ => rfl⟩
  have F_finer := fun_mk (st := st_finer) l_finer q_finer k_finer
  have T_finer : At K mg "finer" st_finer ["whole", "power", "exact"] := ⟨_, _, F_finer, PySem.W.mg_of X G a_finer, F_finer.binds (ps := ["whole", "power", "exact"]) fun _ _ _ _ _ _ us hl => match us, hl with | [_, _, _], _ => rfl⟩
  have F_over := fun_mk (st := st_over) l_over q_over k_over
  have T_over : At K mg "over" st_over ["value", "other"] := ⟨_, _, F_over, PySem.W.mg_of X G a_over, F_over.binds (ps := ["value", "other"]) fun _ _ _ _ _ _ us hl => match us, hl with | [_, _], _ => rfl⟩
  have F_digit_of := fun_mk (st := st_digit_of) l_digit_of q_digit_of k_digit_of
  have T_digit_of : At K mg "digit_of" st_digit_of ["code"] := ⟨_, _, F_digit_of, PySem.W.mg_of X G a_digit_of, F_digit_of.binds (ps := ["code"]) fun _ _ _ _ _ _ us hl => match us, hl with | [_], _ => rfl⟩
  have F_take_digits := fun_mk (st := st_take_digits) l_take_digits q_take_digits k_take_digits
  have T_take_digits : At K mg "take_digits" st_take_digits ["reader", "base", "most", "whole"] := ⟨_, _, F_take_digits, PySem.W.mg_of X G a_take_digits, F_take_digits.binds (ps := ["reader", "base", "most", "whole"]) fun _ _ _ _ _ _ us hl => match us, hl with | [_, _, _, _], _ => rfl⟩
  have F_take_exponent := fun_mk (st := st_take_exponent) l_take_exponent q_take_exponent k_take_exponent
  have T_take_exponent : At K mg "take_exponent" st_take_exponent ["reader", "mark"] := ⟨_, _, F_take_exponent, PySem.W.mg_of X G a_take_exponent, F_take_exponent.binds (ps := ["reader", "mark"]) fun _ _ _ _ _ _ us hl => match us, hl with | [_, _], _ => rfl⟩
  have F_take_finite := fun_mk (st := st_take_finite) l_take_finite q_take_finite k_take_finite
  have T_take_finite : At K mg "take_finite" st_take_finite ["reader", "base", "mark", "sign", "whole"] := ⟨_, _, F_take_finite, PySem.W.mg_of X G a_take_finite, F_take_finite.binds (ps := ["reader", "base", "mark", "sign", "whole"]) fun _ _ _ _ _ _ us hl => match us, hl with | [_, _, _, _, _], _ => rfl⟩
  have F_take_number := fun_mk (st := st_take_number) l_take_number q_take_number k_take_number
  have T_take_number : At K mg "take_number" st_take_number ["reader"] := ⟨_, _, F_take_number, PySem.W.mg_of X G a_take_number, F_take_number.binds (ps := ["reader"]) fun _ _ _ _ _ _ us hl => match us, hl with | [_], _ => rfl⟩
  have F_take_ends := fun_mk (st := st_take_ends) l_take_ends q_take_ends k_take_ends
  have T_take_ends : At K mg "take_ends" st_take_ends ["reader"] := ⟨_, _, F_take_ends, PySem.W.mg_of X G a_take_ends, F_take_ends.binds (ps := ["reader"]) fun _ _ _ _ _ _ us hl => match us, hl with | [_], _ => rfl⟩
  have F_ends_said := fun_mk (st := st_ends_said) l_ends_said q_ends_said k_ends_said
  have T_ends_said : At K mg "ends_said" st_ends_said ["codes"] := ⟨_, _, F_ends_said, PySem.W.mg_of X G a_ends_said, F_ends_said.binds (ps := ["codes"]) fun _ _ _ _ _ _ us hl => match us, hl with | [_], _ => rfl⟩
  have F_power_of_five := fun_mk (st := st_power_of_five) l_power_of_five q_power_of_five k_power_of_five
  have T_power_of_five : At K mg "power_of_five" st_power_of_five ["n"] := ⟨_, _, F_power_of_five, PySem.W.mg_of X G a_power_of_five, F_power_of_five.binds (ps := ["n"]) fun _ _ _ _ _ _ us hl => match us, hl with | [_], _ => rfl⟩
  have F_scaled := fun_mk (st := st_scaled) l_scaled q_scaled k_scaled
  have T_scaled : At K mg "scaled" st_scaled ["exact", "twos", "fives"] := ⟨_, _, F_scaled, PySem.W.mg_of X G a_scaled, F_scaled.binds (ps := ["exact", "twos", "fives"]) fun _ _ _ _ _ _ us hl => match us, hl with | [_, _, _], _ => rfl⟩
  have F_is_above := fun_mk (st := st_is_above) l_is_above q_is_above k_is_above
  have T_is_above : At K mg "is_above" st_is_above ["exact", "other"] := ⟨_, _, F_is_above, PySem.W.mg_of X G a_is_above, F_is_above.binds (ps := ["exact", "other"]) fun _ _ _ _ _ _ us hl => match us, hl with | [_, _], _ => rfl⟩
  have F_can_be_ends := fun_mk (st := st_can_be_ends) l_can_be_ends q_can_be_ends k_can_be_ends
  have T_can_be_ends : At K mg "can_be_ends" st_can_be_ends ["low", "high"] := ⟨_, _, F_can_be_ends, PySem.W.mg_of X G a_can_be_ends, F_can_be_ends.binds (ps := ["low", "high"]) fun _ _ _ _ _ _ us hl => match us, hl with | [_, _], _ => rfl⟩
  have F_value_beside := fun_mk (st := st_value_beside) l_value_beside q_value_beside k_value_beside
  have T_value_beside : At K mg "value_beside" st_value_beside ["exact"] := ⟨_, _, F_value_beside, PySem.W.mg_of X G a_value_beside, F_value_beside.binds (ps := ["exact"]) fun _ _ _ _ _ _ us hl => match us, hl with | [_], _ => rfl⟩
  have F_read := fun_mk (st := st_read) l_read q_read k_read
  have F_vI := fun_mk (st := st_Value___init__) l_vI q_vI k_vI
  have B_vI := F_vI.binds (ps := ["self", "whole", "power", "infinite"]) fun _ _ _ _ _ _ us hl => match us, hl with | [_, _, _, _], _ => rfl
  have F_eI := fun_mk (st := st_Exact___init__) l_eI q_eI k_eI
  have B_eI := F_eI.binds (ps := ["self", "whole", "twos", "fives", "infinite"]) fun _ _ _ _ _ _ us hl => match us, hl with | [_, _, _, _, _], _ => rfl
  have F_rI := fun_mk (st := st_Reader___init__) l_rI q_rI k_rI
  have B_rI := F_rI.binds (ps := ["self", "codes"]) fun _ _ _ _ _ _ us hl => match us, hl with | [_, _], _ => rfl
  have F_xI := fun_mk (st := st_Fault___init__) l_xI q_xI k_xI
  have B_xI := F_xI.binds (ps := ["self", "spot"]) fun _ _ _ _ _ _ us hl => match us, hl with | [_, _], _ => rfl
  have F_ahead := fun_mk (st := st_Reader_ahead) l_ahead q_ahead k_ahead
  have B_ahead := F_ahead.binds (ps := ["self"]) fun _ _ _ _ _ _ us hl => match us, hl with | [_], _ => rfl
  have F_passes := fun_mk (st := st_Reader_passes) l_passes q_passes k_passes
  have B_passes := F_passes.binds (ps := ["self", "sign"]) fun _ _ _ _ _ _ us hl => match us, hl with | [_, _], _ => rfl
  have F_take := fun_mk (st := st_Reader_take) l_take q_take k_take
  have B_take := F_take.binds (ps := ["self", "word"]) fun _ _ _ _ _ _ us hl => match us, hl with | [_, _], _ => rfl
  have VT : VTxt K C := ⟨⟨v_g, v_d, v_o, v_s⟩, v_1, v_2, v_3⟩
  have ET : ETxt K CE := ⟨⟨e_g, e_d, e_o, e_s⟩, e_1, e_2, e_3, e_4⟩
  have RT : RTxt K CR := ⟨⟨r_g, r_d, r_o, r_s⟩, r_1, r_2⟩
  have FX : XT K CF f_xI "spot" := ⟨_, _, _, _, _, _, _, _, _, _, _, _, _, _, _, _, _, _, _, x_l, x_n, strKeys_of x_s, ns_some x_n x_1, ns_none x_n x_2, ns_none x_n x_3, ns_none x_n x_4, ns_none x_n x_5, ⟨_, l_xI, rfl⟩, spotE⟩
  refine ⟨PySem.W.fnOf "read" "read" (defArgs st_read) (defBody st_read) (defScope st_read) .none kV_read dc_read pm_read an_read cd_read ct_read, fun s us hu => match us, hu with | [_], _ => .of_eq rfl, fun base _ _ hSeer => ?_⟩
  have mkV : MkV P w K mg base C 1 := ⟨f_vI, _, ⟨v_m, v_i, v_f, v_c⟩, ok_init F_vI VT, PySem.W.mg_of X G v_C, B_vI⟩
  have mkE : MkE P w K mg base CE 1 := ⟨f_eI, _, ⟨e_m, e_i, e_f, e_c⟩, ok_initE F_eI ET, PySem.W.mg_of X G e_C, B_eI⟩
  have mkR : MkR P w K mg base CR 1 := ⟨f_rI, _, ⟨r_m, r_i, r_f, r_c⟩, ok_initR F_rI RT, PySem.W.mg_of X G r_C, B_rI⟩
  have mkX : MkX P w K mg base "Fault" CF "spot" 1 := ⟨f_xI, _, FX, ok_initX F_xI FX, PySem.W.mg_of X G x_C, x_c, B_xI⟩
  have rc : RC P w K mg base C CE CR CF := ⟨VT, mkV, ET, mkE, RT, mkR, mkX⟩
  have c_exponent_of := ok_exponent_of (P := P) (w := w) (base := base) T_exponent_of gBEYOND gSIGN
  have c_significand_of := ok_significand_of (P := P) (w := w) (base := base) T_significand_of gBEYOND
  have c_made_normal := ok_made_normal (P := P) (w := w) (base := base) T_made_normal gTOP gBEYOND c_exponent_of c_significand_of
  have c_told := ok_told (P := P) (w := w) (base := base) T_told gSIGN c_made_normal
  have c_opposite := ok_opposite (P := P) (w := w) (base := base) T_opposite c_told gSIGN
  have c_shortened := ok_shortened (P := P) (w := w) (base := base) T_shortened gOUTWARD gNEAREST
  have c_size_rounded := ok_size_rounded (P := P) (w := w) (base := base) T_size_rounded n_max c_shortened gBEYOND gTOP gLAST_EXPONENT gOFFSET gGREATEST gPLUS_INFINITE gDIGITS gINWARD
  have c_low_end := ok_low_end (P := P) (w := w) (base := base) T_low_end VT mkV gSIGN gPLUS_INFINITE gMINUS_INFINITE c_size_rounded gINWARD gOUTWARD
  have c_high_end := ok_high_end (P := P) (w := w) (base := base) T_high_end VT mkV c_opposite c_low_end
  have c_endless := ok_endless (P := P) (w := w) (base := base) T_endless VT mkV
  have c_finer := ok_finer (P := P) (w := w) (base := base) T_finer VT mkV
  have c_over := ok_over (P := P) (w := w) (base := base) T_over VT mkV hSeer hTree gDIGITS c_finer c_endless
  have M_ahead : MCal P w K mg base CX0 CR "ahead" ["self"] 3 (spAhead K CR) := ⟨_, _, ⟨a_ahead, i_ahead, k_ahead⟩, ok_Reader_ahead F_ahead rc n_len, B_ahead⟩
  have M_passes : MCal P w K mg base CX0 CR "passes" ["self", "sign"] 4 (spPasses K CR) := ⟨_, _, ⟨a_passes, i_passes, k_passes⟩, ok_Reader_passes F_passes rc n_ord M_ahead, B_passes⟩
  have M_take : MCal P w K mg base (CX1 P w) CR "take" ["self", "word"] 5 (spTake K CR CF) := ⟨_, _, ⟨a_take, i_take, k_take⟩, ok_Reader_take F_take rc M_passes, B_take⟩
  have c_digit_of := ok_digit_of T_digit_of rc n_ord
  have c_take_digits := ok_take_digits T_take_digits rc M_ahead c_digit_of
  have c_take_exponent := ok_take_exponent T_take_exponent rc M_passes c_take_digits gMOST_EXPONENT_DIGITS
  have c_take_finite := ok_take_finite T_take_finite rc M_passes c_take_exponent c_take_digits gMOST_BYTES
  have c_take_number := ok_take_number T_take_number rc n_ord M_passes M_ahead M_take c_take_digits gMOST_BYTES c_take_finite
  have c_take_ends := ok_take_ends T_take_ends rc n_ord M_passes M_ahead M_take c_take_number
  have c_ends_said := ok_ends_said T_ends_said rc n_len c_take_ends
  have c_power_of_five := ok_power_of_five T_power_of_five rc n_range
  have c_scaled := ok_scaled T_scaled rc c_power_of_five
  have c_is_above := ok_is_above T_is_above rc n_min c_scaled
  have c_can_be_ends := ok_can_be_ends T_can_be_ends rc c_is_above
  have c_value_beside := ok_value_beside T_value_beside rc c_over c_power_of_five
  exact ok_read F_read rc n_len gMOST_BYTES c_ends_said gEMPTY c_can_be_ends c_low_end c_high_end c_value_beside
end Rd
open PySem PySem.W PyProof.Rows
set_option maxRecDepth 100000 in
set_option maxHeartbeats 0 in
theorem PySem.Challenge.cw_betwixt_s12_read_holds : PySem.Challenge.rw_betwixt_s12_read.Holds := by
  w_on; k_headS; (case hw => exact ⟨[.list []], by decide +kernel, by decide +kernel⟩)
  k_fillS
  refine L2.walk_specS (r := PySem.Challenge.rw_betwixt_s12_read) (k := 45) (CX := L2.CX0) (ps := ["text"]) (sp := fun K => L2.spRead K) (by decide +kernel) (by decide +kernel) rfl rfl ⟨rfl, by decide, by decide⟩ (fun w h Y => PySem.W.kIn_of Y) ?F ?S (fun _ _ _ _ z => z)
  case F =>
    intro w mg fa h Y KX G hmg
    refine' Rd.all_mk KX G hmg ?a_SIGN ?a_TOP ?a_BEYOND ?a_DIGITS ?a_LAST_EXPONENT ?a_OFFSET ?a_PLUS_INFINITE ?a_MINUS_INFINITE ?a_GREATEST ?a_EMPTY ?a_INWARD ?a_OUTWARD ?a_NEAREST ?a_MOST_BYTES ?a_MOST_EXPONENT_DIGITS ?b_len ?b_max ?b_min ?b_ord ?b_range ?a_exponent_of ?l_exponent_of ?q_exponent_of ?k_exponent_of ?a_significand_of ?l_significand_of ?q_significand_of ?k_significand_of ?a_made_normal ?l_made_normal ?q_made_normal ?k_made_normal ?a_told ?l_told ?q_told ?k_told ?a_opposite ?l_opposite ?q_opposite ?k_opposite ?a_shortened ?l_shortened ?q_shortened ?k_shortened ?a_size_rounded ?l_size_rounded ?q_size_rounded ?k_size_rounded ?a_low_end ?l_low_end ?q_low_end ?k_low_end ?a_high_end ?l_high_end ?q_high_end ?k_high_end ?a_endless ?l_endless ?q_endless ?k_endless ?a_finer ?l_finer ?q_finer ?k_finer ?a_over ?l_over ?q_over ?k_over ?a_digit_of ?l_digit_of ?q_digit_of ?k_digit_of ?a_take_digits ?l_take_digits ?q_take_digits ?k_take_digits ?a_take_exponent ?l_take_exponent ?q_take_exponent ?k_take_exponent ?a_take_finite ?l_take_finite ?q_take_finite ?k_take_finite ?a_take_number ?l_take_number ?q_take_number ?k_take_number ?a_take_ends ?l_take_ends ?q_take_ends ?k_take_ends ?a_ends_said ?l_ends_said ?q_ends_said ?k_ends_said ?a_power_of_five ?l_power_of_five ?q_power_of_five ?k_power_of_five ?a_scaled ?l_scaled ?q_scaled ?k_scaled ?a_is_above ?l_is_above ?q_is_above ?k_is_above ?a_can_be_ends ?l_can_be_ends ?q_can_be_ends ?k_can_be_ends ?a_value_beside ?l_value_beside ?q_value_beside ?k_value_beside ?a_read ?l_read ?q_read ?k_read ?v_C ?v_i ?l_vI ?q_vI ?k_vI ?v_f ?v_g ?v_d ?v_o ?v_s ?v_m ?v_c ?v_1 ?v_2 ?v_3 ?e_C ?e_i ?l_eI ?q_eI ?k_eI ?e_f ?e_g ?e_d ?e_o ?e_s ?e_m ?e_c ?e_1 ?e_2 ?e_3 ?e_4 ?r_C ?r_i ?l_rI ?q_rI ?k_rI ?r_f ?r_g ?r_d ?r_o ?r_s ?r_m ?r_c ?r_1 ?r_2 ?a_ahead ?l_ahead ?q_ahead ?k_ahead ?i_ahead ?a_passes ?l_passes ?q_passes ?k_passes ?i_passes ?a_take ?l_take ?q_take ?k_take ?i_take ?x_C ?x_l ?x_n ?x_1 ?x_s ?x_2 ?x_3 ?x_4 ?x_5 ?l_xI ?q_xI ?k_xI ?x_o ?x_c ?hTree
    (case a_SIGN => k_is)
    (case a_TOP => k_is)
    (case a_BEYOND => k_is)
    (case a_DIGITS => k_is)
    (case a_LAST_EXPONENT => k_is)
    (case a_OFFSET => k_is)
    (case a_PLUS_INFINITE => k_is)
    (case a_MINUS_INFINITE => k_is)
    (case a_GREATEST => k_is)
    (case a_EMPTY => k_is)
    (case a_INWARD => k_is)
    (case a_OUTWARD => k_is)
    (case a_NEAREST => k_is)
    (case a_MOST_BYTES => k_is)
    (case a_MOST_EXPONENT_DIGITS => k_is)
    (case b_len => k_is)
    (case b_max => k_is)
    (case b_min => k_is)
    (case b_ord => k_is)
    (case b_range => k_is)
    (case a_exponent_of => k_is)
    (case l_exponent_of => k_is)
    (case q_exponent_of => k_is)
    (case k_exponent_of => k_is)
    (case a_significand_of => k_is)
    (case l_significand_of => k_is)
    (case q_significand_of => k_is)
    (case k_significand_of => k_is)
    (case a_made_normal => k_is)
    (case l_made_normal => k_is)
    (case q_made_normal => k_is)
    (case k_made_normal => k_is)
    (case a_told => k_is)
    (case l_told => k_is)
    (case q_told => k_is)
    (case k_told => k_is)
    (case a_opposite => k_is)
    (case l_opposite => k_is)
    (case q_opposite => k_is)
    (case k_opposite => k_is)
    (case a_shortened => k_is)
    (case l_shortened => k_is)
    (case q_shortened => k_is)
    (case k_shortened => k_is)
    (case a_size_rounded => k_is)
    (case l_size_rounded => k_is)
    (case q_size_rounded => k_is)
    (case k_size_rounded => k_is)
    (case a_low_end => k_is)
    (case l_low_end => k_is)
    (case q_low_end => k_is)
    (case k_low_end => k_is)
    (case a_high_end => k_is)
    (case l_high_end => k_is)
    (case q_high_end => k_is)
    (case k_high_end => k_is)
    (case a_endless => k_is)
    (case l_endless => k_is)
    (case q_endless => k_is)
    (case k_endless => k_is)
    (case a_finer => k_is)
    (case l_finer => k_is)
    (case q_finer => k_is)
    (case k_finer => k_is)
    (case a_over => k_is)
    (case l_over => k_is)
    (case q_over => k_is)
    (case k_over => k_is)
    (case a_digit_of => k_is)
    (case l_digit_of => k_is)
    (case q_digit_of => k_is)
    (case k_digit_of => k_is)
    (case a_take_digits => k_is)
    (case l_take_digits => k_is)
    (case q_take_digits => k_is)
    (case k_take_digits => k_is)
    (case a_take_exponent => k_is)
    (case l_take_exponent => k_is)
    (case q_take_exponent => k_is)
    (case k_take_exponent => k_is)
    (case a_take_finite => k_is)
    (case l_take_finite => k_is)
    (case q_take_finite => k_is)
    (case k_take_finite => k_is)
    (case a_take_number => k_is)
    (case l_take_number => k_is)
    (case q_take_number => k_is)
    (case k_take_number => k_is)
    (case a_take_ends => k_is)
    (case l_take_ends => k_is)
    (case q_take_ends => k_is)
    (case k_take_ends => k_is)
    (case a_ends_said => k_is)
    (case l_ends_said => k_is)
    (case q_ends_said => k_is)
    (case k_ends_said => k_is)
    (case a_power_of_five => k_is)
    (case l_power_of_five => k_is)
    (case q_power_of_five => k_is)
    (case k_power_of_five => k_is)
    (case a_scaled => k_is)
    (case l_scaled => k_is)
    (case q_scaled => k_is)
    (case k_scaled => k_is)
    (case a_is_above => k_is)
    (case l_is_above => k_is)
    (case q_is_above => k_is)
    (case k_is_above => k_is)
    (case a_can_be_ends => k_is)
    (case l_can_be_ends => k_is)
    (case q_can_be_ends => k_is)
    (case k_can_be_ends => k_is)
    (case a_value_beside => k_is)
    (case l_value_beside => k_is)
    (case q_value_beside => k_is)
    (case k_value_beside => k_is)
    (case a_read => k_is)
    (case l_read => k_is)
    (case q_read => k_is)
    (case k_read => k_is)
    (case v_C => k_is)
    (case v_i => k_is)
    (case l_vI => k_is)
    (case q_vI => k_is)
    (case k_vI => k_is)
    (case v_f => k_is)
    (case v_g => k_is)
    (case v_d => k_is)
    (case v_o => k_is)
    (case v_s => k_is)
    (case v_m => k_is)
    (case v_c => k_is)
    (case v_1 => k_is)
    (case v_2 => k_is)
    (case v_3 => k_is)
    (case e_C => k_is)
    (case e_i => k_is)
    (case l_eI => k_is)
    (case q_eI => k_is)
    (case k_eI => k_is)
    (case e_f => k_is)
    (case e_g => k_is)
    (case e_d => k_is)
    (case e_o => k_is)
    (case e_s => k_is)
    (case e_m => k_is)
    (case e_c => k_is)
    (case e_1 => k_is)
    (case e_2 => k_is)
    (case e_3 => k_is)
    (case e_4 => k_is)
    (case r_C => k_is)
    (case r_i => k_is)
    (case l_rI => k_is)
    (case q_rI => k_is)
    (case k_rI => k_is)
    (case r_f => k_is)
    (case r_g => k_is)
    (case r_d => k_is)
    (case r_o => k_is)
    (case r_s => k_is)
    (case r_m => k_is)
    (case r_c => k_is)
    (case r_1 => k_is)
    (case r_2 => k_is)
    (case a_ahead => k_is)
    (case l_ahead => k_is)
    (case q_ahead => k_is)
    (case k_ahead => k_is)
    (case i_ahead => k_is)
    (case a_passes => k_is)
    (case l_passes => k_is)
    (case q_passes => k_is)
    (case k_passes => k_is)
    (case i_passes => k_is)
    (case a_take => k_is)
    (case l_take => k_is)
    (case q_take => k_is)
    (case k_take => k_is)
    (case i_take => k_is)
    (case x_C => k_is)
    (case x_l => k_is)
    (case x_n => k_is)
    (case x_1 => k_is)
    (case x_s => rfl)
    (case x_2 => k_is)
    (case x_3 => k_is)
    (case x_4 => k_is)
    (case x_5 => k_is)
    (case l_xI => k_is)
    (case q_xI => k_is)
    (case k_xI => k_is)
    (case x_o => rfl)
    (case x_c => k_is)
    (case hTree => rfl)
  case S =>
    intro K H xs a hO hwi hask hx
    obtain ⟨l, u⟩ := a
    have q : (Codec.inList 0 9000 (Codec.inInt 0 255) l && true) = true := hwi
    simp only [Codec.inList, Codec.inInt, Bool.and_eq_true, decide_eq_true_eq, Bool.and_true, List.all_eq_true] at q
    have hx' : L2.DwAll K H xs [WData.list (l.map WData.int)] := hx
    cases hx' with
    | cons h0 h1 =>
    cases h1
    cases h0 with
    | lst hS hd =>
    have e := L2.ints_dw l _ hd
    subst e
    refine ⟨l, _, rfl, hS, fun H' p hp => ?_⟩
    show L2.Dw K H' (.ref p) (WData.list ((PyWrxtee.read l).map WData.int))
    rw [Bx.read_P (fun z m => q.2 z m)]
    exact .lst (L2.SqL.of hp) (L2.dw_ints _)
#print axioms PySem.Challenge.cw_betwixt_s12_read_holds