import PyProof.Rows.All
import Wide.All
import OpenK.AllK
import Wide.FinOn
import PyProof.EqAt
import PyProof.EqKinds
import PyProof.TupleCall
import KE.BitLaws
import Open.SpecLaws
import KE.OsHead
import KE.OsGo
import PyProof.FitsBits
import PyProof.NoPylong
import PyProof.WalkInts
import KE.KMinKey
import PyProof.WalksMore
import PySem.Challenge.RW_betwixt_s03_two
section
set_option Elab.async false
set_option linter.all false
set_option maxRecDepth 100000
/-! THE HAND LAYER, for ints, bools, texts, own classes, lists, tuples, dicts, comprehensions, walks over dicts, enumerate, zip, reversed, texts, calls, loops. Paste it whole ahead of your own text; what your proof does not reach may be deleted. -/
namespace L2
open PySem PySem.Spec PyProof.Rows
/-- a key: an int or a str -/
abbrev Key := Sum Int Str
def keyIs : Key → Value → Bool
  | .inl k, v => Value.isInt k v
  | .inr x, v => Value.isStrOf x v
def keyH (w : World) : Key → Int
  | .inl k => hashInt k
  | .inr x => hashStr w x
theorem keyIs_shape : ∀ {k : Key} {v : Value}, keyIs k v = true → (∃ i t, k = Sum.inl i ∧ v = Value.int i t) ∨ (∃ x t, k = Sum.inr x ∧ v = Value.str x t)
  | .inl i, v, h => by
    obtain ⟨t, e⟩ := Value.isInt_shape (k := i) (v := v) h
    exact .inl ⟨i, t, rfl, e⟩
  | .inr x, v, h => by
    obtain ⟨t, e⟩ := Value.isStrOf_shape (x := x) (v := v) h
    exact .inr ⟨x, t, rfl, e⟩
theorem key_ll (a b : Int) : decide ((Sum.inl a : Key) = Sum.inl b) = (a == b) := by
  by_cases e : a = b
  · subst e; simp
  · have h : ¬ (Sum.inl a : Key) = Sum.inl b := fun q => e (Sum.inl.inj q)
    rw [decide_eq_false h]
    exact (beq_eq_false_iff_ne.mpr e).symm
theorem key_rr (a b : Str) : decide ((Sum.inr a : Key) = Sum.inr b) = decide (a = b) := by
  by_cases e : a = b
  · subst e; simp
  · have h : ¬ (Sum.inr a : Key) = Sum.inr b := fun q => e (Sum.inr.inj q)
    rw [decide_eq_false h, decide_eq_false e]
theorem key_lr (a : Int) (b : Str) : decide ((Sum.inl a : Key) = Sum.inr b) = false := decide_eq_false (fun q => nomatch q)
theorem key_rl (a : Str) (b : Int) : decide ((Sum.inr a : Key) = Sum.inl b) = false := decide_eq_false (fun q => nomatch q)
def mixKind (prog : Program) (w : World) : PySem.KeyKind prog w Key where
  is := keyIs
  hash := keyH w
  inj := fun v a b ha hb => by
    rcases keyIs_shape ha with ⟨i, t, rfl, rfl⟩ | ⟨x, t, rfl, rfl⟩
    · rcases keyIs_shape hb with ⟨j, u, rfl, e⟩ | ⟨y, u, rfl, e⟩
      · injection e with e1 _; rw [e1]
      · exact nomatch e
    · rcases keyIs_shape hb with ⟨j, u, rfl, e⟩ | ⟨y, u, rfl, e⟩
      · exact nomatch e
      · injection e with e1 _; rw [e1]
  byValue := fun k v h => by
    rcases keyIs_shape h with ⟨i, t, rfl, rfl⟩ | ⟨x, t, rfl, rfl⟩ <;> rfl
  pyHash := fun hv h => by
    rcases keyIs_shape hv with ⟨i, t, rfl, rfl⟩ | ⟨x, t, rfl, rfl⟩
    · exact wpAny_pyHash_int h
    · exact wpAny_pyHash_str h
  eqBool := fun hu hv h => by
    rcases keyIs_shape hu with ⟨i, t, rfl, rfl⟩ | ⟨x, t, rfl, rfl⟩
    · rcases keyIs_shape hv with ⟨j, u, rfl, rfl⟩ | ⟨y, u, rfl, rfl⟩
      · rw [key_ll] at h; exact wpAny_eqBool_int h
      · rw [key_lr] at h; exact SeqAt.EqAt.int_str i t y u _ _ _ _ h
    · rcases keyIs_shape hv with ⟨j, u, rfl, rfl⟩ | ⟨y, u, rfl, rfl⟩
      · rw [key_rl] at h; exact SeqAt.EqAt.str_int x t j u _ _ _ _ h
      · rw [key_rr] at h; exact wpAny_eqBool_str h
  «strs» := fun k x t v h => by
    rcases keyIs_shape h with ⟨i, u, rfl, e⟩ | ⟨y, u, rfl, e⟩
    · exact nomatch e
    · injection e with e1 _
      subst e1
      cases v <;> rfl
end L2
namespace L2
open PySem PySem.Spec PyProof.Rows
/-- a value, without the heap -/
inductive V where
  | non | bl (b : Bool) | int (i : Int) | str (x : Str) | byt (b : Array UInt8) | flt (b : UInt64) | ref (a : Addr) | ty (n : String)
  deriving DecidableEq
def RelV : V → Value → Prop
  | .non, u => u = Value.none
  | .bl b, u => u = Value.bool b
  | .int i, u => ∃ t, u = Value.int i t
  | .str x, u => ∃ t, u = Value.str x t
  | .byt b, u => ∃ t, u = Value.bytes b t
  | .flt b, u => ∃ t, u = Value.float b t
  | .ref a, u => u = Value.ref a
  | .ty n, u => u = Value.type n
abbrev Vals : List V → List Value → Prop := Paired RelV
theorem Vals.length {xs : List V} {us : List Value} (r : Vals xs us) : xs.length = us.length := Paired.length r
theorem Vals.get : ∀ {xs : List V} {us : List Value} {i : Nat} {x : V}, Vals xs us → xs[i]? = some x → ∃ u, us[i]? = some u ∧ RelV x u
  | _, _, _, _, .nil, e => by simp at e
  | _, _, 0, _, .cons r _, e => by simp at e; subst e; exact ⟨_, rfl, r⟩
  | _, _, i + 1, x, .cons _ t, e => by
    obtain ⟨u, h1, h2⟩ := Vals.get (i := i) (x := x) t (by simpa using e)
    exact ⟨u, by simpa using h1, h2⟩
theorem Vals.set {x : V} {u : Value} (r : RelV x u) : ∀ {xs : List V} {us : List Value} (i : Nat), Vals xs us → Vals (xs.set i x) (us.set i u)
  | _, _, _, .nil => .nil
  | _, _, 0, .cons _ t => .cons r t
  | _, _, i + 1, .cons q t => .cons q (Vals.set r i t)
theorem Vals.append : ∀ {xs ys : List V} {us ws : List Value}, Vals xs us → Vals ys ws → Vals (xs ++ ys) (us ++ ws)
  | _, _, _, _, .nil, s => s
  | _, _, _, _, .cons r t, s => .cons r (Vals.append t s)
theorem Vals.take : ∀ {xs : List V} {us : List Value} (n : Nat), Vals xs us → Vals (xs.take n) (us.take n)
  | _, _, 0, _ => .nil
  | _, _, _ + 1, .nil => .nil
  | _, _, n + 1, .cons r t => .cons r (Vals.take n t)
theorem Vals.drop : ∀ {xs : List V} {us : List Value} (n : Nat), Vals xs us → Vals (xs.drop n) (us.drop n)
  | _, _, 0, r => r
  | _, _, _ + 1, .nil => .nil
  | _, _, n + 1, .cons _ t => Vals.drop n t
def RelO : Option V → Option Value → Prop
  | some v, some u => RelV v u
  | none, none => True
  | _, _ => False
def KV {κ : Type} : List (κ × V) → List (κ × Value) → Prop := Paired fun (p : κ × V) (q : κ × Value) => p.1 = q.1 ∧ RelV p.2 q.2
/-- a key of a dict (00_mix): an int or a text -/
def kV : Key → V
  | .inl i => .int i
  | .inr x => .str x
/-- what stands at a tracked address -/
inductive HO where
  /-- a list -/
  | lst (xs : List V)
  /-- a tuple (never changes) -/
  | tup (xs : List V)
  /-- a dict whose keys are ints and texts; one whose keys are tuples of ints and texts (the empty one is both) -/
  | dK (kvs : List (Key × V)) | dT (kvs : List (List Key × V))
  /-- a set of ints: its members, its size -/
  | set (S : Int → Bool) (n : Nat)
  /-- an instance of the class at C, its dict at dx, its attributes -/
  | ins (C dx : Addr) (fs : List (Str × V))
  /-- the dict of the instance at x -/
  | own (x : Addr)
  /-- the dict of an exception -/
  | xd (fs : List (Str × V))
  /-- a bound method, f of x -/
  | met (f x : Addr)
  /-- a range object lo, lo + 1, .. below hi -/
  | rng (lo hi : Int)
  /-- a thing that is known to the object (the script; a dict while a loop walks it): read, never written while it is so -/
  | frz (o : Obj) (u : HO)
  /-- a code object's table -/
  | tbl (ps : Array Value)
  /-- any other thing, by what is true of its one object (a def of one's own: SetO a S n := HO.ext fun h => ..) -/
  | ext (φ : Heap → Prop)
abbrev Hp := Addr → Option HO
def upd (H : Hp) (a : Addr) (o : HO) : Hp := fun b => if b = a then some o else H b
theorem upd_same {H : Hp} {a : Addr} {o : HO} : upd H a o a = some o := by unfold upd; rw [if_pos rfl]
theorem upd_ne {H : Hp} {a b : Addr} {o : HO} (h : b ≠ a) : upd H a o b = H b := by unfold upd; rw [if_neg h]
theorem ne_of_none {H : Hp} {a b : Addr} {o : HO} (h : H a = some o) (h' : H b = none) : a ≠ b := by
  intro e; subst e; rw [h] at h'; cases h'
section
variable (P : Program) (w : World)
def ObjOk (H : Hp) (h : Heap) (a : Addr) : HO → Prop
  | .lst xs => xs.length ≤ sizeLine ∧ ∃ (its : List Value) (n : Nat), Vals xs its ∧ h.get? a = some { cls := .type "list", data := .seq its.toArray n }
  | .tup xs => xs.length ≤ sizeLine ∧ ∃ its : List Value, Vals xs its ∧ IsTup h a its.toArray
  | .dK kvs => kvs.length ≤ sizeLine ∧ (a == sysModules) = false ∧ ∃ vs, KV kvs vs ∧ h.DictOf (mixKind P w) a vs
  | .dT kvs => kvs.length ≤ sizeLine ∧ (a == sysModules) = false ∧ ∃ xs : List (List Key × Addr × Value),
      Paired (fun (p : List Key × V) (q : List Key × Addr × Value) => p.1 = q.1 ∧ H q.2.1 = some (.tup (p.1.map kV)) ∧ RelV p.2 q.2.2) kvs xs ∧
      ∃ o es ep, h.get? a = some o ∧ o.ExactDict ∧ o.data = .dict es ep ∧ es.toList = xs.map (entryOfKey (tupleKind (mixKind P w))) ∧ (xs.map (·.1)).Nodup
  | .set S n => h.SetOf (intKind P w) a S n
  | .ins C dx fs => H dx = some (.own a) ∧ fs.length ≤ 1000 ∧ dx ≠ a ∧ h.get? a = some (PySem.W.instObj C dx) ∧
      ∃ mA, h.Ns1 dx mA ∧ (∀ f, RelO (fs.lookup f) (mA f)) ∧ PySem.Within mA (fs.map (·.1))
  | .own _ => ∃ o, h.get? a = some o
  | .xd fs => ∃ mA, h.Ns1 a mA ∧ ∀ f, RelO (fs.lookup f) (mA f)
  | .rng lo hi => ∃ t u v, h.get? a = some { cls := .type "range", data := .fields #[.int lo t, .int hi u, .int 1 v] }
  | .frz o u => h.get? a = some o ∧ ObjOk H h a u
  | .tbl ps => h.get? a = some { cls := .none, data := .fields ps }
  | .met f x => h.get? a = some (PySem.W.methodObj (.ref f) (.ref x))
  | .ext φ => φ h ∧ (∃ o, h.get? a = some o) ∧ ∀ h1 h2 : Heap, φ h1 → (∀ o, h1.get? a = some o → h2.get? a = some o) → φ h2
/-- the abstract heap is held -/
def HOk (H : Hp) (h : Heap) : Prop := ∀ a o, H a = some o → ObjOk P w H h a o
end
section
variable {P : Program} {w : World} {H H' : Hp} {h h' : Heap} {a : Addr} {o : HO}
theorem ObjOk.lt (x : ObjOk P w H h a o) : a < h.objs.size := by
  cases o with
  | lst xs => obtain ⟨_, _, _, _, e⟩ := x; exact Heap.lt_size e
  | tup xs => obtain ⟨_, _, _, p⟩ := x; exact p.lt
  | dK kvs => obtain ⟨_, _, _, _, o, _, _, e, _⟩ := x; exact Heap.lt_size e
  | dT kvs => obtain ⟨_, _, _, _, o, _, _, e, _⟩ := x; exact Heap.lt_size e
  | set S n => obtain ⟨o, _, _, _, e, _⟩ := x; exact Heap.lt_size e
  | ins C dx fs => obtain ⟨_, _, _, e, _⟩ := x; exact Heap.lt_size e
  | own y => obtain ⟨_, e⟩ := x; exact Heap.lt_size e
  | xd fs => obtain ⟨_, ⟨_, _, _, e, _⟩, _⟩ := x; exact Heap.lt_size e
  | rng lo hi => obtain ⟨_, _, _, e⟩ := x; exact Heap.lt_size e
  | frz ob u => obtain ⟨e, _⟩ := x; exact Heap.lt_size e
  | tbl ps => exact Heap.lt_size (show h.get? a = some _ from x)
  | met f y => exact Heap.lt_size (show h.get? a = some _ from x)
  | ext φ => obtain ⟨_, ⟨_, e⟩, _⟩ := x; exact Heap.lt_size e
theorem Paired.mapP {α β : Type} {F G : α → β → Prop} : ∀ {l₁ : List α} {l₂ : List β}, Paired F l₁ l₂ → (∀ a b, F a b → G a b) → Paired G l₁ l₂
  | _, _, .nil, _ => .nil
  | _, _, .cons r t, f => .cons (f _ _ r) (Paired.mapP t f)
/-- what an object's description leans on: its own object, its own dict, the tuples -/
theorem ObjOk.stay (x : ObjOk P w H h a o) (k : ∀ b u, (b = a ∨ H b = some (.own a)) → h.get? b = some u → h'.get? b = some u)
    (ho : ∀ b, H b = some (.own a) → H' b = some (.own a)) (ht : ∀ b xs, H b = some (.tup xs) → H' b = some (.tup xs)) : ObjOk P w H' h' a o := by
  induction o with
  | lst xs => obtain ⟨z, its, n, r, e⟩ := x; exact ⟨z, its, n, r, k _ _ (.inl rfl) e⟩
  | tup xs => obtain ⟨z, its, r, ob, e, c⟩ := x; exact ⟨z, its, r, ob, k _ _ (.inl rfl) e, c⟩
  | dK kvs => obtain ⟨z, y, vs, r, ob, es, ep, e, c⟩ := x; exact ⟨z, y, vs, r, ob, es, ep, k _ _ (.inl rfl) e, c⟩
  | dT kvs =>
    obtain ⟨z, y, xs, r, ob, es, ep, e, c⟩ := x
    exact ⟨z, y, xs, Paired.mapP r fun p q z => ⟨z.1, ht _ _ z.2.1, z.2.2⟩, ob, es, ep, k _ _ (.inl rfl) e, c⟩
  | set S n => obtain ⟨ob, es, ep, t, e, c⟩ := x; exact ⟨ob, es, ep, t, k _ _ (.inl rfl) e, c⟩
  | ins C dx fs =>
    obtain ⟨d, z, ne, e, mA, ⟨od, es, ep, e2, c⟩, r⟩ := x
    exact ⟨ho _ d, z, ne, k _ _ (.inl rfl) e, mA, ⟨od, es, ep, k _ _ (.inr d) e2, c⟩, r⟩
  | own y => obtain ⟨ob, e⟩ := x; exact ⟨ob, k _ _ (.inl rfl) e⟩
  | xd fs => obtain ⟨mA, ⟨od, es, ep, e, c⟩, r⟩ := x; exact ⟨mA, ⟨od, es, ep, k _ _ (.inl rfl) e, c⟩, r⟩
  | rng lo hi => obtain ⟨t, u, v, e⟩ := x; exact ⟨t, u, v, k _ _ (.inl rfl) e⟩
  | frz ob u ih => obtain ⟨e, q⟩ := x; exact ⟨k _ _ (.inl rfl) e, ih q⟩
  | tbl ps =>
    have e : h.get? a = some { cls := .none, data := .fields ps } := x
    show h'.get? a = some { cls := .none, data := .fields ps }
    exact k a _ (.inl rfl) e
  | met f y =>
    have e : h.get? a = some (PySem.W.methodObj (.ref f) (.ref y)) := x
    show h'.get? a = some (PySem.W.methodObj (.ref f) (.ref y))
    exact k a _ (.inl rfl) e
  | ext φ => obtain ⟨p, ⟨o, e⟩, st⟩ := x; exact ⟨st _ _ p fun o q => k _ _ (.inl rfl) q, ⟨o, k _ _ (.inl rfl) e⟩, st⟩
theorem HOk.lt (x : HOk P w H h) (e : H a = some o) : a < h.objs.size := (x a o e).lt
theorem HOk.fresh (x : HOk P w H h) (e : h.objs.size ≤ a) : H a = none := by
  cases q : H a with
  | none => rfl
  | some u => exact absurd (Nat.lt_of_lt_of_le (x.lt q) e) (Nat.lt_irrefl _)
/-- every object of the heap is kept -/
theorem HOk.kept (x : HOk P w H h) (k : ∀ b u, h.get? b = some u → h'.get? b = some u) : HOk P w H h' := fun a o e =>
  (x a o e).stay (fun b u _ q => k b u q) (fun _ q => q) fun _ _ q => q
/-- a new object is laid and tracked -/
theorem HOk.laid (x : HOk P w H h) (k : ∀ b u, h.get? b = some u → h'.get? b = some u) (hp : h.objs.size ≤ a) (new : ObjOk P w (upd H a o) h' a o) : HOk P w (upd H a o) h' := fun b u e => by
  have hn := x.fresh hp
  by_cases hb : b = a
  · subst hb; rw [upd_same] at e; cases e; exact new
  · rw [upd_ne hb] at e
    exact (x b u e).stay (fun c v _ q => k c v q) (fun c q => by rw [upd_ne (ne_of_none q hn)]; exact q) fun c xs q => by rw [upd_ne (ne_of_none q hn)]; exact q
end
/-- what may be read as u: it is u, or a known u -/
def Rd (H : Hp) (a : Addr) (u : HO) : Prop := H a = some u ∨ ∃ o, H a = some (.frz o u)
theorem Rd.of {H : Hp} {a : Addr} {u : HO} (h : H a = some u) : Rd H a u := .inl h
theorem Rd.ok {P : Program} {w : World} {H : Hp} {h : Heap} {a : Addr} {u : HO} (r : Rd H a u) (x : HOk P w H h) : ObjOk P w H h a u := by
  rcases r with r | ⟨o, r⟩
  · exact x a u r
  · obtain ⟨_, q⟩ := x a _ r
    exact q
/-- what may be written -/
def Mut : Option HO → Prop
  | some (.lst _) => True
  | some (.dK _) => True
  | some (.dT _) => True
  | some (.set _ _) => True
  | some (.ins _ _ _) => True
  | some (.ext _) => True
  | _ => False
section
variable {P : Program} {w : World} {H : Hp} {h h' : Heap} {x e : Addr} {o' : HO}
/-- the object at e is changed: x itself, or the dict of the instance x -/
theorem HOk.write (ok : HOk P w H h) (mu : Mut (H x)) (he : e = x ∨ H e = some (.own x)) (k : ∀ b u, b ≠ e → h.get? b = some u → h'.get? b = some u) (heo : ∃ u, h'.get? e = some u)
    (new : ObjOk P w (upd H x o') h' x o') : HOk P w (upd H x o') h' := fun b u q => by
  have nown : ∀ c y, H c = some (.own y) → c ≠ x := fun c y r z => by subst z; rw [r] at mu; exact mu
  have ntup : ∀ c xs, H c = some (.tup xs) → c ≠ x := fun c xs r z => by subst z; rw [r] at mu; exact mu
  by_cases hb : b = x
  · subst hb; rw [upd_same] at q; cases q; exact new
  · rw [upd_ne hb] at q
    by_cases hbe : b = e
    · have q' : H b = some (.own x) := by
        rcases he with z | z
        · exact absurd (hbe.trans z) hb
        · rw [hbe]; exact z
      rw [q] at q'; cases q'
      obtain ⟨v, hv⟩ := heo
      exact ⟨v, by rw [hbe]; exact hv⟩
    · refine (ok b u q).stay (fun c v hc r => k c v ?_ r) (fun c r => by rw [upd_ne (nown c b r)]; exact r) fun c xs r => by rw [upd_ne (ntup c xs r)]; exact r
      rcases hc with rfl | hc
      · exact hbe
      · rintro rfl
        rcases he with z | z
        · exact nown c b hc z
        · rw [hc] at z; cases z; exact hb rfl
end
/-! ### kept unless tracked; of the frames at fs (the callers') the slots may change (an exception that passes writes there); of the records at ex (iterators) nothing is said -/
structure Un (fs ex : List Addr) (H H' : Hp) (h h' : Heap) : Prop where
  keep : ∀ b o, h.get? b = some o → H b = none → b ∉ fs → b ∉ ex → h'.get? b = some o
  slot : ∀ b o, h.get? b = some o → H b = none → b ∈ fs → b ∉ ex → ∃ sl, h'.get? b = some { o with slots := sl }
  free : ∀ b o, h.get? b = some o → H b = none → b ∉ ex → H' b = none
  there : ∀ b o, h.get? b = some o → b ∉ ex → ∃ o', h'.get? b = some o'
  tups : ∀ b xs, H b = some (.tup xs) → H' b = some (.tup xs)
  frzs : ∀ b o u, H b = some (.frz o u) → H' b = some (.frz o u)
  tbls : ∀ b ps, H b = some (.tbl ps) → ∃ more, H' b = some (.tbl (ps ++ more))
section
variable {fs fs' ex ex' : List Addr} {H H1 H2 : Hp} {h h1 h2 h' : Heap} {a x e : Addr} {o : HO}
theorem Un.any (u : Un fs ex H H1 h h1) {b : Addr} {ob : Obj} (q : h.get? b = some ob) (n : H b = none) (hx : b ∉ ex) : ∃ sl, h1.get? b = some { ob with slots := sl } := by
  by_cases hb : b ∈ fs
  · exact u.slot b ob q n hb hx
  · exact ⟨ob.slots, u.keep b ob q n hb hx⟩
theorem Un.trans (a : Un fs ex H H1 h h1) (b : Un fs ex H1 H2 h1 h2) : Un fs ex H H2 h h2 where
  keep := fun c ob q n hc hx => b.keep c ob (a.keep c ob q n hc hx) (a.free c ob q n hx) hc hx
  slot := fun c ob q n hc hx => by
    obtain ⟨sl, e1⟩ := a.slot c ob q n hc hx
    obtain ⟨sl', e2⟩ := b.slot c _ e1 (a.free c ob q n hx) hc hx
    exact ⟨sl', e2⟩
  free := fun c ob q n hx => by
    obtain ⟨o', e1⟩ := a.there c ob q hx
    exact b.free c o' e1 (a.free c ob q n hx) hx
  there := fun c ob q hx => by
    obtain ⟨o', e1⟩ := a.there c ob q hx
    exact b.there c o' e1 hx
  tups := fun c xs q => b.tups c xs (a.tups c xs q)
  frzs := fun c ob xs q => b.frzs c ob xs (a.frzs c ob xs q)
  tbls := fun c ps q => by
    obtain ⟨m1, e1⟩ := a.tbls c ps q
    obtain ⟨m2, e2⟩ := b.tbls c _ e1
    exact ⟨m1 ++ m2, by rw [e2, Array.append_assoc]⟩
theorem Un.kept (k : ∀ b u, h.get? b = some u → h'.get? b = some u) : Un fs ex H H h h' :=
  ⟨fun b ob q _ _ _ => k b ob q, fun b ob q _ _ _ => ⟨ob.slots, k b ob q⟩, fun _ _ _ n _ => n, fun b ob q _ => ⟨ob, k b ob q⟩, fun _ _ q => q, fun _ _ _ q => q, fun _ ps q => ⟨#[], by rw [q]; simp⟩⟩
theorem Un.refl : Un fs ex H H h h := Un.kept fun _ _ q => q
theorem Un.laid (k : ∀ b u, h.get? b = some u → h'.get? b = some u) (hp : h.objs.size ≤ a) (hn : H a = none) : Un fs ex H (upd H a o) h h' where
  keep := fun b u q _ _ _ => k b u q
  slot := fun b u q _ _ _ => ⟨u.slots, k b u q⟩
  free := fun b u q n _ => by rw [upd_ne (Nat.ne_of_lt (Nat.lt_of_lt_of_le (Heap.lt_size q) hp))]; exact n
  there := fun b u q _ => ⟨u, k b u q⟩
  tups := fun b xs q => by rw [upd_ne (ne_of_none q hn)]; exact q
  frzs := fun b u xs q => by rw [upd_ne (ne_of_none q hn)]; exact q
  tbls := fun b ps q => ⟨#[], by rw [upd_ne (ne_of_none q hn), q]; simp⟩
theorem Un.write (mu : Mut (H x)) (he : e = x ∨ H e = some (.own x)) (k : ∀ b u, b ≠ e → h.get? b = some u → h'.get? b = some u) (heo : ∃ u, h'.get? e = some u) : Un fs ex H (upd H x o) h h' := by
  have hx : ∀ b, H b = none → b ≠ x := fun b n z => by subst z; rw [n] at mu; exact mu
  have hb : ∀ b, H b = none → b ≠ e := fun b n z => by
    subst z
    rcases he with r | r
    · exact hx b n r
    · rw [n] at r; cases r
  have hm : ∀ b u, H b = some u → ¬ Mut (some u) → b ≠ x := fun b u q nm z => by subst z; rw [q] at mu; exact nm mu
  refine ⟨fun b u q n _ _ => k b u (hb b n) q, fun b u q n _ _ => ⟨u.slots, k b u (hb b n) q⟩, fun b u q n _ => by rw [upd_ne (hx b n)]; exact n, fun b u q _ => ?_,
    fun b xs q => by rw [upd_ne (hm b _ q fun z => z)]; exact q, fun b u xs q => by rw [upd_ne (hm b _ q fun z => z)]; exact q, fun b ps q => ⟨#[], by rw [upd_ne (hm b _ q fun z => z), q]; simp⟩⟩
  by_cases hbe : b = e
  · subst hbe; exact heo
  · exact ⟨u, k b u hbe q⟩
theorem Un.mono (u : Un fs ex H H1 h h1) (hs : ∀ b ∈ fs, b ∈ fs') (hx : ∀ b ∈ ex, b ∈ ex') : Un fs' ex' H H1 h h1 :=
  ⟨fun b ob q n hb he => u.keep b ob q n (fun z => hb (hs b z)) fun z => he (hx b z), fun _ _ q n _ he => u.any q n fun z => he (hx _ z), fun b ob q n he => u.free b ob q n fun z => he (hx b z), fun b ob q he => u.there b ob q fun z => he (hx b z), u.tups, u.frzs, u.tbls⟩
end
/-! ### the heap without what is tracked -/
def trk (h : Heap) (H : Hp) : List Addr := (List.range h.objs.size).filter fun a => (H a).isSome
def hidT (h : Heap) (H : Hp) : Heap := PySem.W.hideAll h (trk h H)
theorem hidT_size (h : Heap) (H : Hp) : (hidT h H).objs.size = h.objs.size := PySem.W.hideAll_size _ _
theorem hidT_get {h : Heap} {H : Hp} {b : Addr} {o : Obj} (e : h.get? b = some o) (n : H b = none) : (hidT h H).get? b = some o :=
  PySem.W.hideAll_get _ e fun hm => by
    have q : (H b).isSome = true := (List.mem_filter.mp hm).2
    rw [n] at q; simp at q
theorem of_hidT {h : Heap} {H : Hp} {b : Addr} {o : Obj} (e : (hidT h H).get? b = some o) : h.get? b = some o ∧ H b = none := by
  have e' : h.get? b = some o := PySem.W.of_hideAll (trk h H) e
  refine ⟨e', ?_⟩
  cases q : H b with
  | none => rfl
  | some x =>
    have hm : b ∈ trk h H := List.mem_filter.mpr ⟨List.mem_range.mpr (Heap.lt_size e'), by simp [q]⟩
    have z : (hidT h H).get? b = none := PySem.W.hideAll_none (trk h H) hm
    rw [z] at e; cases e
/-! ### OpenK's ledger, filled with every new object but one -/
def allNews (g h : Heap) (L : Addr) : List (Addr × Obj) := (List.range h.objs.size).filterMap fun a => if a = L ∨ (g.get? a).isSome = true then none else (h.get? a).map fun o => (a, o)
def rest (g h : Heap) (L d : Addr) : List (Addr × Obj) := (allNews g h L).filter fun p => decide (p.1 ≠ d)
end L2
namespace L2
open PySem PySem.Spec PyProof.Rows
/-- the module's facts, over the base: the heap at the law's entry without what is tracked there -/
structure Mod (K : PySem.W.Frag) (mg : Str → Option Value) (base : Heap) : Prop where
  kin : K.In base
  glob : base.Ns mainGlobals mg
  blt : ∃ mb, base.Ns builtinsNs mb ∧ ∀ x : Str, x ≠ "__name__" → mb x = bootBuiltins x
  nolimit : base.NoLimit
/-- the context: a def's body (or a comprehension's block) running. base: fixed through the whole law; s₀, H₀: the entry; outer: the frames whose slots others may change (a def's callers); stack: all frames that run;
   ex: iterators that were made ahead of the entry and are walked here (a comprehension's); fn: the names whose cells were made at the entry (a def: all; a comprehension's block: its own); calm: not within an except suite; pn: pins that every state bears; xe: what is wanted of an exception that leaves the code -/
structure Cx where
  prog : Program
  w : World
  K : PySem.W.Frag
  mg : Str → Option Value
  base : Heap
  A : Around
  N : List Str
  s_0 : Shared
  H_0 : Hp
  env : Env
  outer : List Env
  stack : List Env
  ex : List Addr
  fn : Str → Bool
  calm : Bool
  pn : List (Addr × Obj)
  xe : Value → Shared → Prop
/-- the callers' frames -/
def frs (l : List Env) : List Addr := l.filterMap (·.frame)
abbrev Cx.fs (X : Cx) : List Addr := frs X.outer
def Vis (sc : Scope) (x : Str) : Prop := sc.names.lookup x = some .local ∨ sc.names.lookup x = some .cell ∨ sc.names.lookup x = some .free
def Loc (sc : Scope) (x : Str) : Prop := sc.names.lookup x = some .local ∨ sc.names.lookup x = some .cell
def Look (env : Env) (h : Heap) (m : Str → Option Value) (x : Str) (u : Value) : Prop :=
  (env.kindOf x = some .local ∧ m x = some u) ∨ ((env.kindOf x = some .cell ∨ env.kindOf x = some .free) ∧ ∃ c, env.cells.lookup x = some c ∧ h.IsCell c (some u))
structure Cx.Ok (X : Cx) : Prop where
  mod : Mod X.K X.mg X.base
  kind : X.env.scope.kind = .function
  glob : X.env.globals = mainGlobals
  blt : X.env.builtins = builtinsNs
  above : X.s_0.heap.objs.size ≤ X.env.locals
  inj : ∀ x y c, X.env.cells.lookup x = some c → X.env.cells.lookup y = some c → x = y
  has : ∀ x, (X.env.kindOf x = some .cell ∨ X.env.kindOf x = some .free) → ∃ c, X.env.cells.lookup x = some c
  cab : ∀ x c, X.fn x = true → X.env.cells.lookup x = some c → X.s_0.heap.objs.size ≤ c
  hd : X.calm = true → X.A.handled = none
  frames : X.A.frames = some X.stack
  stk : X.stack = X.outer ∨ (X.stack = X.env :: X.outer ∧ X.env.frame = some X.env.locals)
  exf : ∀ b ∈ X.ex, b ≠ X.env.locals ∧ ∀ x c, X.env.cells.lookup x = some c → c ≠ b
  bs : ∀ b o, X.base.get? b = some o → X.s_0.heap.get? b = some o ∧ X.H_0 b = none
  bsz : X.base.objs.size ≤ X.s_0.heap.objs.size
  noex : ∀ b o, X.base.get? b = some o → b ∉ X.ex
  exfs : ∀ b ∈ X.ex, b ∉ X.fs
  funs : X.s_0.heap.FunFrames X.base X.outer
  frf : ∀ b ∈ X.fs, X.H_0 b = none
structure Inv (X : Cx) (pins : List (Addr × Obj)) (σ : List (Option V)) (H : Hp) (s : Shared) : Prop where
  ok : X.Ok
  os : s.os = X.s_0.os
  bare : AllBare s.gens
  base : Un X.fs X.ex X.H_0 H X.s_0.heap s.heap
  loc : ∃ m, s.heap.Ns X.env.locals m ∧ ∀ (i : Nat) (x : Str) (v : V), X.N[i]? = some x → σ[i]? = some (some v) → Vis X.env.scope x → ∃ u, RelV v u ∧ Look X.env s.heap m x u
  cell : ∀ x c, X.env.cells.lookup x = some c → ∃ v, s.heap.IsCell c v
  free : H X.env.locals = none
  freeC : ∀ x c, X.env.cells.lookup x = some c → H c = none
  pin : ∀ p ∈ X.pn ++ pins, s.heap.get? p.1 = some p.2 ∧ H p.1 = none ∧ p.1 ≠ X.env.locals ∧ p.1 ∉ X.fs ∧ ∀ v, p.2.data ≠ .cell v
  hok : HOk X.prog X.w H s.heap
  len : σ.length = X.N.length
section
variable {X : Cx} {pins : List (Addr × Obj)} {σ : List (Option V)} {H H' : Hp} {s : Shared} {h' : Heap}
theorem Cx.Ok.nofr (ok : X.Ok) {b : Addr} {o : Obj} (e : X.base.get? b = some o) : b ∉ X.fs := fun hb => by
  have := (ok.funs.mem hb).1
  rw [e] at this; cases this
theorem Inv.bs (I : Inv X pins σ H s) : ∀ b o, X.base.get? b = some o → s.heap.get? b = some o ∧ H b = none := fun b o e =>
  ⟨I.base.keep b o (I.ok.bs b o e).1 (I.ok.bs b o e).2 (I.ok.nofr e) (I.ok.noex b o e), I.base.free b o (I.ok.bs b o e).1 (I.ok.bs b o e).2 (I.ok.noex b o e)⟩
theorem Inv.bk (I : Inv X pins σ H s) : ∀ b o, X.base.get? b = some o → s.heap.get? b = some o := fun b o e => (I.bs b o e).1
theorem Inv.mod (I : Inv X pins σ H s) : Mod X.K X.mg X.base := I.ok.mod
theorem Inv.kIn (I : Inv X pins σ H s) : X.K.In s.heap := I.ok.mod.kin.keeps I.bk
theorem Inv.nolimit (I : Inv X pins σ H s) : s.heap.NoLimit := I.ok.mod.nolimit.keeps I.bk
theorem Inv.lt (I : Inv X pins σ H s) : X.env.locals < s.heap.objs.size := let ⟨_, hn, _⟩ := I.loc; hn.lt
theorem Inv.sz (I : Inv X pins σ H s) : X.s_0.heap.objs.size ≤ s.heap.objs.size := Nat.le_trans I.ok.above (Nat.le_of_lt I.lt)
theorem Inv.nofs (I : Inv X pins σ H s) {a : Addr} (h : s.heap.objs.size ≤ a) : a ∉ X.fs := fun hb => by
  obtain ⟨_, o, ho, _⟩ := I.ok.funs.mem hb
  exact absurd (Nat.lt_of_lt_of_le (Heap.lt_size ho) (Nat.le_trans I.sz h)) (Nat.lt_irrefl _)
theorem Inv.cne (I : Inv X pins σ H s) : ∀ x c, X.env.cells.lookup x = some c → c ≠ X.env.locals := fun x c e z => by
  obtain ⟨v, o, ho, hd⟩ := I.cell x c e
  obtain ⟨m, ⟨o', es, ep, ho', hd', _⟩, _⟩ := I.loc
  rw [z, ho'] at ho; cases ho; rw [hd'] at hd; cases hd
theorem Inv.funs (I : Inv X pins σ H s) : s.heap.FunFrames X.base X.outer := by
  have all : ∀ (l : List Env), (∀ b ∈ frs l, b ∈ X.fs) → X.s_0.heap.FunFrames X.base l → s.heap.FunFrames X.base l := by
    intro l
    induction l with
    | nil => intro _ _; trivial
    | cons env r ih =>
      intro hs hl
      obtain ⟨hk, ⟨L, o, hf, hn, ho, hd⟩, hr⟩ := hl
      have hL : L ∈ X.fs := hs L (by unfold frs; rw [List.filterMap_cons, hf]; exact List.mem_cons_self)
      obtain ⟨sl, e⟩ := I.base.slot L o ho (I.ok.frf L hL) hL fun z => I.ok.exfs L z hL
      exact ⟨hk, ⟨L, _, hf, hn, e, hd⟩, ih (fun b hb => hs b (by unfold frs; rw [List.filterMap_cons, hf]; exact List.mem_cons_of_mem _ hb)) hr⟩
  exact all X.outer (fun _ hb => hb) I.ok.funs
/-- the frames that run, for a call -/
theorem Inv.stack (I : Inv X pins σ H s) : s.heap.FunFrames X.base X.stack := by
  rcases I.ok.stk with e | ⟨e, hf⟩
  · rw [e]; exact I.funs
  · rw [e]
    obtain ⟨m, hn, _⟩ := I.loc
    refine .cons (by rw [I.ok.kind]; decide) hf hn ?_ I.funs
    exact Heap.get?_none_of_le (Nat.le_trans I.ok.bsz I.ok.above)
theorem Inv.stkSub (I : Inv X pins σ H s) : ∀ b ∈ frs X.stack, b ∈ X.env.locals :: X.fs := fun b hb => by
  rcases I.ok.stk with e | ⟨e, hf⟩
  · rw [e] at hb; exact List.mem_cons_of_mem _ hb
  · rw [e] at hb
    unfold frs at hb
    rw [List.filterMap_cons, hf] at hb
    exact hb
theorem Inv.stkFree (I : Inv X pins σ H s) : ∀ b ∈ frs X.stack, H b = none := fun b hb => by
  rcases List.mem_cons.mp (I.stkSub b hb) with e | hb
  · rw [e]; exact I.free
  · obtain ⟨_, o, ho, _⟩ := I.ok.funs.mem hb
    exact I.base.free b o ho (I.ok.frf b hb) fun z => I.ok.exfs b z hb
/-- THE STEP: the untracked objects but the frame and the records at ch are kept (the callers' frames up to slots), the frame's map is kept, the new abstract heap is held -/
theorem Inv.step {g' : Array GenState} {t' : Nat} {d' : Drawn} {ch : List Addr} (I : Inv X pins σ H s)
    (hch : ∀ b ∈ ch, (b ∈ X.ex ∨ X.s_0.heap.objs.size ≤ b) ∧ b ≠ X.env.locals ∧ (∀ x c, X.env.cells.lookup x = some c → c ≠ b) ∧ ∀ p ∈ X.pn ++ pins, p.1 ≠ b)
    (keep : ∀ b o, b ≠ X.env.locals → b ∉ X.fs → b ∉ ch → s.heap.get? b = some o → H b = none → h'.get? b = some o)
    (slot : ∀ b o, b ≠ X.env.locals → b ∈ X.fs → b ∉ ch → s.heap.get? b = some o → H b = none → ∃ sl, h'.get? b = some { o with slots := sl }) (free : ∀ b o, b ∉ ch → s.heap.get? b = some o → H b = none → H' b = none)
    (there : ∀ b o, b ∉ ch → s.heap.get? b = some o → ∃ o', h'.get? b = some o')
    (tups : ∀ b xs, H b = some (.tup xs) → H' b = some (.tup xs)) (frzs : ∀ b o u, H b = some (.frz o u) → H' b = some (.frz o u)) (tbls : ∀ b ps, H b = some (.tbl ps) → ∃ more, H' b = some (.tbl (ps ++ more)))
    (ns : ∀ m, s.heap.Ns X.env.locals m → h'.Ns X.env.locals m) (hok : HOk X.prog X.w H' h') (hg : AllBare g') :
    Inv X pins σ H' { s with heap := h', gens := g', drawn := d', toks := t' } := by
  have neL : ∀ b o, X.s_0.heap.get? b = some o → b ≠ X.env.locals := fun b o e => Nat.ne_of_lt (Nat.lt_of_lt_of_le (Heap.lt_size e) I.ok.above)
  have neC : ∀ b o, X.s_0.heap.get? b = some o → b ∉ X.ex → b ∉ ch := fun b o e hx hb => by
    rcases (hch b hb).1 with z | z
    · exact hx z
    · exact absurd (Nat.lt_of_lt_of_le (Heap.lt_size e) z) (Nat.lt_irrefl _)
  have cellK : ∀ x c, X.env.cells.lookup x = some c → ∀ v, s.heap.IsCell c v → h'.IsCell c v := fun x c e v ⟨o, ho, hd⟩ => by
    have nch : c ∉ ch := fun z => (hch c z).2.2.1 x c e rfl
    by_cases hc : c ∈ X.fs
    · obtain ⟨sl, q⟩ := slot c o (I.cne x c e) hc nch ho (I.freeC x c e)
      exact ⟨_, q, hd⟩
    · exact ⟨o, keep c o (I.cne x c e) hc nch ho (I.freeC x c e), hd⟩
  refine ⟨I.ok, I.os, hg, ⟨fun b o e n hb hx => ?_, fun b o e n hb hx => ?_, fun b o e n hx => ?_, fun b o e hx => ?_, fun b xs e => tups b xs (I.base.tups b xs e), fun b o xs e => frzs b o xs (I.base.frzs b o xs e), fun b ps e => ?_⟩, ?_, fun x c e => ?_, ?_, fun x c e => ?_, fun p hp => ?_, hok, I.len⟩
  · exact keep b o (neL b o e) hb (neC b o e hx) (I.base.keep b o e n hb hx) (I.base.free b o e n hx)
  · obtain ⟨sl, e1⟩ := I.base.slot b o e n hb hx
    obtain ⟨sl', e2⟩ := slot b _ (neL b o e) hb (neC b o e hx) e1 (I.base.free b o e n hx)
    exact ⟨sl', e2⟩
  · obtain ⟨o', e1⟩ := I.base.there b o e hx
    exact free b o' (neC b o e hx) e1 (I.base.free b o e n hx)
  · obtain ⟨o', e1⟩ := I.base.there b o e hx
    exact there b o' (neC b o e hx) e1
  · obtain ⟨m1, e1⟩ := I.base.tbls b ps e
    obtain ⟨m2, e2⟩ := tbls b _ e1
    exact ⟨m1 ++ m2, by rw [e2, Array.append_assoc]⟩
  · obtain ⟨m, hn, hl⟩ := I.loc
    refine ⟨m, ns m hn, fun i x v e1 e2 e3 => ?_⟩
    obtain ⟨u, r, l⟩ := hl i x v e1 e2 e3
    refine ⟨u, r, ?_⟩
    rcases l with l | ⟨k, c, e, z⟩
    · exact .inl l
    · exact .inr ⟨k, c, e, cellK x c e _ z⟩
  · obtain ⟨v, z⟩ := I.cell x c e
    exact ⟨v, cellK x c e v z⟩
  · obtain ⟨m, ⟨o, _, _, ho, _⟩, _⟩ := I.loc
    exact free _ o (fun z => (hch _ z).2.1 rfl) ho I.free
  · obtain ⟨v, o, ho, hd⟩ := I.cell x c e
    exact free c o (fun z => (hch c z).2.2.1 x c e rfl) ho (I.freeC x c e)
  · obtain ⟨e, n, ne, nf, d⟩ := I.pin p hp
    have nch : p.1 ∉ ch := fun z => (hch p.1 z).2.2.2 p hp rfl
    exact ⟨keep p.1 p.2 ne nf nch e n, free p.1 p.2 nch e n, ne, nf, d⟩
/-- .. where the frame's own object is kept too -/
theorem Inv.un {t' : Nat} (I : Inv X pins σ H s) (u : Un X.fs [] H H' s.heap h') (hok : HOk X.prog X.w H' h') : Inv X pins σ H' { s with heap := h', toks := t' } := by
  obtain ⟨m, ⟨o, es, ep, ho, r⟩, _⟩ := id I.loc
  obtain ⟨sl, hL⟩ := u.any ho I.free (by simp)
  exact I.step (g' := s.gens) (d' := s.drawn) (ch := []) (fun _ z => nomatch z) (fun b o _ hb _ e n => u.keep b o e n hb (by simp)) (fun b o _ hb _ e n => u.slot b o e n hb (by simp)) (fun b o _ e n => u.free b o e n (by simp)) (fun b o _ e => u.there b o e (by simp)) u.tups u.frzs u.tbls (fun m' hm => by
    obtain ⟨o', es', ep', ho', r'⟩ := hm
    rw [ho] at ho'; cases ho'
    exact ⟨_, es', ep', hL, r'⟩) hok I.bare
/-- behind a call (or a comprehension's block): the slots of this frame may have changed too, the records at ch may have turned -/
theorem Inv.call {g' : Array GenState} {t' : Nat} {d' : Drawn} {ch : List Addr} (I : Inv X pins σ H s) (u : Un (frs X.stack) ch H H' s.heap h') (hok : HOk X.prog X.w H' h') (hg : AllBare g')
    (hch : ∀ b ∈ ch, (b ∈ X.ex ∨ X.s_0.heap.objs.size ≤ b) ∧ b ≠ X.env.locals ∧ (∀ x c, X.env.cells.lookup x = some c → c ≠ b) ∧ ∀ p ∈ X.pn ++ pins, p.1 ≠ b) :
    Inv X pins σ H' { s with heap := h', gens := g', drawn := d', toks := t' } := by
  obtain ⟨m, ⟨o, es, ep, ho, r⟩, _⟩ := id I.loc
  obtain ⟨sl, hL⟩ := u.any ho I.free fun z => (hch _ z).2.1 rfl
  exact I.step (ch := ch) hch (fun b o hL hb hc e n => u.keep b o e n (fun z => (List.mem_cons.mp (I.stkSub b z)).elim hL hb) hc) (fun b o _ _ hc e n => u.any e n hc) (fun b o hc e n => u.free b o e n hc) (fun b o hc e => u.there b o e hc) u.tups u.frzs u.tbls (fun m' hm => by
    obtain ⟨o', es', ep', ho', r'⟩ := hm
    rw [ho] at ho'; cases ho'
    exact ⟨_, es', ep', hL, r'⟩) hok hg
/-- an untracked record of ours (an iterator) has turned -/
theorem Inv.turned {t' : Nat} {it : Addr} (I : Inv X pins σ H s) (k : ∀ b o, b ≠ it → s.heap.get? b = some o → h'.get? b = some o) (hn : H it = none) (hL : it ≠ X.env.locals)
    (h1 : it ∈ X.ex ∨ X.s_0.heap.objs.size ≤ it) (h2 : ∀ x c, X.env.cells.lookup x = some c → c ≠ it) (h3 : ∀ p ∈ X.pn ++ pins, p.1 ≠ it) : Inv X pins σ H { s with heap := h', toks := t' } := by
  have nit : ∀ b u, H b = some u → b ≠ it := fun b u e z => by rw [z, hn] at e; cases e
  refine I.step (g' := s.gens) (d' := s.drawn) (ch := [it]) (fun b hb => ?_) (fun b o _ _ hc e _ => k b o (fun z => hc (by simp [z])) e) (fun b o _ _ hc e _ => ⟨o.slots, k b o (fun z => hc (by simp [z])) e⟩) (fun _ _ _ _ n => n)
    (fun b o hc e => ⟨o, k b o (fun z => hc (by simp [z])) e⟩) (fun _ _ e => e) (fun _ _ _ e => e) (fun b ps e => ⟨#[], by rw [e]; simp⟩) (fun m hm => ?_) (fun b u e => ?_) I.bare
  · have e : b = it := by simpa using hb
    subst e
    exact ⟨h1, hL, h2, h3⟩
  · obtain ⟨o, es, ep, ho, r⟩ := hm
    exact ⟨o, es, ep, k _ o (Ne.symm hL) ho, r⟩
  · refine (I.hok b u e).stay (fun c v hc q => k c v ?_ q) (fun _ q => q) fun _ _ q => q
    rcases hc with z | z
    · rw [z]; exact nit b u e
    · exact nit c _ z
theorem Inv.tok (I : Inv X pins σ H s) (t : Nat) : Inv X pins σ H { s with toks := t } := I.un (h' := s.heap) (t' := t) Un.refl I.hok
/-- all objects kept -/
theorem Inv.kept {t' : Nat} (I : Inv X pins σ H s) (k : ∀ b u, s.heap.get? b = some u → h'.get? b = some u) : Inv X pins σ H { s with heap := h', toks := t' } := I.un (Un.kept k) (I.hok.kept k)
/-- a new object laid and tracked -/
theorem Inv.laid {a : Addr} {o : HO} {t' : Nat} (I : Inv X pins σ H s) (k : ∀ b u, s.heap.get? b = some u → h'.get? b = some u) (hp : s.heap.objs.size ≤ a) (new : ObjOk X.prog X.w (upd H a o) h' a o) :
    Inv X pins σ (upd H a o) { s with heap := h', toks := t' } := I.un (Un.laid k hp (I.hok.fresh hp)) (I.hok.laid k hp new)
/-- an object written -/
theorem Inv.write {x e : Addr} {o : HO} {t' : Nat} (I : Inv X pins σ H s) (mu : Mut (H x)) (he : e = x ∨ H e = some (.own x)) (k : ∀ b u, b ≠ e → s.heap.get? b = some u → h'.get? b = some u) (heo : ∃ u, h'.get? e = some u)
    (new : ObjOk X.prog X.w (upd H x o) h' x o) : Inv X pins σ (upd H x o) { s with heap := h', toks := t' } := I.un (Un.write mu he k heo) (I.hok.write mu he k heo new)
/-- forgetting slots, pins -/
theorem Inv.weak {σ' : List (Option V)} (I : Inv X pins σ H s) (hl : σ'.length = σ.length) (w : ∀ (i : Nat) v, σ'[i]? = some (some v) → σ[i]? = some (some v)) : Inv X pins σ' H s :=
  ⟨I.ok, I.os, I.bare, I.base, let ⟨m, hn, hl'⟩ := I.loc; ⟨m, hn, fun i x v e1 e2 e3 => hl' i x v e1 (w i v e2) e3⟩, I.cell, I.free, I.freeC, I.pin, I.hok, hl.trans I.len⟩
theorem Inv.pins_of {pins' : List (Addr × Obj)} (I : Inv X pins σ H s) (h : ∀ p ∈ pins', s.heap.get? p.1 = some p.2 ∧ H p.1 = none ∧ p.1 ≠ X.env.locals ∧ p.1 ∉ X.fs ∧ ∀ v, p.2.data ≠ .cell v) : Inv X pins' σ H s :=
  ⟨I.ok, I.os, I.bare, I.base, I.loc, I.cell, I.free, I.freeC, fun p hp => (List.mem_append.mp hp).elim (fun z => I.pin p (List.mem_append_left _ z)) (h p), I.hok, I.len⟩
theorem nodup_ix {N : List Str} (hN : N.Nodup) {i j : Nat} {x : Str} (a : N[i]? = some x) (b : N[j]? = some x) : i = j := by
  obtain ⟨h1, e1⟩ := List.getElem?_eq_some_iff.mp a
  obtain ⟨h2, e2⟩ := List.getElem?_eq_some_iff.mp b
  exact (List.getElem_inj hN).mp (e1.trans e2.symm)
/-- a name is stored; what changed -/
theorem store_ok2 {M : Model} {A : Around} {E : Value → Shared → Prop} {i : Nat} {x : Str} {v : V} {u : Value} {Q : Unit → Shared → Prop} (I : Inv X pins σ H s) (hN : X.N.Nodup) (hi : X.N[i]? = some x) (hx : Loc X.env.scope x) (r : RelV v u)
    (h : ∀ s', Inv X pins (σ.set i (some v)) H s' → (∃ a, Heap.SameBut a s.heap s'.heap ∧ (a = X.env.locals ∨ X.env.cells.lookup x = some a)) → Q () s') (hf : X.fn x = true ∨ X.env.scope.names.lookup x = some .local := by first | exact .inl rfl | exact .inr rfl | assumption) : wpAny M A (storeName X.env x u) Q E s := by
  obtain ⟨m, hn, hl⟩ := id I.loc
  have hcls : (X.env.scope.kind == .class || (X.env.scope.kind == .module && X.env.locals != X.env.globals)) = false := by rw [I.ok.kind]; rfl
  have hiσ : i < σ.length := by rw [I.len]; exact (List.getElem?_eq_some_iff.mp hi).1
  have cne := I.cne
  have tracked : ∀ {a : Addr} {h' : Heap}, (∃ o, s.heap.get? a = some o ∧ H a = none) → Heap.SameBut a s.heap h' → HOk X.prog X.w H h' := fun {a h'} ha hs b ob e => by
    obtain ⟨_, _, hfree⟩ := ha
    refine (I.hok b ob e).stay (fun c w' hc q => (hs.2 c ?_).trans q) (fun _ q => q) fun _ _ q => q
    rintro rfl
    rcases hc with rfl | hc
    · rw [hfree] at e; cases e
    · rw [hfree] at hc; cases hc
  rcases hx with hk | hk
  · refine wpAny_storeName_local hk hn (fun h' hn' hs => ?_) hcls
    obtain ⟨oL, _, _, hoL, _⟩ := id hn
    refine h _ ⟨I.ok, I.os, I.bare, ⟨fun b o e n hb hx => ?_, fun b o e n hb hx => ?_, I.base.free, fun b o e hx => ?_, I.base.tups, I.base.frzs, I.base.tbls⟩, ⟨_, hn', fun j y v' e1 e2 e3 => ?_⟩, fun y c e => ?_, I.free, I.freeC, fun p hp => ?_, tracked ⟨oL, hoL, I.free⟩ hs, by simpa using I.len⟩ ⟨_, hs, .inl rfl⟩
    · exact (hs.2 b (Nat.ne_of_lt (Nat.lt_of_lt_of_le (Heap.lt_size e) I.ok.above))).trans (I.base.keep b o e n hb hx)
    · obtain ⟨sl, e1⟩ := I.base.slot b o e n hb hx
      exact ⟨sl, (hs.2 b (Nat.ne_of_lt (Nat.lt_of_lt_of_le (Heap.lt_size e) I.ok.above))).trans e1⟩
    · obtain ⟨o', e1⟩ := I.base.there b o e hx
      exact ⟨o', (hs.2 b (Nat.ne_of_lt (Nat.lt_of_lt_of_le (Heap.lt_size e) I.ok.above))).trans e1⟩
    · by_cases hj : j = i
      · subst hj
        rw [hi] at e1; cases e1
        rw [List.getElem?_set_self hiσ] at e2
        cases e2
        exact ⟨u, r, .inl ⟨hk, by simp⟩⟩
      · rw [List.getElem?_set_ne (Ne.symm hj)] at e2
        obtain ⟨u', r', q⟩ := hl j y v' e1 e2 e3
        refine ⟨u', r', ?_⟩
        rcases q with ⟨k, e⟩ | ⟨k, c, e, z⟩
        · refine .inl ⟨k, ?_⟩
          have : y ≠ x := fun e => hj (nodup_ix hN e1 (e ▸ hi))
          simp [this, e]
        · exact .inr ⟨k, c, e, z.sameBut hs (cne y c e)⟩
    · obtain ⟨w', z⟩ := I.cell y c e
      exact ⟨w', z.sameBut hs (cne y c e)⟩
    · obtain ⟨e, n, ne, nf, d⟩ := I.pin p hp
      exact ⟨(hs.2 p.1 ne).trans e, n, ne, nf, d⟩
  · have hfn : X.fn x = true := by
      rcases hf with z | z
      · exact z
      · rw [z] at hk; cases hk
    obtain ⟨c, hc⟩ := I.ok.has x (.inl hk)
    obtain ⟨w', z⟩ := I.cell x c hc
    refine wpAny_storeName_cell I.ok.kind hk hc z (fun h' hc' hs => ?_)
    obtain ⟨oc, hoc, hocd⟩ := id z
    refine h { s with heap := h' } ⟨I.ok, I.os, I.bare, ⟨fun b o e n hb hx => ?_, fun b o e n hb hx => ?_, I.base.free, fun b o e hx => ?_, I.base.tups, I.base.frzs, I.base.tbls⟩, ⟨m, hn.sameBut hs (Ne.symm (cne x c hc)), fun j y v' e1 e2 e3 => ?_⟩, fun y c' e => ?_, I.free, I.freeC, fun p hp => ?_, tracked ⟨oc, hoc, I.freeC x c hc⟩ hs, by simpa using I.len⟩ ⟨c, hs, .inr hc⟩
    · exact (hs.2 b (Nat.ne_of_lt (Nat.lt_of_lt_of_le (Heap.lt_size e) (I.ok.cab x c hfn hc)))).trans (I.base.keep b o e n hb hx)
    · obtain ⟨sl, e1⟩ := I.base.slot b o e n hb hx
      exact ⟨sl, (hs.2 b (Nat.ne_of_lt (Nat.lt_of_lt_of_le (Heap.lt_size e) (I.ok.cab x c hfn hc)))).trans e1⟩
    · obtain ⟨o', e1⟩ := I.base.there b o e hx
      exact ⟨o', (hs.2 b (Nat.ne_of_lt (Nat.lt_of_lt_of_le (Heap.lt_size e) (I.ok.cab x c hfn hc)))).trans e1⟩
    · by_cases hj : j = i
      · subst hj
        rw [hi] at e1; cases e1
        rw [List.getElem?_set_self hiσ] at e2
        cases e2
        exact ⟨u, r, .inr ⟨.inl hk, c, hc, hc'⟩⟩
      · rw [List.getElem?_set_ne (Ne.symm hj)] at e2
        obtain ⟨u', r', q⟩ := hl j y v' e1 e2 e3
        refine ⟨u', r', ?_⟩
        rcases q with q | ⟨k, c', e, z'⟩
        · exact .inl q
        · refine .inr ⟨k, c', e, z'.sameBut hs ?_⟩
          rintro rfl
          exact hj (nodup_ix hN e1 (I.ok.inj _ _ _ e hc ▸ hi))
    · by_cases hcc : c' = c
      · subst hcc; exact ⟨_, hc'⟩
      · obtain ⟨w2, z2⟩ := I.cell y c' e
        exact ⟨w2, z2.sameBut hs hcc⟩
    · obtain ⟨e, n, ne, nf, d⟩ := I.pin p hp
      refine ⟨(hs.2 p.1 ?_).trans e, n, ne, nf, d⟩
      intro q
      rw [q, hoc] at e
      have q' : oc = p.2 := Option.some.inj e
      exact d w' (by rw [← q']; exact hocd)
theorem store_ok {M : Model} {A : Around} {E : Value → Shared → Prop} {i : Nat} {x : Str} {v : V} {u : Value} {Q : Unit → Shared → Prop} (I : Inv X pins σ H s) (hN : X.N.Nodup) (hi : X.N[i]? = some x) (hx : Loc X.env.scope x) (r : RelV v u)
    (h : ∀ s', Inv X pins (σ.set i (some v)) H s' → Q () s') (hf : X.fn x = true ∨ X.env.scope.names.lookup x = some .local := by first | exact .inl rfl | exact .inr rfl | assumption) : wpAny M A (storeName X.env x u) Q E s :=
  store_ok2 I hN hi hx r (fun s' I' _ => h s' I') hf
/-- behind a call or a block, the state as it is -/
theorem Inv.call' {s' : Shared} {ch : List Addr} (I : Inv X pins σ H s) (ho : s'.os = s.os) (u : Un (frs X.stack) ch H H' s.heap s'.heap) (hok : HOk X.prog X.w H' s'.heap) (hg : AllBare s'.gens)
    (hch : ∀ b ∈ ch, (b ∈ X.ex ∨ X.s_0.heap.objs.size ≤ b) ∧ b ≠ X.env.locals ∧ (∀ x c, X.env.cells.lookup x = some c → c ≠ b) ∧ ∀ p ∈ X.pn ++ pins, p.1 ≠ b) : Inv X pins σ H' s' := by
  obtain ⟨h', g', d', t', o'⟩ := s'
  have e : o' = s.os := ho
  subst e
  exact I.call (g' := g') (t' := t') (d' := d') u hok hg hch
end
/-! ### the judgements -/
/-- an exception: its class, its own dict's address (where it has one), the abstract heap behind it -/
abbrev XK := Value → Option Addr → Hp → Prop
abbrev St := List (Option V)
abbrev VK := V → Hp → Prop
/-- an expression's reading; a test's; an argument list's -/
abbrev TE := St → Hp → VK → Prop
abbrev TT := St → Hp → (Bool → Hp → Prop) → Prop
abbrev TA := St → Hp → (List V → Hp → Prop) → Prop
/-- what is wanted behind a statement -/
structure Ends where
  nx : St → Hp → Prop
  rt : VK
  bk : St → Hp → Prop := fun _ _ => False
  ct : St → Hp → Prop := fun _ _ => False
abbrev TS := Ends → St → Hp → Prop
def EP (X : Cx) (pins : List (Addr × Obj)) (σ : St) (Q : VK) (u : Value) (s' : Shared) : Prop := ∃ v H', Inv X pins σ H' s' ∧ RelV v u ∧ Q v H'
def TP (X : Cx) (pins : List (Addr × Obj)) (σ : St) (Q : Bool → Hp → Prop) (b : Bool) (s' : Shared) : Prop := ∃ H', Inv X pins σ H' s' ∧ Q b H'
def AP (X : Cx) (pins : List (Addr × Obj)) (σ : St) (Q : List V → Hp → Prop) (us : List Value) (s' : Shared) : Prop := ∃ vs H', Inv X pins σ H' s' ∧ Vals vs us ∧ Q vs H'
def SP (X : Cx) (pins : List (Addr × Obj)) (D : Ends) (f : Flow) (s' : Shared) : Prop :=
  match f with
  | .next => ∃ σ' H', Inv X pins σ' H' s' ∧ D.nx σ' H'
  | .brk => ∃ σ' H', Inv X pins σ' H' s' ∧ D.bk σ' H'
  | .cont => ∃ σ' H', Inv X pins σ' H' s' ∧ D.ct σ' H'
  | .ret u => ∃ v σ' H', Inv X pins σ' H' s' ∧ RelV v u ∧ D.rt v H'
def PE (X : Cx) (e : Expr) (t : TE) : Prop :=
  ∀ (pins : List (Addr × Obj)) (s : Shared) (σ : St) (H : Hp) (Q : VK), Inv X pins σ H s → t σ H Q → wpAny (model X.prog X.w) X.A (eval e X.env) (EP X pins σ Q) X.xe s
def PT (X : Cx) (e : Expr) (t : TT) : Prop :=
  ∀ (pins : List (Addr × Obj)) (s : Shared) (σ : St) (H : Hp) (Q : Bool → Hp → Prop), Inv X pins σ H s → t σ H Q → wpAny (model X.prog X.w) X.A (isTrue e X.env (eval e X.env)) (TP X pins σ Q) X.xe s
/-- a test whatever its 'whole' is (and, or) -/
def PW (X : Cx) (e : Expr) (t : TT) : Prop :=
  ∀ (whole : Sem Value) (pins : List (Addr × Obj)) (s : Shared) (σ : St) (H : Hp) (Q : Bool → Hp → Prop), Inv X pins σ H s → t σ H Q → wpAny (model X.prog X.w) X.A (isTrue e X.env whole) (TP X pins σ Q) X.xe s
theorem PW.pt {X : Cx} {e : Expr} {t : TT} (h : PW X e t) : PT X e t := h _
/-- an argument list (no star), from the left -/
def PA (X : Cx) (es : List Expr) (t : TA) : Prop :=
  ∀ (pos : Pos) (pins : List (Addr × Obj)) (s : Shared) (σ : St) (H : Hp) (Q : List V → Hp → Prop), Inv X pins σ H s → t σ H Q → wpAny (model X.prog X.w) X.A (spliced (backTo pos (starEach es X.env))) (AP X pins σ Q) X.xe s
def PS (X : Cx) (st : Stmt) (t : TS) : Prop :=
  ∀ (pins : List (Addr × Obj)) (s : Shared) (σ : St) (H : Hp) (D : Ends), Inv X pins σ H s → t D σ H → wpAny (model X.prog X.w) X.A (exec st X.env) (SP X pins D) X.xe s
def PSs (X : Cx) (st : List Stmt) (t : TS) : Prop :=
  ∀ (pins : List (Addr × Obj)) (s : Shared) (σ : St) (H : Hp) (D : Ends), Inv X pins σ H s → t D σ H → wpAny (model X.prog X.w) X.A (execs st X.env) (SP X pins D) X.xe s
/-- weaken the end -/
theorem thn {α : Type} {t : Sem α} {Q Q' : α → Shared → Prop} {M : Model} {A : Around} {E : Value → Shared → Prop} {s : Shared} (h : wpAny M A t Q E s) (hQ : ∀ a s, Q a s → Q' a s) : wpAny M A t Q' E s := wpAny_mono h hQ fun _ _ x => x
end L2
namespace L2
open PySem PySem.Spec PyProof.Rows
section
variable {X : Cx}
/-! ### names and constants -/
def tVar (i : Nat) : TE := fun σ H Q => ∃ v, σ[i]? = some (some v) ∧ Q v H
def tC (v : V) : TE := fun _ H Q => Q v H
theorem pe_var {i : Nat} {x : Str} {pos : Pos} (hN : X.N[i]? = some x) (hv : Vis X.env.scope x) (hd : (x == ("__debug__" : Str)) = false := by decide) (hcd : (x == ("__classdict__" : Str)) = false := by decide) : PE X (.Name x pos) (tVar i) := by
  intro pins s σ H Q I h
  obtain ⟨v, e, h⟩ := h
  obtain ⟨m, hn, hl⟩ := I.loc
  obtain ⟨u, r, l⟩ := hl i x v hN e hv
  have fin : EP X pins σ Q u s := ⟨v, H, I, r, h⟩
  rcases l with ⟨hk, hm⟩ | ⟨hk, c, hc, hcell⟩
  · exact wpAny_Name (wpAny_loadName_local I.ok.kind hk hn hm fin) hd
  · rcases hk with hk | hk
    · exact wpAny_Name (wpAny_loadName_cell I.ok.kind hk hc hcell fin) hd
    · exact wpAny_Name (wpAny_loadName_free I.ok.kind hk hc hcell fin hcd) hd
theorem pe_int {i j pos} : PE X (.Constant (.int i) j pos) (tC (.int i)) := fun _ _ _ H _ I h => wpAny_Constant_int ⟨.int i, H, I.tok _, ⟨_, rfl⟩, h⟩
theorem pe_bl {b j pos} : PE X (.Constant (.bool b) j pos) (tC (.bl b)) := fun _ _ _ H _ I h => Constant_bool ⟨.bl b, H, I, rfl, h⟩
/-- a global name of the def -/
def Gl (X : Cx) (x : Str) : Prop := X.env.kindOf x = some .globalImplicit
theorem ld_glob {E : Value → Shared → Prop} {pins : List (Addr × Obj)} {s : Shared} {σ : St} {H : Hp} {x : Str} {u : Value} {pos : Pos} {Q : Value → Shared → Prop} (I : Inv X pins σ H s) (hg : Gl X x) (hm : X.mg x = some u) (h : Q u s)
    (hd : (x == ("__debug__" : Str)) = false := by decide) : wpAny (model X.prog X.w) X.A (eval (.Name x pos) X.env) Q E s :=
  Calls.Name_function_global I.ok.kind hg (Calls.loadGlobal_global (by rw [I.ok.glob]; exact I.mod.glob.keeps I.bk) hm h) hd
theorem ld_blt {E : Value → Shared → Prop} {pins : List (Addr × Obj)} {s : Shared} {σ : St} {H : Hp} {x : Str} {u : Value} {pos : Pos} {Q : Value → Shared → Prop} (I : Inv X pins σ H s) (hg : Gl X x) (hm : X.mg x = none) (hv : bootBuiltins x = some u) (h : Q u s)
    (hn : x ≠ "__name__" := by decide) (hd : (x == ("__debug__" : Str)) = false := by decide) : wpAny (model X.prog X.w) X.A (eval (.Name x pos) X.env) Q E s := by
  obtain ⟨mb, h1, h2⟩ := I.mod.blt
  exact Calls.Name_function_global I.ok.kind hg (Calls.loadGlobal_builtin (by rw [I.ok.glob]; exact I.mod.glob.keeps I.bk) hm (by rw [I.ok.blt]; exact h1.keeps I.bk) ((h2 x hn).trans hv) h) hd
/-- a module's constant, a class, a function, as a value -/
theorem pe_glob {x : Str} {v : V} {u : Value} {pos : Pos} (hg : Gl X x) (hm : X.mg x = some u) (r : RelV v u) (hd : (x == ("__debug__" : Str)) = false := by decide) : PE X (.Name x pos) (tC v) :=
  fun _ _ _ H _ I h => ld_glob I hg hm ⟨v, H, I, r, h⟩ hd
/-! ### arithmetic -/
variable {a b : Expr} {ta tb : TE} {pos : Pos}
/-! ### comparisons -/
/-- a comparison as a value, as a test -/
def tB (t : TE) : TT := fun σ H Q => t σ H fun x H1 => ∃ c, x = .bl c ∧ Q c H1
/-- an expression whose value is a bool, as a test -/
theorem pt_val {e : Expr} {t : TE} (h : PE X e t) (he : ∀ whole, isTrue e X.env whole = (do let v ← whole; standAt e.pos; holding [v] (truthy v)) := by intro _; rfl) : PT X e (tB t) := by
  intro pins s σ H Q I hw
  refine isTrue_plain (thn (h pins s σ H _ I hw) fun v s1 ⟨x, H1, I1, r1, q1⟩ => ?_) (he _)
  obtain ⟨d, rfl, q⟩ := q1
  cases r1
  exact wpAny_truthy_bool ⟨H1, I1, q⟩
/-! ### and, or, not -/
variable {tA tB' : TT} {rest : List Expr}
def tAnd (t u : TT) : TT := fun σ H Q => t σ H fun c H1 => if c = true then u σ H1 Q else Q false H1
def tOr (t u : TT) : TT := fun σ H Q => t σ H fun c H1 => if c = true then Q true H1 else u σ H1 Q
def tNot (t : TT) : TT := fun σ H Q => t σ H fun c H1 => Q (!c) H1
theorem pw_and1 (ha : PT X a tA) : PW X (.BoolOp .And [a] pos) tA := by
  intro wh pins s σ H Q I h
  refine isTrue_and (thn (ha pins s σ H Q I h) fun c s1 e => ?_)
  cases c with
  | true => exact isTrue_and_nil e
  | false => exact e
theorem pw_or1 (ha : PT X a tA) : PW X (.BoolOp .Or [a] pos) tA := by
  intro wh pins s σ H Q I h
  refine isTrue_or (thn (ha pins s σ H Q I h) fun c s1 e => ?_)
  cases c with
  | false => exact isTrue_or_nil e
  | true => exact e
theorem pw_and (ha : PT X a tA) (hb : PW X (.BoolOp .And (b :: rest) pos) tB') : PW X (.BoolOp .And (a :: b :: rest) pos) (tAnd tA tB') := by
  intro wh pins s σ H Q I h
  refine isTrue_and (thn (ha pins s σ H _ I h) fun c s1 ⟨H1, I1, q1⟩ => ?_)
  cases c with
  | true => exact hb wh pins s1 σ H1 Q I1 q1
  | false => exact ⟨H1, I1, q1⟩
theorem pw_or (ha : PT X a tA) (hb : PW X (.BoolOp .Or (b :: rest) pos) tB') : PW X (.BoolOp .Or (a :: b :: rest) pos) (tOr tA tB') := by
  intro wh pins s σ H Q I h
  refine isTrue_or (thn (ha pins s σ H _ I h) fun c s1 ⟨H1, I1, q1⟩ => ?_)
  cases c with
  | true => exact ⟨H1, I1, q1⟩
  | false => exact hb wh pins s1 σ H1 Q I1 q1
theorem pt_not (ha : PT X a tA) : PT X (.UnaryOp .Not a pos) (tNot tA) := by
  intro pins s σ H Q I h
  exact isTrue_not (ha pins s σ H (fun c H1 => Q (!c) H1) I h)
/-- .. as values (bools) -/
def tAndV (ta tb : TE) : TE := fun σ H Q => ta σ H fun x H1 => ∃ c, x = .bl c ∧ if c = true then tb σ H1 Q else Q (.bl false) H1
def tOrV (ta tb : TE) : TE := fun σ H Q => ta σ H fun x H1 => ∃ c, x = .bl c ∧ if c = true then Q (.bl true) H1 else tb σ H1 Q
def tNotV (ta : TE) : TE := fun σ H Q => ta σ H fun x H1 => ∃ c, x = .bl c ∧ Q (.bl (!c)) H1
theorem pe_one {op} {t : TE} (h : PE X a t) : PE X (.BoolOp op [a] pos) t := fun pins s σ H Q I hw => BoolOp_one (h pins s σ H Q I hw)
theorem pe_and (ha : PE X a ta) (hb : PE X (.BoolOp .And (b :: rest) pos) tb) : PE X (.BoolOp .And (a :: b :: rest) pos) (tAndV ta tb) := by
  intro pins s σ H Q I h
  refine BoolOp_and (thn (ha pins s σ H _ I h) fun v s1 ⟨x, H1, I1, r1, q1⟩ => ?_)
  obtain ⟨c, rfl, q1⟩ := q1
  cases r1
  refine wpAny_truthy_bool ?_
  cases c with
  | true => exact hb pins s1 σ H1 Q I1 q1
  | false => exact ⟨.bl false, H1, I1, rfl, q1⟩
/-- a if t else b -/
def tIf (t : TT) (ta tb : TE) : TE := fun σ H Q => t σ H fun c H1 => if c = true then ta σ H1 Q else tb σ H1 Q
theorem pe_ifExp {c : Expr} (hc : PT X c tA) (ha : PE X a ta) (hb : PE X b tb) : PE X (.IfExp c a b pos) (tIf tA ta tb) := by
  intro pins s σ H Q I h
  refine wpAny_IfExp (thn (hc pins s σ H _ I h) fun d s1 ⟨H1, I1, q1⟩ => ?_)
  cases d with
  | true => exact ha pins s1 σ H1 Q I1 q1
  | false => exact hb pins s1 σ H1 Q I1 q1
end
end L2
namespace L2
open PySem PySem.Spec PyProof.Rows
/-! ### a list, a tuple that is read: tracked, frozen, or an object of the module -/
def SqL (K : PySem.W.Frag) (H : Hp) (a : Addr) (xs : List V) : Prop :=
  Rd H a (.lst xs) ∨
    ∃ (o : Obj) (its : Array Value) (n : Nat), K.lookup a = some o ∧ o.cls = .type "list" ∧ o.dict = none ∧ o.data = .seq its n ∧ its.size ≤ sizeLine ∧ Vals xs its.toList
def SqT (K : PySem.W.Frag) (H : Hp) (a : Addr) (xs : List V) : Prop :=
  Rd H a (.tup xs) ∨
    ∃ (o : Obj) (its : Array Value) (n : Nat), K.lookup a = some o ∧ o.cls = .type "tuple" ∧ o.data = .seq its n ∧ its.size ≤ sizeLine ∧ Vals xs its.toList
def absV : Value → Option V
  | .none => some .non
  | .bool b => some (.bl b)
  | .int i _ => some (.int i)
  | .str x _ => some (.str x)
  | .bytes b _ => some (.byt b)
  | .float b _ => some (.flt b)
  | .ref a => some (.ref a)
  | .type n => some (.ty n)
  | _ => none
theorem RelV.abs {x : V} {u : Value} (r : RelV x u) : absV u = some x := by
  cases x with
  | non => cases r; rfl
  | bl _ => cases r; rfl
  | int _ => obtain ⟨t, rfl⟩ := r; rfl
  | str _ => obtain ⟨t, rfl⟩ := r; rfl
  | byt _ => obtain ⟨t, rfl⟩ := r; rfl
  | flt _ => obtain ⟨t, rfl⟩ := r; rfl
  | ref _ => cases r; rfl
  | ty _ => cases r; rfl
theorem RelV.inj {x y : V} {u : Value} (r : RelV x u) (q : RelV y u) : x = y := Option.some.inj (r.abs.symm.trans q.abs)
theorem Vals.inj : ∀ {xs ys : List V} {us : List Value}, Vals xs us → Vals ys us → xs = ys
  | _, _, _, .nil, .nil => rfl
  | _, _, _, .cons r t, .cons r' t' => by rw [r.inj r', Vals.inj t t']
section
variable {X : Cx} {pins : List (Addr × Obj)} {σ : St} {H : Hp} {s : Shared} {a : Addr} {xs ys : List V}
theorem SqL.of {K : PySem.W.Frag} (h : H a = some (.lst xs)) : SqL K H a xs := .inl (.inl h)
theorem SqT.of {K : PySem.W.Frag} (h : H a = some (.tup xs)) : SqT K H a xs := .inl (.inl h)
theorem Inv.list (I : Inv X pins σ H s) (h : SqL X.K H a xs) : ∃ its : List Value, Vals xs its ∧ PlainL s.heap a its.toArray ∧ xs.length ≤ sizeLine := by
  rcases h with h | ⟨o, its, n, hk, hc, hd, hs, hz, r⟩
  · obtain ⟨z, its, n, r, e⟩ := h.ok I.hok
    exact ⟨its, r, ⟨_, n, e, rfl, rfl, rfl⟩, z⟩
  · refine ⟨its.toList, r, ⟨o, n, I.kIn a o hk, hc, hd, by simpa using hs⟩, ?_⟩
    have e := r.length
    simp only [Array.length_toList] at e
    omega
theorem Inv.tuple (I : Inv X pins σ H s) (h : SqT X.K H a xs) : ∃ its : List Value, Vals xs its ∧ IsTup s.heap a its.toArray ∧ xs.length ≤ sizeLine := by
  rcases h with h | ⟨o, its, n, hk, hc, hs, hz, r⟩
  · obtain ⟨z, its, r, p⟩ := h.ok I.hok
    exact ⟨its, r, p, z⟩
  · refine ⟨its.toList, r, ⟨o, I.kIn a o hk, hc, n, by simpa using hs⟩, ?_⟩
    have e := r.length
    simp only [Array.length_toList] at e
    omega
theorem Inv.list_inj (I : Inv X pins σ H s) (h : SqL X.K H a xs) (h' : SqL X.K H a ys) : xs = ys := by
  obtain ⟨its, r, ⟨o, n, e, _, _, d⟩, _⟩ := I.list h
  obtain ⟨its', r', ⟨o', n', e', _, _, d'⟩, _⟩ := I.list h'
  rw [e] at e'; cases e'
  rw [d] at d'
  injection d' with d1 _
  have : its = its' := by simpa using congrArg Array.toList d1
  subst this
  exact r.inj r'
end
/-! ### another wish about exceptions -/
abbrev Cx.wish (X : Cx) (E : Value → Shared → Prop) : Cx := { X with xe := E }
/-- no exception leaves -/
abbrev Cx.nox (X : Cx) : Cx := X.wish fun _ _ => False
theorem Cx.Ok.wish {X : Cx} (ok : X.Ok) (E : Value → Shared → Prop) : (X.wish E).Ok :=
  ⟨ok.mod, ok.kind, ok.glob, ok.blt, ok.above, ok.inj, ok.has, ok.cab, ok.hd, ok.frames, ok.stk, ok.exf, ok.bs, ok.bsz, ok.noex, ok.exfs, ok.funs, ok.frf⟩
theorem Cx.Ok.unwish {X : Cx} {E : Value → Shared → Prop} (ok : (X.wish E).Ok) : X.Ok :=
  ⟨ok.mod, ok.kind, ok.glob, ok.blt, ok.above, ok.inj, ok.has, ok.cab, ok.hd, ok.frames, ok.stk, ok.exf, ok.bs, ok.bsz, ok.noex, ok.exfs, ok.funs, ok.frf⟩
section
variable {X : Cx} {pins : List (Addr × Obj)} {σ : St} {H : Hp} {s : Shared} {E : Value → Shared → Prop}
theorem Inv.wish (I : Inv X pins σ H s) (E : Value → Shared → Prop) : Inv (X.wish E) pins σ H s := ⟨I.ok.wish E, I.os, I.bare, I.base, I.loc, I.cell, I.free, I.freeC, I.pin, I.hok, I.len⟩
theorem Inv.unwish (I : Inv (X.wish E) pins σ H s) : Inv X pins σ H s := ⟨I.ok.unwish, I.os, I.bare, I.base, I.loc, I.cell, I.free, I.freeC, I.pin, I.hok, I.len⟩
theorem SP.unwish {D : Ends} {f : Flow} {s' : Shared} (h : SP (X.wish E) pins D f s') : SP X pins D f s' := by
  cases f with
  | next => obtain ⟨σ', H', I, q⟩ := h; exact ⟨σ', H', I.unwish, q⟩
  | brk => obtain ⟨σ', H', I, q⟩ := h; exact ⟨σ', H', I.unwish, q⟩
  | cont => obtain ⟨σ', H', I, q⟩ := h; exact ⟨σ', H', I.unwish, q⟩
  | ret u => obtain ⟨v, σ', H', I, r, q⟩ := h; exact ⟨v, σ', H', I.unwish, r, q⟩
theorem PE.nox {e : Expr} {t : TE} (h : PE X.nox e t) : PE X e t := fun pins s σ H Q I hw =>
  wpAny_mono (h pins s σ H Q (I.wish _) hw) (fun _ _ ⟨v, H', I', r, q⟩ => ⟨v, H', I'.unwish, r, q⟩) fun _ _ z => False.elim z
theorem PT.nox {e : Expr} {t : TT} (h : PT X.nox e t) : PT X e t := fun pins s σ H Q I hw =>
  wpAny_mono (h pins s σ H Q (I.wish _) hw) (fun _ _ ⟨H', I', q⟩ => ⟨H', I'.unwish, q⟩) fun _ _ z => False.elim z
theorem PSs.nox {st : List Stmt} {t : TS} (h : PSs X.nox st t) : PSs X st t := fun pins s σ H D I hw =>
  wpAny_mono (h pins s σ H D (I.wish _) hw) (fun _ _ q => q.unwish) fun _ _ z => False.elim z
end
/-! ### blocks and small statements -/
section
variable {X : Cx} {st : Stmt} {rest : List Stmt} {t u : TS} {e : Expr} {te : TE} {pos : Pos}
def tNext : TS := fun D σ H => D.nx σ H
def tSeq (t u : TS) : TS := fun D σ H => t { D with nx := u D } σ H
theorem pss_nil : PSs X [] tNext := fun _ _ σ H _ I h => wpAny_execs_nil ⟨σ, H, I, h⟩
theorem pss_cons (h1 : PS X st t) (h2 : PSs X rest u) : PSs X (st :: rest) (tSeq t u) := by
  intro pins s σ H D I h
  refine wpAny_execs_cons (thn (h1 pins s σ H { D with nx := u D } I h) fun f s1 q => ?_)
  cases f with
  | next =>
    obtain ⟨σ', H', I', q⟩ := q
    exact h2 pins s1 σ' H' D I' q
  | ret v => exact q
  | brk => exact q
  | cont => exact q
theorem pss_one (h1 : PS X st t) : PSs X [st] t := by
  intro pins s σ H D I h
  refine wpAny_execs_cons (thn (h1 pins s σ H D I h) fun f s1 q => ?_)
  cases f with
  | next => exact wpAny_execs_nil q
  | ret v => exact q
  | brk => exact q
  | cont => exact q
/-- in a def's body nothing is shown -/
theorem Inv.quiet {pins : List (Addr × Obj)} {σ : St} {H : Hp} {s : Shared} (I : Inv X pins σ H s) : interactive X.env = false := by simp [interactive, I.ok.kind]
def tRet (te : TE) : TS := fun D σ H => te σ H D.rt
theorem ps_ret (he : PE X e te) : PS X (.Return (some e) pos) (tRet te) := by
  intro pins s σ H D I h
  exact wpAny_Return_some (thn (he pins s σ H _ I h) fun v s1 ⟨x, H1, I1, r1, q1⟩ => ⟨x, σ, H1, I1, r1, q1⟩)
def tIfS (c : TT) (t u : TS) : TS := fun D σ H => c σ H fun b H1 => if b = true then t D σ H1 else u D σ H1
theorem ps_if {c : Expr} {a b : List Stmt} {tc : TT} (hc : PT X c tc) (ha : PSs X a t) (hb : PSs X b u) : PS X (.If c a b pos) (tIfS tc t u) := by
  intro pins s σ H D I h
  refine wpAny_If (thn (hc pins s σ H _ I h) fun d s1 ⟨H1, I1, q1⟩ => ?_)
  cases d with
  | true => exact ha pins s1 σ H1 D I1 q1
  | false => exact hb pins s1 σ H1 D I1 q1
end
/-! ### targets -/
abbrev TG := V → St → Hp → (St → Hp → Prop) → Prop
def PG (X : Cx) (target : Expr) (t : TG) : Prop :=
  ∀ (pins : List (Addr × Obj)) (s : Shared) (σ : St) (H : Hp) (v : V) (u : Value) (Q : St → Hp → Prop), Inv X pins σ H s → RelV v u → t v σ H Q →
    wpAny (model X.prog X.w) X.A (assign target X.env u) (fun _ s' => ∃ σ' H', Inv X pins σ' H' s' ∧ Q σ' H') X.xe s
section
variable {X : Cx} {pos : Pos}
def gName (i : Nat) : TG := fun v σ H Q => Q (σ.set i (some v)) H
theorem pg_name {i : Nat} {x : Str} (hN : X.N.Nodup) (hi : X.N[i]? = some x) (hx : Loc X.env.scope x) (hf : X.fn x = true ∨ X.env.scope.names.lookup x = some .local := by first | exact .inl rfl | exact .inr rfl | assumption) : PG X (.Name x pos) (gName i) := by
  intro pins s σ H v u Q I r h
  exact wpAny_assign_Name (store_ok I hN hi hx r (fun s' I' => ⟨_, H, I', h⟩) hf)
/-- target = value -/
def tAsg (te : TE) (g : TG) : TS := fun D σ H => te σ H fun x H1 => g x σ H1 D.nx
/-- name = value -/
theorem ps_set {i : Nat} {x : Str} {e : Expr} {te : TE} {pos' : Pos} (hN : X.N.Nodup) (hi : X.N[i]? = some x) (hx : Loc X.env.scope x) (he : PE X e te) (hs : swapsWith e (some (.Name x pos')) pos.line X.env = pure false := by rfl) (hf : X.fn x = true ∨ X.env.scope.names.lookup x = some .local := by first | exact .inl rfl | exact .inr rfl | assumption) :
    PS X (.Assign [.Name x pos'] e pos) (tAsg te (gName i)) := by
  intro pins s σ H D I h
  refine wpAny_Assign_Name (thn (he pins s σ H _ I h) fun v s1 ⟨y, H1, I1, r1, q1⟩ => ?_) hs
  exact store_ok I1 hN hi hx r1 (fun s2 I2 => ⟨_, H1, I2, q1⟩) hf
end
/-! ### while -/
section
variable {X : Cx} {pos : Pos}
end
/-! ### what a loop or a comprehension walks -/
/-- at turn i: it yields x (the heap may grow), or it stops -/
structure It where
  go : Nat → Hp → Prop
  yld : Nat → Hp → V → Hp → Prop
  stop : Nat → Hp → Prop
/-- the iterator's own objects may turn: they are not the frame's, not pinned, younger than the entry (or a comprehension's own) -/
def FpOk (X : Cx) (pins : List (Addr × Obj)) (H : Hp) (b : Addr) : Prop :=
  H b = none ∧ b ≠ X.env.locals ∧ b ∉ X.fs ∧ (b ∈ X.ex ∨ X.s_0.heap.objs.size ≤ b) ∧ (∀ x c, X.env.cells.lookup x = some c → c ≠ b) ∧ ∀ p ∈ X.pn ++ pins, p.1 ≠ b
theorem Inv.fpOk {X : Cx} {pins : List (Addr × Obj)} {σ : St} {H H' : Hp} {s : Shared} {b : Addr} (I : Inv X pins σ H s) (hb : s.heap.objs.size ≤ b) (hn : H' b = none) : FpOk X pins H' b := by
  refine ⟨hn, Nat.ne_of_gt (Nat.lt_of_lt_of_le I.lt hb), I.nofs hb, .inr (Nat.le_trans I.sz hb), fun x c e z => ?_, fun p hp z => ?_⟩
  · obtain ⟨v, q⟩ := I.cell x c e
    exact absurd (Nat.lt_of_lt_of_le q.lt (by rw [z]; exact hb)) (Nat.lt_irrefl _)
  · exact absurd (Nat.lt_of_lt_of_le (Heap.lt_size (I.pin p hp).1) (by rw [z]; exact hb)) (Nat.lt_irrefl _)
structure Turn (P : Program) (w : World) (K : PySem.W.Frag) (tg : Expr) (J : It) (fp : List Addr) (it : Addr) (tn : Nat → Heap → Prop) : Prop where
  mem : it ∈ fp
  obj : ∀ i h, tn i h → ∀ b ∈ fp, ∃ o, h.get? b = some o ∧ ∀ v, o.data ≠ .cell v
  keep : ∀ i h h', tn i h → (∀ b ∈ fp, ∀ o, h.get? b = some o → h'.get? b = some o) → tn i h'
  item : ∀ (X : Cx), X.prog = P → X.w = w → X.K = K → X.calm = true → ∀ (i : Nat) (pins : List (Addr × Obj)) (s : Shared) (σ : St) (H : Hp) (E : Value → Shared → Prop), Inv X pins σ H s → (∀ b ∈ fp, FpOk X pins H b) → tn i s.heap → J.go i H →
    wpAny (model P w) X.A (pyNext (.ref it)) (fun r s1 => ∃ u, r = some u ∧
      wpAny (model P w) X.A (letOwnedTupleGo tg (.ref it) u) (fun _ s2 => ∃ x H', Inv X pins σ H' s2 ∧ RelV x u ∧ J.yld i H x H' ∧ tn (i + 1) s2.heap ∧ ∀ b ∈ fp, H' b = none) E s1) E s
  done : ∀ (X : Cx), X.prog = P → X.w = w → X.K = K → X.calm = true → ∀ (i : Nat) (pins : List (Addr × Obj)) (s : Shared) (σ : St) (H : Hp) (E : Value → Shared → Prop), Inv X pins σ H s → (∀ b ∈ fp, FpOk X pins H b) → tn i s.heap → J.stop i H →
    wpAny (model P w) X.A (pyNext (.ref it)) (fun r s1 => r = none ∧ Inv X pins σ H s1) E s
  self : ∀ (A : Around) (i : Nat) (s : Shared) (Q : Value → Shared → Prop) (E : Value → Shared → Prop), tn i s.heap → Q (.ref it) s → wpAny (model P w) A (pyIter (.ref it)) Q E s
abbrev TI := St → Hp → (It → Hp → Prop) → Prop
/-- an iterator has come -/
def PIE (X : Cx) (pins : List (Addr × Obj)) (σ : St) (tg : Expr) (R : It → Hp → Prop) (itv : Value) (s2 : Shared) : Prop :=
  ∃ (it : Addr) (fp : List Addr) (tn : Nat → Heap → Prop) (J : It) (H' : Hp), itv = .ref it ∧ Inv X pins σ H' s2 ∧ Turn X.prog X.w X.K tg J fp it tn ∧ tn 0 s2.heap ∧ (∀ b ∈ fp, FpOk X pins H' b) ∧ R J H'
def PI (X : Cx) (tg iter : Expr) (wi : TI) : Prop :=
  ∀ (pins : List (Addr × Obj)) (s : Shared) (σ : St) (H : Hp) (R : It → Hp → Prop), Inv X pins σ H s → wi σ H R →
    wpAny (model X.prog X.w) X.A (eval iter X.env) (fun v s1 => wpAny (model X.prog X.w) X.A (pyIter v) (PIE X pins σ tg R) X.xe s1) X.xe s
/-- the step ahead of the store is nothing for an iterator that keeps no tuple -/
theorem go_of {M : Model} {A : Around} {E : Value → Shared → Prop} {s : Shared} {tg : Expr} {it : Addr} {u : Value} {o : Obj} {n : String} {vs : Array Value} {Q : Unit → Shared → Prop} (ho : s.heap.get? it = some o) (hc : o.cls = .type n) (hd : o.data = .fields vs)
    (hn : ["enumerate", "zip", "dict_itemiterator", "dict_reverseitemiterator", "odict_iterator", "itertools.zip_longest", "itertools.pairwise"].contains n = false) (hQ : Q () s) : wpAny M A (letOwnedTupleGo tg (.ref it) u) Q E s := by
  unfold letOwnedTupleGo
  cases tg <;> first
    | exact wpAny_pure hQ
    | (cases u <;> first
        | exact wpAny_pure hQ
        | (refine wpAny_bind (wpAny_load ho ?_)
           rw [hc, hd]
           show wpAny M A (if (["enumerate", "zip", "dict_itemiterator", "dict_reverseitemiterator", "odict_iterator", "itertools.zip_longest", "itertools.pairwise"].contains n && vs[0]? == some (rawInt _)) = true then _ else _) Q E s
           rw [if_neg (by intro h; rw [hn, Bool.false_and] at h; cases h)]
           exact wpAny_pure hQ))
/-- the list at a, as it stands at each turn (a loop may append to it) -/
def Itl (K : PySem.W.Frag) (a : Addr) : It :=
  ⟨fun i H => ∃ xs x, SqL K H a xs ∧ xs[i]? = some x, fun i H x H' => H' = H ∧ ∀ xs, SqL K H a xs → xs[i]? = some x, fun i H => ∃ xs, SqL K H a xs ∧ xs.length ≤ i⟩
theorem turn_list {P : Program} {w : World} {K : PySem.W.Frag} {tg : Expr} (a it : Addr) : Turn P w K tg (Itl K a) [it] it (fun i h => h.IsListIter it a i) where
  mem := by simp
  obj := fun i h st b hb => by
    have e : b = it := by simpa using hb
    subst e
    obtain ⟨o, e, c, d⟩ := st
    exact ⟨o, e, fun v z => by rw [d] at z; cases z⟩
  keep := fun i h h' st k => st.at fun o e => k it (by simp) o e
  item := by
    intro X hP hw hK hc i pins s σ H E I hf st hg
    subst hP hw hK
    obtain ⟨xs, x, hq, hx⟩ := hg
    obtain ⟨its, rv, p, hz⟩ := I.list hq
    obtain ⟨u, hu, ru⟩ := rv.get hx
    obtain ⟨f0, f1, f2, f3, f4, f5⟩ := hf it (by simp)
    refine wpAny_pyNext_list_item st p.isList (x := u) (by simpa using hu) fun h' st' sb => ?_
    have I1 : Inv X pins σ H { s with heap := h' } := I.turned (t' := s.toks) (fun b o hb e => (sb.2 b hb).trans e) f0 f1 f3 f4 f5
    obtain ⟨o, e, c, d⟩ := id st'
    exact ⟨u, rfl, go_of (s := { s with heap := h' }) e c d (by decide) ⟨x, H, I1, ru, ⟨rfl, fun ys hy => by rw [I.list_inj hy hq]; exact hx⟩, st', fun b hb => (hf b hb).1⟩⟩
  done := by
    intro X hP hw hK hc i pins s σ H E I hf st hg
    subst hP hw hK
    obtain ⟨xs, hq, hx⟩ := hg
    obtain ⟨its, rv, p, hz⟩ := I.list hq
    obtain ⟨f0, f1, f2, f3, f4, f5⟩ := hf it (by simp)
    have hl := rv.length
    exact wpAny_pyNext_list_end (I.ok.hd hc) st p.isList (by simp; omega) fun h' eb => ⟨rfl, I.turned (t' := s.toks) (fun b o hb e => eb b o hb e) f0 f1 f3 f4 f5⟩
  self := fun _ _ _ _ _ st h => wpAny_pyIter_listiter st h
end L2
namespace L2
open PySem PySem.Spec PyProof.Rows
section
variable {X : Cx} {tg : Expr}
def iList (K : PySem.W.Frag) (tl : TE) : TI := fun σ H R => tl σ H fun x H1 => ∃ a, x = .ref a ∧ (∃ xs, SqL K H1 a xs) ∧ R (Itl K a) H1
theorem pi_list {l : Expr} {tl : TE} (hl : PE X l tl) : PI X tg l (iList X.K tl) := by
  intro pins s σ H R I h
  refine thn (hl pins s σ H _ I h) fun v s1 ⟨x, H1, I1, r1, q1⟩ => ?_
  obtain ⟨a, e, ⟨xs, hq⟩, q⟩ := q1
  subst e
  cases r1
  obtain ⟨its, rv, p, hz⟩ := I1.list hq
  refine wpAny_pyIter_list p.isList ?_
  refine ⟨s1.heap.objs.size, [s1.heap.objs.size], _, _, H1, rfl, I1.kept (t' := s1.toks) fun b o e => Heap.get?_push_of_some _ e, turn_list a _, ⟨_, Heap.get?_push_size _ rfl, rfl, rfl⟩, fun b hb => ?_, q⟩
  have e : b = s1.heap.objs.size := by simpa using hb
  subst e
  exact I1.fpOk (Nat.le_refl _) (I1.hok.fresh (Nat.le_refl _))
/-! ### for -/
/-- the records at fp as they stand -/
def pinsAt (fp : List Addr) (h : Heap) : List (Addr × Obj) := fp.filterMap fun b => (h.get? b).map fun o => (b, o)
theorem mem_pinsAt {fp : List Addr} {h : Heap} {b : Addr} {o : Obj} (hb : b ∈ fp) (e : h.get? b = some o) : (b, o) ∈ pinsAt fp h := List.mem_filterMap.mpr ⟨b, hb, by rw [e]; rfl⟩
theorem of_pinsAt {fp : List Addr} {h : Heap} {p : Addr × Obj} (hp : p ∈ pinsAt fp h) : p.1 ∈ fp ∧ h.get? p.1 = some p.2 := by
  obtain ⟨b, hb, e⟩ := List.mem_filterMap.mp hp
  cases q : h.get? b with
  | none => rw [q] at e; cases e
  | some o =>
    rw [q] at e
    have e' : (b, o) = p := Option.some.inj e
    subst e'
    exact ⟨hb, q⟩
theorem Inv.pinned {pins : List (Addr × Obj)} {σ : St} {H : Hp} {s : Shared} {fp : List Addr} (I : Inv X pins σ H s) (hf : ∀ b ∈ fp, FpOk X pins H b) (ho : ∀ b ∈ fp, ∃ o, s.heap.get? b = some o ∧ ∀ v, o.data ≠ .cell v) : Inv X (pins ++ pinsAt fp s.heap) σ H s :=
  I.pins_of fun p hp => (List.mem_append.mp hp).elim (fun z => I.pin p (List.mem_append_right _ z)) fun z => by
    obtain ⟨hb, e⟩ := of_pinsAt z
    obtain ⟨f0, f1, f2, _⟩ := hf p.1 hb
    obtain ⟨o, e', d⟩ := ho p.1 hb
    rw [e] at e'; cases e'
    exact ⟨e, f0, f1, f2, d⟩
theorem Inv.unpinned {pins pl : List (Addr × Obj)} {σ : St} {H : Hp} {s : Shared} (I : Inv X (pins ++ pl) σ H s) : Inv X pins σ H s := I.pins_of fun p hp => I.pin p (List.mem_append_right _ (List.mem_append_left _ hp))
end
/-! ### the forms one uses -/
end L2
namespace L2
open PySem PySem.Spec PyProof.Rows
abbrev R2 := V → V → Hp → VK → Prop
/-- a two-place operation on values: f is binaryOp op, inplaceOp op or compareOp op -/
def OpR (X : Cx) (f : Value → Value → Sem Value) (r : R2) : Prop :=
  ∀ (pins : List (Addr × Obj)) (s : Shared) (σ : St) (H : Hp) (x y : V) (v u : Value) (Q : VK), Inv X pins σ H s → RelV x v → RelV y u → r x y H Q →
    wpAny (model X.prog X.w) X.A (f v u) (EP X pins σ Q) X.xe s
/-- a one-place operation -/
def UnR (X : Cx) (f : Value → Sem Value) (r : V → Hp → VK → Prop) : Prop :=
  ∀ (pins : List (Addr × Obj)) (s : Shared) (σ : St) (H : Hp) (x : V) (v : Value) (Q : VK), Inv X pins σ H s → RelV x v → r x H Q →
    wpAny (model X.prog X.w) X.A (f v) (EP X pins σ Q) X.xe s
/-- a call of a value that is known (a builtin, a type) with values -/
def CallR (X : Cx) (f : Value) (r : List V → Hp → VK → Prop) : Prop :=
  ∀ (pins : List (Addr × Obj)) (s : Shared) (σ : St) (H : Hp) (xs : List V) (us : List Value) (Q : VK), Inv X pins σ H s → Vals xs us → r xs H Q →
    wpAny (model X.prog X.w) X.A (call f us) (EP X pins σ Q) X.xe s
def tOp (r : R2) (ta tb : TE) : TE := fun σ H Q => ta σ H fun x H1 => tb σ H1 fun y H2 => r x y H2 Q
def tUn (r : V → Hp → VK → Prop) (ta : TE) : TE := fun σ H Q => ta σ H fun x H1 => r x H1 Q
/-- ints in, under C, and a value out -/
def rI (C : Int → Int → Prop) (g : Int → Int → V) : R2 := fun x y H Q => ∃ i j, x = .int i ∧ y = .int j ∧ C i j ∧ Q (g i j) H
def rI0 (g : Int → Int → V) : R2 := fun x y H Q => ∃ i j, x = .int i ∧ y = .int j ∧ Q (g i j) H
def rU (g : Int → V) : V → Hp → VK → Prop := fun x H Q => ∃ i, x = .int i ∧ Q (g i) H
section
variable {X : Cx} {a b c : Expr} {ta tb tc : TE} {pos : Pos}
theorem binT (ha : PE X a ta) (hb : PE X b tb) {pins : List (Addr × Obj)} {s : Shared} {σ : St} {H : Hp} {R : V → V → Hp → Prop} (I : Inv X pins σ H s)
    (h : ta σ H fun x H1 => tb σ H1 fun y H2 => R x y H2) {Q : Value → Shared → Prop} {f : Value → Value → Sem Value}
    (hf : ∀ v u s2 x y H2, Inv X pins σ H2 s2 → RelV x v → RelV y u → R x y H2 → wpAny (model X.prog X.w) X.A (f v u) Q X.xe s2) :
    wpAny (model X.prog X.w) X.A (eval a X.env) (fun v s₁ => wpAny (model X.prog X.w) X.A (eval b X.env) (fun u s₂ => wpAny (model X.prog X.w) X.A (f v u) Q X.xe s₂) X.xe s₁) X.xe s := by
  refine thn (ha pins s σ H _ I h) fun v s1 ⟨x, H1, I1, r1, q1⟩ => ?_
  refine thn (hb pins s1 σ H1 _ I1 q1) fun u s2 ⟨y, H2, I2, r2, q2⟩ => ?_
  exact hf v u s2 x y H2 I2 r1 r2 q2
theorem pe_op {op : Operator} {r : R2} (ho : OpR X (binaryOp op) r) (ha : PE X a ta) (hb : PE X b tb) : PE X (.BinOp a op b pos) (tOp r ta tb) := by
  intro pins s σ H Q I h
  exact wpAny_BinOp (binT ha hb I h fun v u s2 x y H2 I2 rx ry q => ho pins s2 σ H2 x y v u Q I2 rx ry q)
theorem pe_un {op : UnaryOp} {r : V → Hp → VK → Prop} (ho : UnR X (unaryOp op) r) (ha : PE X a ta) : PE X (.UnaryOp op a pos) (tUn r ta) := by
  intro pins s σ H Q I h
  exact UnaryOp_ (thn (ha pins s σ H _ I h) fun v s1 ⟨x, H1, I1, r1, q1⟩ => ho pins s1 σ H1 x v Q I1 r1 q1)
/-! ### ints -/
theorem opI {f : Value → Value → Sem Value} {C : Int → Int → Prop} {g : Int → Int → Int}
    (rule : ∀ (i j : Int) (t u : Tok) (s : Shared) (Q : Value → Shared → Prop) (E : Value → Shared → Prop), C i j → Q (.int (g i j) s.toks) { s with toks := s.toks + 1 } → wpAny (model X.prog X.w) X.A (f (.int i t) (.int j u)) Q E s) :
    OpR X f (rI C fun i j => .int (g i j)) := by
  intro pins s σ H x y v u Q I rx ry h
  obtain ⟨i, j, rfl, rfl, hc, q⟩ := h
  obtain ⟨t, rfl⟩ := rx
  obtain ⟨t', rfl⟩ := ry
  exact rule i j t t' s _ _ hc ⟨.int (g i j), H, I.tok _, ⟨_, rfl⟩, q⟩
theorem opI0 {f : Value → Value → Sem Value} {g : Int → Int → Int}
    (rule : ∀ (i j : Int) (t u : Tok) (s : Shared) (Q : Value → Shared → Prop) (E : Value → Shared → Prop), Q (.int (g i j) s.toks) { s with toks := s.toks + 1 } → wpAny (model X.prog X.w) X.A (f (.int i t) (.int j u)) Q E s) :
    OpR X f (rI0 fun i j => .int (g i j)) := by
  intro pins s σ H x y v u Q I rx ry h
  obtain ⟨i, j, rfl, rfl, q⟩ := h
  obtain ⟨t, rfl⟩ := rx
  obtain ⟨t', rfl⟩ := ry
  exact rule i j t t' s _ _ ⟨.int (g i j), H, I.tok _, ⟨_, rfl⟩, q⟩
theorem opB0 {f : Value → Value → Sem Value} {g : Int → Int → Bool}
    (rule : ∀ (i j : Int) (t u : Tok) (s : Shared) (Q : Value → Shared → Prop) (E : Value → Shared → Prop), Q (.bool (g i j)) s → wpAny (model X.prog X.w) X.A (f (.int i t) (.int j u)) Q E s) :
    OpR X f (rI0 fun i j => .bl (g i j)) := by
  intro pins s σ H x y v u Q I rx ry h
  obtain ⟨i, j, rfl, rfl, q⟩ := h
  obtain ⟨t, rfl⟩ := rx
  obtain ⟨t', rfl⟩ := ry
  exact rule i j t t' s _ _ ⟨.bl (g i j), H, I, rfl, q⟩
def CMul (i j : Int) : Prop := (-(2 ^ 64) < i ∧ i < 2 ^ 64) ∨ (-(2 ^ 64) < j ∧ j < 2 ^ 64)
theorem CMul.ok {i j : Int} (h : CMul i j) : IntMulOk i j := by
  rcases h with ⟨h1, h2⟩ | ⟨h1, h2⟩
  · exact .of_left (intBits_le_64 h1 h2)
  · exact .of_right (intBits_le_64 h1 h2)
theorem two_pow_nn (k : Nat) : (0 : Int) ≤ 2 ^ k := by
  rw [two_pow_cast]
  exact Int.natCast_nonneg _
theorem op_add : OpR X (binaryOp .Add) (rI0 fun i j => .int (i + j)) := opI0 fun _ _ _ _ _ _ _ q => add_int q
theorem op_sub : OpR X (binaryOp .Sub) (rI0 fun i j => .int (i - j)) := opI0 fun _ _ _ _ _ _ _ q => sub_int q
/-- % by a positive divisor of any size -/
theorem op_mod : OpR X (binaryOp .Mod) (rI (fun _ j => 0 < j) fun i j => .int (i % j)) := opI fun i j _ _ _ _ _ hc q => by
  have h1 : (0 : Int) < j := hc
  exact mod_int' (by omega) (by rw [Int.fmod_eq_emod_of_nonneg i (by omega)]; exact q)
theorem op_shr : OpR X (binaryOp .RShift) (rI (fun _ j => 0 ≤ j) fun i j => .int (i / 2 ^ j.toNat)) := opI fun i j _ _ _ _ _ hc q =>
  rshift_int hc (by rw [Int.fdiv_eq_ediv_of_nonneg i (two_pow_nn _)]; exact q)
theorem op_and : OpR X (binaryOp .BitAnd) (rI0 fun i j => .int (Builtin.bitAnd i j)) := opI0 fun _ _ _ _ _ _ _ q => and_int q
theorem op_xor : OpR X (binaryOp .BitXor) (rI0 fun i j => .int (Builtin.bitXor i j)) := opI0 fun _ _ _ _ _ _ _ q => xor_int q
theorem unI {f : Value → Sem Value} {g : Int → Int}
    (rule : ∀ (i : Int) (t : Tok) (s : Shared) (Q : Value → Shared → Prop) (E : Value → Shared → Prop), Q (.int (g i) s.toks) { s with toks := s.toks + 1 } → wpAny (model X.prog X.w) X.A (f (.int i t)) Q E s) :
    UnR X f (rU fun i => .int (g i)) := by
  intro pins s σ H x v Q I rx h
  obtain ⟨i, rfl, q⟩ := h
  obtain ⟨t, rfl⟩ := rx
  exact rule i t s _ _ ⟨.int (g i), H, I.tok _, ⟨_, rfl⟩, q⟩
theorem un_neg : UnR X (unaryOp .USub) (rU fun i => .int (-i)) := unI fun _ _ _ _ _ q => neg_int q
/-! ### bools among ints: n += (a < b) -/
end
/-! ### comparisons -/
/-- the scalars that == tells apart as data does -/
def scal : V → V → Bool
  | .non, .non => true | .non, .int _ => true | .int _, .non => true | .non, .bl _ => true | .bl _, .non => true | .non, .str _ => true | .str _, .non => true
  | .int _, .int _ => true | .bl _, .bl _ => true | .str _, .str _ => true | .byt _, .byt _ => true
  | .int _, .str _ => true | .str _, .int _ => true | .bl _, .str _ => true | .str _, .bl _ => true
  | _, _ => false
def rEq : R2 := fun x y H Q => scal x y = true ∧ Q (.bl (decide (x = y))) H
def rNe : R2 := fun x y H Q => scal x y = true ∧ Q (.bl (!decide (x = y))) H
theorem dec_int {i j : Int} : decide (V.int i = V.int j) = (i == j) := by
  rw [Bool.eq_iff_iff]
  simp
theorem dec_bl {i j : Bool} : decide (V.bl i = V.bl j) = (i == j) := by
  rw [Bool.eq_iff_iff]
  simp
theorem dec_str {i j : Str} : decide (V.str i = V.str j) = (i == j) := by
  rw [Bool.eq_iff_iff]
  simp
theorem dec_byt {i j : Array UInt8} : decide (V.byt i = V.byt j) = (i.toList == j.toList) := by
  rw [Bool.eq_iff_iff]
  cases i
  cases j
  simp
section
variable {X : Cx} {a b c : Expr} {ta tb tc : TE} {pos : Pos}
theorem fin_bl {pins : List (Addr × Obj)} {σ : St} {H : Hp} {s : Shared} {Q : VK} {k k' : Bool} (I : Inv X pins σ H s) (q : Q (.bl k) H) (e : k = k') : EP X pins σ Q (.bool k') s := by
  subst e
  exact ⟨.bl k, H, I, rfl, q⟩
theorem op_eq : OpR X (compareOp .Eq) rEq := by
  intro pins s σ H x y v u Q I rx ry h
  obtain ⟨hs, q⟩ := h
  cases x with
  | non =>
    cases rx
    cases y with
    | non => cases ry; exact PySem.EqNone.eq_none_none (fin_bl I q (by simp))
    | bl j => cases ry; exact PySem.EqNone.eq_none_bool (fin_bl I q (by simp))
    | int j => obtain ⟨t', rfl⟩ := ry; exact PySem.EqNone.eq_none_int (fin_bl I q (by simp))
    | str j => obtain ⟨t', rfl⟩ := ry; exact PySem.EqNone.eq_none_str (fin_bl I q (by simp))
    | _ => exact absurd (show false = true from hs) Bool.false_ne_true
  | bl i =>
    cases rx
    cases y with
    | non => cases ry; exact PySem.EqNone.eq_bool_none (fin_bl I q (by simp))
    | bl j => cases ry; exact eq_bool (fin_bl I q dec_bl)
    | str j => obtain ⟨t', rfl⟩ := ry; exact PySem.EqMixed.eq_bool_str (fin_bl I q (by simp))
    | _ => exact absurd (show false = true from hs) Bool.false_ne_true
  | int i =>
    obtain ⟨t, rfl⟩ := rx
    cases y with
    | non => cases ry; exact PySem.EqNone.eq_int_none (fin_bl I q (by simp))
    | int j => obtain ⟨t', rfl⟩ := ry; exact eq_int (fin_bl I q dec_int)
    | str j => obtain ⟨t', rfl⟩ := ry; exact PySem.EqMixed.eq_int_str (fin_bl I q (by simp))
    | _ => exact absurd (show false = true from hs) Bool.false_ne_true
  | str i =>
    obtain ⟨t, rfl⟩ := rx
    cases y with
    | non => cases ry; exact PySem.EqNone.eq_str_none (fin_bl I q (by simp))
    | bl j => cases ry; exact PySem.EqMixed.eq_str_bool (fin_bl I q (by simp))
    | int j => obtain ⟨t', rfl⟩ := ry; exact PySem.EqMixed.eq_str_int (fin_bl I q (by simp))
    | str j => obtain ⟨t', rfl⟩ := ry; exact eq_str (fin_bl I q dec_str)
    | _ => exact absurd (show false = true from hs) Bool.false_ne_true
  | byt i =>
    obtain ⟨t, rfl⟩ := rx
    cases y with
    | byt j => obtain ⟨t', rfl⟩ := ry; exact PySem.W.eq_bytes (fin_bl I q dec_byt)
    | _ => exact absurd (show false = true from hs) Bool.false_ne_true
  | _ => cases y <;> exact absurd (show false = true from hs) Bool.false_ne_true
theorem op_ne : OpR X (compareOp .NotEq) rNe := by
  intro pins s σ H x y v u Q I rx ry h
  obtain ⟨hs, q⟩ := h
  cases x with
  | non =>
    cases rx
    cases y with
    | non => cases ry; exact PySem.EqNone.ne_none_none (fin_bl I q (by simp))
    | bl j => cases ry; exact PySem.EqNone.ne_none_bool (fin_bl I q (by simp))
    | int j => obtain ⟨t', rfl⟩ := ry; exact PySem.EqNone.ne_none_int (fin_bl I q (by simp))
    | str j => obtain ⟨t', rfl⟩ := ry; exact PySem.EqNone.ne_none_str (fin_bl I q (by simp))
    | _ => exact absurd (show false = true from hs) Bool.false_ne_true
  | bl i =>
    cases rx
    cases y with
    | non => cases ry; exact PySem.EqNone.ne_bool_none (fin_bl I q (by simp))
    | bl j => cases ry; exact ne_bool (fin_bl I q (congrArg not dec_bl))
    | str j => obtain ⟨t', rfl⟩ := ry; exact PySem.EqMixed.ne_bool_str (fin_bl I q (by simp))
    | _ => exact absurd (show false = true from hs) Bool.false_ne_true
  | int i =>
    obtain ⟨t, rfl⟩ := rx
    cases y with
    | non => cases ry; exact PySem.EqNone.ne_int_none (fin_bl I q (by simp))
    | int j => obtain ⟨t', rfl⟩ := ry; exact ne_int (fin_bl I q (congrArg not dec_int))
    | str j => obtain ⟨t', rfl⟩ := ry; exact PySem.EqMixed.ne_int_str (fin_bl I q (by simp))
    | _ => exact absurd (show false = true from hs) Bool.false_ne_true
  | str i =>
    obtain ⟨t, rfl⟩ := rx
    cases y with
    | non => cases ry; exact PySem.EqNone.ne_str_none (fin_bl I q (by simp))
    | bl j => cases ry; exact PySem.EqMixed.ne_str_bool (fin_bl I q (by simp))
    | int j => obtain ⟨t', rfl⟩ := ry; exact PySem.EqMixed.ne_str_int (fin_bl I q (by simp))
    | str j => obtain ⟨t', rfl⟩ := ry; exact ne_str (fin_bl I q (congrArg not dec_str))
    | _ => exact absurd (show false = true from hs) Bool.false_ne_true
  | byt i =>
    obtain ⟨t, rfl⟩ := rx
    cases y with
    | byt j => obtain ⟨t', rfl⟩ := ry; exact PySem.W.ne_bytes (fin_bl I q (congrArg not dec_byt))
    | _ => exact absurd (show false = true from hs) Bool.false_ne_true
  | _ => cases y <;> exact absurd (show false = true from hs) Bool.false_ne_true
theorem op_lt : OpR X (compareOp .Lt) (rI0 fun i j => .bl (decide (i < j))) := opB0 fun _ _ _ _ _ _ _ q => lt_int q
theorem op_le : OpR X (compareOp .LtE) (rI0 fun i j => .bl (decide (i ≤ j))) := opB0 fun _ _ _ _ _ _ _ q => le_int q
theorem op_gt : OpR X (compareOp .Gt) (rI0 fun i j => .bl (decide (j < i))) := opB0 fun _ _ _ _ _ _ _ q => gt_int q
theorem op_ge : OpR X (compareOp .GtE) (rI0 fun i j => .bl (decide (j ≤ i))) := opB0 fun _ _ _ _ _ _ _ q => ge_int q
/-- two rules for one operation: by cases -/
theorem OpR.or {f : Value → Value → Sem Value} {r r' : R2} (h : OpR X f r) (h' : OpR X f r') : OpR X f (fun x y H Q => r x y H Q ∨ r' x y H Q) := by
  intro pins s σ H x y v u Q I rx ry q
  rcases q with q | q
  · exact h pins s σ H x y v u Q I rx ry q
  · exact h' pins s σ H x y v u Q I rx ry q
theorem nomark (b : Expr) {op : CmpOp} (h : op ≠ .In := by decide) (h2 : op ≠ .NotIn := by decide) : behindInMarks op b = false := by
  have e1 : (op == CmpOp.In) = false := by cases op <;> first | rfl | exact absurd rfl h
  have e2 : (op == CmpOp.NotIn) = false := by cases op <;> first | rfl | exact absurd rfl h2
  cases b <;> simp [behindInMarks, e1, e2]
/-- a comparison as a value; hm: nomark b, or (for in, not in) by with_unfolding_all rfl -/
theorem pe_cmpR {op : CmpOp} {r : R2} (ho : OpR X (compareOp op) r) (ha : PE X a ta) (hb : PE X b tb) (hm : behindInMarks op b = false) : PE X (.Compare a [op] [b] pos) (tOp r ta tb) := by
  intro pins s σ H Q I h
  exact wpAny_Compare1 (binT ha hb I h fun v u s2 x y H2 I2 rx ry q => ho pins s2 σ H2 x y v u Q I2 rx ry q) hm
/-- a reading of a value as a test -/
def tTest (t : TE) : TT := fun σ H Q => t σ H fun x H' => ∃ k, x = .bl k ∧ Q k H'
theorem pt_cmpR {op : CmpOp} {r : R2} (ho : OpR X (compareOp op) r) (ha : PE X a ta) (hb : PE X b tb) (hm : behindInMarks op b = false) : PT X (.Compare a [op] [b] pos) (tTest (tOp r ta tb)) := by
  intro pins s σ H Q I h
  refine wpAny_isTrue_Compare1 (thn (ha pins s σ H _ I h) fun v s1 ⟨x, H1, I1, r1, q1⟩ => thn (hb pins s1 σ H1 _ I1 q1) fun u s2 ⟨y, H2, I2, r2, q2⟩ =>
    thn (ho pins s2 σ H2 x y v u _ I2 r1 r2 q2) fun c s3 ⟨z, H3, I3, r3, k, e, q3⟩ => ?_) hm
  subst e
  cases r3
  exact wpAny_truthy_bool ⟨H3, I3, q3⟩
/-! ### truth -/
theorem line63 : (sizeLine : Nat) < 2 ^ 63 := by rw [sizeLine_eq]; decide
/-! ### strs and bytes -/
/-! ### scalar builtins, by CallR -/
theorem vals1 {x : V} {us : List Value} (r : Vals [x] us) : ∃ u, us = [u] ∧ RelV x u := by
  cases r with
  | cons r1 r2 => cases r2; exact ⟨_, rfl, r1⟩
theorem vals2 {x y : V} {us : List Value} (r : Vals [x, y] us) : ∃ u w', us = [u, w'] ∧ RelV x u ∧ RelV y w' := by
  cases r with
  | cons r1 r2 =>
    cases r2 with
    | cons r3 r4 => cases r4; exact ⟨_, _, rfl, r1, r3⟩
theorem call_max2 (hc : X.calm = true) : CallR X (.builtin "max") (fun xs H Q => ∃ i j, xs = [.int i, .int j] ∧ Q (.int (if j > i then j else i)) H) := by
  intro pins s σ H xs us Q I r h
  obtain ⟨i, j, rfl, q⟩ := h
  obtain ⟨u, w', rfl, ⟨t, rfl⟩, ⟨t', rfl⟩⟩ := vals2 r
  refine max_two_ints (I.ok.hd hc) fun h' tk k => ⟨_, H, I.kept k, ?_, q⟩
  by_cases hj : j > i
  · rw [if_pos hj, if_pos hj]; exact ⟨_, rfl⟩
  · rw [if_neg hj, if_neg hj]; exact ⟨_, rfl⟩
theorem call_min2 (hc : X.calm = true) : CallR X (.builtin "min") (fun xs H Q => ∃ i j, xs = [.int i, .int j] ∧ Q (.int (if j < i then j else i)) H) := by
  intro pins s σ H xs us Q I r h
  obtain ⟨i, j, rfl, q⟩ := h
  obtain ⟨u, w', rfl, ⟨t, rfl⟩, ⟨t', rfl⟩⟩ := vals2 r
  refine min_two_ints (I.ok.hd hc) fun h' tk k => ⟨_, H, I.kept k, ?_, q⟩
  by_cases hj : j < i
  · rw [if_pos hj, if_pos hj]; exact ⟨_, rfl⟩
  · rw [if_neg hj, if_neg hj]; exact ⟨_, rfl⟩
/-- len of a str, a bytes, a list, a tuple -/
def LenV (K : PySem.W.Frag) (x : V) (H : Hp) (n : Nat) : Prop :=
  match x with
  | .str y => y.length ≤ sizeLine ∧ n = y.length
  | .byt y => y.size ≤ sizeLine ∧ n = y.size
  | .ref p => (∃ xs, SqL K H p xs ∧ n = xs.length) ∨ ∃ xs, SqT K H p xs ∧ n = xs.length
  | _ => False
theorem call_len : CallR X (.builtin "len") (fun xs H Q => ∃ x n, xs = [x] ∧ LenV X.K x H n ∧ Q (.int n) H) := by
  intro pins s σ H xs us Q I r h
  obtain ⟨x, n, rfl, e, q⟩ := h
  obtain ⟨u, rfl, rx⟩ := vals1 r
  have hl := line63
  have hs : sizeLine = 16777216 := sizeLine_eq
  cases x with
  | str y =>
    obtain ⟨t, rfl⟩ := rx
    obtain ⟨hy, e'⟩ : y.length ≤ sizeLine ∧ n = y.length := e
    subst e'
    exact len_str (by omega) ⟨.int _, H, I.tok _, ⟨_, rfl⟩, q⟩
  | byt y =>
    obtain ⟨t, rfl⟩ := rx
    obtain ⟨hy, e'⟩ : y.size ≤ sizeLine ∧ n = y.size := e
    subst e'
    exact PySem.W.len_bytes (by omega) ⟨.int _, H, I.tok _, ⟨_, rfl⟩, q⟩
  | ref p =>
    cases rx
    have e' : (∃ xs, SqL X.K H p xs ∧ n = xs.length) ∨ ∃ xs, SqT X.K H p xs ∧ n = xs.length := e
    rcases e' with ⟨xs, hx, e'⟩ | ⟨xs, hx, e'⟩
    · subst e'
      obtain ⟨its, r', pl, hz⟩ := I.list hx
      have hlen := r'.length
      exact Calls.call_len_list pl.isList (by simp only [List.size_toArray]; omega) ⟨.int xs.length, H, I.tok _, ⟨_, by simp only [List.size_toArray]; rw [hlen]⟩, q⟩
    · subst e'
      obtain ⟨its, r', pl, hz⟩ := I.tuple hx
      have hlen := r'.length
      exact len_tuple pl (by simp only [List.size_toArray]; omega) ⟨.int xs.length, H, I.tok _, ⟨_, by simp only [List.size_toArray]; rw [hlen]⟩, q⟩
  | _ => exact (show False from e).elim
end
end L2
namespace L2
open PySem PySem.Spec PyProof.Rows
/-! ### an instance, its attributes a map -/
structure ObjM (h : Heap) (x dx C : Addr) (mA : Str → Option Value) : Prop where
  obj : h.get? x = some (PySem.W.instObj C dx)
  ns : h.Ns1 dx mA
  ne : dx ≠ x
theorem lookIn_ns {h : Heap} {dx : Addr} {mA : Str → Option Value} (n : h.Ns1 dx mA) : ∃ od, h.get? dx = some od ∧ ∀ name, PySem.W.lookIn name od = some (mA name) := by
  obtain ⟨o, es, ep, ho, hd, hk, _, hm⟩ := n
  refine ⟨o, ho, fun name => ?_⟩
  have e := hm name
  unfold nsFind findBy at e
  rw [← Array.find?_toList] at e
  unfold PySem.W.lookIn
  rw [hd]
  dsimp only
  split
  · rename_i y q
    rw [q] at e
    exact congrArg some e
  · rename_i q
    rw [q] at e
    have a : es.toList.any (·.refKey) = false := by
      rw [List.any_eq_false]
      intro y hy
      obtain ⟨z, t, hkey⟩ := hk y (Array.mem_toList_iff.mp hy)
      simp [DictEntry.refKey, hkey]
    have a' : ¬ es.toList.any (·.refKey) = true := by rw [a]; exact Bool.false_ne_true
    rw [if_neg a']
    exact congrArg some e
theorem ObjM.look {h : Heap} {x dx C : Addr} {mA : Str → Option Value} (I : ObjM h x dx C mA) : ∃ od, PySem.W.InstAt h x (PySem.W.instObj C dx) C (some od) ∧ ∀ name, PySem.W.lookIn name od = some (mA name) :=
  let ⟨od, ho, hl⟩ := lookIn_ns I.ns
  ⟨od, ⟨I.obj, rfl, rfl, ho⟩, hl⟩
section
variable {prog : Program} {w : World} {A : Around} {E : Value → Shared → Prop} {s : Shared} {K : PySem.W.Frag} {x dx C f : Addr} {mA : Str → Option Value} {name : Str} {v : Value}
theorem get_map {expr : Bool} {Q : Value → Shared → Prop} (X : K.In s.heap) (I : ObjM s.heap x dx C mA) (hg : PySem.W.plainGet K C name = true) (hh : PySem.W.hasDictIn K C = true)
    (ha : PySem.W.findIn K (.ref C) name = some none) (hv : mA name = some v) (hv' : PySem.W.handedIn v = true) (h : Q v { s with toks := s.toks + 1 }) :
    wpAny (model prog w) A (getAttr (.ref x) name expr) Q E s := by
  obtain ⟨od, J, hl⟩ := I.look
  exact PySem.W.get_value X J (PySem.W.plainGet_of hg).1 (PySem.W.findObj_own hh ha rfl (by rw [hl, hv])) hv' h
theorem set_map {ns : List Str} {Q : Unit → Shared → Prop} (X : K.In s.heap) (I : ObjM s.heap x dx C mA)
    (hs : PySem.W.findIn K (.ref C) "__setattr__" = some (some (.builtin "object.__setattr__"))) (hp : PySem.W.plainOver K C = true) (ht : PySem.W.takerIn K C name = some none) (hh : PySem.W.hasDictIn K C = true)
    (hw : PySem.Within mA ns) (hsz : ns.length ≤ sizeLine)
    (h : ∀ h', ObjM h' x dx C (fun y => if y = name then some v else mA y) → Heap.SameBut dx s.heap h' → Q () { s with heap := h', toks := s.toks + 2 }) :
    wpAny (model prog w) A (setAttr (.ref x) name v) Q E s := by
  obtain ⟨od, J, hl⟩ := I.look
  refine PySem.W.set_plain X J hs (PySem.W.osa_open (s := { s with toks := s.toks + 1 }) (r := none) X J hp ht fun b => ?_)
  obtain ⟨cd, hc, hd'⟩ := PySem.W.any_some hh
  have hx : s.heap.get? x = some ⟨.ref C, some dx, .plain, #[]⟩ := I.obj
  refine wpAny_bind (wpAny_pure (wpAny_bind (wpAny_bind (wpAny_loadPart hx (wpAny_bind (PySem.W.Looks.here (s := { s with toks := s.toks + 1 }) (PySem.W.looks_clsIn X hc) ?_))))))
  rw [hd']
  refine wpAny_pure (a := some dx) (wpAny_bind (wpAny_pure (wpAny_bind ?_)))
  refine wpAny_nsSet1 (s := { s with toks := s.toks + 1 }) I.ns fun h' hn2 hs2 => ?_
  obtain ⟨oD, esD, epD, hoD, hdD, hcD⟩ := hn2.count (PySem.Within.cons name v hw)
  refine wpAny_bind (wpAny_lookBehind hoD (by rw [hdD]; exact pastItsLine_dict (Nat.le_trans hcD (by rw [List.length_cons]; omega))) ?_)
  exact wpAny_pure (h _ ⟨(hs2.2 _ (Ne.symm I.ne)).trans I.obj, hn2, I.ne⟩ hs2)
/-- C(..): the dict at the heap's end, the instance behind it; then its __init__ -/
theorem make_map {R : Result → Shared → Prop} {vs : List Value} {kw : List (Str × Value)} (X : K.In s.heap) (hm : PySem.W.makesIn K C = true)
    (hi : PySem.W.findIn K (.ref C) "__init__" = some (some (.ref f))) (hf : PySem.W.typeIn K (.ref f) = some (.type "function"))
    (h : codeAny (model prog w) (A.under (.builtin "type.__call__" ⟨.ref C :: vs, kw⟩)) (.call (.ref f) ⟨.ref (s.heap.objs.size + 1) :: vs, kw⟩) (PySem.W.InitBack (s.heap.objs.size + 1) R)
      { s with heap := (s.heap.push PySem.W.emptyDict).push (PySem.W.instObj C s.heap.objs.size) }) :
    codeAny (model prog w) A (.call (.ref C) ⟨vs, kw⟩) R s := by
  obtain ⟨hh, g, d, t, os⟩ := s
  exact PySem.W.make_core (PySem.W.makes_of X hm) (PySem.W.looks_findIn X hi) (fun self => PySem.W.bind_fn X self hf) (.inl rfl) h
end
/-! ### the attributes as a list of pairs -/
def putF (f : Str) (v : V) : List (Str × V) → List (Str × V)
  | [] => [(f, v)]
  | (g, x) :: r => if g = f then (g, v) :: r else (g, x) :: putF f v r
theorem lookup_putF (f g : Str) (v : V) : ∀ fs : List (Str × V), (putF f v fs).lookup g = if g = f then some v else fs.lookup g
  | [] => by
    show List.lookup g [(f, v)] = _
    by_cases h : g = f
    · have hb : (g == f) = true := beq_iff_eq.mpr h
      simp only [List.lookup, hb, if_pos h]
    · have hb : (g == f) = false := beq_eq_false_iff_ne.mpr h
      simp only [List.lookup, hb, if_neg h]
  | (k, x) :: r => by
    have ih := lookup_putF f g v r
    rw [show putF f v ((k, x) :: r) = (if k = f then (k, v) :: r else (k, x) :: putF f v r) from rfl]
    by_cases hk : k = f
    · rw [if_pos hk]
      by_cases h : g = k
      · have hb : (g == k) = true := beq_iff_eq.mpr h
        simp only [List.lookup, hb, if_pos (h.trans hk)]
      · have hb : (g == k) = false := beq_eq_false_iff_ne.mpr h
        simp only [List.lookup, hb, if_neg (fun e : g = f => h (e.trans hk.symm))]
    · rw [if_neg hk]
      by_cases h : g = k
      · have hb : (g == k) = true := beq_iff_eq.mpr h
        simp only [List.lookup, hb, if_neg (fun e : g = f => hk (h.symm.trans e))]
      · have hb : (g == k) = false := beq_eq_false_iff_ne.mpr h
        simp only [List.lookup, hb]
        exact ih
theorem keys_putF (f : Str) (v : V) : ∀ fs : List (Str × V), f ∈ (putF f v fs).map (·.1) ∧ ∀ g, g ∈ fs.map (·.1) → g ∈ (putF f v fs).map (·.1)
  | [] => ⟨by simp [putF], fun g h => by simp at h⟩
  | (k, x) :: r => by
    obtain ⟨i1, i2⟩ := keys_putF f v r
    rw [show putF f v ((k, x) :: r) = (if k = f then (k, v) :: r else (k, x) :: putF f v r) from rfl]
    by_cases hk : k = f
    · rw [if_pos hk]
      subst hk
      exact ⟨by simp, fun g h => by simpa using h⟩
    · rw [if_neg hk]
      refine ⟨?_, fun g h => ?_⟩
      · rw [List.map_cons]
        exact List.mem_cons_of_mem _ i1
      · rw [List.map_cons] at h ⊢
        rcases List.mem_cons.mp h with e | e
        · exact List.mem_cons.mpr (.inl e)
        · exact List.mem_cons_of_mem _ (i2 g e)
theorem length_putF (f : Str) (v : V) : ∀ fs : List (Str × V), (putF f v fs).length ≤ fs.length + 1
  | [] => by simp [putF]
  | (k, x) :: r => by
    have ih := length_putF f v r
    rw [show putF f v ((k, x) :: r) = (if k = f then (k, v) :: r else (k, x) :: putF f v r) from rfl]
    by_cases hk : k = f
    · rw [if_pos hk, List.length_cons, List.length_cons]; omega
    · rw [if_neg hk, List.length_cons, List.length_cons]; omega
theorem RelO.some_of {v : V} {o : Option Value} (r : RelO (some v) o) : ∃ u, o = some u ∧ RelV v u := by
  cases o with
  | none => exact (show False from r).elim
  | some u => exact ⟨u, rfl, r⟩
theorem handed_of {v : V} {u : Value} (r : RelV v u) : PySem.W.handedIn u = true := by
  cases v with
  | non => cases (show u = Value.none from r); rfl
  | bl b => cases (show u = Value.bool b from r); rfl
  | int i => obtain ⟨t, e⟩ := (show ∃ t, u = Value.int i t from r); cases e; rfl
  | str x => obtain ⟨t, e⟩ := (show ∃ t, u = Value.str x t from r); cases e; rfl
  | byt b => obtain ⟨t, e⟩ := (show ∃ t, u = Value.bytes b t from r); cases e; rfl
  | flt b => obtain ⟨t, e⟩ := (show ∃ t, u = Value.float b t from r); cases e; rfl
  | ref a => cases (show u = Value.ref a from r); rfl
  | ty n => cases (show u = Value.type n from r); rfl
section
variable {P : Program} {w : World} {H H' : Hp} {h h' : Heap} {a C dx : Addr} {fs fs' : List (Str × V)}
theorem ins_get (hok : HOk P w H h) (e : H a = some (.ins C dx fs)) : ∃ mA, ObjM h a dx C mA ∧ (∀ f, RelO (fs.lookup f) (mA f)) ∧ PySem.Within mA (fs.map (·.1)) ∧ fs.length ≤ 1000 ∧ H dx = some (.own a) := by
  obtain ⟨d, z, ne, ob, mA, n, r, q⟩ := (show ObjOk P w H h a (.ins C dx fs) from hok a _ e)
  exact ⟨mA, ⟨ob, n, ne⟩, r, q, z, d⟩
end
/-! ### what of the text a class must have -/
structure Cls (K : PySem.W.Frag) (C : Addr) : Prop where
  pg : PySem.W.plainGet K C Str.empty = true
  hd : PySem.W.hasDictIn K C = true
  po : PySem.W.plainOver K C = true
  sa : PySem.W.findIn K (.ref C) "__setattr__" = some (some (.builtin "object.__setattr__"))
theorem Cls.get {K : PySem.W.Frag} {C : Addr} (c : Cls K C) (f : Str) : PySem.W.plainGet K C f = true := c.pg
/-- no class of it has the name -/
def NoAttr (K : PySem.W.Frag) (C : Addr) (f : Str) : Prop := PySem.W.findIn K (.ref C) f = some none
theorem NoAttr.taker {K : PySem.W.Frag} {C : Addr} {f : Str} (n : NoAttr K C f) : PySem.W.takerIn K C f = some none := by
  unfold PySem.W.takerIn
  rw [show PySem.W.findIn K (.ref C) f = some none from n]
  rfl
/-- a constant of the class -/
structure Con (K : PySem.W.Frag) (C : Addr) (f : Str) (v : V) (u : Value) : Prop where
  at_ : PySem.W.findIn K (.ref C) f = some (some u)
  rel : RelV v u
  get : PySem.W.specialIn K u "__get__" = some none
  cp : PySem.W.copiedNames.contains f = false
/-- a method: a plain def of the class or of one above it -/
structure Meth (K : PySem.W.Frag) (C : Addr) (m : Str) (f : Addr) : Prop where
  at_ : PySem.W.findIn K (.ref C) m = some (some (.ref f))
  fn : PySem.W.isFn K (.ref f) = true
  kp : PySem.W.keepIn K (.ref f) = true
section
variable {X : Cx} {pins : List (Addr × Obj)} {σ : St} {H : Hp} {s : Shared} {a C dx : Addr} {fs : List (Str × V)} {f : Str} {v : V} {A : Around} {E : Value → Shared → Prop}
theorem getattr_ok {b : Bool} {Q : Value → Shared → Prop} (I : Inv X pins σ H s) (e : H a = some (.ins C dx fs)) (c : Cls X.K C) (n : NoAttr X.K C f) (l : fs.lookup f = some v)
    (h : ∀ u s', Inv X pins σ H s' → RelV v u → Q u s') : wpAny (model X.prog X.w) A (getAttr (.ref a) f b) Q E s := by
  obtain ⟨mA, O, r, _, _, _⟩ := ins_get I.hok e
  obtain ⟨u, hu, ru⟩ := RelO.some_of (v := v) (o := mA f) (by rw [← l]; exact r f)
  exact get_map I.kIn O (c.get f) c.hd n hu (handed_of ru) (h u _ (I.tok _) ru)
theorem setattr_ok {y : V} {u : Value} {Q : Unit → Shared → Prop} (I : Inv X pins σ H s) (e : H a = some (.ins C dx fs)) (c : Cls X.K C) (n : NoAttr X.K C f) (hl : fs.length < 1000) (ry : RelV y u)
    (h : ∀ s', Inv X pins σ (upd H a (.ins C dx (putF f y fs))) s' → Q () s') : wpAny (model X.prog X.w) A (setAttr (.ref a) f u) Q E s := by
  obtain ⟨mA, O, r, wi, _, ho⟩ := ins_get I.hok e
  have hz : (fs.map (·.1)).length ≤ sizeLine := by rw [List.length_map, sizeLine_eq]; omega
  refine set_map I.kIn O c.sa c.po n.taker c.hd wi hz fun h' O' sb => h _ ?_
  have hd : ∃ o, h'.get? dx = some o := let ⟨o, _, _, e', _⟩ := O'.ns; ⟨o, e'⟩
  refine I.write (x := a) (e := dx) (by rw [e]; exact True.intro) (.inr ho) (fun b q hb z => (sb.2 b hb).trans z) hd ?_
  refine ⟨by rw [upd_ne O.ne]; exact ho, ?_, O.ne, O'.obj, _, O'.ns, fun g => ?_, fun g hg => ?_⟩
  · have := length_putF f y fs; omega
  · show RelO ((putF f y fs).lookup g) (if g = f then some u else mA g)
    rw [lookup_putF]
    by_cases q : g = f
    · rw [if_pos q, if_pos q]; exact ry
    · rw [if_neg q, if_neg q]; exact r g
  · by_cases q : g = f
    · rw [q]; exact (keys_putF f y fs).1
    · refine (keys_putF f y fs).2 g (wi g fun z => hg ?_)
      show (if g = f then some u else mA g) = none
      rw [if_neg q]; exact z
/-- a new instance, tracked, without attributes -/
theorem Inv.made (I : Inv X pins σ H s) : Inv X pins σ (upd (upd H s.heap.objs.size (.own (s.heap.objs.size + 1))) (s.heap.objs.size + 1) (.ins C s.heap.objs.size []))
    { s with heap := (s.heap.push PySem.W.emptyDict).push (PySem.W.instObj C s.heap.objs.size) } := by
  have e1 : (s.heap.push PySem.W.emptyDict).get? s.heap.objs.size = some PySem.W.emptyDict := Heap.get?_push_size s.heap rfl
  have e2 : ((s.heap.push PySem.W.emptyDict).push (PySem.W.instObj C s.heap.objs.size)).get? (s.heap.objs.size + 1) = some (PySem.W.instObj C s.heap.objs.size) := by
    have := Heap.get?_push_size (s.heap.push PySem.W.emptyDict) (o := PySem.W.instObj C s.heap.objs.size) rfl
    rwa [Heap.size_push] at this
  have e3 : (s.heap.push PySem.W.emptyDict).Ns s.heap.objs.size (fun _ => none) := ⟨PySem.W.emptyDict, #[], _, e1, rfl, (fun e he => absurd he (by simp)), fun _ => rfl⟩
  have I1 := I.laid (a := s.heap.objs.size) (o := .own (s.heap.objs.size + 1)) (h' := s.heap.push PySem.W.emptyDict) (t' := s.toks) (fun b u q => Heap.get?_push_of_some _ q) (Nat.le_refl _) ⟨_, e1⟩
  refine I1.laid (a := s.heap.objs.size + 1) (o := .ins C s.heap.objs.size []) (t' := s.toks) (fun b u q => Heap.get?_push_of_some _ q) (Nat.le_of_eq (Heap.size_push _ _)) ?_
  have ne : s.heap.objs.size ≠ s.heap.objs.size + 1 := Nat.ne_of_lt (Nat.lt_succ_self _)
  refine ⟨by rw [upd_ne ne, upd_same], Nat.zero_le _, ne, e2, fun _ => none, (Heap.Ns1.of_empty e3).at fun o q => Heap.get?_push_of_some _ q, fun _ => True.intro, fun y hy => absurd rfl hy⟩
/-- e.f where nothing but the object is asked: through attributeBase (super) and the last hold -/
theorem attr_of {prog : Program} {w : World} {env : Env} {e : Expr} {f : Str} {pos : Pos} {s : Shared} {Q : Value → Shared → Prop} (hb : attributeBase e f env (eval e env) = eval e env)
    (h : wpAny (model prog w) A (eval e env) (fun o s₁ => wpAny (model prog w) A (getAttr o f true) Q E s₁) E s) : wpAny (model prog w) A (eval (.Attribute e f pos) env) Q E s :=
  Attribute_any_ h (by rw [arm_eval_Attribute, hb])
end
/-! ### readings and rules -/
/-- e.f = value -/
def sFld (K : PySem.W.Frag) (ta tv : TE) (f : Str) : TS := fun D σ H => tv σ H fun y H1 => ta σ H1 fun x H2 => ∃ a C dx fs, x = .ref a ∧ H2 a = some (.ins C dx fs) ∧ Cls K C ∧ NoAttr K C f ∧ fs.length < 1000 ∧
  D.nx σ (upd H2 a (.ins C dx (putF f y fs)))
section
variable {X : Cx} {o e value : Expr} {f : Str} {pos pos' tpos : Pos} {ta tv : TE}
theorem ps_fld (ha : PE X o ta) (hv : PE X value tv) (hs : swapsWith value (some (.Attribute o f pos')) pos.line X.env = pure false) : PS X (.Assign [.Attribute o f pos'] value pos) (sFld X.K ta tv f) := by
  intro pins s σ H D I h
  refine plainObj_wpAny_Assign_Attribute (thn (hv pins s σ H _ I h) fun u s1 ⟨y, H1, I1, ry, q⟩ => thn (ha pins s1 σ H1 _ I1 q) fun ov s2 ⟨x, H2, I2, rx, a, C, dx, fs, ex, ea, c, n, l, q2⟩ => ?_) hs
  subst ex
  obtain rfl : ov = Value.ref a := rx
  exact setattr_ok I2 ea c n l ry fun s3 I3 => ⟨σ, _, I3, q2⟩
end
/-! ### isinstance -/
section
variable {X : Cx} {pins : List (Addr × Obj)} {σ : St} {H : Hp} {s : Shared} {A : Around} {E : Value → Shared → Prop} {Q : Value → Shared → Prop} {c : Value} {b : Bool}
/-- the type of a value, as the fragment's deciders take it; for an instance its class -/
inductive TyOf (K : PySem.W.Frag) (H : Hp) : V → Value → Prop where
  | non : TyOf K H .non (.type "NoneType")
  | bl (x : Bool) : TyOf K H (.bl x) (.type "bool")
  | int (i : Int) : TyOf K H (.int i) (.type "int")
  | str (x : Str) : TyOf K H (.str x) (.type "str")
  | flt (x : UInt64) : TyOf K H (.flt x) (.type "float")
  | lst {a : Addr} {xs : List V} (e : H a = some (.lst xs)) : TyOf K H (.ref a) (.type "list")
  | frz {a : Addr} {o : Obj} {xs : List V} (e : H a = some (.frz o (.lst xs))) : TyOf K H (.ref a) (.type "list")
  | tup {a : Addr} {xs : List V} (e : H a = some (.tup xs)) : TyOf K H (.ref a) (.type "tuple")
  | dK {a : Addr} {kvs : List (Key × V)} (e : H a = some (.dK kvs)) : TyOf K H (.ref a) (.type "dict")
  | dT {a : Addr} {kvs : List (List Key × V)} (e : H a = some (.dT kvs)) : TyOf K H (.ref a) (.type "dict")
  | ins {a C dx : Addr} {fs : List (Str × V)} (e : H a = some (.ins C dx fs)) (cl : Cls K C) (ha : PySem.W.findIn K (.ref C) "__class__" = some (some (.builtin "object.__class__")))
      (hn : PySem.W.specialIn K (.builtin "object.__class__") "__get__" = some (some (.builtin "getset_descriptor.__get__"))) (htk : PySem.W.takesIn K (.builtin "object.__class__") = some true)
      (hm : PySem.W.mroIn K C (.type "object") = some true) : TyOf K H (.ref a) (.ref C)
end
end L2
namespace L2
open PySem PySem.Spec PyProof.Rows
/-! ### room -/
structure Room (k : Nat) (A : Around) : Prop where
  hd : A.handled = none
  dp : A.depth + 3 * k + 5 < recursionLimit
  un : A.units + 16 * k + 200 < cLine
theorem Room.mono {j k : Nat} {A : Around} (r : Room k A) (h : j ≤ k) : Room j A := ⟨r.hd, by have := r.dp; omega, by have := r.un; omega⟩
theorem Room.deeper {k : Nat} {A : Around} (r : Room (k + 1) A) (env : Env) : Room k (A.deeper env) :=
  ⟨r.hd, by have := r.dp; show A.depth + 1 + 3 * k + 5 < _; omega, by have := r.un; show A.units + 3 + 16 * k + 200 < _; omega⟩
theorem Room.in1 {k : Nat} {A : Around} (r : Room (k + 1) A) : Room k A.in1 :=
  ⟨r.hd, by have := r.dp; show A.depth + 3 * k + 5 < _; omega, by have := r.un; show A.units + 1 + 16 * k + 200 < _; omega⟩
theorem make_depth {A : Around} {C : Addr} {us : List Value} {kw : List (Str × Value)} : (A.under (.builtin "type.__call__" ⟨.ref C :: us, kw⟩)).depth = A.depth + 1 := by
  first | rfl | simp [Around.under, Code.weight, Code.isCreation, Code.isGuard, Code.isCaller, Code.frames, Code.isFrame, guardIds]
theorem make_units {A : Around} {C : Addr} {us : List Value} {kw : List (Str × Value)} : (A.under (.builtin "type.__call__" ⟨.ref C :: us, kw⟩)).units = A.units + 1 := by
  first | rfl | simp [Around.under, Code.cUnits, Code.frames, Code.isFrame]
theorem Room.make {k : Nat} {A : Around} (r : Room (k + 1) A) (C : Addr) (us : List Value) (kw : List (Str × Value)) : Room k (A.under (.builtin "type.__call__" ⟨.ref C :: us, kw⟩)) :=
  ⟨r.hd, by have := r.dp; rw [make_depth]; omega, by have := r.un; rw [make_units]; omega⟩
theorem Room.depth {k : Nat} {A : Around} (r : Room k A) : A.depth < recursionLimit := by have := r.dp; omega
theorem Room.units {k : Nat} {A : Around} (r : Room k A) : A.units + 64 < cLine := by have := r.un; omega
/-! ### argument lists and displays -/
def tNil : TA := fun _ H Q => Q [] H
def tCons (ta : TE) (tr : TA) : TA := fun σ H Q => ta σ H fun x H1 => tr σ H1 fun xs H2 => Q (x :: xs) H2
section
variable {X : Cx} {e : Expr} {es : List Expr} {te : TE} {t : TA} {pos : Pos}
theorem pa_nil : PA X [] tNil := fun _ _ _ _ H Q I h => Calls.spliced_nil ⟨[], H, I, .nil, h⟩
theorem pa_cons (ha : PE X e te) (hr : PA X es t) (hs : starEach (e :: es) X.env = (false, eval e X.env) :: starEach es X.env := by rfl) : PA X (e :: es) (tCons te t) := by
  intro pos pins s σ H Q I h
  rw [hs]
  show wpAny _ _ (spliced ((false, eval e X.env) :: backTo pos (starEach es X.env))) _ _ s
  refine Calls.spliced_cons (thn (ha pins s σ H _ I h) fun u s1 ⟨x, H1, I1, r1, q1⟩ => ?_)
  exact thn (hr pos pins s1 σ H1 _ I1 q1) fun us s2 ⟨xs, H2, I2, r2, q2⟩ => ⟨x :: xs, H2, I2, .cons r1 r2, q2⟩
def tLst (t : TA) : TE := fun σ H Q => t σ H fun xs H1 => xs.length ≤ sizeLine ∧ ∀ p, H1 p = none → Q (.ref p) (upd H1 p (.lst xs))
theorem pe_lst (h : PA X es t) : PE X (.List es pos) (tLst t) := by
  intro pins s σ H Q I hq
  refine wpAny_List_spliced (thn (h pos pins s σ H _ I hq) fun us s1 ⟨xs, H1, I1, r, z, q⟩ => ⟨by rw [← r.length]; exact z, ?_⟩)
  have hf : H1 s1.heap.objs.size = none := I1.hok.fresh (Nat.le_refl _)
  refine ⟨.ref s1.heap.objs.size, upd H1 s1.heap.objs.size (.lst xs), I1.laid (t' := s1.toks) (fun b u e => Heap.get?_push_of_some _ e) (Nat.le_refl _) ?_, rfl, q _ hf⟩
  exact ⟨z, us, 0, r, Heap.get?_push_size _ rfl⟩
end
/-! ### what a def promises -/
/-- a def's promise: the bound arguments in the parameters' order, the heap, the wanted end, the wanted exception -/
abbrev Sp := List V → Hp → VK → XK → Prop
/-- how an exception lies behind a call (file 08 gives it): the callers' frames, abstract heap and state ahead of the call, the wish, the exception, the state -/
abbrev CXT := List Env → Hp → Shared → XK → Value → Shared → Prop
/-- the state at a call -/
structure Env0 (P : Program) (w : World) (K : PySem.W.Frag) (mg : Str → Option Value) (base : Heap) (A : Around) (outer : List Env) (s : Shared) (H : Hp) : Prop where
  frames : A.frames = some outer
  mod : Mod K mg base
  bs : ∀ b o, base.get? b = some o → s.heap.get? b = some o ∧ H b = none
  bsz : base.objs.size ≤ s.heap.objs.size
  funs : s.heap.FunFrames base outer
  frf : ∀ b ∈ frs outer, H b = none
  hok : HOk P w H s.heap
  bare : AllBare s.gens
/-- a call's end -/
def CE (outer : List Env) (P : Program) (w : World) (H : Hp) (s : Shared) (Q : VK) (u : Value) (s' : Shared) : Prop :=
  ∃ v H', s'.os = s.os ∧ AllBare s'.gens ∧ Un (frs outer) [] H H' s.heap s'.heap ∧ HOk P w H' s'.heap ∧ RelV v u ∧ Q v H'
def CR (CX : CXT) (outer : List Env) (P : Program) (w : World) (H : Hp) (s : Shared) (Q : VK) (E : XK) (r : Result) (s' : Shared) : Prop :=
  match r with
  | .ok (.ret u) => CE outer P w H s Q u s'
  | .ok _ => False
  | .error e => CX outer H s E e s'
structure FnOk (P : Program) (w : World) (K : PySem.W.Frag) (mg : Str → Option Value) (base : Heap) (CX : CXT) (k : Nat) (f : Addr) (fd : FuncData) (ps : List Str) (sp : Sp) : Prop where
  len : ∀ vs H Q E, sp vs H Q E → vs.length = ps.length
  run : ∀ (A : Around) (outer : List Env) (s : Shared) (H : Hp) (args : Args) (us : List Value) (vs : List V) (Q : VK) (E : XK), Room k A → Env0 P w K mg base A outer s H → BindsTo s fd args (ps.zip us) → Vals vs us → sp vs H Q E →
    codeAny (model P w) A (.call (.ref f) args) (CR CX outer P w H s Q E) s
theorem FnOk.mono {P : Program} {w : World} {K : PySem.W.Frag} {mg : Str → Option Value} {base : Heap} {CX : CXT} {j k : Nat} {f : Addr} {fd : FuncData} {ps : List Str} {sp : Sp} (F : FnOk P w K mg base CX j f fd ps sp) (h : j ≤ k) :
    FnOk P w K mg base CX k f fd ps sp := ⟨F.len, fun A outer s H args us vs Q E hr => F.run A outer s H args us vs Q E (hr.mono h)⟩
theorem Env0.make {P : Program} {w : World} {K : PySem.W.Frag} {mg : Str → Option Value} {base : Heap} {A : Around} {outer : List Env} {s : Shared} {H : Hp} (e : Env0 P w K mg base A outer s H) (C : Addr) (us : List Value) (kw : List (Str × Value)) :
    Env0 P w K mg base (A.under (.builtin "type.__call__" ⟨.ref C :: us, kw⟩)) outer s H := ⟨by first | exact e.frames | (simpa [Around.under, Code.envs, Code.isFrame, pushEnvs] using e.frames), e.mod, e.bs, e.bsz, e.funs, e.frf, e.hok, e.bare⟩
theorem Env0.in1 {P : Program} {w : World} {K : PySem.W.Frag} {mg : Str → Option Value} {base : Heap} {A : Around} {outer : List Env} {s : Shared} {H : Hp} (e : Env0 P w K mg base A outer s H) :
    Env0 P w K mg base A.in1 outer s H := ⟨e.frames, e.mod, e.bs, e.bsz, e.funs, e.frf, e.hok, e.bare⟩
section
variable {X : Cx} {pins : List (Addr × Obj)} {σ : St} {H : Hp} {s s' : Shared}
/-- from a body: what a callee wants -/
theorem Inv.env0 (I : Inv X pins σ H s) : Env0 X.prog X.w X.K X.mg X.base X.A X.stack s H :=
  ⟨I.ok.frames, I.ok.mod, I.bs, Nat.le_trans I.ok.bsz I.sz, I.stack, I.stkFree, I.hok, I.bare⟩
/-- behind a call -/
theorem Inv.after {Q : VK} {u : Value} (I : Inv X pins σ H s) (h : CE X.stack X.prog X.w H s Q u s') : EP X pins σ Q u s' := by
  obtain ⟨v, H', os, bare, un, hok, r, q⟩ := h
  obtain ⟨hh, g, d, t, os'⟩ := s'
  obtain rfl : os' = s.os := os
  exact ⟨v, H', I.call (h' := hh) (g' := g) (d' := d) (t' := t) (ch := []) un hok bare (fun b z => absurd z (by simp)), r, q⟩
end
/-! ### calls -/
/-- f(..): the written arguments, then the defaults dvs; E: what is wanted of an exception -/
def tCall (sp : Sp) (dvs : List V) (E : XK) (t : TA) : TE := fun σ H Q => t σ H fun vs H1 => sp (vs ++ dvs) H1 Q E
/-- how the parameters are bound: us the positional arguments, kw the keywords' values by name, ds the defaults that fill up -/
def Binds (K : PySem.W.Frag) (fd : FuncData) (ps : List Str) (ds : List Value) : Prop :=
  ∀ (s : Shared) (us : List Value), K.In s.heap → (us ++ ds).length = ps.length → BindsTo s fd ⟨us, []⟩ (ps.zip (us ++ ds))
/-- every parameter is given -/
theorem Binds.all {K : PySem.W.Frag} {fd : FuncData} {ps : List Str} (h : ∀ us : List Value, us.length = ps.length → bindArgs fd ⟨us, []⟩ = pure (ps.zip us)) : Binds K fd ps [] := fun s us _ hl => by
  rw [List.append_nil] at hl ⊢
  exact .of_eq (h us hl)
/-- an exception of a callee reaches what this body wants of exceptions -/
def Passes (CX : CXT) (X : Cx) (E : XK) : Prop := ∀ (pins : List (Addr × Obj)) (σ : St) (H : Hp) (s : Shared) (e : Value) (s' : Shared), Inv X pins σ H s → CX X.stack H s E e s' → X.xe e s'
section
variable {X : Cx} {CX : CXT} {k : Nat} {f C : Addr} {fd : FuncData} {ps : List Str} {sp : Sp} {dvs : List V} {ds : List Value} {E : XK} {x m : Str} {p pos apos : Pos} {e o : Expr} {es : List Expr} {ta : TE} {t : TA}
/-- the callee runs -/
theorem run_fn {pins : List (Addr × Obj)} {σ : St} {H : Hp} {s : Shared} {Q : VK} {us : List Value} {vs : List V} (F : FnOk X.prog X.w X.K X.mg X.base CX k f fd ps sp) (hr : Room k X.A) (hb : Binds X.K fd ps ds) (hd : Vals dvs ds) (hx : Passes CX X E)
    (I : Inv X pins σ H s) (r : Vals vs us) (h : sp (vs ++ dvs) H Q E) : wpAny (model X.prog X.w) X.A (call (.ref f) us) (EP X pins σ Q) X.xe s := by
  have r2 : Vals (vs ++ dvs) (us ++ ds) := r.append hd
  have hl : (us ++ ds).length = ps.length := by rw [← r2.length]; exact F.len _ _ _ _ h
  refine wpAny_call (codeAny_mono (F.run X.A X.stack s H ⟨us, []⟩ (us ++ ds) (vs ++ dvs) Q E hr I.env0 (hb s us I.kIn hl) r2 h) fun r s' hq => ?_)
  cases r with
  | error e => exact hx pins σ H s e s' I hq
  | ok fl =>
    cases fl with
    | ret u => exact I.after hq
    | next => exact False.elim hq
    | brk => exact False.elim hq
    | cont => exact False.elim hq
theorem pe_call (F : FnOk X.prog X.w X.K X.mg X.base CX k f fd ps sp) (hr : Room k X.A) (hg : Gl X x) (hm : X.mg x = some (.ref f)) (hk : PySem.W.keepIn X.K (.ref f) = true) (hb : Binds X.K fd ps ds) (hd : Vals dvs ds) (hx : Passes CX X E)
    (ha : PA X (e :: es) t) (hdb : (x == ("__debug__" : Str)) = false := by decide) (he : starEach (e :: es) X.env = (false, eval e X.env) :: starEach es X.env := by rfl) (hpl : (backTo pos (starEach es X.env)).any (·.1) = false := by rfl) :
    PE X (.Call (.Name x p) (e :: es) [] pos) (tCall sp dvs E t) := by
  intro pins s σ H Q I h
  refine wpAny_Call_Name_kw (ld_glob I hg hm ?_ hdb)
  refine PySem.W.callWith_K (h₀ := X.base) I.ok.mod.kin hk (thn (ha pos pins s σ H _ I h) fun us s1 ⟨vs, H1, I1, r, q⟩ => ⟨I1.kIn, ?_⟩) he hpl
  exact run_fn F hr hb hd hx I1 r q
/-- what a class must have to be made -/
structure Mk (K : PySem.W.Frag) (C f : Addr) : Prop where
  makes : PySem.W.makesIn K C = true
  init : PySem.W.findIn K (.ref C) "__init__" = some (some (.ref f))
  fn : PySem.W.isFn K (.ref f) = true
  kp : PySem.W.keepIn K (.ref C) = true
theorem run_make {pins : List (Addr × Obj)} {σ : St} {H : Hp} {s : Shared} {Q : VK} {us : List Value} {vs : List V} (M : Mk X.K C f) (F : FnOk X.prog X.w X.K X.mg X.base CX k f fd ps sp) (hr : Room (k + 1) X.A) (hb : Binds X.K fd ps ds) (hd : Vals dvs ds)
    (hx : Passes CX X E) (I : Inv X pins σ H s) (r : Vals vs us)
    (h : ∀ x dx, H x = none → H dx = none → dx ≠ x → sp (.ref x :: (vs ++ dvs)) (upd (upd H dx (.own x)) x (.ins C dx [])) (fun v H2 => v = .non ∧ Q (.ref x) H2) E) :
    wpAny (model X.prog X.w) X.A (call (.ref C) us) (EP X pins σ Q) X.xe s := by
  have hq := h (s.heap.objs.size + 1) s.heap.objs.size (I.hok.fresh (Nat.le_succ _)) (I.hok.fresh (Nat.le_refl _)) (Nat.ne_of_lt (Nat.lt_succ_self _))
  have I2 := Inv.made (C := C) I
  have r2 : Vals (V.ref (s.heap.objs.size + 1) :: (vs ++ dvs)) (Value.ref (s.heap.objs.size + 1) :: (us ++ ds)) := .cons rfl (r.append hd)
  have hl : (Value.ref (s.heap.objs.size + 1) :: us ++ ds).length = ps.length := by
    have e := r2.length
    rw [F.len _ _ _ _ hq] at e
    exact e.symm
  refine wpAny_call (make_map (f := f) I.kIn M.makes M.init (beq_iff_eq.mp M.fn) (codeAny_mono (F.run _ X.stack _ _ ⟨Value.ref (s.heap.objs.size + 1) :: us, []⟩ (Value.ref (s.heap.objs.size + 1) :: (us ++ ds)) _ _ E (hr.make C us [])
    (I2.env0.make C us []) (hb _ (Value.ref (s.heap.objs.size + 1) :: us) I2.kIn hl) r2 hq) fun r s' hq' => ?_))
  cases r with
  | error e => exact hx pins σ _ _ e s' I2 hq'
  | ok fl =>
    cases fl with
    | ret u =>
      obtain ⟨v, H', I3, rv, ev, q3⟩ := I2.after hq'
      subst ev
      exact ⟨rv, ⟨V.ref (s.heap.objs.size + 1), H', I3, rfl, q3⟩⟩
    | next => exact False.elim hq'
    | brk => exact False.elim hq'
    | cont => exact False.elim hq'
end
/-! ### keywords -/
section
variable {X : Cx} {CX : CXT} {k : Nat} {f C : Addr} {fd : FuncData} {ps ks : List Str} {sp : Sp} {E : XK} {x m : Str} {p pos apos kpos : Pos} {e o : Expr} {es : List Expr} {kws : List Keyword} {te ta : TE} {t tk : TA} {nm : Option Str}
/-- how a call with keywords binds: g puts the positional values us and the keywords' values ws (names ks) in the parameters' order, defaults among them -/
structure KBinds (K : PySem.W.Frag) (fd : FuncData) (ps ks : List Str) (g : List Value → List Value → List Value) (gV : List V → List V → List V) : Prop where
  to : ∀ (s : Shared) (us ws : List Value), K.In s.heap → (g us ws).length = ps.length → BindsTo s fd ⟨us, ks.zip ws⟩ (ps.zip (g us ws))
  rel : ∀ {vs : List V} {us : List Value} {zs : List V} {ws : List Value}, Vals vs us → Vals zs ws → Vals (gV vs zs) (g us ws)
variable {g : List Value → List Value → List Value} {gV : List V → List V → List V}
end
/-! ### a def's body keeps its promise -/
/-- names: the parameters first -/
structure FnScope (N P : List Str) (sc : Scope) : Prop where
  kind : sc.kind = .function
  co : sc.isCoroutine = false
  gen : sc.isGenerator = false
  nd : N.Nodup
  pre : N.take P.length = P
  par : ∀ x ∈ P, sc.names.lookup x = some .local ∨ sc.names.lookup x = some .cell
  nofree : ∀ y ∈ sc.names, y.2 ≠ .free
theorem bindL_out {kindOf : Str → Option NameKind} {x : Str} : ∀ {binds : List (Str × Value)} {m : Str → Option Value}, (∀ v, (x, v) ∉ binds) → bindL kindOf binds m x = m x
  | [], _, _ => rfl
  | (n, v) :: r, m, h => by
    unfold bindL
    rw [bindL_out fun w hw => h w (List.mem_cons_of_mem _ hw)]
    split
    · have : x ≠ n := by rintro rfl; exact h v List.mem_cons_self
      simp [this]
    · rfl
theorem bindC_out {kindOf : Str → Option NameKind} {x : Str} : ∀ {binds : List (Str × Value)} {m : Str → Option Value}, (∀ v, (x, v) ∉ binds) → bindC kindOf binds m x = m x
  | [], _, _ => rfl
  | (n, v) :: r, m, h => by
    unfold bindC
    rw [bindC_out fun w hw => h w (List.mem_cons_of_mem _ hw)]
    split
    · rfl
    · have : x ≠ n := by rintro rfl; exact h v List.mem_cons_self
      simp [this]
theorem bindL_get {kindOf : Str → Option NameKind} {x : Str} {v : Value} : ∀ {P : List Str} {vs : List Value} {i : Nat} {m : Str → Option Value}, P.Nodup → P[i]? = some x → vs[i]? = some v → kindOf x = some .local →
    bindL kindOf (P.zip vs) m x = some v
  | [], _, _, _, _, h, _, _ => by simp at h
  | _ :: _, [], _, _, _, _, h, _ => by simp at h
  | p :: P, w :: vs, 0, m, nd, h1, h2, hk => by
    simp at h1 h2; subst h1; subst h2
    show bindL kindOf ((p, w) :: P.zip vs) m p = _
    unfold bindL
    rw [bindL_out fun v hv => (List.nodup_cons.mp nd).1 (List.of_mem_zip hv).1, if_pos hk]
    simp
  | p :: P, w :: vs, i + 1, m, nd, h1, h2, hk => by
    show bindL kindOf ((p, w) :: P.zip vs) m x = _
    unfold bindL
    exact bindL_get (i := i) (List.nodup_cons.mp nd).2 (by simpa using h1) (by simpa using h2) hk
theorem bindC_get {kindOf : Str → Option NameKind} {x : Str} {v : Value} : ∀ {P : List Str} {vs : List Value} {i : Nat} {m : Str → Option Value}, P.Nodup → P[i]? = some x → vs[i]? = some v → kindOf x ≠ some .local →
    bindC kindOf (P.zip vs) m x = some v
  | [], _, _, _, _, h, _, _ => by simp at h
  | _ :: _, [], _, _, _, _, h, _ => by simp at h
  | p :: P, w :: vs, 0, m, nd, h1, h2, hk => by
    simp at h1 h2; subst h1; subst h2
    show bindC kindOf ((p, w) :: P.zip vs) m p = _
    unfold bindC
    rw [bindC_out fun v hv => (List.nodup_cons.mp nd).1 (List.of_mem_zip hv).1, if_neg hk]
    simp
  | p :: P, w :: vs, i + 1, m, nd, h1, h2, hk => by
    show bindC kindOf ((p, w) :: P.zip vs) m x = _
    unfold bindC
    exact bindC_get (i := i) (List.nodup_cons.mp nd).2 (by simpa using h1) (by simpa using h2) hk
/-- the names' values at the entry -/
def start (N : List Str) (vs : List V) : St := vs.map some ++ List.replicate (N.length - vs.length) none
/-- the context of a def's body, at its entry; an exception leaves the frame, then lies as CX says -/
def cxOf (CX : CXT) (P : Program) (w : World) (K : PySem.W.Frag) (mg : Str → Option Value) (base : Heap) (N : List Str) (qual : Str) (scope : Scope) (f : Addr) (cd : Value) (A : Around) (outer : List Env) (s : Shared) (H : Hp) (E : XK) : Cx where
  prog := P
  w := w
  K := K
  mg := mg
  base := base
  A := A.deeper (envOfC qual scope s.heap.objs.size f cd)
  N := N
  s_0 := s
  H_0 := H
  env := envOfC qual scope s.heap.objs.size f cd
  outer := outer
  stack := envOfC qual scope s.heap.objs.size f cd :: outer
  ex := []
  calm := true
  fn := fun _ => true
  pn := []
  xe := fun e s' => wpAny (model P w) (A.deeper (envOfC qual scope s.heap.objs.size f cd)) (leaving (envOfC qual scope s.heap.objs.size f cd) e) (fun _ s'' => CX outer H s E e s'') (fun e' s'' => CX outer H s E e' s'') s'
theorem cell_has {sc : Scope} {n : Nat} {x : Str} (h : sc.names.lookup x = some .cell) : ∃ c, (cellsFrom n sc.names []).lookup x = some c := by
  have q := PySem.W.cellsFrom_some sc.names n [] (.inl h)
  exact Option.isSome_iff_exists.mp q
theorem inv_start {CX : CXT} {P : Program} {w : World} {K : PySem.W.Frag} {mg : Str → Option Value} {base : Heap} {N ps : List Str} {qual : Str} {scope : Scope} {f : Addr} {cd : Value} {A : Around} {outer : List Env} {s s1 : Shared} {H : Hp} {E : XK} {us : List Value} {vs : List V}
    (S : FnScope N ps scope) (hd : A.handled = none) (e0 : Env0 P w K mg base A outer s H) (hl : vs.length = ps.length) (r : Vals vs us)
    (x : InCallC s s.heap.objs.size (bindL (envOfC qual scope s.heap.objs.size f cd).kindOf (ps.zip us) fun _ => none) (cellsFrom (s.heap.objs.size + 1) scope.names []) (bindC (envOfC qual scope s.heap.objs.size f cd).kindOf (ps.zip us) fun _ => none) s1) :
    Inv (cxOf CX P w K mg base N qual scope f cd A outer s H E) [] (start N vs) H s1 := by
  have hpl : ps.length ≤ N.length := by have := congrArg List.length S.pre; rw [List.length_take] at this; omega
  obtain ⟨h1, tk, rfl, hk⟩ := x.done
  have noA : ∀ b : Addr, b ∉ (cxOf CX P w K mg base N qual scope f cd A outer s H E).ex := fun b z => absurd (show b ∈ ([] : List Addr) from z) (by simp)
  refine ⟨⟨e0.mod, S.kind, rfl, rfl, Nat.le_refl _, fun y z c h1 h2 => ?_, fun y hy => ?_, fun y c _ h => ?_, fun _ => hd, Around.frames_deeper e0.frames, .inr ⟨rfl, rfl⟩, fun b z => absurd z (noA b), e0.bs, e0.bsz, fun b _ _ => noA b, fun b z => absurd z (noA b), e0.funs, e0.frf⟩,
    rfl, e0.bare, Un.kept hk, ⟨_, x.toInCall.ns, fun i y v h1 h2 h3 => ?_⟩, fun y c h => ⟨_, x.cell y c h⟩, e0.hok.fresh (Nat.le_refl _), fun y c h => ?_, fun p hp => absurd (show p ∈ ([] : List (Addr × Obj)) from hp) (by simp), e0.hok.kept hk, ?_⟩
  · exact name_of_addr x.apart (PySem.mem_of_lookup h1) (PySem.mem_of_lookup h2)
  · have hy : scope.names.lookup y = some .cell ∨ scope.names.lookup y = some .free := hy
    rcases hy with hy | hy
    · exact cell_has hy
    · exact absurd rfl (S.nofree _ (PySem.mem_of_lookup hy))
  · exact Nat.le_of_lt (x.above y c (PySem.mem_of_lookup h))
  · have hi : i < vs.length := by
      unfold start at h2
      by_cases hi : i < vs.length
      · exact hi
      · rw [List.getElem?_append_right (by simpa using hi)] at h2
        rw [List.getElem?_replicate] at h2
        split at h2 <;> cases h2
    have ha : vs[i]? = some v := by
      unfold start at h2
      rw [List.getElem?_append_left (by simpa using hi), List.getElem?_map] at h2
      cases e : vs[i]? with
      | none => rw [e] at h2; cases h2
      | some a => rw [e] at h2; cases h2; rfl
    obtain ⟨u, hu, rv⟩ := r.get ha
    have hp : ps[i]? = some y := by
      rw [← S.pre, List.getElem?_take_of_lt (by omega)]; exact h1
    have ndP : ps.Nodup := by rw [← S.pre]; exact S.nd.sublist (List.take_sublist _ _)
    refine ⟨u, rv, ?_⟩
    rcases S.par y (List.mem_of_getElem? hp) with k | k
    · exact .inl ⟨k, bindL_get ndP hp hu k⟩
    · obtain ⟨c, e⟩ := cell_has (n := s.heap.objs.size + 1) k
      refine .inr ⟨.inl k, c, e, ?_⟩
      have q := x.cell y c e
      rw [bindC_get ndP hp hu (by show scope.names.lookup y ≠ _; rw [k]; decide)] at q
      exact q
  · exact e0.hok.fresh (Nat.le_of_lt (x.above y c (PySem.mem_of_lookup h)))
  · unfold start
    show _ = N.length
    rw [List.length_append, List.length_map, List.length_replicate]
    omega
/-- THE RULE: a def (or a method) of the text, by its body. The body's reading t is chosen for each entry; it is run at the parameters' values -/
theorem fn_of {CX : CXT} {P : Program} {w : World} {K : PySem.W.Frag} {mg : Str → Option Value} {base : Heap} {k : Nat} {f : Addr} {name qual : Str} {params : Arguments} {body : List Stmt} {scope : Scope} {dV kV doc pm cdv ct oc : Value} {an od : Option Addr}
    {osl : Array (Option Value)} {N ps : List Str} {sp : Sp} (lk : K.lookup f = some ⟨oc, od, .func (PySem.W.fnOf name qual params body scope dV kV doc pm an cdv ct), osl⟩) (hcd : PySem.W.codeIn K cdv qual = true) (S : FnScope N ps scope)
    (len : ∀ vs H Q E, sp vs H Q E → vs.length = ps.length)
    (hbody : ∀ (A : Around) (outer : List Env) (s : Shared) (H : Hp) (vs : List V) (Q : VK) (E : XK), Room k (A.deeper (envOfC qual scope s.heap.objs.size f cdv)) → sp vs H Q E →
      ∃ t, PSs (cxOf CX P w K mg base N qual scope f cdv A outer s H E) body t ∧ t { nx := fun _ H' => Q .non H', rt := Q } (start N vs) H) :
    FnOk P w K mg base CX (k + 1) f (PySem.W.fnOf name qual params body scope dV kV doc pm an cdv ct) ps sp := by
  refine ⟨len, fun A outer s H args us vs Q E hr e0 hb r hsp => ?_⟩
  have hl := len _ _ _ _ hsp
  have KX : K.In s.heap := e0.mod.kin.keeps fun b o e => (e0.bs b o e).1
  have lim : s.heap.NoLimit := e0.mod.nolimit.keeps fun b o e => (e0.bs b o e).1
  have hkind : ∀ y ∈ ps.zip us, scope.names.lookup y.1 = some .local ∨ (scope.names.lookup y.1 = some .cell ∧ ((cellsFrom (s.heap.objs.size + 1) scope.names []).lookup y.1).isSome = true) := fun ⟨n, v⟩ hy => by
    rcases S.par n (List.of_mem_zip hy).1 with q | q
    · exact .inl q
    · exact .inr ⟨q, PySem.W.cellsFrom_some _ _ _ (.inl q)⟩
  refine codeAny_call_function hr.depth (KX _ _ lk) rfl S.co S.gen rfl (PySem.W.codeRec_of KX hcd) (hb _ _ _ _ ?_)
  refine wpAny_newFunctionEnv_cells S.kind hkind fun env he s1 x => ?_
  subst he
  refine ⟨lim.keeps x.toInCall.keep, codeAny_func ?_⟩
  obtain ⟨t, ht, hq⟩ := hbody A outer s H vs Q E (hr.deeper _) hsp
  have I : Inv (cxOf CX P w K mg base N qual scope f cdv A outer s H E) [] (start N vs) H s1 := inv_start S hr.hd e0 hl r x
  refine wpAny_mono (ht [] s1 (start N vs) H _ I hq) (fun fl s' hs => ?_) fun e s' hs => hs
  have fin : ∀ {σ' : St} {H' : Hp} {v : V} {u : Value}, Inv (cxOf CX P w K mg base N qual scope f cdv A outer s H E) [] σ' H' s' → RelV v u → Q v H' → CE outer P w H s Q u s' :=
    fun {σ' H' v u} J rv q => ⟨v, H', J.os, J.bare, J.base, J.hok, rv, q⟩
  cases fl with
  | ret u =>
    obtain ⟨v, σ', H', J, rv, q⟩ := hs
    exact fin J rv q
  | next =>
    obtain ⟨σ', H', J, q⟩ := hs
    exact fin (v := V.non) (u := Value.none) J rfl q
  | brk =>
    obtain ⟨_, _, _, q⟩ := hs
    exact False.elim q
  | cont =>
    obtain ⟨_, _, _, q⟩ := hs
    exact False.elim q
end L2
namespace L2
open PySem PySem.Spec PyProof.Rows
section
variable {X : Cx} {x : Str} {p pos : Pos} {e : Expr} {es : List Expr} {t : TA} {id T : String} {r : List V → Hp → VK → Prop}
def tCB (r : List V → Hp → VK → Prop) (t : TA) : TE := fun σ H Q => t σ H fun vs H1 => r vs H1 Q
/-- f(e, ..), f a built-in function -/
theorem pe_callB (hc : CallR X (.builtin id) r) (hg : Gl X x) (hm : X.mg x = none) (hv : bootBuiltins x = some (.builtin id)) (ha : PA X (e :: es) t) (hn : x ≠ "__name__" := by decide) (hdb : (x == ("__debug__" : Str)) = false := by decide)
    (he : starEach (e :: es) X.env = (false, eval e X.env) :: starEach es X.env := by rfl) (hpl : (backTo pos (starEach es X.env)).any (·.1) = false := by rfl) : PE X (.Call (.Name x p) (e :: es) [] pos) (tCB r t) := by
  intro pins s σ H Q I h
  refine wpAny_Call_Name_kw (ld_blt I hg hm hv ?_ hn hdb)
  exact PyProof.Rows.callWith_builtin1 (thn (ha pos pins s σ H _ I h) fun us s1 ⟨vs, H1, I1, r1, q1⟩ => hc pins s1 σ H1 vs us Q I1 r1 q1) he hpl
end
end L2
namespace HT
open PySem PyProof.Rows
section
open PySem.SeqAt
open PySem.AutoSeq1 (wpAny_loadPart')
open PySem.MeetsSeq PySem.MeetsSeq2 PySem.MeetsSeq3
end
section
variable {prog : Program} {w : World} {A : Around} {E : Value → Shared → Prop} {s : Shared}
/-! ### t[a:b], not the whole -/
end
end HT
namespace L2
open PySem PySem.Spec PyProof.Rows
/-! ### the parts of a slice -/
abbrev TO := St → Hp → (Option Int → Hp → Prop) → Prop
section
variable {X : Cx} {e : Expr} {te : TE} {lo hi : Option Expr} {tl th : TO} {pos p2 : Pos}
/-- what a slice of a value is, by values: the slice object stands at sl -/
def SlR (X : Cx) (r : V → Option Int → Option Int → Hp → VK → Prop) : Prop :=
  ∀ (pins : List (Addr × Obj)) (s : Shared) (σ : St) (H : Hp) (x : V) (v vl vu : Value) (lo hi : Option Int) (sl : Addr) (Q : VK), Inv X pins σ H s → RelV x v → s.heap.IsSliceOf sl vl vu .none → IsPart vl lo → IsPart vu hi → r x lo hi H Q →
    ∃ T id, typeLookup (.type T) "__getitem__" = pure (some (.builtin id)) ∧ s.TypeIs v T ∧ wpAny (model X.prog X.w) X.A (getItem v (.ref sl)) (EP X pins σ Q) X.xe s
theorem SlR.or {r r' : V → Option Int → Option Int → Hp → VK → Prop} (h : SlR X r) (h' : SlR X r') : SlR X (fun x lo hi H Q => r x lo hi H Q ∨ r' x lo hi H Q) := by
  intro pins s σ H x v vl vu lo hi sl Q I rx hs pl pu q
  rcases q with q | q
  · exact h pins s σ H x v vl vu lo hi sl Q I rx hs pl pu q
  · exact h' pins s σ H x v vl vu lo hi sl Q I rx hs pl pu q
/-! ### t < u, t + u -/
end
end L2
namespace L2
open PySem PySem.Spec PyProof.Rows
/-! ### places -/
/-- the place that an index of any sign means -/
def ixN (n : Nat) (i : Int) : Option Nat := if 0 ≤ i then (if i < n then some i.toNat else none) else if -(n : Int) ≤ i then some (i + n).toNat else none
def atI {α : Type} (xs : List α) (i : Int) : Option α := (ixN xs.length i).bind fun j => xs[j]?
theorem ixN_seq {n : Nat} {i : Int} {j : Nat} (h : ixN n i = some j) : seqIndex? i n = some j ∧ j < n ∧ -(n : Int) ≤ i ∧ i < n := by
  unfold ixN at h
  by_cases h0 : 0 ≤ i
  · rw [if_pos h0] at h
    by_cases h1 : i < n
    · rw [if_pos h1] at h
      have e : i.toNat = j := Option.some.inj h
      exact ⟨by rw [seqIndex_of h0 h1, e], by omega, by omega, h1⟩
    · rw [if_neg h1] at h; cases h
  · rw [if_neg h0] at h
    by_cases h1 : -(n : Int) ≤ i
    · rw [if_pos h1] at h
      have e : (i + n).toNat = j := Option.some.inj h
      exact ⟨by rw [seqIndex_neg (by omega) h1, e], by omega, h1, by omega⟩
    · rw [if_neg h1] at h; cases h
theorem atI_get {α : Type} {xs : List α} {i : Int} {v : α} (h : atI xs i = some v) : ∃ j, seqIndex? i xs.length = some j ∧ xs[j]? = some v ∧ j < xs.length ∧ -(xs.length : Int) ≤ i ∧ i < xs.length := by
  unfold atI at h
  cases e : ixN xs.length i with
  | none => rw [e] at h; cases h
  | some j =>
    rw [e] at h
    obtain ⟨h1, h2, h3, h4⟩ := ixN_seq e
    exact ⟨j, h1, h, h2, h3, h4⟩
/-! ### what may be subscripted -/
/-- what stands as an index of a plain subscript -/
def PlainIx (b : Expr) : Prop := ∀ o i, subscripted b false o i = operate [o, i] (getItem o i)
/-- a subscript by values -/
def IxR (X : Cx) (r : R2) : Prop :=
  ∀ (value slice : Expr) (pins : List (Addr × Obj)) (s : Shared) (σ : St) (H : Hp) (x y : V) (v u : Value) (Q : VK), Inv X pins σ H s → RelV x v → RelV y u → r x y H Q →
    subscripted slice false v u = operate [v, u] (getItem v u) → wpAny (model X.prog X.w) X.A (subscriptTail value slice v u) (EP X pins σ Q) X.xe s
/-- a call of a builtin's method by values: the receiver, the arguments -/
def MtR (X : Cx) (id : String) (r : V → List V → Hp → VK → Prop) : Prop :=
  ∀ (pins : List (Addr × Obj)) (s : Shared) (σ : St) (H : Hp) (x : V) (xs : List V) (v : Value) (us : List Value) (Q : VK), Inv X pins σ H s → RelV x v → Vals xs us → r x xs H Q →
    wpAny (model X.prog X.w) X.A (call (.builtin id) (v :: us)) (EP X pins σ Q) X.xe s
section
variable {X : Cx} {a b : Expr} {ta tb : TE} {pos : Pos}
theorem IxR.or {r r' : R2} (h : IxR X r) (h' : IxR X r') : IxR X (fun x y H Q => r x y H Q ∨ r' x y H Q) := by
  intro value slice pins s σ H x y v u Q I rx ry q hs
  rcases q with q | q
  · exact h value slice pins s σ H x y v u Q I rx ry q hs
  · exact h' value slice pins s σ H x y v u Q I rx ry q hs
theorem MtR.or {id : String} {r r' : V → List V → Hp → VK → Prop} (h : MtR X id r) (h' : MtR X id r') : MtR X id (fun x xs H Q => r x xs H Q ∨ r' x xs H Q) := by
  intro pins s σ H x xs v us Q I rx rs q
  rcases q with q | q
  · exact h pins s σ H x xs v us Q I rx rs q
  · exact h' pins s σ H x xs v us Q I rx rs q
/-- a[b] -/
theorem pe_ix {r : R2} (hr : IxR X r) (ha : PE X a ta) (hb : PE X b tb) (hs : PlainIx b) : PE X (.Subscript a b pos) (tOp r ta tb) := by
  intro pins s σ H Q I h
  exact Subscript_ (binT ha hb I h fun v u s2 x y H2 I2 rx ry q => hr a b pins s2 σ H2 x y v u Q I2 rx ry q (hs _ _))
def rIxT (K : PySem.W.Frag) : R2 := fun x y H Q => ∃ p xs i v, x = .ref p ∧ y = .int i ∧ SqT K H p xs ∧ atI xs i = some v ∧ Q v H
theorem ix_tup : IxR X (rIxT X.K) := by
  intro value slice pins s σ H x y v u Q I rx ry h hs
  obtain ⟨p, xs, i, z, rfl, rfl, hq, he, q⟩ := h
  cases rx
  obtain ⟨t, rfl⟩ := ry
  obtain ⟨its, r, pl, hz⟩ := I.tuple hq
  obtain ⟨j, h1, h2, h3, h4, h5⟩ := atI_get he
  obtain ⟨w, ew, rw'⟩ := r.get h2
  have hl := r.length
  have hn := line63
  have fin : EP X pins σ Q w s := ⟨z, H, I, rw', q⟩
  exact subscriptTail_builtinR (x := w) pl.typeIs slot_tuple_getitem.lookup
    (getItem_tuple (j := j) (Q := fun r s' => r = w ∧ EP X pins σ Q r s') pl (by omega) (by omega) (by rw [List.size_toArray, ← hl]; exact h1) (by simpa using ew) ⟨rfl, fin⟩) hs
/-! ### xs[i] = v, any sign -/
theorem Inv.lst {pins : List (Addr × Obj)} {σ : St} {H : Hp} {s : Shared} {p : Addr} {xs : List V} (I : Inv X pins σ H s) (h : H p = some (.lst xs)) :
    ∃ (its : List Value) (n : Nat), Vals xs its ∧ s.heap.get? p = some { cls := .type "list", data := .seq its.toArray n } ∧ xs.length ≤ sizeLine := by
  obtain ⟨z, its, n, r, e⟩ := I.hok p _ h
  exact ⟨its, n, r, e, z⟩
/-! ### slices -/
/-! ### in, not in: flat items -/
/-! ### len, list(x), tuple(x) of any list or tuple that is read -/
theorem CallR.or {f : Value} {r r' : List V → Hp → VK → Prop} (h : CallR X f r) (h' : CallR X f r') : CallR X f (fun xs H Q => r xs H Q ∨ r' xs H Q) := by
  intro pins s σ H xs us Q I rs q
  rcases q with q | q
  · exact h pins s σ H xs us Q I rs q
  · exact h' pins s σ H xs us Q I rs q
/-! ### the call of a builtin's method: o.m(..) -/
/-- the value is of that builtin type -/
def tyV (K : PySem.W.Frag) (T : String) (x : V) (H : Hp) : Prop := match x with
  | .str _ => T = "str"
  | .int _ => T = "int"
  | .ref p => (T = "list" ∧ ∃ xs, SqL K H p xs) ∨ (T = "tuple" ∧ ∃ o, K.lookup p = some o ∧ o.cls = .type "tuple" ∧ o.dict = none) ∨
      (T = "dict" ∧ ((∃ kvs, H p = some (.dK kvs)) ∨ ∃ kvs, H p = some (.dT kvs))) ∨ (T = "set" ∧ ∃ S n, H p = some (.set S n))
  | _ => False
theorem tyV_is {pins : List (Addr × Obj)} {σ : St} {H : Hp} {s : Shared} {T : String} {x : V} {v : Value} (I : Inv X pins σ H s) (r : RelV x v) (ty : tyV X.K T x H) :
    s.TypeIs v T ∧ ∀ a, v = .ref a → ∃ ob, s.heap.get? a = some ob ∧ ob.dict = none := by
  cases x with
  | str z =>
    obtain ⟨t, rfl⟩ := r
    cases (show T = "str" from ty)
    exact ⟨typeIs_str s z t, fun _ e => nomatch e⟩
  | int i =>
    obtain ⟨t, rfl⟩ := r
    cases (show T = "int" from ty)
    exact ⟨typeIs_int s i t, fun _ e => nomatch e⟩
  | ref p =>
    cases r
    rcases ty with ⟨rfl, xs, hq⟩ | ⟨rfl, o, hk, hc, hd⟩ | ⟨rfl, hk⟩ | ⟨rfl, S, n, hk⟩
    · obtain ⟨its, _, pl, _⟩ := I.list hq
      refine ⟨pl.isList.typeIs, fun a e => ?_⟩
      cases e
      obtain ⟨o, n, e, c, hd, _⟩ := pl
      exact ⟨o, e, hd⟩
    · refine ⟨⟨o, I.kIn p o hk, hc⟩, fun a e => ?_⟩
      cases e
      exact ⟨o, I.kIn _ o hk, hd⟩
    · have z : ∃ o, s.heap.get? p = some o ∧ o.ExactDict := by
        rcases hk with ⟨kvs, hk⟩ | ⟨kvs, hk⟩
        · obtain ⟨_, _, _, _, o, _, _, e, ex, _⟩ := I.hok p _ hk
          exact ⟨o, e, ex⟩
        · obtain ⟨_, _, _, _, o, _, _, e, ex, _⟩ := I.hok p _ hk
          exact ⟨o, e, ex⟩
      obtain ⟨o, e, ex⟩ := z
      refine ⟨⟨o, e, ex.1⟩, fun a e2 => ?_⟩
      cases e2
      exact ⟨o, e, ex.2.1⟩
    · obtain ⟨o, _, _, _, e, ex, _⟩ := I.hok p _ hk
      refine ⟨⟨o, e, ex.1⟩, fun a e2 => ?_⟩
      cases e2
      exact ⟨o, e, ex.2.1⟩
  | _ => exact False.elim ty
def tBM0 (K : PySem.W.Frag) (T : String) (r : V → List V → Hp → VK → Prop) (to : TE) : TE := fun σ H Q => to σ H fun x H1 => tyV K T x H1 ∧ r x [] H1 Q
variable {o e : Expr} {es : List Expr} {to : TE} {t : TA} {name : Str} {apos cpos : Pos} {T id : String} {r : V → List V → Hp → VK → Prop}
theorem pe_bm0 (pa : PlainAttrs T) (slot : Slot T name id) (hty : typeOf (.builtin id) = pure (.type "method_descriptor")) (hm : MtR X id r) (ho : PE X o to)
    (hbase : attributeBase o name X.env (eval o X.env) = eval o X.env := by rfl) (hline : (apos.endLine == cpos.line) = true := by rfl) : PE X (.Call (.Attribute o name apos) [] [] cpos) (tBM0 X.K T r to) := by
  intro pins s σ H Q I h
  refine wpAny_Call_method0_late hbase hline (thn (ho pins s σ H _ I h) fun v s1 ⟨x, H1, I1, r1, ty, q1⟩ => ?_)
  obtain ⟨h1, h2⟩ := tyV_is I1 r1 ty
  exact ⟨T, id, pa, slot, hty, h1, h2, Calls.callWith_builtin rfl (PySem.evalArgs_none (hm pins s1 σ H1 x [] v [] Q I1 r1 .nil q1))⟩
/- xs.append(e), list.index on a module's tuple .. are MtR facts of 06m -/
end
end L2
namespace L2
open PySem PySem.Spec PyProof.Rows
/-! ### lists of values -/
theorem Vals.one : ∀ {x : V} {us : List Value}, Vals [x] us → ∃ u, us = [u] ∧ RelV x u
  | _, _, .cons r .nil => ⟨_, rfl, r⟩
theorem Vals.two : ∀ {x y : V} {us : List Value}, Vals [x, y] us → ∃ u v, us = [u, v] ∧ RelV x u ∧ RelV y v
  | _, _, _, .cons r (.cons q .nil) => ⟨_, _, rfl, r, q⟩
theorem Vals.zero : ∀ {us : List Value}, Vals [] us → us = []
  | _, .nil => rfl
section
variable {X : Cx} {pins : List (Addr × Obj)} {σ : St} {H : Hp} {s : Shared} {l b : Addr} {xs ys zs : List V}
/-! ### the two steps: a tracked list is rewritten, a new list is laid -/
theorem Inv.lset {its its' : List Value} {n : Nat} {f : Array Value → Array Value} {t' : Nat} (I : Inv X pins σ H s) (hH : H l = some (.lst xs))
    (e : s.heap.get? l = some { cls := .type "list", data := .seq its.toArray n }) (hf : f its.toArray = its'.toArray) (hv : Vals ys its') (hz : ys.length ≤ sizeLine) :
    Inv X pins σ (upd H l (.lst ys)) { s with heap := s.heap.update l (Obj.mapSeq f), toks := t' } := by
  have q := PySem.IsL.update e f
  rw [hf] at q
  refine I.write (x := l) (e := l) (by rw [hH]; exact trivial) (.inl rfl) (fun b' u hb hu => (Heap.get?_update_other s.heap (Obj.mapSeq f) (Ne.symm hb)).trans hu) ⟨_, q⟩ ?_
  exact ⟨hz, its', _, hv, q⟩
theorem Inv.lnew {its : List Value} {t' : Nat} (I : Inv X pins σ H s) (hv : Vals ys its) (hz : ys.length ≤ sizeLine) :
    Inv X pins σ (upd H s.heap.objs.size (.lst ys)) { s with heap := s.heap.push { cls := .type "list", data := .seq its.toArray }, toks := t' } :=
  I.laid (fun _ _ q => Heap.get?_push_of_some _ q) (Nat.le_refl _) ⟨hz, its, 0, hv, Heap.get?_push_size _ rfl⟩
theorem Inv.fresh (I : Inv X pins σ H s) : H s.heap.objs.size = none := I.hok.fresh (Nat.le_refl _)
theorem Inv.lstM (I : Inv X pins σ H s) (hH : H l = some (.lst xs)) : xs.length ≤ sizeLine ∧ ∃ (its : List Value) (n : Nat), Vals xs its ∧ xs.length = its.length ∧ s.heap.get? l = some { cls := .type "list", data := .seq its.toArray n } := by
  obtain ⟨z, its, n, r, e⟩ := I.hok l _ hH
  exact ⟨z, its, n, r, r.length, e⟩
end
section
variable {X : Cx}
/-! ### methods -/
/-! ### list + list, list += list, list * int -/
def rCat : R2 := fun x y H Q => ∃ l b xs zs, x = .ref l ∧ y = .ref b ∧ H l = some (.lst xs) ∧ H b = some (.lst zs) ∧ xs.length + zs.length ≤ sizeLine ∧ ∀ p, H p = none → Q (.ref p) (upd H p (.lst (xs ++ zs)))
theorem op_cat : OpR X (binaryOp .Add) rCat := by
  intro pins s σ H x y v u Q I rx ry h
  obtain ⟨l, b, xs, zs, rfl, rfl, hH, hB, hz, q⟩ := h
  cases rx
  cases ry
  obtain ⟨z, its, n, r, hl, e⟩ := I.lstM hH
  obtain ⟨z2, its2, n2, r2, hl2, e2⟩ := I.lstM hB
  refine PySem.P.add_list e e2 ?_ (by rw [List.size_toArray, List.size_toArray]; omega)
  have ea : its.toArray ++ its2.toArray = (its ++ its2).toArray := by simp
  rw [ea]
  exact ⟨.ref _, _, I.lnew (t' := s.toks) (r.append r2) (by rw [List.length_append]; omega), rfl, q _ I.fresh⟩
/-! ### del xs[i] -/
end
/-! ### xs[a:b] = ys -/
section
variable {prog : Program} {w : World} {A : Around} {E : Value → Shared → Prop} {s : Shared}
end
section
variable {X : Cx}
end
end L2
namespace L2
open PySem PySem.Spec PyProof.Rows
theorem Vals.ints : ∀ {ns : List Int} {us : List Value}, Vals (ns.map V.int) us → IntsAre us ns
  | [], us, h => by
    rw [List.map_nil] at h
    cases h
    exact IntsAre.nil
  | n :: ns, us, h => by
    rw [List.map_cons] at h
    cases h with
    | cons r t =>
      obtain ⟨k, rfl⟩ := r
      exact IntsAre.cons n k (Vals.ints t)
theorem Vals.strs : ∀ {xs : List Str} {us : List Value}, Vals (xs.map V.str) us → StrsAre us xs
  | [], us, h => by
    rw [List.map_nil] at h
    cases h
    exact StrsAre.nil
  | x :: xs, us, h => by
    rw [List.map_cons] at h
    cases h with
    | cons r t =>
      obtain ⟨k, rfl⟩ := r
      exact StrsAre.cons x k (Vals.strs t)
theorem Vals.ref1 {a : Addr} {us : List Value} (r : Vals [V.ref a] us) : us = [Value.ref a] := by
  cases r with
  | cons r t =>
    cases t
    cases r
    rfl
theorem Vals.int2 {i j : Int} {us : List Value} (r : Vals [V.int i, V.int j] us) : ∃ t u, us = [Value.int i t, Value.int j u] := by
  cases r with
  | cons r t =>
    cases t with
    | cons r2 t2 =>
      cases t2
      obtain ⟨t, rfl⟩ := r
      obtain ⟨u, rfl⟩ := r2
      exact ⟨t, u, rfl⟩
/-! ### the library's walks over a list of ints, kept objects alone -/
section
variable {prog : Program} {w : World} {A : Around} {E : Value → Shared → Prop} {s : Shared} {l : Addr} {its : List Value} {ns : List Int} {Q : Value → Shared → Prop}
end
/-! ### the calls, by values (CallR of 03t; MtR of 06l) -/
section
variable {X : Cx}
/-! sorted, sort (fewer than 64 items: the library's own bound) -/
end
/-! ### list.index, flat items -/
section
variable {X : Cx}
end
/-! ### type(x) of an own instance; is, is not of a module's class -/
section
variable {X : Cx}
end
/-! ### any(xs), all(xs) of a list of bools -/
section
variable {X : Cx}
end
/-! ### == and != of data at any depth: none, bools, ints, texts, lists, tuples -/
mutual
inductive Dp (K : PySem.W.Frag) (H : Hp) : V → PyData → Prop
  | non : Dp K H .non .none
  | bl (b : Bool) : Dp K H (.bl b) (.bool b)
  | int (i : Int) : Dp K H (.int i) (.int i)
  | str (x : Str) : Dp K H (.str x) (.str x)
  | lst {a : Addr} {xs : List V} {ds : List PyData} : SqL K H a xs → DpAll K H xs ds → Dp K H (.ref a) (.list ds)
  | tup {a : Addr} {xs : List V} {ds : List PyData} : SqT K H a xs → DpAll K H xs ds → Dp K H (.ref a) (.tuple ds)
inductive DpAll (K : PySem.W.Frag) (H : Hp) : List V → List PyData → Prop
  | nil : DpAll K H [] []
  | cons {v : V} {vs : List V} {d : PyData} {ds : List PyData} : Dp K H v d → DpAll K H vs ds → DpAll K H (v :: vs) (d :: ds)
end
section
variable {X : Cx} {pins : List (Addr × Obj)} {σ : St} {H : Hp} {s : Shared}
mutual
theorem Dp.reads (I : Inv X pins σ H s) : ∀ (d : PyData) (v : V) (u : Value), Dp X.K H v d → RelV v u → ∃ as, Reads s.heap u d as
  | .none, _, _, h, r => by
    cases h
    cases r
    exact ⟨_, Reads.none⟩
  | .bool b, _, _, h, r => by
    cases h
    cases r
    exact ⟨_, Reads.bool b⟩
  | .int i, _, _, h, r => by
    cases h
    obtain ⟨t, rfl⟩ := r
    exact ⟨_, Reads.int i t⟩
  | .str x, _, _, h, r => by
    cases h
    obtain ⟨t, rfl⟩ := r
    exact ⟨_, Reads.str x t⟩
  | .list ds, _, _, h, r => by
    cases h with
    | lst hs ha =>
      cases r
      obtain ⟨its, rv, ⟨o, n, ho, hc, _, hd⟩, _⟩ := I.list hs
      obtain ⟨as, hr⟩ := Dp.readsAll I ds _ its ha rv
      exact ⟨_, Reads.list ho hc hd hr⟩
  | .tuple ds, _, _, h, r => by
    cases h with
    | tup hs ha =>
      cases r
      obtain ⟨its, rv, ⟨o, ho, hc, n, hd⟩, _⟩ := I.tuple hs
      obtain ⟨as, hr⟩ := Dp.readsAll I ds _ its ha rv
      exact ⟨_, Reads.tuple ho hc hd hr⟩
  | .dict _, _, _, h, _ => by cases h
theorem Dp.readsAll (I : Inv X pins σ H s) : ∀ (ds : List PyData) (vs : List V) (us : List Value), DpAll X.K H vs ds → Vals vs us → ∃ as, ReadsAll s.heap us ds as
  | [], _, _, h, r => by
    cases h
    cases r
    exact ⟨_, ReadsAll.nil⟩
  | d :: ds, _, _, h, r => by
    cases h with
    | cons h1 h2 =>
      cases r with
      | cons r1 r2 =>
        obtain ⟨as, q1⟩ := Dp.reads I d _ _ h1 r1
        obtain ⟨bs, q2⟩ := Dp.readsAll I ds _ _ h2 r2
        exact ⟨_, ReadsAll.cons q1 q2⟩
end
end
section
variable {X : Cx}
end
end L2
namespace L2
open PySem PySem.Spec PyProof.Rows
abbrev CellAt (h : Heap) (c : Addr) (v : Option Value) : Prop := h.IsCell c v
def relS (scope sc : Scope) : Scope :=
  { scope with names := scope.names.map fun (n, k) => if (k == .free && sc.kind == .function && sc.names.lookup n == some .cell) then (n, .cell) else (n, k) }
def cloFrom (cells : List (Str × Addr)) : List (Str × NameKind) → List (Str × Addr) → List (Str × Addr)
  | [], acc => acc
  | (n, k) :: r, acc => if k == .free then cloFrom cells r ((n, (cells.lookup n).getD 0) :: acc) else cloFrom cells r acc
theorem closure_loop (env : Env) (f : Str × NameKind → List (Str × Addr) → Sem (ForInStep (List (Str × Addr))))
    (hf : ∀ n k c, f (n, k) c = if k == .free then (do let a ← cellOf env n; pure (.yield ((n, a) :: c))) else pure (.yield c)) :
    ∀ (names : List (Str × NameKind)) (acc : List (Str × Addr)), (∀ y ∈ names, y.2 = .free → ∃ c, env.cells.lookup y.1 = some c) → forIn names acc f = pure (cloFrom env.cells names acc)
  | [], acc, _ => by rw [List.forIn_nil]; rfl
  | (n, k) :: r, acc, h => by
    rw [List.forIn_cons, hf]
    have ih := fun acc => closure_loop env f hf r acc fun y hy => h y (List.mem_cons_of_mem _ hy)
    unfold cloFrom
    by_cases hk : (k == NameKind.free) = true
    · rw [if_pos hk, if_pos hk]
      obtain ⟨c, hc⟩ := h (n, k) List.mem_cons_self (by simpa using hk)
      have e : cellOf env n = pure c := by unfold cellOf; rw [hc]
      rw [e]
      have e2 : (env.cells.lookup n).getD 0 = c := by rw [hc]; rfl
      rw [e2]
      exact ih _
    · rw [if_neg hk, if_neg hk]
      exact ih _
theorem closure_ok {scope : Scope} {env : Env} (h : ∀ y ∈ scope.names, y.2 = .free → ∃ c, env.cells.lookup y.1 = some c) : closureFor scope env = pure (cloFrom env.cells scope.names []) := by
  simp only [closureFor]
  rw [closure_loop env _ (fun n k c => rfl) scope.names [] h]
  rfl
theorem mem_lookup {α : Type} : ∀ {l : List (Str × α)} {n : Str} {c : α}, (n, c) ∈ l → ∃ c', l.lookup n = some c'
  | (k, v) :: r, n, c, h => by
    rw [List.lookup_cons]
    cases hb : n == k with
    | true => exact ⟨_, rfl⟩
    | false =>
      rcases List.mem_cons.mp h with e | h
      · cases e; simp at hb
      · exact mem_lookup h
theorem cloFrom_mem {cells : List (Str × Addr)} : ∀ {names : List (Str × NameKind)} {acc : List (Str × Addr)} {n : Str} {c : Addr}, (n, c) ∈ cloFrom cells names acc → (n, c) ∈ acc ∨ ((n, .free) ∈ names ∧ c = (cells.lookup n).getD 0)
  | [], _, _, _, h => .inl h
  | (m, k) :: r, acc, n, c, h => by
    unfold cloFrom at h
    split at h
    · rename_i hk
      have hk : k = .free := by simpa using hk
      rcases cloFrom_mem h with h | ⟨h1, h2⟩
      · rcases List.mem_cons.mp h with e | h
        · cases e; exact .inr ⟨hk ▸ List.mem_cons_self, rfl⟩
        · exact .inl h
      · exact .inr ⟨List.mem_cons_of_mem _ h1, h2⟩
    · rcases cloFrom_mem h with h | ⟨h1, h2⟩
      · exact .inl h
      · exact .inr ⟨List.mem_cons_of_mem _ h1, h2⟩
theorem cloFrom_acc {cells : List (Str × Addr)} : ∀ {names : List (Str × NameKind)} {acc : List (Str × Addr)} {p : Str × Addr}, p ∈ acc → p ∈ cloFrom cells names acc
  | [], _, _, h => h
  | (m, k) :: r, acc, p, h => by
    unfold cloFrom
    split
    · exact cloFrom_acc (List.mem_cons_of_mem _ h)
    · exact cloFrom_acc h
theorem cloFrom_has {cells : List (Str × Addr)} : ∀ {names : List (Str × NameKind)} {acc : List (Str × Addr)} {n : Str}, (n, .free) ∈ names → (n, (cells.lookup n).getD 0) ∈ cloFrom cells names acc
  | (m, k) :: r, acc, n, h => by
    unfold cloFrom
    rcases List.mem_cons.mp h with e | h
    · cases e
      exact cloFrom_acc List.mem_cons_self
    · split
      · exact cloFrom_has h
      · exact cloFrom_has h
theorem cells_mem : ∀ {names : List (Str × NameKind)} {h : Heap} {acc : List (Str × Addr)} {x : Str} {c : Addr}, (x, c) ∈ cellsFrom h.objs.size names acc →
    (x, c) ∈ acc ∨ ((x, .cell) ∈ names ∧ h.objs.size ≤ c ∧ CellAt (pushCells h names) c none)
  | [], _, _, _, _, h => .inl h
  | (n, k) :: r, h, acc, x, c, hm => by
    unfold cellsFrom at hm
    unfold pushCells
    split at hm
    · rename_i hk
      rw [if_pos hk]
      have hk : k = .cell := by simpa using hk
      rw [← Heap.size_push h { cls := .type "cell", data := .cell none }] at hm
      rcases cells_mem hm with hm | ⟨h1, h2, h3⟩
      · rcases List.mem_cons.mp hm with e | hm
        · cases e
          exact .inr ⟨hk ▸ List.mem_cons_self, Nat.le_refl _, _, pushCells_keeps r _ _ _ (Heap.get?_push_size _ rfl), rfl⟩
        · exact .inl hm
      · rw [Heap.size_push] at h2
        exact .inr ⟨List.mem_cons_of_mem _ h1, Nat.le_of_succ_le h2, h3⟩
    · rename_i hk
      rw [if_neg hk]
      rcases cells_mem hm with hm | ⟨h1, h2, h3⟩
      · exact .inl hm
      · exact .inr ⟨List.mem_cons_of_mem _ h1, h2, h3⟩
theorem cells_acc : ∀ {names : List (Str × NameKind)} {n : Nat} {acc : List (Str × Addr)} {p : Str × Addr}, p ∈ acc → p ∈ cellsFrom n names acc
  | [], _, _, _, h => h
  | (m, k) :: r, n, acc, p, h => by
    unfold cellsFrom
    split
    · exact cells_acc (List.mem_cons_of_mem _ h)
    · exact cells_acc h
theorem cells_has : ∀ {names : List (Str × NameKind)} {n : Nat} {acc : List (Str × Addr)} {x : Str}, (x, .cell) ∈ names → ∃ c, (x, c) ∈ cellsFrom n names acc
  | (m, k) :: r, n, acc, x, h => by
    unfold cellsFrom
    rcases List.mem_cons.mp h with e | h
    · cases e
      exact ⟨n, cells_acc List.mem_cons_self⟩
    · split
      · exact cells_has h
      · exact cells_has h
theorem cells_inj : ∀ {names : List (Str × NameKind)} {h : Heap} {acc : List (Str × Addr)} {x y : Str} {c : Addr}, (∀ p ∈ acc, p.2 < h.objs.size) → (∀ x y c, (x, c) ∈ acc → (y, c) ∈ acc → x = y) →
    (x, c) ∈ cellsFrom h.objs.size names acc → (y, c) ∈ cellsFrom h.objs.size names acc → x = y
  | [], _, _, _, _, _, _, hi, h1, h2 => hi _ _ _ h1 h2
  | (n, k) :: r, h, acc, x, y, c, hl, hi, h1, h2 => by
    unfold cellsFrom at h1 h2
    split at h1
    · rename_i hk
      rw [if_pos hk] at h2
      rw [← Heap.size_push h { cls := .type "cell", data := .cell none }] at h1 h2
      refine cells_inj (h := h.push _) (fun p hp => ?_) (fun x y c a b => ?_) h1 h2
      · rw [Heap.size_push]
        rcases List.mem_cons.mp hp with rfl | hp
        · exact Nat.lt_succ_self _
        · exact Nat.lt_succ_of_lt (hl p hp)
      · rcases List.mem_cons.mp a with e | a <;> rcases List.mem_cons.mp b with e' | b
        · cases e; cases e'; rfl
        · cases e; exact absurd (hl _ b) (Nat.lt_irrefl _)
        · cases e'; exact absurd (hl _ a) (Nat.lt_irrefl _)
        · exact hi _ _ _ a b
    · rename_i hk
      rw [if_neg hk] at h2
      exact cells_inj hl hi h1 h2
theorem newEnv_comp {M : Model} {A : Around} {E : Value → Shared → Prop} {s : Shared} {scope : Scope} {globals : Addr} {closure : List (Str × Addr)} {qual : Str} {func : Option Addr} {code : Value} {around : Env} {builtins : Addr} {Q : Env → Shared → Prop}
    (h : Q (newEnv scope s.heap.objs.size globals (cellsFrom (s.heap.objs.size + 1) scope.names closure) qual func code (some around) builtins)
      { s with heap := pushCells (s.heap.push { cls := .type "dict", data := .dict #[] }) scope.names }) :
    wpAny M A (newFunctionEnv scope globals closure [] qual func code (some around) builtins) Q E s := by
  simp only [newFunctionEnv, Option.isSome_some, if_true]
  refine wpAny_bind (wpAny_alloc ?_)
  refine wpAny_bind (wpAny_layCells _ (fun n k c => rfl) scope.names closure _ _ ?_)
  rw [show ({ s with heap := s.heap.push { cls := .type "dict", data := .dict #[] } } : Shared).heap.objs.size = s.heap.objs.size + 1 from Heap.size_push ..]
  rw [List.forIn_nil]
  exact wpAny_bind (wpAny_pure (wpAny_pure h))
/-- every name of the written scope, in the scope that runs -/
theorem lookup_relS {sc : Scope} : ∀ {names : List (Str × NameKind)} {x : Str} {k : NameKind},
    (names.map fun (n, k) => if (k == NameKind.free && sc.kind == .function && sc.names.lookup n == some .cell) then (n, NameKind.cell) else (n, k)).lookup x = some k →
    ∃ k', names.lookup x = some k' ∧ (k = k' ∨ (k' = .free ∧ k = .cell))
  | [], _, _, h => by simp at h
  | (n, k₀) :: r, x, k, h => by
    have ih := @lookup_relS sc r x k
    have h' : List.lookup x ((if (k₀ == NameKind.free && sc.kind == .function && sc.names.lookup n == some .cell) = true then (n, NameKind.cell) else (n, k₀)) :: (r.map _)) = some k := h
    cases hx : x == n with
    | true =>
      simp only [List.lookup_cons, hx]
      by_cases hc : (k₀ == NameKind.free && sc.kind == .function && sc.names.lookup n == some .cell) = true
      · rw [if_pos hc] at h'
        simp only [List.lookup_cons, hx] at h'
        cases h'
        simp only [Bool.and_eq_true, beq_iff_eq] at hc
        exact ⟨k₀, rfl, .inr ⟨hc.1.1, rfl⟩⟩
      · rw [if_neg hc] at h'
        simp only [List.lookup_cons, hx] at h'
        cases h'
        exact ⟨_, rfl, .inl rfl⟩
    | false =>
      simp only [List.lookup_cons, hx]
      by_cases hc : (k₀ == NameKind.free && sc.kind == .function && sc.names.lookup n == some .cell) = true
      · rw [if_pos hc] at h'
        simp only [List.lookup_cons, hx] at h'
        exact ih h'
      · rw [if_neg hc] at h'
        simp only [List.lookup_cons, hx] at h'
        exact ih h'
/-- the names of a comprehension's block: its own (with their places in N), or captured -/
structure BlkOk (N : List Str) (sc scope : Scope) (own : List (Str × Nat)) : Prop where
  kind : scope.kind = .function
  uniq : ∀ y ∈ scope.names, scope.names.lookup y.1 = some y.2
  ix : ∀ p ∈ own, N[p.2]? = some p.1
  free : ∀ y ∈ scope.names, y.2 = .free → sc.names.lookup y.1 = some .cell ∨ sc.names.lookup y.1 = some .free
  own : ∀ y ∈ scope.names, y.2 = .local ∨ y.2 = .cell → y.1 ∈ own.map (·.1) ∨ y.1 ∉ N
/-- the slots of the block's own names forgotten -/
def wipe (σ : St) : List Nat → St
  | [] => σ
  | v :: vs => (wipe σ vs).set v none
theorem wipe_length (σ : St) : ∀ vs : List Nat, (wipe σ vs).length = σ.length
  | [] => rfl
  | v :: vs => by unfold wipe; rw [List.length_set, wipe_length σ vs]
theorem wipe_some {σ : St} {i : Nat} {x : V} : ∀ {vs : List Nat}, (wipe σ vs)[i]? = some (some x) → σ[i]? = some (some x) ∧ i ∉ vs
  | [], h => ⟨h, by simp⟩
  | v :: vs, h => by
    unfold wipe at h
    by_cases hi : v = i
    · subst hi
      by_cases hv : v < (wipe σ vs).length
      · rw [List.getElem?_set_self hv] at h; cases h
      · rw [List.getElem?_eq_none (by simpa using hv)] at h; cases h
    · rw [List.getElem?_set_ne hi] at h
      obtain ⟨h1, h2⟩ := wipe_some h
      exact ⟨h1, by simp only [List.mem_cons, not_or]; exact ⟨fun e => hi e.symm, h2⟩⟩
/-- the context of a block that starts at s, its iterator's objects at fp -/
abbrev Cx.blk (X : Cx) (s : Shared) (H : Hp) (scope : Scope) (cenv : Env) (fp : List Addr) : Cx := { X with s_0 := s, H_0 := H, env := cenv, outer := X.stack, ex := fp, fn := fun x => scope.names.lookup x == some .cell, pn := [], xe := fun _ _ => False }
section
variable {X : Cx} {pins : List (Addr × Obj)} {σ : St} {H : Hp} {s : Shared}
theorem block_start {scope : Scope} {own : List (Str × Nat)} {fp : List Addr} (I : Inv X pins σ H s) (ok : BlkOk X.N X.env.scope scope own) (hN : X.N.Nodup) (hfp : ∀ b ∈ fp, FpOk X pins H b ∧ b < s.heap.objs.size) :
    Inv (X.blk s H scope (compEnvC scope (cellsFrom (s.heap.objs.size + 1) scope.names (cloFrom X.env.cells scope.names [])) s.heap.objs.size X.env) fp) [] (wipe σ (own.map (·.2))) H { s with heap := pushCells (s.heap.push { cls := .type "dict", data := .dict #[] }) scope.names } := by
  have hfree : ∀ y ∈ scope.names, y.2 = .free → ∃ c, X.env.cells.lookup y.1 = some c := fun y hy e => by
    rcases ok.free y hy e with k | k
    · exact I.ok.has _ (.inl k)
    · exact I.ok.has _ (.inr k)
  generalize hcenv : compEnvC scope (cellsFrom (s.heap.objs.size + 1) scope.names (cloFrom X.env.cells scope.names [])) s.heap.objs.size X.env = cenv
  have kp : ∀ b o, s.heap.get? b = some o → (pushCells (s.heap.push { cls := .type "dict", data := .dict #[] }) scope.names).get? b = some o := fun b o e => pushCells_keeps _ _ _ _ (Heap.get?_push_of_some _ e)
  have hL : cenv.locals = s.heap.objs.size := by rw [← hcenv]; rfl
  have hcl : cenv.cells = cellsFrom (s.heap.objs.size + 1) scope.names (cloFrom X.env.cells scope.names []) := by rw [← hcenv]; rfl
  have hsc : cenv.scope = relS scope X.env.scope := by rw [← hcenv]; rfl
  rw [← Heap.size_push s.heap { cls := .type "dict", data := .dict #[] }] at hcl
  have cm : ∀ {y c}, (y, c) ∈ cloFrom X.env.cells scope.names [] → X.env.cells.lookup y = some c ∧ c < s.heap.objs.size := fun {y c} hm => by
    rcases cloFrom_mem hm with hm | ⟨h1, rfl⟩
    · cases hm
    · obtain ⟨c, hc⟩ := hfree _ h1 rfl
      rw [hc]
      obtain ⟨w, z⟩ := I.cell _ _ hc
      exact ⟨rfl, z.lt⟩
  have mem : ∀ {y c}, cenv.cells.lookup y = some c → (X.env.cells.lookup y = some c ∧ c < s.heap.objs.size) ∨ (s.heap.objs.size + 1 ≤ c ∧ CellAt (pushCells (s.heap.push { cls := .type "dict", data := .dict #[] }) scope.names) c none) := fun {y c} e => by
    rw [hcl] at e
    rcases cells_mem (PySem.mem_of_lookup e) with hm | ⟨_, h2, h3⟩
    · exact .inl (cm hm)
    · rw [Heap.size_push] at h2; exact .inr ⟨h2, h3⟩
  have look : ∀ {y}, scope.names.lookup y = some .free → ∃ c, cenv.cells.lookup y = some c ∧ X.env.cells.lookup y = some c := fun {y} hl => by
    have hy : (y, NameKind.free) ∈ scope.names := PySem.mem_of_lookup hl
    obtain ⟨c', e'⟩ := mem_lookup (cells_acc (names := scope.names) (n := (s.heap.push { cls := .type "dict", data := .dict #[] }).objs.size) (cloFrom_has (cells := X.env.cells) (acc := []) hy))
    rw [← hcl] at e'
    refine ⟨c', e', ?_⟩
    rw [hcl] at e'
    rcases cells_mem (PySem.mem_of_lookup e') with hm | ⟨h1, _, _⟩
    · exact (cm hm).1
    · have := ok.uniq _ h1
      rw [hl] at this; cases this
  have okB : (X.blk s H scope cenv fp).Ok := by
    refine ⟨I.ok.mod, by show cenv.scope.kind = _; rw [hsc]; exact ok.kind, by show cenv.globals = _; rw [← hcenv]; exact I.ok.glob, by show cenv.builtins = _; rw [← hcenv]; exact I.ok.blt, by show s.heap.objs.size ≤ cenv.locals; rw [hL]; exact Nat.le_refl _,
      fun y z c e1 e2 => ?_, fun y hy => ?_, fun y c z e => ?_, I.ok.hd, I.ok.frames, .inl rfl, fun b hb => ⟨?_, fun y c e z => ?_⟩, I.bs, Nat.le_trans I.ok.bsz I.sz, fun b o e hb => ?_, fun b hb z => ?_, I.stack, I.stkFree⟩
    · have e1 : cenv.cells.lookup y = some c := e1
      have e2 : cenv.cells.lookup z = some c := e2
      rw [hcl] at e1 e2
      refine cells_inj (fun p hp => ?_) (fun y z c a b => I.ok.inj y z c (cm a).1 (cm b).1) (PySem.mem_of_lookup e1) (PySem.mem_of_lookup e2)
      rw [Heap.size_push]
      exact Nat.lt_succ_of_lt (cm (y := p.1) (c := p.2) hp).2
    · show ∃ c, cenv.cells.lookup y = some c
      have key : ∀ k, cenv.kindOf y = some k → (k = .cell ∨ k = .free) → ∃ c, cenv.cells.lookup y = some c := fun k hk hk' => by
        unfold Env.kindOf at hk
        rw [hsc] at hk
        obtain ⟨k', e, r⟩ := lookup_relS hk
        have : k' = .cell ∨ k' = .free := by
          rcases r with rfl | ⟨rfl, _⟩
          · exact hk'
          · exact .inr rfl
        rcases this with rfl | rfl
        · obtain ⟨c, hm⟩ := cells_has (n := (s.heap.push { cls := .type "dict", data := .dict #[] }).objs.size) (acc := cloFrom X.env.cells scope.names []) (PySem.mem_of_lookup e)
          obtain ⟨c', e'⟩ := mem_lookup hm
          exact ⟨c', by rw [hcl]; exact e'⟩
        · obtain ⟨c, h1, _⟩ := look e
          exact ⟨c, h1⟩
      rcases hy with hy | hy
      · exact key _ hy (.inl rfl)
      · exact key _ hy (.inr rfl)
    · have z : (scope.names.lookup y == some NameKind.cell) = true := z
      have z : scope.names.lookup y = some .cell := by simpa using z
      have e : cenv.cells.lookup y = some c := e
      rw [hcl] at e
      rcases cells_mem (PySem.mem_of_lookup e) with hm | ⟨_, h2, _⟩
      · rcases cloFrom_mem hm with hm | ⟨h1, _⟩
        · cases hm
        · have q := ok.uniq _ h1
          rw [z] at q; cases q
      · rw [Heap.size_push] at h2
        exact Nat.le_of_succ_le h2
    · show b ≠ cenv.locals
      rw [hL]; exact Nat.ne_of_lt (hfp b hb).2
    · have e : cenv.cells.lookup y = some c := e
      rcases mem e with ⟨h1, _⟩ | ⟨h1, _⟩
      · exact (hfp b hb).1.2.2.2.2.1 y c h1 z
      · have h2 : s.heap.objs.size + 1 ≤ b := by rw [← z]; exact h1
        exact absurd (Nat.lt_of_lt_of_le (hfp b hb).2 (Nat.le_of_succ_le h2)) (Nat.lt_irrefl _)
    · rcases (hfp b hb).1.2.2.2.1 with z | z
      · exact I.ok.noex b o e z
      · exact absurd (Nat.lt_of_lt_of_le (Heap.lt_size e) (Nat.le_trans I.ok.bsz z)) (Nat.lt_irrefl _)
    · rcases List.mem_cons.mp (I.stkSub b z) with z | z
      · exact (hfp b hb).1.2.1 z
      · exact (hfp b hb).1.2.2.1 z
  refine ⟨okB, rfl, I.bare, Un.kept kp, ⟨fun _ => none, ?_, fun i y av e1 e2 e3 => ?_⟩, fun y c e => ?_, ?_, fun y c e => ?_, fun p hp => ?_, I.hok.kept kp, by rw [wipe_length]; exact I.len⟩
  · show Heap.Ns _ cenv.locals _
    rw [hL]
    exact Heap.Ns.keeps (Heap.Ns.new ..) fun b o e => pushCells_keeps _ _ _ _ e
  · obtain ⟨e2, hne⟩ := wipe_some e2
    have hfr : scope.names.lookup y = some .free ∧ (cenv.kindOf y = some .cell ∨ cenv.kindOf y = some .free) := by
      have key : ∀ k, cenv.scope.names.lookup y = some k → k = .local ∨ k = .cell ∨ k = .free → scope.names.lookup y = some .free ∧ (cenv.kindOf y = some .cell ∨ cenv.kindOf y = some .free) := fun k hk hk' => by
        have hk0 := hk
        rw [hsc] at hk
        obtain ⟨k', e, r⟩ := lookup_relS hk
        have no : ¬ (k' = .local ∨ k' = .cell) := fun hh => by
          rcases ok.own _ (PySem.mem_of_lookup e) hh with e' | e'
          · obtain ⟨p, hp, hpy⟩ := List.mem_map.mp e'
            have e3 := ok.ix p hp
            have : p.1 = y := hpy
            rw [this] at e3
            exact hne (List.mem_map.mpr ⟨p, hp, nodup_ix hN e3 e1⟩)
          · exact e' (List.mem_of_getElem? e1)
        rcases r with rfl | ⟨rfl, rfl⟩
        · rcases hk' with rfl | rfl | rfl
          · exact absurd (.inl rfl) no
          · exact absurd (.inr rfl) no
          · exact ⟨e, .inr hk0⟩
        · exact ⟨e, .inl hk0⟩
      have e3 : Vis cenv.scope y := e3
      rcases e3 with e3 | e3 | e3
      · exact key _ e3 (.inl rfl)
      · exact key _ e3 (.inr (.inl rfl))
      · exact key _ e3 (.inr (.inr rfl))
    obtain ⟨m, hn, hl⟩ := I.loc
    have hvis : Vis X.env.scope y := (ok.free _ (PySem.mem_of_lookup hfr.1) rfl).elim (fun k => .inr (.inl k)) (fun k => .inr (.inr k))
    obtain ⟨w, r, q⟩ := hl i y av e1 e2 hvis
    refine ⟨w, r, .inr ⟨hfr.2, ?_⟩⟩
    obtain ⟨c, h1, h2⟩ := look hfr.1
    rcases q with ⟨k, _⟩ | ⟨_, c', e', z⟩
    · have k : X.env.scope.names.lookup y = some .local := k
      rcases ok.free _ (PySem.mem_of_lookup hfr.1) rfl with k' | k' <;> rw [show X.env.scope.names.lookup y = _ from k'] at k <;> cases k
    · rw [h2] at e'; cases e'
      exact ⟨c, h1, z.keeps kp⟩
  · have e : cenv.cells.lookup y = some c := e
    rcases mem e with ⟨h1, _⟩ | ⟨_, z⟩
    · obtain ⟨w, z⟩ := I.cell y c h1
      exact ⟨w, z.keeps kp⟩
    · exact ⟨_, z⟩
  · show H cenv.locals = none
    rw [hL]; exact I.hok.fresh (Nat.le_refl _)
  · have e : cenv.cells.lookup y = some c := e
    rcases mem e with ⟨h1, _⟩ | ⟨h1, _⟩
    · exact I.freeC y c h1
    · exact I.hok.fresh (Nat.le_of_succ_le h1)
  · exact absurd (show p ∈ ([] : List (Addr × Obj)) ++ [] from hp) (by simp)
/-- an item appended to a tracked list -/
theorem app_ok {E : Value → Shared → Prop} {D : Addr} {xs : List V} {y : V} {v : Value} {Q : Value → Shared → Prop} (I : Inv X pins σ H s) (hD : H D = some (.lst xs)) (hz : xs.length < sizeLine) (r : RelV y v)
    (h : ∀ s', Inv X pins σ (upd H D (.lst (xs ++ [y]))) s' → Q .none s') : wpAny (model X.prog X.w) X.A (call (.builtin "list.append") [.ref D, v]) Q E s := by
  obtain ⟨hz', its, n, ri, e⟩ := I.hok D _ hD
  have hl := ri.length
  refine append_at (hsz := by rw [List.size_toArray]; omega) e fun h' sb ho' => ?_
  refine h { s with heap := h' } (I.write (t' := s.toks) (by rw [hD]; trivial) (.inl rfl) (fun b u hb q => (sb.2 b hb).trans q) ⟨_, ho'⟩ ⟨by rw [List.length_append]; exact hz, its ++ [v], n + 1, ri.append (.cons r .nil), ?_⟩)
  rw [ho']
  simp
/-- a clause's tests -/
def PTs (X : Cx) (ifs : List Expr) (t : TT) : Prop :=
  ∀ (pins : List (Addr × Obj)) (s : Shared) (σ : St) (H : Hp) (Q : Bool → Hp → Prop), Inv X pins σ H s → t σ H Q →
    wpAny (model X.prog X.w) X.A (forIn ifs true fun c r => if r = true then do let ok ← isTrue c X.env (eval c X.env); pure (ForInStep.yield ok) else pure (ForInStep.yield r)) (TP X pins σ Q) X.xe s
def tYes : TT := fun _ H Q => Q true H
theorem pts_nil : PTs X [] tYes := fun _ _ _ H _ I h => wpAny_tests_nil ⟨H, I, h⟩
end
theorem thnF {α : Type} {t : Sem α} {Q Q' : α → Shared → Prop} {M : Model} {A : Around} {E : Value → Shared → Prop} {s : Shared} (h : wpAny M A t Q (fun _ _ => False) s) (hQ : ∀ a s, Q a s → Q' a s) : wpAny M A t Q' E s := wpAny_mono h hQ fun _ _ z => False.elim z
/-- the loop of a list comprehension's block, the target of any form (codeAny_compLoop_tests asks a target that no tuple goes to; statement and proof follow it, PyProof/CompMap.lean:41-61, with the step letOwnedTupleGo kept) -/
theorem compLoop_any {prog : Program} {w : World} {A : Around} {R : Result → Shared → Prop} {s : Shared} {elt target iter : Expr} {ifs : List Expr} {scope : Scope} {pos : Pos} {it acc : Value} {env : Env} (I : Nat → Shared → Prop)
    (turn : ∀ n s, I n s → wpAny (model prog w) A (pyNext it) (fun r s₁ => match r with
      | none => R (.ok .next) s₁
      | some v => wpAny (model prog w) A (letOwnedTupleGo target it v) (fun _ s₁' => wpAny (model prog w) A (assign target env v) (fun _ s₂ =>
          wpAny (model prog w) A (forIn ifs true fun c r => if r = true then do let ok ← isTrue c env (eval c env); pure (ForInStep.yield ok) else pure (ForInStep.yield r)) (fun ok s₃ =>
            if ok = true then wpAny (model prog w) A (eval elt env) (fun x s₄ =>
              wpAny (model prog w) A (call (.builtin "list.append") [acc, x]) (fun _ s₅ => ∃ m, m < n ∧ I m s₅) (notedBy (model prog w) A env fun e s' => R (.error e) s') s₄) (notedBy (model prog w) A env fun e s' => R (.error e) s') s₃
            else ∃ m, m < n ∧ I m s₃) (notedBy (model prog w) A env fun e s' => R (.error e) s') s₂) (notedBy (model prog w) A env fun e s' => R (.error e) s') s₁') (notedBy (model prog w) A env fun e s' => R (.error e) s') s₁) (notedBy (model prog w) A env fun e s' => R (.error e) s') s)
    (n : Nat) (h : I n s) :
    codeAny (model prog w) A (.compLoop (.ListComp elt [⟨target, iter, ifs, 0⟩] scope pos) 0 it acc env) R s := by
  refine codeAny_loop rfl I (fun n s hI => ?_) n h
  show wpAny _ A ((compTurn (.ListComp elt [⟨target, iter, ifs, 0⟩] scope pos) 0 it acc env).onRaise (fun x => do noteFrame x env; theTreesLotGoes x)) _ _ s
  refine wpAny_noted ?_
  rw [compTurn_list]
  refine wpAny_bind (wpAny_standAt (wpAny_bind (wpAny_mono (turn n s hI) (fun r s₁ h₁ => ?_) fun _ _ h' => h')))
  cases r with
  | none => exact wpAny_pure h₁
  | some v =>
    refine wpAny_bind (wpAny_mono h₁ (fun _ s₁' h₁' => ?_) fun _ _ h' => h')
    refine wpAny_bind (wpAny_mono h₁' (fun _ s₂ h₂ => wpAny_bind (wpAny_mono h₂ (fun ok s₃ h₃ => ?_) fun _ _ h' => h')) fun _ _ h' => h')
    cases ok with
    | false => exact wpAny_pure ⟨rfl, h₃⟩
    | true =>
      exact wpAny_bind (wpAny_bind (wpAny_mono h₃ (fun x s₄ h₄ => wpAny_bind (wpAny_mono h₄ (fun _ s₅ h₅ => wpAny_pure (wpAny_pure ⟨rfl, h₅⟩)) fun _ _ h' => h')) fun _ _ h' => h'))
section
variable {X : Cx}
/-- [elt for target in iter if ..]: D the new list; W by the turn and a measure, Nx what a turn is to reach -/
def tLc (wi : TI) (g : TG) (tt : TT) (te : TE) (vs : List Nat) : TE := fun σ H Q => wi σ H fun J H1 => ∀ D, H1 D = none → ∃ W : Nat → Nat → Hp → Prop, (∃ m, W 0 m (upd H1 D (.lst []))) ∧ ∀ i m H, W i m H →
  (J.stop i H ∧ Q (.ref D) H) ∨ (J.go i H ∧ ∃ Nx : Hp → Prop, (∀ H', Nx H' → ∃ m', m' < m ∧ W (i + 1) m' H') ∧ ∀ x H', J.yld i H x H' → g x (wipe σ vs) H' fun σ2 H2 => wipe σ2 vs = wipe σ vs ∧ tt σ2 H2 fun b H3 =>
    if b = true then te σ2 H3 fun y H4 => ∃ acc, H4 D = some (.lst acc) ∧ acc.length < sizeLine ∧ Nx (upd H4 D (.lst (acc ++ [y]))) else Nx H3)
theorem lc_core {pins : List (Addr × Obj)} {s : Shared} {σ : St} {H : Hp} {Q : VK} {elt tg iter : Expr} {ifs : List Expr} {scope : Scope} {own : List (Str × Nat)} {pos pos' : Pos} {wi : TI} {g : TG} {tt : TT} {te : TE} {use : Option (Value → Sem Unit)} {Qf : Value → Shared → Prop}
    (hc : X.calm = true) (hN : X.N.Nodup) (I : Inv X pins σ H s) (hi : PI X tg iter wi) (ok : BlkOk X.N X.env.scope scope own)
    (hg : ∀ (s : Shared) (H : Hp) (C : Addr) (cl : List (Str × Addr)) (fp : List Addr), PG (X.blk s H scope (compEnvC scope cl C X.env) fp) tg g) (ht : ∀ (s : Shared) (H : Hp) (C : Addr) (cl : List (Str × Addr)) (fp : List Addr), PTs (X.blk s H scope (compEnvC scope cl C X.env) fp) ifs tt)
    (he : ∀ (s : Shared) (H : Hp) (C : Addr) (cl : List (Str × Addr)) (fp : List Addr), PE (X.blk s H scope (compEnvC scope cl C X.env) fp) elt te) (hs : ∀ x, foldedSetIterable iter X.env x = pure x)
    (h : tLc wi g tt te (own.map (·.2)) σ H Q)
    (hRR : ∀ D C s' m H', Inv X pins σ H' s' → Q (.ref D) H' → s'.heap.Ns C m → FpOk X pins H' C → compPost (model X.prog X.w) X.A X.xe use Qf (.ref D) C (.ok .next) s') :
    wpAny (model X.prog X.w) X.A (comprehension (.ListComp elt [⟨tg, iter, ifs, 0⟩] scope pos) scope X.env pos' (newList []) false (eval iter X.env) use) Qf X.xe s := by
  have hfree : ∀ y ∈ scope.names, y.2 = .free → ∃ c, X.env.cells.lookup y.1 = some c := fun y hy e => by
    rcases ok.free y hy e with k | k
    · exact I.ok.has _ (.inl k)
    · exact I.ok.has _ (.inr k)
  refine wpAny_comprehension_free (use := use) rfl hs (closure_ok hfree) ok.kind (fun y hy e => by rw [ok.uniq y hy, e])
    (thn (hi pins s σ H _ I h) fun xv s1 hx => thn hx fun itv s2 h2 => ?_)
  obtain ⟨it, fp, tn, J, H2, e, I2, T, st2, f2, q⟩ := h2
  subst e
  refine wpAny_newObj_type (newEnv_comp ?_) (by show 0 ≤ sizeLine; decide)
  generalize hD : s2.heap.objs.size = D
  have hDn : H2 D = none := I2.hok.fresh (Nat.le_of_eq hD)
  obtain ⟨W, ⟨m0, w0⟩, turn⟩ := q D hDn
  -- the new list
  generalize hs3 : ({ s2 with heap := s2.heap.push { cls := .type "list", data := .seq ([] : List Value).toArray } } : Shared) = s3
  have I3 : Inv X pins σ (upd H2 D (.lst [])) s3 := by
    rw [← hs3]
    refine I2.laid (t' := s2.toks) (fun b o e => Heap.get?_push_of_some _ e) (Nat.le_of_eq hD) ⟨Nat.zero_le _, [], 0, .nil, ?_⟩
    rw [← hD]
    exact Heap.get?_push_size _ rfl
  have h3 : s3.heap = s2.heap.push { cls := .type "list", data := .seq ([] : List Value).toArray } := by rw [← hs3]
  have sz : ∀ b ∈ fp, b < s2.heap.objs.size := fun b hb => by
    obtain ⟨o, e, _⟩ := T.obj _ _ st2 b hb
    exact Heap.lt_size e
  have f3 : ∀ b ∈ fp, FpOk X pins (upd H2 D (.lst [])) b ∧ b < s3.heap.objs.size := fun b hb => by
    have hlt := sz b hb
    refine ⟨⟨?_, (f2 b hb).2⟩, by rw [h3, Heap.size_push]; exact Nat.lt_succ_of_lt hlt⟩
    rw [upd_ne (by rw [← hD]; exact Nat.ne_of_lt hlt)]
    exact (f2 b hb).1
  have st3 : tn 0 s3.heap := T.keep _ _ _ st2 fun b _ o e => by rw [h3]; exact Heap.get?_push_of_some _ e
  have I4 := block_start I3 ok hN f3
  have pg := hg s3 (upd H2 D (.lst [])) s3.heap.objs.size (cellsFrom (s3.heap.objs.size + 1) scope.names (cloFrom X.env.cells scope.names [])) fp
  have pt := ht s3 (upd H2 D (.lst [])) s3.heap.objs.size (cellsFrom (s3.heap.objs.size + 1) scope.names (cloFrom X.env.cells scope.names [])) fp
  have pe := he s3 (upd H2 D (.lst [])) s3.heap.objs.size (cellsFrom (s3.heap.objs.size + 1) scope.names (cloFrom X.env.cells scope.names [])) fp
  show codeAny _ _ (.compStart (.ListComp elt [⟨tg, iter, ifs, 0⟩] scope pos) 0 (.ref it) (.ref D) (compEnvC scope (cellsFrom (s3.heap.objs.size + 1) scope.names (cloFrom X.env.cells scope.names [])) s3.heap.objs.size X.env)) (compPost (model X.prog X.w) X.A X.xe use Qf (.ref D) s3.heap.objs.size) { s3 with heap := pushCells (s3.heap.push { cls := .type "dict", data := .dict #[] }) scope.names }
  have nfp : ∀ b ∈ fp, (upd H2 D (.lst [])) b = none := fun b hb => (f3 b hb).1.1
  generalize hce : compEnvC scope (cellsFrom (s3.heap.objs.size + 1) scope.names (cloFrom X.env.cells scope.names [])) s3.heap.objs.size X.env = ce at I4 pg pt pe ⊢
  have cL : ce.locals = s3.heap.objs.size := by subst hce; rfl
  generalize hH3 : upd H2 D (.lst []) = H3 at I3 I4 pg pt pe w0 nfp f3
  generalize hs4 : ({ s3 with heap := pushCells (s3.heap.push { cls := .type "dict", data := .dict #[] }) scope.names } : Shared) = s4 at I4 ⊢
  have st4 : tn 0 s4.heap := T.keep _ _ _ st3 fun b _ o e => by rw [← hs4]; exact pushCells_keeps _ _ _ _ (Heap.get?_push_of_some _ e)
  have stat : ∀ {σ' : St} {H' : Hp} {s' : Shared}, Inv (X.blk s3 H3 scope ce fp) [] σ' H' s' → (∀ b ∈ fp, H' b = none) → ∀ b ∈ fp, FpOk (X.blk s3 H3 scope ce fp) [] H' b := fun {σ' H' s'} I' hn b hb =>
    ⟨hn b hb, (I'.ok.exf b hb).1, I'.ok.exfs b hb, .inl hb, fun x c e => (I'.ok.exf b hb).2 x c e, fun p hp => absurd (show p ∈ ([] : List (Addr × Obj)) ++ [] from hp) (by simp)⟩
  have loop : codeAny (model X.prog X.w) X.A (.compLoop (.ListComp elt [⟨tg, iter, ifs, 0⟩] scope pos) 0 (.ref it) (.ref D) ce) (compPost (model X.prog X.w) X.A X.xe use Qf (.ref D) s3.heap.objs.size) s4 := by
    refine compLoop_any (fun n s' => ∃ i H', Inv (X.blk s3 H3 scope ce fp) [] (wipe σ (own.map (·.2))) H' s' ∧ tn i s'.heap ∧ (∀ b ∈ fp, H' b = none) ∧ W i n H') ?_ m0 ⟨0, H3, I4, st4, nfp, w0⟩
    rintro n s5 ⟨i, H5, I5, st5, n5, w5⟩
    rcases turn i n H5 w5 with ⟨stop, qq⟩ | ⟨go, Nx, hNx, step⟩
    · have td := T.done (X.blk s3 H3 scope ce fp) rfl rfl rfl hc i [] s5 _ H5 (fun _ _ => False) I5 (stat I5 n5) st5 stop
      refine thnF td fun r s6 ⟨hr, I6⟩ => ?_
      subst hr
      -- back in the def's context
      have I7 : Inv X pins σ H5 s6 := I3.call' (ch := fp) I6.os I6.base I6.hok I6.bare fun b hb => ⟨(f3 b hb).1.2.2.2.1, (f3 b hb).1.2.1, (f3 b hb).1.2.2.2.2.1, (f3 b hb).1.2.2.2.2.2⟩
      have nC : H5 s3.heap.objs.size = none := by
        have z : H5 ce.locals = none := I6.free
        rw [cL] at z
        exact z
      obtain ⟨m, hn, _⟩ := I6.loc
      have hn : s6.heap.Ns ce.locals m := hn
      rw [cL] at hn
      exact hRR D s3.heap.objs.size s6 m H5 I7 qq hn (I3.fpOk (Nat.le_refl _) nC)
    · have ti := T.item (X.blk s3 H3 scope ce fp) rfl rfl rfl hc i [] s5 _ H5 (fun _ _ => False) I5 (stat I5 n5) st5 go
      refine thnF ti fun r s6 ⟨u, hr, h6⟩ => ?_
      subst hr
      refine thnF h6 fun _ s7 ⟨x, H7, I7, r7, y7, st7, n7⟩ => ?_
      have I7' := I7.pinned (stat I7 n7) (T.obj _ _ st7)
      refine thnF (pg _ s7 _ H7 x u _ I7' r7 (step x H7 y7)) fun _ s8 ⟨σ8, H8, I8, hw8, q8⟩ => ?_
      refine thnF (pt _ s8 σ8 H8 _ I8 q8) fun b s9 ⟨H9, I9, q9⟩ => ?_
      -- the turn's end
      have fin : ∀ {s' : Shared} {H' : Hp}, Inv (X.blk s3 H3 scope ce fp) ([] ++ pinsAt fp s7.heap) σ8 H' s' → Nx H' → ∃ m, m < n ∧ ∃ i H', Inv (X.blk s3 H3 scope ce fp) [] (wipe σ (own.map (·.2))) H' s' ∧ tn i s'.heap ∧ (∀ b ∈ fp, H' b = none) ∧ W i m H' := fun {s' H'} I' nx => by
        obtain ⟨m', hm, w'⟩ := hNx H' nx
        have pin' : ∀ b ∈ fp, ∀ o, s7.heap.get? b = some o → s'.heap.get? b = some o ∧ H' b = none := fun b hb o e =>
          let z := I'.pin (b, o) (List.mem_append_right _ (List.mem_append_right _ (mem_pinsAt hb e)))
          ⟨z.1, z.2.1⟩
        have hl : (wipe σ (own.map (·.2))).length = σ8.length := by rw [← hw8, wipe_length]
        refine ⟨m', hm, i + 1, H', (I'.unpinned (pins := [])).weak hl (fun j v e => ?_), T.keep _ _ _ st7 fun b hb o e => (pin' b hb o e).1, fun b hb => ?_, w'⟩
        · rw [← hw8] at e
          exact (wipe_some e).1
        · obtain ⟨o, e, _⟩ := T.obj _ _ st7 b hb
          exact (pin' b hb o e).2
      cases b with
      | false =>
        simp only [Bool.false_eq_true, if_false] at q9 ⊢
        exact fin I9 q9
      | true =>
        simp only [if_true] at q9 ⊢
        refine thnF (pe _ s9 σ8 H9 _ I9 q9) fun z s10 ⟨yv, H10, I10, r10, acc, hD10, hz10, nx⟩ => ?_
        exact app_ok (X := X.blk s3 H3 scope ce fp) I10 hD10 hz10 r10 fun s11 I11 => fin I11 nx
  exact codeAny_compStart_list loop (T.self X.A 0 _ _ _ st4 loop)
/-- as a value -/
theorem pe_lc {elt tg iter : Expr} {ifs : List Expr} {scope : Scope} {own : List (Str × Nat)} {pos : Pos} {wi : TI} {g : TG} {tt : TT} {te : TE} (hc : X.calm = true) (hN : X.N.Nodup) (hi : PI X tg iter wi) (ok : BlkOk X.N X.env.scope scope own)
    (hg : ∀ (s : Shared) (H : Hp) (C : Addr) (cl : List (Str × Addr)) (fp : List Addr), PG (X.blk s H scope (compEnvC scope cl C X.env) fp) tg g) (ht : ∀ (s : Shared) (H : Hp) (C : Addr) (cl : List (Str × Addr)) (fp : List Addr), PTs (X.blk s H scope (compEnvC scope cl C X.env) fp) ifs tt)
    (he : ∀ (s : Shared) (H : Hp) (C : Addr) (cl : List (Str × Addr)) (fp : List Addr), PE (X.blk s H scope (compEnvC scope cl C X.env) fp) elt te) (hs : ∀ x, foldedSetIterable iter X.env x = pure x := by intro _; rfl) :
    PE X (.ListComp elt [⟨tg, iter, ifs, 0⟩] scope pos) (tLc wi g tt te (own.map (·.2))) := by
  intro pins s σ H Q I h
  rw [eval_ListComp]
  refine lc_core hc hN I hi ok hg ht he hs h fun D C s' m H' I' q hn f => ⟨m, hn, fun h'' sb => ?_⟩
  obtain ⟨f0, f1, f2, f3, f4, f5⟩ := f
  exact ⟨.ref D, H', I'.turned (t' := s'.toks) (fun b o hb e => (sb.2 b hb).trans e) f0 f1 f3 f4 f5, rfl, q⟩
end
/-! ### the forms one uses -/
/-- over a list that the block leaves as it is -/
theorem lc_list {K : PySem.W.Frag} {a : Addr} {xs : List V} {g : TG} {tt : TT} {te : TE} {vs : List Nat} {σ : St} {H1 : Hp} {D : Addr} {Qd : Hp → Prop} (Pv : Nat → Hp → Prop) (h0 : Pv 0 (upd H1 D (.lst []))) (hl : ∀ i H, i ≤ xs.length → Pv i H → SqL K H a xs)
    (hs : ∀ i x H, xs[i]? = some x → Pv i H → g x (wipe σ vs) H fun σ2 H2 => wipe σ2 vs = wipe σ vs ∧ tt σ2 H2 fun b H3 =>
      if b = true then te σ2 H3 fun y H4 => ∃ acc, H4 D = some (.lst acc) ∧ acc.length < sizeLine ∧ Pv (i + 1) (upd H4 D (.lst (acc ++ [y]))) else Pv (i + 1) H3) (hd : ∀ H, Pv xs.length H → Qd H) :
    ∃ W : Nat → Nat → Hp → Prop, (∃ m, W 0 m (upd H1 D (.lst []))) ∧ ∀ i m H, W i m H →
      ((Itl K a).stop i H ∧ Qd H) ∨ ((Itl K a).go i H ∧ ∃ Nx : Hp → Prop, (∀ H', Nx H' → ∃ m', m' < m ∧ W (i + 1) m' H') ∧ ∀ x H', (Itl K a).yld i H x H' → g x (wipe σ vs) H' fun σ2 H2 => wipe σ2 vs = wipe σ vs ∧ tt σ2 H2 fun b H3 =>
        if b = true then te σ2 H3 fun y H4 => ∃ acc, H4 D = some (.lst acc) ∧ acc.length < sizeLine ∧ Nx (upd H4 D (.lst (acc ++ [y]))) else Nx H3) := by
  refine ⟨fun i m H => m = xs.length - i ∧ i ≤ xs.length ∧ Pv i H, ⟨xs.length, by simp, Nat.zero_le _, h0⟩, ?_⟩
  rintro i m H ⟨rfl, hi, p⟩
  have q := hl i H hi p
  by_cases hlt : i < xs.length
  · refine .inr ⟨⟨xs, xs[i], q, by simp [hlt]⟩, Pv (i + 1), fun H' p' => ⟨xs.length - (i + 1), by omega, rfl, hlt, p'⟩, fun x H' y => ?_⟩
    obtain ⟨e, y⟩ := y
    subst e
    exact hs i x _ (y xs q) p
  · have e : i = xs.length := by omega
    subst e
    exact .inl ⟨⟨xs, q, Nat.le_refl _⟩, hd H p⟩
def blkC (N : List Str) (sc scope : Scope) (own : List (Str × Nat)) : Bool :=
  (match scope.kind with | .function => true | _ => false) && (scope.names.all fun y => decide (scope.names.lookup y.1 = some y.2)) && (own.all fun p => decide (N[p.2]? = some p.1)) &&
    (scope.names.all fun y => match y.2 with
      | .free => (match sc.names.lookup y.1 with | some .cell => true | some .free => true | _ => false)
      | .local => decide (y.1 ∈ own.map (·.1)) || decide (y.1 ∉ N)
      | .cell => decide (y.1 ∈ own.map (·.1)) || decide (y.1 ∉ N)
      | _ => true)
theorem blkOk_by {N : List Str} {sc scope : Scope} {own : List (Str × Nat)} (h : blkC N sc scope own = true) : BlkOk N sc scope own := by
  unfold blkC at h
  simp only [Bool.and_eq_true, List.all_eq_true, decide_eq_true_eq] at h
  obtain ⟨⟨⟨h1, h2⟩, h3⟩, h4⟩ := h
  refine ⟨?_, h2, h3, fun y hy e => ?_, fun y hy e => ?_⟩
  · split at h1
    · assumption
    · cases h1
  · have q := h4 y hy
    simp only [e] at q
    split at q <;> first | exact .inl (by assumption) | exact .inr (by assumption) | cases q
  · have q := h4 y hy
    rcases e with e | e <;> (simp only [e, Bool.or_eq_true, decide_eq_true_eq] at q; exact q)
end L2
namespace L2
open PySem PySem.Spec PyProof.Rows
section
variable {prog : Program} {w : World} {A : Around} {R : Result → Shared → Prop} {s : Shared} {elt t0 i0 t1 i1 : Expr} {ifs0 ifs1 : List Expr} {scope : Scope} {pos : Pos} {it acc : Value} {env : Env}
end
section
variable {X : Cx}
end
end L2
namespace L2
open PySem PySem.Spec PyProof.Rows
/-! ### lists of pairs as tables -/
section
variable {κ : Type} [DecidableEq κ]
def valV (kvs : List (κ × V)) (k : κ) : Option V := (kvs.find? fun kv => decide (kv.1 = k)).map (·.2)
/-- in its place, or at the end -/
def putK (kvs : List (κ × V)) (k : κ) (v : V) : List (κ × V) :=
  if (kvs.any fun kv => decide (kv.1 = k)) = true then kvs.map (fun kv => if kv.1 = k then (kv.1, v) else kv) else kvs ++ [(k, v)]
def dropK (kvs : List (κ × V)) (k : κ) : List (κ × V) := kvs.filter fun kv => decide (kv.1 ≠ k)
theorem valV_pos {p : κ × V} {r : List (κ × V)} {k : κ} (e : p.1 = k) : valV (p :: r) k = some p.2 := by simp [valV, List.find?_cons, e]
theorem valV_neg {p : κ × V} {r : List (κ × V)} {k : κ} (e : ¬ p.1 = k) : valV (p :: r) k = valV r k := by simp [valV, List.find?_cons, e]
theorem valV_any (k : κ) : ∀ kvs : List (κ × V), (kvs.any fun kv => decide (kv.1 = k)) = (valV kvs k).isSome
  | [] => rfl
  | p :: r => by
    rw [List.any_cons]
    by_cases e : p.1 = k
    · simp only [valV_pos e, decide_eq_true e, Bool.true_or, Option.isSome_some]
    · rw [valV_neg e, decide_eq_false e, Bool.false_or]; exact valV_any k r
theorem RelO.isSome_eq {o : Option V} {u : Option Value} (r : RelO o u) : o.isSome = u.isSome := by
  cases o with
  | none => cases u with
    | none => rfl
    | some _ => exact (show False from r).elim
  | some _ => cases u with
    | none => exact (show False from r).elim
    | some _ => rfl
theorem RelO.getD {o : Option V} {u : Option Value} {d : V} {d' : Value} (r : RelO o u) (rd : RelV d d') : RelV (o.getD d) (u.getD d') := by
  cases o with
  | none => cases u with
    | none => exact rd
    | some _ => exact (show False from r).elim
  | some _ => cases u with
    | none => exact (show False from r).elim
    | some _ => exact r
/-- raw tables of the same keys -/
theorem KV.val {kvs : List (κ × V)} {vs : List (κ × Value)} (r : KV kvs vs) (k : κ) : RelO (valV kvs k) (valueAt vs k) := by
  unfold KV at r
  induction r with
  | nil => exact True.intro
  | @cons p q ps qs h t ih =>
    obtain ⟨h1, h2⟩ := h
    by_cases e : p.1 = k
    · have e' : q.1 = k := h1.symm.trans e
      have b : valueAt (q :: qs) k = some q.2 := by simp [valueAt, List.find?_cons, e']
      rw [valV_pos e, b]; exact h2
    · have e' : ¬ q.1 = k := fun z => e (h1.trans z)
      have b : valueAt (q :: qs) k = valueAt qs k := by simp [valueAt, List.find?_cons, e']
      rw [valV_neg e, b]; exact ih
theorem KV.any {kvs : List (κ × V)} {vs : List (κ × Value)} (r : KV kvs vs) (k : κ) : (kvs.any fun kv => decide (kv.1 = k)) = vs.any fun kv => decide (kv.1 = k) := by
  unfold KV at r
  induction r with
  | nil => rfl
  | cons h t ih => rw [List.any_cons, List.any_cons, ih, h.1]
theorem KV.repl {kvs : List (κ × V)} {vs : List (κ × Value)} (r : KV kvs vs) (k : κ) {y : V} {u : Value} (ry : RelV y u) :
    KV (kvs.map fun kv => if kv.1 = k then (kv.1, y) else kv) (vs.map fun kv => if kv.1 = k then (kv.1, u) else kv) := by
  unfold KV at r ⊢
  induction r with
  | nil => exact .nil
  | @cons p q ps qs h t ih =>
    rw [List.map_cons, List.map_cons]
    refine .cons ?_ ih
    obtain ⟨h1, h2⟩ := h
    by_cases e : p.1 = k
    · rw [if_pos e, if_pos (h1.symm.trans e)]; exact ⟨h1, ry⟩
    · rw [if_neg e, if_neg (fun z => e (h1.trans z))]; exact ⟨h1, h2⟩
theorem KV.put {kvs : List (κ × V)} {vs : List (κ × Value)} (r : KV kvs vs) (k : κ) {y : V} {u : Value} (ry : RelV y u) : KV (putK kvs k y) (stored vs k u) := by
  unfold putK stored
  rw [r.any k]
  by_cases e : (vs.any fun kv => decide (kv.1 = k)) = true
  · rw [if_pos e, if_pos e]; exact r.repl k ry
  · rw [if_neg e, if_neg e]; exact Paired.snoc r ⟨rfl, ry⟩
theorem KV.drop {kvs : List (κ × V)} {vs : List (κ × Value)} (r : KV kvs vs) (k : κ) : KV (dropK kvs k) (without vs k) := by
  unfold KV at r ⊢
  unfold dropK without
  induction r with
  | nil => exact .nil
  | @cons p q ps qs h t ih =>
    obtain ⟨h1, h2⟩ := h
    rw [List.filter_cons, List.filter_cons]
    by_cases e : p.1 = k
    · have a : ¬ decide (p.1 ≠ k) = true := by simp [e]
      have b : ¬ decide (q.1 ≠ k) = true := by simp [h1.symm.trans e]
      rw [if_neg a, if_neg b]; exact ih
    · have e' : ¬ q.1 = k := fun z => e (h1.trans z)
      have a : decide (p.1 ≠ k) = true := by simp [e]
      have b : decide (q.1 ≠ k) = true := by simp [e']
      rw [if_pos a, if_pos b]; exact .cons ⟨h1, h2⟩ ih
theorem KV.keys {kvs : List (κ × V)} {vs : List (κ × Value)} (r : KV kvs vs) : kvs.map (·.1) = vs.map (·.1) := by
  unfold KV at r
  induction r with
  | nil => rfl
  | cons h t ih => rw [List.map_cons, List.map_cons, ih, h.1]
theorem KV.length {kvs : List (κ × V)} {vs : List (κ × Value)} (r : KV kvs vs) : kvs.length = vs.length := Paired.length r
end
/-! ### a tracked dict, its keys ints and texts or tuples of these -/
/-- raw entries of a dict with tuple keys -/
abbrev KT (H : Hp) : List (List Key × V) → List (List Key × Addr × Value) → Prop := Paired fun p q => p.1 = q.1 ∧ H q.2.1 = some (.tup (p.1.map kV)) ∧ RelV p.2 q.2.2
theorem KT.val {H : Hp} {kvs : List (List Key × V)} {xs : List (List Key × Addr × Value)} (r : KT H kvs xs) (k : List Key) : RelO (valV kvs k) ((atKey xs k).map (·.2)) := by
  induction r with
  | nil => exact True.intro
  | @cons p q ps qs h t ih =>
    obtain ⟨h1, _, h2⟩ := h
    by_cases e : p.1 = k
    · have e' : q.1 = k := h1.symm.trans e
      have b : atKey (q :: qs) k = some q.2 := by simp [atKey, List.find?_cons, e']
      rw [valV_pos e, b]; exact h2
    · have e' : ¬ q.1 = k := fun z => e (h1.trans z)
      have b : atKey (q :: qs) k = atKey qs k := by simp [atKey, List.find?_cons, e']
      rw [valV_neg e, b]; exact ih
theorem KT.repl {H : Hp} {kvs : List (List Key × V)} {xs : List (List Key × Addr × Value)} (r : KT H kvs xs) (k : List Key) {y : V} {u : Value} (ry : RelV y u) :
    KT H (kvs.map fun kv => if kv.1 = k then (kv.1, y) else kv) (xs.map (putAt k u)) := by
  induction r with
  | nil => exact .nil
  | @cons p q ps qs h t ih =>
    rw [List.map_cons, List.map_cons]
    refine .cons ?_ ih
    obtain ⟨h1, h2, h3⟩ := h
    unfold putAt
    by_cases e : p.1 = k
    · rw [if_pos e, if_pos (h1.symm.trans e)]; exact ⟨h1, h2, ry⟩
    · rw [if_neg e, if_neg (fun z => e (h1.trans z))]; exact ⟨h1, h2, h3⟩
theorem KT.put {H : Hp} {kvs : List (List Key × V)} {xs : List (List Key × Addr × Value)} (r : KT H kvs xs) (k : List Key) {b : Addr} {y : V} {u : Value} (hb : H b = some (.tup (k.map kV))) (ry : RelV y u) :
    KT H (putK kvs k y) (storedH xs k b u) := by
  have e : (kvs.any fun kv => decide (kv.1 = k)) = (atKey xs k).isSome := by
    rw [valV_any, (r.val k).isSome_eq, Option.isSome_map]
  unfold putK storedH
  rw [e]
  by_cases q : (atKey xs k).isSome = true
  · rw [if_pos q, if_pos q]; exact r.repl k ry
  · rw [if_neg q, if_neg q]; exact Paired.snoc r ⟨rfl, hb, ry⟩
theorem KT.keeps {H H' : Hp} {kvs : List (List Key × V)} {xs : List (List Key × Addr × Value)} (r : KT H kvs xs) (ht : ∀ b ys, H b = some (.tup ys) → H' b = some (.tup ys)) : KT H' kvs xs :=
  Paired.mapP r fun _ _ z => ⟨z.1, ht _ _ z.2.1, z.2.2⟩
section
variable {P : Program} {w : World} {H : Hp} {h : Heap} {a : Addr}
end
/-- what the dict at a holds at the key y -/
def DGet (H : Hp) (a : Addr) (y : V) (r : Option V) : Prop :=
  (∃ kvs k, Rd H a (.dK kvs) ∧ y = kV k ∧ r = valV kvs k) ∨ ∃ kvs k b, Rd H a (.dT kvs) ∧ y = .ref b ∧ H b = some (.tup (k.map kV)) ∧ r = valV kvs k
/-- the heap behind a[y] = v -/
def DPut (H : Hp) (a : Addr) (y v : V) (H' : Hp) : Prop :=
  (∃ kvs k, H a = some (.dK kvs) ∧ y = kV k ∧ kvs.length < sizeLine ∧ H' = upd H a (.dK (putK kvs k v))) ∨
  ∃ kvs k b, H a = some (.dT kvs) ∧ y = .ref b ∧ H b = some (.tup (k.map kV)) ∧ kvs.length < sizeLine ∧ H' = upd H a (.dT (putK kvs k v))
theorem DGet.k {H : Hp} {a : Addr} {kvs : List (Key × V)} {k : Key} (e : H a = some (.dK kvs)) : DGet H a (kV k) (valV kvs k) := .inl ⟨kvs, k, .inl e, rfl, rfl⟩
theorem DGet.t {H : Hp} {a b : Addr} {kvs : List (List Key × V)} {k : List Key} (e : H a = some (.dT kvs)) (eb : H b = some (.tup (k.map kV))) : DGet H a (.ref b) (valV kvs k) := .inr ⟨kvs, k, b, .inl e, rfl, eb, rfl⟩
theorem DPut.k {H : Hp} {a : Addr} {kvs : List (Key × V)} {k : Key} {v : V} (e : H a = some (.dK kvs)) (hl : kvs.length < sizeLine) : DPut H a (kV k) v (upd H a (.dK (putK kvs k v))) := .inl ⟨kvs, k, e, rfl, hl, rfl⟩
theorem DPut.t {H : Hp} {a b : Addr} {kvs : List (List Key × V)} {k : List Key} {v : V} (e : H a = some (.dT kvs)) (eb : H b = some (.tup (k.map kV))) (hl : kvs.length < sizeLine) :
    DPut H a (.ref b) v (upd H a (.dT (putK kvs k v))) := .inr ⟨kvs, k, b, e, rfl, eb, hl, rfl⟩
section
variable {X : Cx} {pins : List (Addr × Obj)} {σ : St} {H : Hp} {s : Shared} {a : Addr} {y v : V} {u r : Value} {o : Option V} {A : Around} {E : Value → Shared → Prop}
theorem Inv.big (I : Inv X pins σ H s) : sysModules < s.heap.objs.size := by
  have h : mainGlobals < s.heap.objs.size := (I.mod.glob.keeps I.bk).lt
  exact Nat.lt_trans (by decide) h
end
section
variable {X : Cx} {pins : List (Addr × Obj)} {σ : St} {H : Hp} {s : Shared} {a : Addr} {kvs : List (Key × V)} {k : Key} {u : Value} {A : Around} {E : Value → Shared → Prop}
end
/-! ### readings and rules -/
section
variable {X : Cx} {o i e value : Expr} {pos pos' tpos : Pos} {td ty tv : TE}
end
/-! ### displays -/
section
variable {X : Cx} {pos : Pos}
end
/-! ### methods -/
/-- a method call o.m(e) of a built-in, with one argument: what must be seen of the text -/
structure M1 (X : Cx) (o : Expr) (m : Str) (apos : Pos) (e : Expr) (cpos : Pos) : Prop where
  base : attributeBase o m X.env (eval o X.env) = eval o X.env
  few : ((backTo cpos (starEach [e] X.env)).all (fun x => !x.1) && (backToKw cpos (keywordEach [] X.env)).all (fun x => x.1.isSome)
    && decide (([e] : List Expr).length + ([] : List Keyword).length + (if ([] : List Keyword).isEmpty then 0 else 1) < 30)) = true
  line : (apos.endLine == cpos.line) = true
  trees : backTo cpos (starEach [e] X.env) = [(false, eval e X.env)]
structure M2 (X : Cx) (o : Expr) (m : Str) (apos : Pos) (e f : Expr) (cpos : Pos) : Prop where
  base : attributeBase o m X.env (eval o X.env) = eval o X.env
  few : ((backTo cpos (starEach [e, f] X.env)).all (fun x => !x.1) && (backToKw cpos (keywordEach [] X.env)).all (fun x => x.1.isSome)
    && decide (([e, f] : List Expr).length + ([] : List Keyword).length + (if ([] : List Keyword).isEmpty then 0 else 1) < 30)) = true
  line : (apos.endLine == cpos.line) = true
  trees : backTo cpos (starEach [e, f] X.env) = [(false, eval e X.env), (false, eval f X.env)]
section
variable {X : Cx} {pins : List (Addr × Obj)} {σ : St} {H : Hp} {s : Shared} {a : Addr} {y d : V} {u r : Value} {o : Option V} {A : Around} {E : Value → Shared → Prop}
end
section
variable {X : Cx} {o e f : Expr} {apos cpos : Pos} {td ty tx : TE}
end
/-! ### dict(d): a copy -/
section
variable {X : Cx} {pins : List (Addr × Obj)} {σ : St} {H : Hp} {s : Shared} {a : Addr} {kvs : List (Key × V)} {A : Around} {E : Value → Shared → Prop}
end
section
variable {X : Cx} {pins : List (Addr × Obj)} {σ : St} {H : Hp} {s : Shared} {a : Addr} {y : V} {u : Value} {A : Around} {E : Value → Shared → Prop}
end
end L2
namespace L2
open PySem PySem.Spec PyProof.Rows
section
variable {prog : Program} {w : World} {A : Around} {E : Value → Shared → Prop}
end
section
variable {X : Cx}
end
end L2
namespace L2
open PySem PySem.Spec PyProof.Rows
section
variable {X : Cx} {pins : List (Addr × Obj)} {σ : St} {H : Hp} {s : Shared} {h' : Heap}
/-! ### locking a thing while a statement runs -/
end
section
variable {X : Cx}
/-! ### one iterator just laid -/
end
/-! ### range with a step -/
/-- range(i, j, c): small bounds, n items -/
def RgC (i j c : Int) (n : Nat) : Prop := c ≠ 0 ∧ c.natAbs < 1073741824 ∧ Builtin.Range.small i j c = true ∧ Builtin.Range.rangeSize i j c = n
theorem RgC.neg {i j : Int} (ha : -(2 ^ 62) ≤ i) (ha' : i < 2 ^ 62) (hb : -(2 ^ 62) ≤ j) (hb' : j < 2 ^ 62) : RgC i j (-1) (i - j).toNat :=
  ⟨by decide, by decide, PySem.W.small_down ha ha' hb hb', PySem.W.rangeSize_downNat i j⟩
section
variable {X : Cx} {tg : Expr}
end
/-! ### reversed(list) -/
section
variable {X : Cx} {tg : Expr}
end
/-! ### a str -/
/-! ### a dict's keys: any dict's entries -/
section
variable {prog : Program} {w : World} {A : Around} {E : Value → Shared → Prop} {s : Shared}
end
/-! ### a locked dict -/
section
variable {X : Cx} {pins : List (Addr × Obj)} {σ : St} {H : Hp} {s : Shared} {d : Addr} {o : Obj}
end
section
variable {P : Program} {w : World} {K : PySem.W.Frag} {tg : Expr} {d : Addr} {o : Obj} {es : Array DictEntry} {ep : Nat}
end
/-! ### for k in d, d.keys(), d.values(), d.items() -/
section
variable {X : Cx} {tg e : Expr} {td : TE} {apos cpos : Pos}
end
/-! ### enumerate(list) -/
/-! ### zip(list, list) -/
end L2
section 
namespace Bits
open PySem PyProof.Rows
end Bits
end 
section 
namespace TL
open PySem PySem.Builtin PySem.Builtin.Str PySem.StrLaws
/-! ### the list functions -/
/-! ### the model's split and partition are these -/
/-! ### computing spl and par -/
/-! ### digits -/
/-! ### words: x.split() -/
end TL
end 
namespace L2
open PySem PySem.Spec PyProof.Rows
section
variable {X : Cx} {pins : List (Addr × Obj)} {σ : St} {H : Hp} {s : Shared} {Q : VK}
end
section
variable {X : Cx}
/-! ### of a text alone -/
/-! ### of a text and a text -/
end
section
variable {X : Cx} {o e : Expr} {to te : TE}
end
end L2
namespace L2
open PySem PySem.Spec PyProof.Rows
section
variable {X : Cx}
end
/-! ### slices of a text -/
theorem IsPart.raw {v : Value} {o : Option Int} (p : IsPart v o) : ∃ l : Option (Int × Tok), v = partValue l ∧ l.map (·.1) = o := by
  cases p with
  | none => exact ⟨none, rfl, rfl⟩
  | int i t => exact ⟨some (i, t), rfl, rfl⟩
end L2
namespace Att
open PySem PySem.W PySem.Calls PyProof.Rows
/-! ### the script -/
theorem ints_of_wellAll {P : Params} {h : Heap} : ∀ (ns : List Int) (vs : List Value), WellAll P h vs (ns.map WData.int) → IntsAre vs ns := by
  intro ns
  induction ns with
  | nil =>
    intro vs w
    rw [List.map_nil] at w
    cases w
    exact .nil
  | cons n ns ih =>
    intro vs w
    rw [List.map_cons] at w
    cases w with
    | cons a b =>
      cases a
      exact .cons _ _ (ih _ b)
theorem script_of {l : OpenLaw} {n : Nat} (hn : l.most = some n) {P : Params} {h : Heap} {args : List WData} {vals : List Value}
    (hpre : l.row.toRowW.claim.pre args = true) (hwl : WellAll P h vals args) :
    ∃ a vs ns, vals = [Value.ref a] ∧ args = [WData.list (ns.map WData.int)] ∧ h.get? a = some { cls := .type "list", data := .seq vs.toArray } ∧ IntsAre vs ns ∧ ns.length ≤ n := by
  have hsh : WShape.hasAll [] args [.list .int] = true := (pre_splitW hpre).1
  have hc : l.pre.holds [] { args := args } = true := (pre_splitW hpre).2
  obtain ⟨d, r, rfl, h1, h2⟩ := hasAllW_cons hsh
  obtain rfl := hasAllW_nil h2
  obtain ⟨xs, rfl, h3⟩ := hasW_list h1
  obtain ⟨ns, rfl⟩ := items_int h3
  have hlen : ns.length ≤ n := by
    unfold OpenLaw.pre at hc
    have h4 : (WTm.not (.lt (.lit (.int (n : Int))) (.len (.arg 0)))).holds [] { args := [.list (ns.map .int)] } = true := by
      have h4 := (holds_andW hc).1
      rw [hn] at h4
      exact h4
    have h5 := condW_of h4 (w_not (w_lt w_lit (w_len_list (w_arg rfl))))
    rw [List.length_map] at h5
    refine Nat.le_of_not_lt fun q => ?_
    have q' : (n : Int) < ((ns.length : Nat) : Int) := by omega
    first
      | (rw [decide_eq_true q'] at h5; exact absurd h5 (by decide))
      | (simp at h5; omega)
  cases hwl with
  | cons w1 w2 =>
    cases w2
    cases w1 with
    | list ho hall => exact ⟨_, _, ns, rfl, rfl, ho, ints_of_wellAll ns _ hall, hlen⟩
theorem post_true (l : OpenLaw) (args : List WData) : l.row.toRowW.claim.post args (.bool true) args = true :=
  postW_of (r := l.row.toRowW) (X := (true == true))
    (show WShape.has [] (.bool true) .bool = true by first | rfl | decide | simp [WShape.has, WShape.arms, WShape.armsAll])
    (show (WTm.eq .res (.lit (.bool true))).value [] { args := args, res := some (.bool true), after := args } = some (.bool (true == true)) from w_eq_bool (w_res rfl) w_lit) rfl
/-! ### the attachment: holds_open's last premise (the goal 'hc' behind k_head) from a wpAny of the law's body -/
/-- the same from a codeAny of the CALL (for a layer whose function contracts speak of calls) -/
theorem attach_call {l : OpenLaw} {n : Nat} {q : Program} {loose : List Str} {XP : (Str → Option Value) → Heap → Prop} {YP : World → Heap → Prop} {d : DefRec}
    (hn : l.most = some n) (hdf : d.params.defaults = [])
    (call : ∀ (w : World) (s₀ s₁ : Shared) (mg mb : Str → Option Value) (fa : Addr) (o : Obj) (pm cd doc : Value) (a : Addr) (vs : List Value) (ns : List Int),
      Ground q loose [] XP w s₀ mg mb s₁.heap → YP w s₁.heap →
      s₁.heap.get? fa = some o → o.data = .func (docDef d.name d.params d.body d.scope pm cd doc) → s₁.heap.CodeRec cd d.name → mg d.name = some (.ref fa) →
      s₁.heap.get? a = some { cls := .type "list", data := .seq vs.toArray } → IntsAre vs ns → ns.length ≤ n → s₁.gens = #[] →
      codeAny (model l.prog w) callerA (.call (.ref fa) ⟨[.ref a], []⟩) (fun r s' => r = .ok (.ret (.bool true)) ∧ OldK s₁.heap s'.heap ∧ s'.os = s₁.os ∧ AllBare s'.gens) s₁) :
    WalkO q loose XP YP l.row.toRowW d [] (fun f vs => PySem.call f vs) := by
  intro w s₀ s₁ mg mb G Y fa o pm cd doc dV kV ho hd hcd hD hmg hg args vals as hpre hlay hrd hwl hlo
  obtain rfl : dV = .none := Dflts.none hD hdf
  obtain rfl : kV = .none := Dflts.noKw hD
  obtain ⟨a, vs, ns, rfl, rfl, hobj, hints, hlen⟩ := script_of hn hpre hwl
  refine enter_call (codeAny_mono (call w s₀ s₁ mg mb fa o pm cd doc a vs ns G Y ho (fd_plain hd) hcd hmg hobj hints hlen hg) fun r s' hq => ?_)
  obtain ⟨rfl, h2, h3, h4⟩ := hq
  exact ⟨.inl ⟨.bool true, .bool true, [], rfl, fun _ => rfl, .bool true, post_true l _, fun _ => ⟨List.Pairwise.nil, fun _ hm => (nomatch hm)⟩⟩, h2, h3, h4⟩
/-! ### rules over ANY heap (no ledger) from facts about the written part K: the library's own take a ledger (News) for what they write -/
section
variable {prog : Program} {w : World} {A : Around} {E : Value → Shared → Prop} {s : Shared} {K : Frag}
/-! the whole heap as the ledger: makes every rule that writes through a ledger a rule over any heap -/
def ledger (h : Heap) (L d : Addr) : List (Addr × Obj) := (List.range h.objs.size).filterMap fun a => if a = L ∨ a = d then none else (h.get? a).map fun o => (a, o)
end
end Att
namespace L2
open PySem PySem.Spec PyProof.Rows
theorem vals_ints : ∀ {vs : List Value} {ns : List Int}, IntsAre vs ns → Vals (ns.map V.int) vs
  | _, _, .nil => .nil
  | _, _, .cons n t h => .cons ⟨t, rfl⟩ (vals_ints h)
/-- nothing is tracked but the script, known to the object (or it is an object of the module) -/
def Only (H : Hp) : Prop := ∀ b, H b = none ∨ ∃ o xs, H b = some (.frz o (.lst xs))
/-- THE HEAD: the law's promise, at the heap behind the top. F, the promise of the law's def, may use that base is part of the heap (so K.In base, base.Ns mainGlobals mg stand in Mod) -/
theorem law_call {P : Program} {w : World} {K : PySem.W.Frag} {mg mb : Str → Option Value} {CX : CXT} {k : Nat} {fa a : Addr} {fd : FuncData} {x : Str} {sp : Sp} {s₁ : Shared} {vs : List Value} {ns : List Int}
    (KX : K.In s₁.heap) (hns : s₁.heap.Ns mainGlobals mg) (hb : s₁.heap.Ns builtinsNs mb) (hbb : ∀ x : Str, x ≠ "__name__" → mb x = bootBuiltins x) (hlim : s₁.heap.NoLimit) (hg : s₁.gens = #[])
    (ha : s₁.heap.get? a = some { cls := .type "list", data := .seq vs.toArray }) (hi : IntsAre vs ns) (hl : ns.length ≤ sizeLine) (hr : Room k callerA)
    (F : ∀ base : Heap, K.In base → base.Ns mainGlobals mg → FnOk P w K mg base CX k fa fd [x] sp) (hbind : ∀ (s : Shared) (u : Value), BindsTo s fd ⟨[u], []⟩ [(x, u)])
    (hsp : ∀ H : Hp, Only H → SqL K H a (ns.map V.int) → sp [.ref a] H (fun v _ => v = .bl true) fun _ _ _ => False)
    (hCX : ∀ H e s', CX [] H s₁ (fun _ _ _ => False) e s' → False) :
    codeAny (model P w) callerA (.call (.ref fa) ⟨[.ref a], []⟩) (fun r s' => r = .ok (.ret (.bool true)) ∧ OldK s₁.heap s'.heap ∧ s'.os = s₁.os ∧ AllBare s'.gens) s₁ := by
  have rv := vals_ints hi
  have lenV := hi.length
  -- from an abstract heap in which nothing but the script may be tracked
  have core : ∀ H : Hp, Only H → SqL K H a (ns.map V.int) → HOk P w H s₁.heap → (∀ b, H b ≠ none → b = a) → (H a ≠ none → K.lookup a = none) →
      codeAny (model P w) callerA (.call (.ref fa) ⟨[.ref a], []⟩) (fun r s' => r = .ok (.ret (.bool true)) ∧ OldK s₁.heap s'.heap ∧ s'.os = s₁.os ∧ AllBare s'.gens) s₁ := by
    intro H hO hS hok hA hK
    have base_of : ∀ {b : Addr} {o : Obj}, s₁.heap.get? b = some o → H b = none → (hidT s₁.heap H).get? b = some o := fun e n => hidT_get e n
    have noA : ∀ {b : Addr} {o : Obj} {es : Array DictEntry} {ep : Nat}, s₁.heap.get? b = some o → o.data = .dict es ep → H b = none := fun {b o es ep} e d => by
      cases q : H b with
      | none => rfl
      | some u =>
        have e' : b = a := hA b (by rw [q]; simp)
        subst e'
        rw [ha] at e; cases e
        have d' : Data.seq vs.toArray _ = Data.dict es ep := d
        cases d'
    have nsK : ∀ {b : Addr} {m : Str → Option Value}, s₁.heap.Ns b m → (hidT s₁.heap H).Ns b m := fun {b m} ⟨o, es, ep, e, d, r⟩ => ⟨o, es, ep, base_of e (noA e d), d, r⟩
    have hKb : K.In (hidT s₁.heap H) := fun b o e => base_of (KX b o e) (by
      cases q : H b with
      | none => rfl
      | some u =>
        have e' : b = a := hA b (by rw [q]; simp)
        subst e'
        rw [hK (by rw [q]; simp)] at e; cases e)
    have hM : Mod K mg (hidT s₁.heap H) := ⟨hKb, nsK hns, ⟨mb, nsK hb, hbb⟩, let ⟨mc, h1, h2⟩ := hlim; ⟨mc, nsK h1, h2⟩⟩
    have e0 : Env0 P w K mg (hidT s₁.heap H) callerA [] s₁ H := ⟨rfl, hM, fun b o e => of_hidT e, Nat.le_of_eq (hidT_size _ _), trivial, fun b hb => absurd (show b ∈ ([] : List Addr) from hb) (by simp), hok, .of_eq hg⟩
    refine codeAny_mono ((F _ hKb (nsK hns)).run callerA [] s₁ H ⟨[.ref a], []⟩ [.ref a] [.ref a] _ _ hr e0 (hbind s₁ (.ref a)) (.cons rfl .nil) (hsp H hO hS)) fun r s' h => ?_
    cases r with
    | error e => exact (hCX H e s' h).elim
    | ok fl =>
      cases fl with
      | next => exact False.elim h
      | brk => exact False.elim h
      | cont => exact False.elim h
      | ret u =>
        obtain ⟨v, H', os, bare, un, hok', r', q⟩ := h
        have q' : v = .bl true := q
        subst q'
        obtain rfl : u = Value.bool true := r'
        refine ⟨rfl, OldK.of_keep fun b o e => ?_, os, bare⟩
        cases q : H b with
        | none => exact un.keep b o e q (by intro z; exact absurd (show b ∈ ([] : List Addr) from z) (by simp)) (by simp)
        | some u =>
          rcases hO b with z | ⟨ob, xs, z⟩
          · rw [q] at z; cases z
          · have z2 := un.frzs b ob _ z
            obtain ⟨e1, _⟩ := hok b _ z
            obtain ⟨e2, _⟩ := hok' b _ z2
            rw [e] at e1; cases e1
            exact e2
  cases hk : K.lookup a with
  | some o =>
    -- the script is one of the module's own objects
    have e := KX a o hk
    rw [ha] at e
    cases e
    refine core (fun _ => none) (fun _ => .inl rfl) (.inr ⟨_, vs.toArray, _, hk, rfl, rfl, rfl, by rw [List.size_toArray, lenV]; exact hl, by simpa using rv⟩) (fun b u z => by have z' : (none : Option HO) = some u := z; cases z') (fun b z => absurd rfl z) fun z => absurd rfl z
  | none =>
    refine core (fun b => if b = a then some (.frz { cls := .type "list", data := .seq vs.toArray } (.lst (ns.map V.int))) else none) (fun b => ?_) (.inl (.inr ⟨{ cls := .type "list", data := .seq vs.toArray }, if_pos rfl⟩)) (fun b u z => ?_) (fun b z => ?_) fun _ => hk
    · by_cases hb : b = a
      · exact .inr ⟨_, _, if_pos hb⟩
      · exact .inl (if_neg hb)
    · by_cases hb : b = a
      · have z' := (if_pos hb).symm.trans z
        cases z'
        subst hb
        exact ⟨ha, by rw [List.length_map]; exact hl, vs, _, rv, ha⟩
      · have z' := (if_neg hb).symm.trans z
        cases z'
    · by_cases hb : b = a
      · exact hb
      · exact absurd (if_neg hb) z
end L2
namespace L2
open PySem PySem.Spec PyProof.Rows
abbrev KOf {K : PySem.W.Frag} {h : Heap} (_ : K.In h) : PySem.W.Frag := K
/-- the goal that k_head leaves (case hc), from the law's promise. F gives the function object fd (K's own) once, then the promise over every base -/
theorem walk_of {l : PySem.W.OpenLaw} {n k : Nat} {q : Program} {loose : List Str} {XP : (Str → Option Value) → Heap → Prop} {YP : World → Heap → Prop} {d : DefRec} {K : Params → PySem.W.Frag} {CX : World → CXT} {sp : World → Sp} {x : Str}
    (hn : l.most = some n) (hn2 : n ≤ sizeLine) (hdf : d.params.defaults = []) (hr : Room k callerA)
    (hY : ∀ (w : World) (h : Heap), YP w h → (K w.params).In h)
    (F : ∀ (w : World) (mg : Str → Option Value) (fa : Addr) (h : Heap), (K w.params).In h → h.Ns mainGlobals mg → mg d.name = some (.ref fa) →
      ∃ fd : FuncData, (∀ (s : Shared) (u : Value), BindsTo s fd ⟨[u], []⟩ [(x, u)]) ∧
        ∀ base : Heap, (K w.params).In base → base.Ns mainGlobals mg → FnOk l.prog w (K w.params) mg base (CX w) k fa fd [x] (sp w))
    (hsp : ∀ (w : World) (H : Hp) (a : Addr) (ns : List Int), ns.length ≤ n → Only H → SqL (K w.params) H a (ns.map V.int) → sp w [.ref a] H (fun v _ => v = .bl true) fun _ _ _ => False)
    (hCX : ∀ (w : World) (H : Hp) (s : Shared) (e : Value) (s' : Shared), CX w [] H s (fun _ _ _ => False) e s' → False) :
    PySem.W.WalkO q loose XP YP l.row.toRowW d [] (fun f vs => PySem.call f vs) := by
  refine Att.attach_call hn hdf fun w s₀ s₁ mg mb fa o pm cd doc a vs ns G Y ho hd hcd hmg hobj hints hlen hg => ?_
  have KX := hY w _ Y
  obtain ⟨fd, hb, hF⟩ := F w mg fa _ KX G.T.g hmg
  exact law_call KX G.T.g G.T.b G.T.builtins G.T.nolimit hg hobj hints (Nat.le_trans hlen hn2) hr hF hb (fun H hO hS => hsp w H a ns hlen hO hS) fun H e s' => hCX w H s₁ e s'
end L2
/- THE LAST THEOREM (shape; LID, My.* are yours):
   My.Adr: a structure of the addresses that your layer names (classes, functions); My.Txt K t: a structure (Prop) of the equations over K;
   My.txt_mk : {K} {implicit addresses ..} (e1 : nsIn K mainGlobals "law" = some (some (.ref f))) (e2 : K.lookup f = some ⟨oc, od, .func (fnOf "law" "law" params body scope dV kV doc pm an cdv ct), sl⟩) (e3 : codeIn K cdv "law" = true) .. : ∃ t, My.Txt K t
set_option maxRecDepth 100000 in
set_option maxHeartbeats 0 in
theorem PySem.Challenge.cw_LID_holds : PySem.Challenge.rw_LID.Holds := by
  w_on; o_law; k_head; (case hw => w_witness2)
  k_fill
  refine L2.walk_of (l := PySem.Challenge.rw_LID) (n := 63) (k := 40) (x := "script") (CX := fun w => ..) (sp := fun _ => My.sp_law) rfl (by decide) rfl ⟨rfl, by decide, by decide⟩ (fun w h Y => PySem.W.kIn_of Y) ?F ?S ?C
  case F =>
    intro w mg fa h KX G hmg
    have T : ∃ t, My.Txt (L2.KOf KX) t := by
      dsimp only [L2.KOf]                          -- K must stand as «<heap const> w.params» for k_is
      refine' My.txt_mk ?e1 ?e2 ?e3 ..
      (case e1 => PySem.W.k_is)                    -- in the order: a name -> its address -> its object -> its parts
      (case e2 => PySem.W.k_is)
      ..
    obtain ⟨t, T⟩ := T
    have e0 := hmg.symm.trans (PySem.W.mg_of KX G T.law)
    cases e0                                       -- fa is the law's own address
    exact ⟨_, fun s u => .of_eq rfl, fun base kb nb => My.law_fn T kb nb⟩     -- if «.of_eq rfl» comes too early: refine' ⟨_, ?b, fun base kb nb => My.law_fn T kb nb⟩; exact fun s u => .of_eq rfl
  case S => exact fun w H a ns hl hO hS => ..
  case C => exact ..
(the tactic k_is has no namespace: write k_is) -/
/-! SHORT WORDS over the layer: a def of the text, its body, what a loop and a test want. -/
namespace L2
open PySem PySem.Spec PyProof.Rows
/-! ### the text by places -/
/-- the j-th statement of a class's body -/
def inClass (s : Stmt) (j : Nat) : Stmt := match s with
  | .ClassDef _ _ _ body _ _ _ _ _ _ _ => body.getD j (.Pass ⟨0, 0, 0, 0⟩)
  | _ => .Pass ⟨0, 0, 0, 0⟩
def defArgs (s : Stmt) : Arguments := match s with
  | .FunctionDef _ a _ _ _ _ _ _ _ _ => a
  | _ => { posonlyargs := [], args := [], vararg := none, kwonlyargs := [], kw_defaults := [], kwarg := none, defaults := [] }
def defBody (s : Stmt) : List Stmt := match s with
  | .FunctionDef _ _ b _ _ _ _ _ _ _ => b
  | _ => []
def defScope (s : Stmt) : Scope := match s with
  | .FunctionDef _ _ _ _ _ _ sc _ _ _ => sc
  | _ => { kind := .function, names := [], isGenerator := false, isCoroutine := false }
/-! ### no exception leaves a def -/
abbrev CX0 : CXT := fun _ _ _ _ _ _ => False
abbrev E0 : XK := fun _ _ _ => False
theorem pass0 {X : Cx} : Passes CX0 X E0 := fun _ _ _ _ _ _ _ h => h.elim
/-! ### a def (or method) of the text as it stands behind the top -/
structure Fun (K : PySem.W.Frag) (x qual : Str) (st : Stmt) (f : Addr) (fd : FuncData) : Prop where
  ex : ∃ (oc : Value) (od : Option Addr) (kV doc pm : Value) (an : Option Addr) (cdv ct : Value) (osl : Array (Option Value)),
    fd = PySem.W.fnOf x qual (defArgs st) (defBody st) (defScope st) .none kV doc pm an cdv ct ∧ K.lookup f = some ⟨oc, od, .func fd, osl⟩ ∧ PySem.W.codeIn K cdv qual = true
  kp : PySem.W.keepIn K (.ref f) = true
section
variable {P : Program} {w : World} {K : PySem.W.Frag} {mg : Str → Option Value} {base : Heap}
/-- THE RULE for a def: its body as a term of rules, and the reading of that term -/
theorem Fun.ok {x qual : Str} {st : Stmt} {f : Addr} {fd : FuncData} {N ps : List Str} {k : Nat} {sp : Sp} (F : Fun K x qual st f fd) (S : FnScope N ps (defScope st)) (len : ∀ vs H Q E, sp vs H Q E → vs.length = ps.length)
    (hbody : ∀ (cdv : Value) (A : Around) (outer : List Env) (s : Shared) (H : Hp) (vs : List V) (Q : VK) (E : XK), Room k (A.deeper (envOfC qual (defScope st) s.heap.objs.size f cdv)) → sp vs H Q E →
      ∃ t, PSs (cxOf CX0 P w K mg base N qual (defScope st) f cdv A outer s H E).nox (defBody st) t ∧ t { nx := fun _ H' => Q .non H', rt := Q } (start N vs) H) : FnOk P w K mg base CX0 (k + 1) f fd ps sp := by
  obtain ⟨oc, od, kV, doc, pm, an, cdv, ct, osl, rfl, lk, hcd⟩ := F.ex
  refine fn_of lk hcd S len fun A outer s H vs Q E hr hsp => ?_
  obtain ⟨t, h, q⟩ := hbody cdv A outer s H vs Q E hr hsp
  exact ⟨t, h.nox, q⟩
/-- how its arguments bind (no defaults): h is «fun _ _ _ _ _ _ us hl => match us, hl with | [_, _], _ => rfl», one _ a parameter -/
theorem Fun.binds {x qual : Str} {st : Stmt} {f : Addr} {fd : FuncData} {ps : List Str} (F : Fun K x qual st f fd)
    (h : ∀ (kV doc pm : Value) (an : Option Addr) (cdv ct : Value) (us : List Value), us.length = ps.length → bindArgs (PySem.W.fnOf x qual (defArgs st) (defBody st) (defScope st) .none kV doc pm an cdv ct) ⟨us, []⟩ = pure (ps.zip us)) : Binds K fd ps [] := by
  obtain ⟨oc, od, kV, doc, pm, an, cdv, ct, osl, rfl, lk, hcd⟩ := F.ex
  exact .all (h kV doc pm an cdv ct)
theorem fun_mk {x qual : Str} {st : Stmt} {f : Addr} {oc : Value} {od an : Option Addr} {osl : Array (Option Value)} {kV doc pm cdv ct : Value} (l : K.lookup f = some ⟨oc, od, .func (PySem.W.fnOf x qual (defArgs st) (defBody st) (defScope st) .none kV doc pm an cdv ct), osl⟩)
    (c : PySem.W.codeIn K cdv qual = true) (k : PySem.W.keepIn K (.ref f) = true) : Fun K x qual st f (PySem.W.fnOf x qual (defArgs st) (defBody st) (defScope st) .none kV doc pm an cdv ct) := ⟨⟨oc, od, kV, doc, pm, an, cdv, ct, osl, rfl, l, c⟩, k⟩
end
/-! ### expressions in short: the name that stands in the i-th slot -/
section
variable {X : Cx}
theorem pv (i : Nat) {x : Str} {pos : Pos} (hN : X.N[i]? = some x := by rfl) (hv : Vis X.env.scope x := by first | exact Or.inl rfl | exact Or.inr (Or.inl rfl) | exact Or.inr (Or.inr rfl)) (hd : (x == ("__debug__" : Str)) = false := by decide)
    (hcd : (x == ("__classdict__" : Str)) = false := by decide) : PE X (.Name x pos) (tVar i) := pe_var hN hv hd hcd
end
/-! ### tests -/
/-! ### heaps -/
/-- all that was tracked is as it was -/
def Same (H H' : Hp) : Prop := ∀ b o, H b = some o → H' b = some o
theorem Same.refl (H : Hp) : Same H H := fun _ _ h => h
theorem Same.trans {H H1 H2 : Hp} (a : Same H H1) (b : Same H1 H2) : Same H H2 := fun c o h => b c o (a c o h)
theorem Same.free {H H' : Hp} (e : Same H H') {l : Addr} (h : H' l = Option.none) : H l = Option.none := by
  cases q : H l with
  | none => rfl
  | some o =>
    rw [e l o q] at h
    cases h
theorem Same.seq {K : PySem.W.Frag} {H H' : Hp} {a : Addr} {xs : List V} (e : Same H H') (h : SqL K H a xs) : SqL K H' a xs := by
  rcases h with (h | ⟨o, h⟩) | h
  · exact .inl (.inl (e _ _ h))
  · exact .inl (.inr ⟨o, e _ _ h⟩)
  · exact .inr h
/-! ### a dict's pairs: keys that differ -/
section
variable {κ : Type} [DecidableEq κ]
end
/-! ### lists -/
/-- a new instance and its __init__ leave all that was tracked as it was -/
theorem Same.made {H H1 : Hp} {x dx C : Addr} (nx : H x = Option.none) (nd : H dx = Option.none) (k : ∀ b o, (upd (upd H dx (.own x)) x (.ins C dx [])) b = some o → b ≠ x → H1 b = some o) : Same H H1 := fun b o e =>
  k b o (by rw [upd_ne (ne_of_none e nx), upd_ne (ne_of_none e nd)]; exact e) (ne_of_none e nx)
end L2
end
section
section
set_option Elab.async false
set_option linter.all false
set_option maxRecDepth 100000
set_option maxHeartbeats 2000000
namespace L2
open PySem PySem.Spec PyProof.Rows
open PySem.W (WData Codec OpenSpec Well WellAll ReadsW ReadsAllW)
/-! ### an answer as data -/
mutual
/-- x stands for the datum d, lists and tuples all the way -/
inductive Dw (K : PySem.W.Frag) (H : Hp) : V → WData → Prop
  | non : Dw K H .non .none
  | bl (b : Bool) : Dw K H (.bl b) (.bool b)
  | int (i : Int) : Dw K H (.int i) (.int i)
  | str (x : Str) : Dw K H (.str x) (.str x)
  | byt (b : Array UInt8) : Dw K H (.byt b) (.bytes b.toList)
  | lst {a : Addr} {xs : List V} {ds : List WData} : SqL K H a xs → DwAll K H xs ds → Dw K H (.ref a) (.list ds)
  | tup {a : Addr} {xs : List V} {ds : List WData} : SqT K H a xs → DwAll K H xs ds → Dw K H (.ref a) (.tuple ds)
inductive DwAll (K : PySem.W.Frag) (H : Hp) : List V → List WData → Prop
  | nil : DwAll K H [] []
  | cons {v : V} {vs : List V} {d : WData} {ds : List WData} : Dw K H v d → DwAll K H vs ds → DwAll K H (v :: vs) (d :: ds)
end
theorem dw_ints {K : PySem.W.Frag} {H : Hp} : ∀ ns : List Int, DwAll K H (ns.map V.int) (ns.map WData.int)
  | [] => .nil
  | n :: r => .cons (.int n) (dw_ints r)
section
variable {P : Program} {w : World} {K : PySem.W.Frag} {H : Hp} {h : Heap} {R : PySem.W.WRecords} {cl : Str → Option Addr}
theorem sqL_at {a : Addr} {xs : List V} (hok : HOk P w H h) (KX : K.In h) (q : SqL K H a xs) : ∃ (its : List Value) (o : Obj) (n : Nat), Vals xs its ∧ h.get? a = some o ∧ o.cls = .type "list" ∧ o.data = .seq its.toArray n := by
  rcases q with q | ⟨o, its, n, e, hc, _, hd, _, hv⟩
  · obtain ⟨_, its, n, hv, e⟩ := (show ObjOk P w H h a (.lst xs) from q.ok hok)
    exact ⟨its, _, n, hv, e, rfl, rfl⟩
  · exact ⟨its.toList, o, n, hv, KX _ _ e, hc, by simp [hd]⟩
theorem sqT_at {a : Addr} {xs : List V} (hok : HOk P w H h) (KX : K.In h) (q : SqT K H a xs) : ∃ (its : List Value) (o : Obj) (n : Nat), Vals xs its ∧ h.get? a = some o ∧ o.cls = .type "tuple" ∧ o.data = .seq its.toArray n := by
  rcases q with q | ⟨o, its, n, e, hc, hd, _, hv⟩
  · obtain ⟨_, its, hv, o, e, hc, n, hd⟩ := (show ObjOk P w H h a (.tup xs) from q.ok hok)
    exact ⟨its, o, n, hv, e, hc, hd⟩
  · exact ⟨its.toList, o, n, hv, KX _ _ e, hc, by simp [hd]⟩
mutual
theorem Dw.reads (hok : HOk P w H h) (KX : K.In h) : ∀ (d : WData) (v : V) (u : Value), Dw K H v d → RelV v u → ∃ as, ReadsW R cl h u d as
  | .none, _, _, x, r => by
    cases x
    cases r
    exact ⟨_, ReadsW.none⟩
  | .bool b, _, _, x, r => by
    cases x
    cases r
    exact ⟨_, ReadsW.bool b⟩
  | .int i, _, _, x, r => by
    cases x
    obtain ⟨t, rfl⟩ := r
    exact ⟨_, ReadsW.int i t⟩
  | .str s, _, _, x, r => by
    cases x
    obtain ⟨t, rfl⟩ := r
    exact ⟨_, ReadsW.str s t⟩
  | .bytes b, _, _, x, r => by
    cases x
    obtain ⟨t, rfl⟩ := r
    exact ⟨_, ReadsW.bytes _ t⟩
  | .list ds, _, _, x, r => by
    cases x with
    | lst hs ha =>
      cases r
      obtain ⟨its, o, n, rv, ho, hc, hd⟩ := sqL_at hok KX hs
      obtain ⟨as, hr⟩ := Dw.readsAll hok KX ds _ its ha rv
      exact ⟨_, ReadsW.list ho hc hd hr⟩
  | .tuple ds, _, _, x, r => by
    cases x with
    | tup hs ha =>
      cases r
      obtain ⟨its, o, n, rv, ho, hc, hd⟩ := sqT_at hok KX hs
      obtain ⟨as, hr⟩ := Dw.readsAll hok KX ds _ its ha rv
      exact ⟨_, ReadsW.tuple ho hc hd hr⟩
  | .float _, _, _, x, _ => by cases x
  | .dict _, _, _, x, _ => by cases x
  | .bytearray _, _, _, x, _ => by cases x
  | .set _, _, _, x, _ => by cases x
  | .frozenset _, _, _, x, _ => by cases x
  | .obj _ _, _, _, x, _ => by cases x
theorem Dw.readsAll (hok : HOk P w H h) (KX : K.In h) : ∀ (ds : List WData) (vs : List V) (us : List Value), DwAll K H vs ds → Vals vs us → ∃ as, ReadsAllW R cl h us ds as
  | [], _, _, x, r => by
    cases x
    cases r
    exact ⟨_, ReadsAllW.nil⟩
  | d :: ds, _, _, x, r => by
    cases x with
    | cons h1 h2 =>
      cases r with
      | cons r1 r2 =>
        obtain ⟨as, q1⟩ := Dw.reads hok KX d _ _ h1 r1
        obtain ⟨bs, q2⟩ := Dw.readsAll hok KX ds _ _ h2 r2
        exact ⟨_, ReadsAllW.cons q1 q2⟩
end
end
/-! ### the arguments -/
mutual
/-- data that a codec tells -/
def plW : WData → Bool
  | .none => true
  | .bool _ => true
  | .int _ => true
  | .str _ => true
  | .bytes _ => true
  | .list xs => plWs xs
  | .tuple xs => plWs xs
  | _ => false
def plWs : List WData → Bool
  | [] => true
  | x :: r => plW x && plWs r
end
theorem plWs_map {α : Type} {f : α → WData} (h : ∀ a, plW (f a) = true) : ∀ l : List α, plWs (l.map f) = true
  | [] => rfl
  | x :: r => by
    show (plW (f x) && plWs (r.map f)) = true
    rw [h x, plWs_map h r] <;> rfl
theorem pl_enc : ∀ (c : Codec) (a : c.denote), plW (c.enc a) = true
  | .unit, _ => rfl
  | .bool, _ => rfl
  | .int _ _, _ => rfl
  | .nat _ _, _ => rfl
  | .u8, _ => rfl
  | .bytes _ _, _ => rfl
  | .text _ _ _ _, _ => rfl
  | .list _ _ c, a => plWs_map (fun x => pl_enc c x) a
  | .pair c d, a => by
    show (plW (c.enc a.1) && (plW (d.enc a.2) && true)) = true
    rw [pl_enc c a.1, pl_enc d a.2] <;> rfl
  | .triple c d e, a => by
    show (plW (c.enc a.1) && (plW (d.enc a.2.1) && (plW (e.enc a.2.2) && true))) = true
    rw [pl_enc c a.1, pl_enc d a.2.1, pl_enc e a.2.2] <;> rfl
  | .option c, none => rfl
  | .option c, some x => pl_enc c x
theorem pl_encAll : ∀ (cs : List Codec) (a : Codec.denoteAll cs), plWs (Codec.encAll cs a) = true
  | [], _ => rfl
  | c :: cs, a => by
    show (plW (c.enc a.1) && plWs (Codec.encAll cs a.2)) = true
    rw [pl_enc c a.1, pl_encAll cs a.2] <;> rfl
theorem weight_mem : ∀ {xs : List WData} {d : WData}, d ∈ xs → d.weight ≤ WData.weightAll xs
  | [], d, h => absurd h (by simp)
  | x :: r, d, h => by
    show d.weight ≤ x.weight + 1 + WData.weightAll r
    rcases List.mem_cons.mp h with e | m
    · rw [e]
      omega
    · have z := weight_mem m
      omega
def toV : Value → V
  | .none => .non
  | .bool b => .bl b
  | .int i _ => .int i
  | .str x _ => .str x
  | .bytes b _ => .byt b
  | .ref a => .ref a
  | _ => .non
/-- a value of the arguments, its objects among A -/
def OkU (A : List Addr) : Value → Prop
  | .none => True
  | .bool _ => True
  | .int _ _ => True
  | .str _ _ => True
  | .bytes _ _ => True
  | .ref a => a ∈ A
  | _ => False
theorem OkU.mono {A B : List Addr} (h : ∀ a ∈ A, a ∈ B) : ∀ {u : Value}, OkU A u → OkU B u := fun {u} x => by
  cases u with
  | ref a => exact h a x
  | none => trivial
  | bool b => trivial
  | int i t => trivial
  | str s t => trivial
  | bytes b t => trivial
  | _ => exact False.elim x
theorem relV_toV {A : List Addr} {u : Value} (x : OkU A u) : RelV (toV u) u := by
  cases u with
  | ref a => rfl
  | none => rfl
  | bool b => rfl
  | int i t => exact ⟨t, rfl⟩
  | str s t => exact ⟨t, rfl⟩
  | bytes b t => exact ⟨t, rfl⟩
  | _ => exact False.elim x
theorem vals_toV {A : List Addr} : ∀ {vs : List Value}, (∀ u ∈ vs, OkU A u) → Vals (vs.map toV) vs
  | [], _ => .nil
  | u :: r, h => .cons (relV_toV (h u (List.mem_cons_self ..))) (vals_toV fun x hx => h x (List.mem_cons_of_mem _ hx))
/-- an object of the arguments -/
def ArgOb (h : Heap) (A : List Addr) (a : Addr) : Prop := ∃ vs : List Value, vs.length ≤ sizeLine ∧ (∀ u ∈ vs, OkU A u) ∧
  (h.get? a = some { cls := .type "list", data := .seq vs.toArray } ∨ h.get? a = some { cls := .type "tuple", data := .seq vs.toArray })
theorem ArgOb.mono {h : Heap} {A B : List Addr} {a : Addr} (k : ∀ a ∈ A, a ∈ B) (x : ArgOb h A a) : ArgOb h B a := by
  obtain ⟨vs, h1, h2, h3⟩ := x
  exact ⟨vs, h1, fun u hu => (h2 u hu).mono k, h3⟩
theorem wellAll_len {P : Params} {h : Heap} : ∀ {vs : List Value} {ds : List WData}, WellAll P h vs ds → vs.length = ds.length
  | _, _, .nil => rfl
  | _, _, .cons _ b => by
    show _ + 1 = _ + 1
    rw [wellAll_len b]
theorem well_list {P : Params} {h : Heap} {v : Value} {ds : List WData} (x : Well P h v (.list ds)) : ∃ (a : Addr) (vs : List Value), v = .ref a ∧ h.get? a = some { cls := .type "list", data := .seq vs.toArray } ∧ WellAll P h vs ds := by
  cases x with
  | list ho hall => exact ⟨_, _, rfl, ho, hall⟩
theorem well_tuple {P : Params} {h : Heap} {v : Value} {ds : List WData} (x : Well P h v (.tuple ds)) : ∃ (a : Addr) (vs : List Value), v = .ref a ∧ h.get? a = some { cls := .type "tuple", data := .seq vs.toArray } ∧ WellAll P h vs ds := by
  cases x with
  | tuple ho hall => exact ⟨_, _, rfl, ho, hall⟩
theorem well_cons {P : Params} {h : Heap} {us : List Value} {d : WData} {ds : List WData} (x : WellAll P h us (d :: ds)) : ∃ (v : Value) (vs : List Value), us = v :: vs ∧ Well P h v d ∧ WellAll P h vs ds := by
  cases x with
  | cons a b => exact ⟨_, _, rfl, a, b⟩
theorem line_of {n : Nat} (h : n ≤ 1048576) : n ≤ sizeLine := Nat.le_trans h (by decide)
section
variable {P : Params} {h : Heap}
mutual
theorem area_one : ∀ (d : WData) (v : Value), Well P h v d → plW d = true → d.weight ≤ 1048576 → ∃ A : List Addr, OkU A v ∧ ∀ a ∈ A, ArgOb h A a
  | .none, _, x, _, _ => by
    cases x
    exact ⟨[], trivial, fun a m => absurd m (by simp)⟩
  | .bool b, _, x, _, _ => by
    cases x
    exact ⟨[], trivial, fun a m => absurd m (by simp)⟩
  | .int i, _, x, _, _ => by
    cases x
    exact ⟨[], trivial, fun a m => absurd m (by simp)⟩
  | .str s, _, x, _, _ => by
    cases x
    exact ⟨[], trivial, fun a m => absurd m (by simp)⟩
  | .bytes b, _, x, _, _ => by
    cases x
    exact ⟨[], trivial, fun a m => absurd m (by simp)⟩
  | .list ds, _, x, p, z => by
    obtain ⟨a, vs, rfl, ho, hall⟩ := well_list x
    have z2 : WData.weightAll ds ≤ 1048576 := z
    obtain ⟨A, h1, h2⟩ := area_all ds _ hall p fun d hd => Nat.le_trans (weight_mem hd) z2
    have k : ∀ b ∈ A, b ∈ a :: A := fun b hb => List.mem_cons_of_mem _ hb
    refine ⟨a :: A, List.mem_cons_self .., fun b hb => ?_⟩
    rcases List.mem_cons.mp hb with e | m
    · rw [e]
      exact ⟨vs, line_of (by rw [wellAll_len hall]; exact Nat.le_trans (PySem.W.length_le_weightAllW ds) z2), fun u hu => (h1 u hu).mono k, .inl ho⟩
    · exact (h2 b m).mono k
  | .tuple ds, _, x, p, z => by
    obtain ⟨a, vs, rfl, ho, hall⟩ := well_tuple x
    have z2 : WData.weightAll ds ≤ 1048576 := z
    obtain ⟨A, h1, h2⟩ := area_all ds _ hall p fun d hd => Nat.le_trans (weight_mem hd) z2
    have k : ∀ b ∈ A, b ∈ a :: A := fun b hb => List.mem_cons_of_mem _ hb
    refine ⟨a :: A, List.mem_cons_self .., fun b hb => ?_⟩
    rcases List.mem_cons.mp hb with e | m
    · rw [e]
      exact ⟨vs, line_of (by rw [wellAll_len hall]; exact Nat.le_trans (PySem.W.length_le_weightAllW ds) z2), fun u hu => (h1 u hu).mono k, .inr ho⟩
    · exact (h2 b m).mono k
  | .float _, _, _, p, _ => Bool.noConfusion (show false = true from p)
  | .dict _, _, _, p, _ => Bool.noConfusion (show false = true from p)
  | .bytearray _, _, _, p, _ => Bool.noConfusion (show false = true from p)
  | .set _, _, _, p, _ => Bool.noConfusion (show false = true from p)
  | .frozenset _, _, _, p, _ => Bool.noConfusion (show false = true from p)
  | .obj _ _, _, _, p, _ => Bool.noConfusion (show false = true from p)
theorem area_all : ∀ (ds : List WData) (vs : List Value), WellAll P h vs ds → plWs ds = true → (∀ d ∈ ds, d.weight ≤ 1048576) → ∃ A : List Addr, (∀ u ∈ vs, OkU A u) ∧ ∀ a ∈ A, ArgOb h A a
  | [], _, x, _, _ => by
    cases x
    exact ⟨[], fun u m => absurd m (by simp), fun a m => absurd m (by simp)⟩
  | d :: ds, _, x, p, z => by
    obtain ⟨v, vs, rfl, x1, x2⟩ := well_cons x
    have q : plW d = true ∧ plWs ds = true := Bool.and_eq_true_iff.mp p
    obtain ⟨A, a1, a2⟩ := area_one d v x1 q.1 (z d (List.mem_cons_self ..))
    obtain ⟨B, b1, b2⟩ := area_all ds vs x2 q.2 fun e he => z e (List.mem_cons_of_mem _ he)
    have kA : ∀ b ∈ A, b ∈ A ++ B := fun b hb => List.mem_append.mpr (.inl hb)
    have kB : ∀ b ∈ B, b ∈ A ++ B := fun b hb => List.mem_append.mpr (.inr hb)
    refine ⟨A ++ B, fun u hu => ?_, fun b hb => ?_⟩
    · rcases List.mem_cons.mp hu with e | m
      · rw [e]
        exact a1.mono kA
      · exact (b1 u m).mono kB
    · rcases List.mem_append.mp hb with m | m
      · exact (a2 b m).mono kA
      · exact (b2 b m).mono kB
end
end
/-- what is tracked of an argument's object -/
def hoOf (o : Obj) : Option HO := match o.data with
  | .seq vs _ => if (o.cls == Value.type "list") = true then some (.frz o (.lst (vs.toList.map toV))) else some (.frz o (.tup (vs.toList.map toV)))
  | _ => none
def argH (K : PySem.W.Frag) (h : Heap) (A : List Addr) : Hp := fun b => if b ∈ A then (if (K.lookup b).isNone = true then (h.get? b).bind hoOf else none) else none
/-- nothing is tracked but what is known to the object -/
def OnlyF (H : Hp) : Prop := ∀ b, H b = none ∨ ∃ o u, H b = some (.frz o u)
theorem hoOf_lst (vs : List Value) : hoOf { cls := .type "list", data := .seq vs.toArray } = some (.frz { cls := .type "list", data := .seq vs.toArray } (.lst (vs.map toV))) := by
  show (if (Value.type "list" == Value.type "list") = true then some (HO.frz { cls := .type "list", data := .seq vs.toArray } (.lst (vs.toArray.toList.map toV))) else some (HO.frz { cls := .type "list", data := .seq vs.toArray } (.tup (vs.toArray.toList.map toV)))) = _
  rw [if_pos (beq_self_eq_true _)]
theorem hoOf_tup (vs : List Value) : hoOf { cls := .type "tuple", data := .seq vs.toArray } = some (.frz { cls := .type "tuple", data := .seq vs.toArray } (.tup (vs.map toV))) := by
  show (if (Value.type "tuple" == Value.type "list") = true then some (HO.frz { cls := .type "tuple", data := .seq vs.toArray } (.lst (vs.toArray.toList.map toV))) else some (HO.frz { cls := .type "tuple", data := .seq vs.toArray } (.tup (vs.toArray.toList.map toV)))) = _
  rw [if_neg (by decide)]
section
variable {P : Program} {w : World} {K : PySem.W.Frag} {h : Heap} {A : List Addr}
theorem argH_at {b : Addr} {o : Obj} (hb : b ∈ A) (hk : K.lookup b = none) (e : h.get? b = some o) : argH K h A b = hoOf o := by
  unfold argH
  rw [if_pos hb, hk, if_pos (show (none : Option Obj).isNone = true from rfl), e] <;> rfl
theorem of_argH {b : Addr} {u : HO} (q : argH K h A b = some u) : b ∈ A ∧ K.lookup b = none := by
  unfold argH at q
  by_cases hb : b ∈ A
  · rw [if_pos hb] at q
    cases hk : K.lookup b with
    | none => exact ⟨hb, rfl⟩
    | some o =>
      rw [hk, if_neg (by simp)] at q
      cases q
  · rw [if_neg hb] at q
    cases q
/-- what stands tracked -/
theorem argH_is (ar : ∀ a ∈ A, ArgOb h A a) {b : Addr} {u : HO} (q : argH K h A b = some u) : K.lookup b = none ∧ ∃ vs : List Value, vs.length ≤ sizeLine ∧ (∀ u ∈ vs, OkU A u) ∧
    ((h.get? b = some { cls := .type "list", data := .seq vs.toArray } ∧ u = .frz { cls := .type "list", data := .seq vs.toArray } (.lst (vs.map toV))) ∨
     (h.get? b = some { cls := .type "tuple", data := .seq vs.toArray } ∧ u = .frz { cls := .type "tuple", data := .seq vs.toArray } (.tup (vs.map toV)))) := by
  obtain ⟨hb, hk⟩ := of_argH q
  obtain ⟨vs, h1, h2, h3⟩ := ar b hb
  refine ⟨hk, vs, h1, h2, ?_⟩
  rcases h3 with e | e
  · rw [argH_at hb hk e, hoOf_lst] at q
    exact .inl ⟨e, (Option.some.inj q).symm⟩
  · rw [argH_at hb hk e, hoOf_tup] at q
    exact .inr ⟨e, (Option.some.inj q).symm⟩
theorem argH_only (ar : ∀ a ∈ A, ArgOb h A a) : OnlyF (argH K h A) := fun b => by
  cases q : argH K h A b with
  | none => exact .inl rfl
  | some u =>
    obtain ⟨_, vs, _, _, ⟨_, e⟩ | ⟨_, e⟩⟩ := argH_is ar q
    · exact .inr ⟨_, _, by rw [e]⟩
    · exact .inr ⟨_, _, by rw [e]⟩
theorem argH_ok (ar : ∀ a ∈ A, ArgOb h A a) : HOk P w (argH K h A) h := fun b u q => by
  obtain ⟨_, vs, h1, h2, ⟨e, rfl⟩ | ⟨e, rfl⟩⟩ := argH_is ar q
  · exact ⟨e, by rw [List.length_map]; exact h1, vs, _, vals_toV h2, e⟩
  · exact ⟨e, by rw [List.length_map]; exact h1, vs, vals_toV h2, _, e, rfl, _, rfl⟩
theorem seq_inj {c c' : Value} {vs us : List Value} (e : (some { cls := c, data := .seq vs.toArray } : Option Obj) = some { cls := c', data := .seq us.toArray }) : c = c' ∧ vs = us := by
  have e1 := Option.some.inj e
  have e2 : c = c' := congrArg Obj.cls e1
  have e3 : Data.seq vs.toArray = Data.seq us.toArray := congrArg Obj.data e1
  injection e3 with e4
  refine ⟨e2, ?_⟩
  have e5 := congrArg Array.toList e4
  simpa using e5
/-- a list argument -/
theorem argL (KX : K.In h) (ar : ∀ a ∈ A, ArgOb h A a) {a : Addr} {vs : List Value} (ha : a ∈ A) (e : h.get? a = some { cls := .type "list", data := .seq vs.toArray }) : (∀ u ∈ vs, OkU A u) ∧ SqL K (argH K h A) a (vs.map toV) := by
  obtain ⟨us, h1, h2, h3⟩ := ar a ha
  have hu : us = vs := by
    rcases h3 with q | q
    · rw [e] at q
      exact (seq_inj q).2.symm
    · rw [e] at q
      exact absurd (Value.type.inj (seq_inj q).1) (by decide)
  subst hu
  refine ⟨h2, ?_⟩
  cases hk : K.lookup a with
  | none => exact .inl (.inr ⟨_, by rw [argH_at ha hk e, hoOf_lst]⟩)
  | some o =>
    have e2 := KX a o hk
    rw [e] at e2
    obtain rfl := Option.some.inj e2
    exact .inr ⟨_, us.toArray, _, hk, rfl, rfl, rfl, by rw [List.size_toArray]; exact h1, by simpa using vals_toV h2⟩
theorem argT (KX : K.In h) (ar : ∀ a ∈ A, ArgOb h A a) {a : Addr} {vs : List Value} (ha : a ∈ A) (e : h.get? a = some { cls := .type "tuple", data := .seq vs.toArray }) : (∀ u ∈ vs, OkU A u) ∧ SqT K (argH K h A) a (vs.map toV) := by
  obtain ⟨us, h1, h2, h3⟩ := ar a ha
  have hu : us = vs := by
    rcases h3 with q | q
    · rw [e] at q
      exact absurd (Value.type.inj (seq_inj q).1) (by decide)
    · rw [e] at q
      exact (seq_inj q).2.symm
  subst hu
  refine ⟨h2, ?_⟩
  cases hk : K.lookup a with
  | none => exact .inl (.inr ⟨_, by rw [argH_at ha hk e, hoOf_tup]⟩)
  | some o =>
    have e2 := KX a o hk
    rw [e] at e2
    obtain rfl := Option.some.inj e2
    exact .inr ⟨_, us.toArray, _, hk, rfl, rfl, by rw [List.size_toArray]; exact h1, by simpa using vals_toV h2⟩
mutual
theorem dw_one {Pm : Params} (KX : K.In h) (ar : ∀ a ∈ A, ArgOb h A a) : ∀ (d : WData) (v : Value), Well Pm h v d → plW d = true → OkU A v → Dw K (argH K h A) (toV v) d
  | .none, _, x, _, _ => by
    cases x
    exact .non
  | .bool b, _, x, _, _ => by
    cases x
    exact .bl b
  | .int i, _, x, _, _ => by
    cases x
    exact .int i
  | .str s, _, x, _, _ => by
    cases x
    exact .str s
  | .bytes b, _, x, _, _ => by
    cases x
    have z := Dw.byt (K := K) (H := argH K h A) b.toArray
    exact z
  | .list ds, _, x, p, hu => by
    obtain ⟨a, vs, rfl, ho, hall⟩ := well_list x
    obtain ⟨h2, hs⟩ := argL KX ar hu ho
    exact .lst hs (dw_all KX ar ds _ hall p h2)
  | .tuple ds, _, x, p, hu => by
    obtain ⟨a, vs, rfl, ho, hall⟩ := well_tuple x
    obtain ⟨h2, hs⟩ := argT KX ar hu ho
    exact .tup hs (dw_all KX ar ds _ hall p h2)
  | .float _, _, _, p, _ => Bool.noConfusion (show false = true from p)
  | .dict _, _, _, p, _ => Bool.noConfusion (show false = true from p)
  | .bytearray _, _, _, p, _ => Bool.noConfusion (show false = true from p)
  | .set _, _, _, p, _ => Bool.noConfusion (show false = true from p)
  | .frozenset _, _, _, p, _ => Bool.noConfusion (show false = true from p)
  | .obj _ _, _, _, p, _ => Bool.noConfusion (show false = true from p)
theorem dw_all {Pm : Params} (KX : K.In h) (ar : ∀ a ∈ A, ArgOb h A a) : ∀ (ds : List WData) (vs : List Value), WellAll Pm h vs ds → plWs ds = true → (∀ u ∈ vs, OkU A u) → DwAll K (argH K h A) (vs.map toV) ds
  | [], _, x, _, _ => by
    cases x
    exact .nil
  | d :: ds, _, x, p, hu => by
    obtain ⟨v, vs, rfl, x1, x2⟩ := well_cons x
    have q : plW d = true ∧ plWs ds = true := Bool.and_eq_true_iff.mp p
    exact .cons (dw_one KX ar d v x1 q.1 (hu _ (List.mem_cons_self ..))) (dw_all KX ar ds vs x2 q.2 fun u m => hu u (List.mem_cons_of_mem _ m))
end
end
/-! ### the call -/
theorem spec_call {P : Program} {w : World} {K : PySem.W.Frag} {mg mb : Str → Option Value} {CX : CXT} {k : Nat} {fa : Addr} {fd : FuncData} {ps : List Str} {sp : Sp} {s₁ : Shared} {vals : List Value} {ds : List WData} {R : PySem.W.WRecords} {cl : Str → Option Addr} {d0 : WData}
    (KX : K.In s₁.heap) (hns : s₁.heap.Ns mainGlobals mg) (hb : s₁.heap.Ns builtinsNs mb) (hbb : ∀ x : Str, x ≠ "__name__" → mb x = bootBuiltins x) (hlim : s₁.heap.NoLimit) (hg : s₁.gens = #[])
    (hwl : WellAll w.params s₁.heap vals ds) (hpl : plWs ds = true) (hwt : ∀ d ∈ ds, d.weight ≤ 1048576) (hr : Room k callerA)
    (F : ∀ base : Heap, K.In base → base.Ns mainGlobals mg → FnOk P w K mg base CX k fa fd ps sp) (hbind : ∀ (s : Shared) (us : List Value), us.length = ps.length → BindsTo s fd ⟨us, []⟩ (ps.zip us)) (hlen : ds.length = ps.length)
    (hsp : ∀ (H : Hp) (xs : List V), OnlyF H → DwAll K H xs ds → sp xs H (fun v H' => Dw K H' v d0) fun _ _ _ => False)
    (hCX : ∀ H e s', CX [] H s₁ (fun _ _ _ => False) e s' → False) :
    codeAny (model P w) callerA (.call (.ref fa) ⟨vals, []⟩) (fun r s' => ∃ u as, r = .ok (.ret u) ∧ ReadsW R cl s'.heap u d0 as ∧ OldK s₁.heap s'.heap ∧ s'.os = s₁.os ∧ AllBare s'.gens) s₁ := by
  obtain ⟨A, ho, ar⟩ := area_all ds vals hwl hpl hwt
  have hO : OnlyF (argH K s₁.heap A) := argH_only ar
  have hok : HOk P w (argH K s₁.heap A) s₁.heap := argH_ok ar
  have hS := dw_all KX ar ds vals hwl hpl ho
  have hV := vals_toV ho
  have hK : ∀ b u, argH K s₁.heap A b = some u → K.lookup b = none := fun b u q => (argH_is ar q).1
  have noA : ∀ {b : Addr} {o : Obj} {es : Array DictEntry} {ep : Nat}, s₁.heap.get? b = some o → o.data = .dict es ep → argH K s₁.heap A b = none := fun {b o es ep} e d => by
    cases q : argH K s₁.heap A b with
    | none => rfl
    | some u =>
      obtain ⟨_, vs, _, _, ⟨e2, _⟩ | ⟨e2, _⟩⟩ := argH_is ar q
      · rw [e2] at e
        cases e
        have d' : Data.seq vs.toArray _ = Data.dict es ep := d
        cases d'
      · rw [e2] at e
        cases e
        have d' : Data.seq vs.toArray _ = Data.dict es ep := d
        cases d'
  generalize argH K s₁.heap A = H at hO hok hS hK noA
  have base_of : ∀ {b : Addr} {o : Obj}, s₁.heap.get? b = some o → H b = none → (hidT s₁.heap H).get? b = some o := fun e n => hidT_get e n
  have nsK : ∀ {b : Addr} {m : Str → Option Value}, s₁.heap.Ns b m → (hidT s₁.heap H).Ns b m := fun {b m} ⟨o, es, ep, e, d, r⟩ => ⟨o, es, ep, base_of e (noA e d), d, r⟩
  have nK : ∀ b o, K.lookup b = some o → H b = none := fun b o e => by
    cases q : H b with
    | none => rfl
    | some u =>
      rw [hK b u q] at e
      cases e
  have hKb : K.In (hidT s₁.heap H) := fun b o e => base_of (KX b o e) (nK b o e)
  have hM : Mod K mg (hidT s₁.heap H) := ⟨hKb, nsK hns, ⟨mb, nsK hb, hbb⟩, let ⟨mc, h1, h2⟩ := hlim; ⟨mc, nsK h1, h2⟩⟩
  have e0 : Env0 P w K mg (hidT s₁.heap H) callerA [] s₁ H := ⟨rfl, hM, fun b o e => of_hidT e, Nat.le_of_eq (hidT_size _ _), trivial, fun b hb => absurd (show b ∈ ([] : List Addr) from hb) (by simp), hok, .of_eq hg⟩
  have hl : vals.length = ps.length := by rw [wellAll_len hwl]; exact hlen
  refine codeAny_mono ((F _ hKb (nsK hns)).run callerA [] s₁ H ⟨vals, []⟩ vals (vals.map toV) _ _ hr e0 (hbind s₁ vals hl) hV (hsp H _ hO hS)) fun r s' x => ?_
  cases r with
  | error e => exact (hCX H e s' x).elim
  | ok fl =>
    cases fl with
    | next => exact False.elim x
    | brk => exact False.elim x
    | cont => exact False.elim x
    | ret u =>
      obtain ⟨v, H', os, bare, un, hok', r', q⟩ := x
      have kept : ∀ b o, s₁.heap.get? b = some o → s'.heap.get? b = some o := fun b o e => by
        cases q2 : H b with
        | none => exact un.keep b o e q2 (by intro z; exact absurd (show b ∈ ([] : List Addr) from z) (by simp)) (by simp)
        | some u2 =>
          rcases hO b with z | ⟨ob, u3, z⟩
          · rw [q2] at z
            cases z
          · have z2 := un.frzs b ob _ z
            obtain ⟨e1, _⟩ := hok b _ z
            obtain ⟨e2, _⟩ := hok' b _ z2
            rw [e] at e1
            cases e1
            exact e2
      have KX' : K.In s'.heap := fun b o e => kept b o (KX b o e)
      obtain ⟨as, hrd⟩ := Dw.reads (R := R) (cl := cl) hok' KX' d0 v u q r'
      exact ⟨u, as, rfl, hrd, OldK.of_keep kept, os, bare⟩
/-! ### the row -/
theorem layable_weight {ds : List WData} (h : WData.layableAll ds = true) : ∀ d ∈ ds, d.weight ≤ 1048576 := fun d hd =>
  (PySem.W.layableW_iff.mp (List.all_eq_true.mp h d hd)).2.2
theorem encAll_len : ∀ (cs : List Codec) (a : Codec.denoteAll cs), (Codec.encAll cs a).length = cs.length
  | [], _ => rfl
  | c :: cs, a => by
    show (Codec.encAll cs a.2).length + 1 = cs.length + 1
    rw [encAll_len cs a.2]
/-- the goal that k_headS leaves (case hc), from the promise of the row's def: whatever the arguments that the codecs let and the row asks for, the def gives what stands for enc (f ..) -/
theorem walk_spec {r : OpenSpec} {k : Nat} {q : Program} {loose : List Str} {XP : (Str → Option Value) → Heap → Prop} {YP : World → Heap → Prop} {d : DefRec} {K : Params → PySem.W.Frag} {CX : World → CXT} {ps : List Str} {sp : World → Sp}
    (hwell : r.wellSaid = true) (hdf : d.params.defaults = []) (hlen : r.args.length = ps.length) (hr : Room k callerA)
    (hY : ∀ (w : World) (h : Heap), YP w h → (K w.params).In h)
    (F : ∀ (w : World) (mg : Str → Option Value) (fa : Addr) (h : Heap), YP w h → (K w.params).In h → h.Ns mainGlobals mg → mg d.name = some (.ref fa) →
      ∃ fd : FuncData, (∀ (s : Shared) (us : List Value), us.length = ps.length → BindsTo s fd ⟨us, []⟩ (ps.zip us)) ∧
        ∀ base : Heap, (K w.params).In base → base.Ns mainGlobals mg → FnOk r.prog w (K w.params) mg base (CX w) k fa fd ps (sp w))
    (hsp : ∀ (w : World) (H : Hp) (xs : List V) (a : Codec.denoteAll r.args), OnlyF H → Codec.withinAll r.args a = true → Codec.app r.args r.asked a = true → DwAll (K w.params) H xs (Codec.encAll r.args a) →
      sp w xs H (fun v H' => Dw (K w.params) H' v (r.ret.enc (Codec.app r.args r.f a))) fun _ _ _ => False)
    (hCX : ∀ (w : World) (H : Hp) (s : Shared) (e : Value) (s' : Shared), CX w [] H s (fun _ _ _ => False) e s' → False) :
    PySem.W.WalkOS q loose XP YP r d [] (fun f vs => PySem.call f vs) := by
  intro w s_0 s₁ mg mb G Y fa o pm cd doc dV kV ho hd hcd hD hmg hg args vals as hpre hlay hrd hwl hlo
  obtain ⟨a, e1, e2⟩ := PySem.W.os_pre_some hpre
  obtain ⟨e3, hwi⟩ := Codec.encAll_of_decAll r.args args a e1
  subst e3
  have KX := hY w _ Y
  obtain ⟨fd, hb, hF⟩ := F w mg fa _ Y KX G.T.g hmg
  refine PySem.W.enter_call (codeAny_mono (spec_call (R := []) (cl := classAt s_0.heap) (d0 := r.ret.enc (Codec.app r.args r.f a)) KX G.T.g G.T.b G.T.builtins G.T.nolimit hg hwl (pl_encAll _ _) (layable_weight hlay) hr hF hb (by rw [encAll_len]; exact hlen)
    (fun H xs hO hS => hsp w H xs a hO hwi e2 hS) fun H e s' => hCX w H s₁ e s') fun r' s' hq => ?_)
  obtain ⟨u, as', rfl, h1, h2, h3, h4⟩ := hq
  exact ⟨.inl ⟨u, _, as', rfl, fun _ => rfl, h1, (OpenSpec.post_iff hwell hwi _ _).mpr rfl, fun z => Bool.noConfusion (show false = true from z)⟩, h2, h3, h4⟩
/-- the same where the promise hangs on the written part alone -/
theorem walk_specK {r : OpenSpec} {k : Nat} {q : Program} {loose : List Str} {XP : (Str → Option Value) → Heap → Prop} {YP : World → Heap → Prop} {d : DefRec} {K : Params → PySem.W.Frag} {CX : CXT} {ps : List Str} {sp : PySem.W.Frag → Sp}
    (hwell : r.wellSaid = true) (hdf : d.params.defaults = []) (hlen : r.args.length = ps.length) (hr : Room k callerA)
    (hY : ∀ (w : World) (h : Heap), YP w h → (K w.params).In h)
    (F : ∀ (w : World) (mg : Str → Option Value) (fa : Addr) (h : Heap), YP w h → (K w.params).In h → h.Ns mainGlobals mg → mg d.name = some (.ref fa) →
      ∃ fd : FuncData, (∀ (s : Shared) (us : List Value), us.length = ps.length → BindsTo s fd ⟨us, []⟩ (ps.zip us)) ∧
        ∀ base : Heap, (K w.params).In base → base.Ns mainGlobals mg → FnOk r.prog w (K w.params) mg base CX k fa fd ps (sp (K w.params)))
    (hsp : ∀ (K : PySem.W.Frag) (H : Hp) (xs : List V) (a : Codec.denoteAll r.args), OnlyF H → Codec.withinAll r.args a = true → Codec.app r.args r.asked a = true → DwAll K H xs (Codec.encAll r.args a) →
      sp K xs H (fun v H' => Dw K H' v (r.ret.enc (Codec.app r.args r.f a))) fun _ _ _ => False)
    (hCX : ∀ (H : Hp) (s : Shared) (e : Value) (s' : Shared), CX [] H s (fun _ _ _ => False) e s' → False) :
    PySem.W.WalkOS q loose XP YP r d [] (fun f vs => PySem.call f vs) :=
  walk_spec (K := K) (CX := fun _ => CX) (sp := fun w => sp (K w.params)) hwell hdf hlen hr hY F (fun w H xs a h1 h2 h3 h4 => hsp (K w.params) H xs a h1 h2 h3 h4) fun _ H s e s' => hCX H s e s'
end L2
-- rests on (row put in by the clerk, for the bench that shows a file only what it spells): KE.SpHead KE.OsShapes
end
end
section
set_option maxHeartbeats 4000000
set_option Elab.async false
set_option linter.all false
set_option maxRecDepth 100000
namespace L2
open PySem PySem.Spec PyProof.Rows
/-- a def of the text as it stands behind the top -/
def At (K : PySem.W.Frag) (mg : Str → Option Value) (nm : Str) (st : Stmt) (ps : List Str) : Prop :=
  ∃ f fd, Fun K nm nm st f fd ∧ mg nm = some (.ref f) ∧ Binds K fd ps []
/-- a def that may be called -/
def Cal (P : Program) (w : World) (K : PySem.W.Frag) (mg : Str → Option Value) (base : Heap) (nm : Str) (ps : List Str) (k : Nat) (sp : Sp) : Prop :=
  ∃ f fd, FnOk P w K mg base CX0 k f fd ps sp ∧ mg nm = some (.ref f) ∧ PySem.W.keepIn K (.ref f) = true ∧ Binds K fd ps []
section
variable {P : Program} {w : World} {K : PySem.W.Frag} {mg : Str → Option Value} {base : Heap}
theorem At.cal {nm : Str} {st : Stmt} {N ps : List Str} {k : Nat} {sp : Sp} (T : At K mg nm st ps) (S : FnScope N ps (defScope st)) (len : ∀ vs H Q E, sp vs H Q E → vs.length = ps.length)
    (hbody : ∀ (f : Addr) (cdv : Value) (A : Around) (outer : List Env) (s : Shared) (H : Hp) (vs : List V) (Q : VK) (E : XK), Room k (A.deeper (envOfC nm (defScope st) s.heap.objs.size f cdv)) → sp vs H Q E →
      ∃ t, PSs (cxOf CX0 P w K mg base N nm (defScope st) f cdv A outer s H E).nox (defBody st) t ∧ t { nx := fun _ H' => Q .non H', rt := Q } (start N vs) H) : Cal P w K mg base nm ps (k + 1) sp := by
  obtain ⟨f, fd, F, hm, hb⟩ := T
  exact ⟨f, fd, F.ok S len (fun cdv A outer s H vs Q E hr h => hbody f cdv A outer s H vs Q E hr h), hm, F.kp, hb⟩
theorem Cal.mono {nm : Str} {ps : List Str} {j k : Nat} {sp : Sp} (C : Cal P w K mg base nm ps j sp) (h : j ≤ k) : Cal P w K mg base nm ps k sp := by
  obtain ⟨f, fd, F, hm, hk, hb⟩ := C
  exact ⟨f, fd, F.mono h, hm, hk, hb⟩
end
section
variable {X : Cx} {e : Expr} {es : List Expr} {t : TA} {p pos : Pos}
theorem pe_cal {nm : Str} {ps : List Str} {k : Nat} {sp : Sp} (C : Cal X.prog X.w X.K X.mg X.base nm ps k sp) (hr : Room k X.A) (hg : Gl X nm)
    (ha : PA X (e :: es) t) (hdb : (nm == ("__debug__" : Str)) = false := by decide) (he : starEach (e :: es) X.env = (false, eval e X.env) :: starEach es X.env := by rfl) (hpl : (backTo pos (starEach es X.env)).any (·.1) = false := by rfl) :
    PE X (.Call (.Name nm p) (e :: es) [] pos) (tCall sp [] E0 t) := by
  obtain ⟨f, fd, F, hm, hk, hb⟩ := C
  exact pe_call F hr hg hm hk hb .nil pass0 ha hdb he hpl
/-- a written number of the file's top -/
def IntG (mg : Str → Option Value) (x : Str) (i : Int) : Prop := ∃ t, mg x = some (.int i t)
theorem pe_ig {x : Str} {i : Int} {pos : Pos} (h : IntG X.mg x i) (hg : Gl X x) (hd : (x == ("__debug__" : Str)) = false := by decide) : PE X (.Name x pos) (tC (.int i)) := by
  obtain ⟨t, hm⟩ := h
  exact pe_glob hg hm ⟨t, rfl⟩ hd
/-! numbers of any size that comes up here -/
theorem op_fdivB : OpR X (binaryOp .FloorDiv) (rI (fun _ j => 0 < j ∧ j.natAbs.log2 < 9000) fun i j => .int (i / j)) := opI fun i j _ _ _ _ _ hc q => by
  have h1 : (0 : Int) < j := hc.1
  exact floordiv_int (by omega) (by rw [Int.fdiv_eq_ediv_of_nonneg i (by omega)]; exact q) (.inl (PyProof.noPylong_of_log2 hc.2))
theorem op_shlB : OpR X (binaryOp .LShift) (rI (fun i j => 0 ≤ j ∧ (Builtin.Int.intBits i : Int) + j ≤ 2 ^ 27) fun i j => .int (i * 2 ^ j.toNat)) := opI fun _ _ _ _ _ _ _ hc q => lshift_int hc.1 hc.2 q
theorem op_mulB : OpR X (binaryOp .Mult) (rI (fun i j => Builtin.Int.intBits i ≤ 2 ^ 20 ∧ Builtin.Int.intBits j ≤ 2 ^ 20) fun i j => .int (i * j)) := opI fun _ _ _ _ _ _ _ hc q => mul_int q (IntMulOk.of_bits hc.1 hc.2)
end
/-! promises of defs upon numbers -/
def sp1 (pre : Int → Prop) (g : Int → V) : Sp := fun vs H Q _ => ∃ a, vs = [.int a] ∧ pre a ∧ Q (g a) H
def sp2 (pre : Int → Int → Prop) (g : Int → Int → V) : Sp := fun vs H Q _ => ∃ a b, vs = [.int a, .int b] ∧ pre a b ∧ Q (g a b) H
theorem sp1_app {pre : Int → Prop} {g : Int → V} {a : Int} {H : Hp} {Q : VK} {E : XK} : sp1 pre g [.int a] H Q E ↔ pre a ∧ Q (g a) H := by
  constructor
  · rintro ⟨b, e, h⟩; cases e; exact h
  · intro h; exact ⟨a, rfl, h⟩
theorem sp2_app {pre : Int → Int → Prop} {g : Int → Int → V} {a b : Int} {H : Hp} {Q : VK} {E : XK} : sp2 pre g [.int a, .int b] H Q E ↔ pre a b ∧ Q (g a b) H := by
  constructor
  · rintro ⟨c, d, e, h⟩; cases e; exact h
  · intro h; exact ⟨a, b, rfl, h⟩
theorem sp1_len {pre : Int → Prop} {g : Int → V} {x : Str} : ∀ vs H Q E, sp1 pre g vs H Q E → vs.length = [x].length := fun vs H Q E h => by
  obtain ⟨a, rfl, _⟩ := h; rfl
theorem sp2_len {pre : Int → Int → Prop} {g : Int → Int → V} {x y : Str} : ∀ vs H Q E, sp2 pre g vs H Q E → vs.length = [x, y].length := fun vs H Q E h => by
  obtain ⟨a, b, rfl, _⟩ := h; rfl
end L2
end
section
namespace Bx
open Ew EwIval Wrxtee
/-! ## powers of two -/
theorem two_eq (k : Int) : Ew.two k = (2 : Rat) ^ k := by
  unfold Ew.two
  split
  · rename_i h
    obtain ⟨n, rfl⟩ := Int.eq_ofNat_of_zero_le h
    rw [Rat.zpow_natCast]
    simp [Rat.natCast_pow]
  · rename_i h
    obtain ⟨n, hn⟩ : ∃ n : Nat, k = -(n : Int) := ⟨(-k).toNat, by omega⟩
    subst hn
    rw [Rat.zpow_neg, Rat.zpow_natCast]
    have : (- -(n : Int)).toNat = n := by omega
    rw [this, Rat.div_def, Rat.one_mul]
    simp [Rat.natCast_pow]
theorem two_pos (k : Int) : 0 < Ew.two k := by
  rw [two_eq]; exact Rat.zpow_pos (by decide)
theorem two_add (a b : Int) : Ew.two (a + b) = Ew.two a * Ew.two b := by
  simp only [two_eq]; exact Rat.zpow_add (by decide) a b
theorem two_nat (n : Nat) : Ew.two (n : Int) = ((2 ^ n : Nat) : Rat) := by
  unfold Ew.two; rw [if_pos (by omega)]; congr 2
/-! ## kinds -/
theorem kind_E (x : Float_) : E.kind x =
    if x.exp = 0 then (if 9223372036854775808 ≤ x.frac then .nearly else if x.frac % 9223372036854775808 = 0 then .zero else .small)
    else if ¬ 9223372036854775808 ≤ x.frac then .odd
    else if x.exp < 32767 then .normal else if x.frac % 9223372036854775808 = 0 then .infinite
    else if 4611686018427387904 ≤ x.frac % 9223372036854775808 then .quiet else .loud := by
  simp only [E, Format.kind, Format.expBits]
  simp
/-- the bits of an 80 bit number, taken apart -/
structure Fit (x : Float_) : Prop where
  exp : x.exp < 32768
  frac : x.frac < 18446744073709551616
theorem fit_fl (a : Int) : Fit (WrxteeNeutral.fl a) := by
  constructor <;> simp only [WrxteeNeutral.fl, ofBits] <;> omega
theorem isEnd_iff {x : Float_} (h : Fit x) : isEnd x = true ↔
    x.exp = 0 ∨ (x.exp < 32767 ∧ 9223372036854775808 ≤ x.frac) ∨ (x.exp = 32767 ∧ x.frac = 9223372036854775808) := by
  have h1 := h.exp
  have h2 := h.frac
  unfold isEnd
  rw [kind_E]
  by_cases e0 : x.exp = 0
  · rw [if_pos e0]
    constructor
    · intro _; exact .inl e0
    · intro _; split
      · rfl
      · split <;> rfl
  · rw [if_neg e0]
    by_cases j : 9223372036854775808 ≤ x.frac
    · rw [if_neg (by omega)]
      by_cases n : x.exp < 32767
      · rw [if_pos n]; simp [Kind.none_]; omega
      · rw [if_neg n]
        by_cases r : x.frac % 9223372036854775808 = 0
        · rw [if_pos r]; simp [Kind.none_]; omega
        · rw [if_neg r]
          split <;> simp [Kind.none_] <;> omega
    · rw [if_pos j]; simp [Kind.none_]; omega
theorem inf_iff {x : Float_} (h : Fit x) : E.kind x = .infinite ↔ (x.exp = 32767 ∧ x.frac = 9223372036854775808) := by
  have h1 := h.exp
  have h2 := h.frac
  rw [kind_E]
  by_cases e0 : x.exp = 0
  · rw [if_pos e0]
    constructor
    · intro q; exfalso; revert q; split
      · exact nofun
      · split <;> exact nofun
    · omega
  · rw [if_neg e0]
    by_cases j : 9223372036854775808 ≤ x.frac
    · rw [if_neg (by omega)]
      by_cases n : x.exp < 32767
      · rw [if_pos n]; simp; omega
      · rw [if_neg n]
        by_cases r : x.frac % 9223372036854775808 = 0
        · rw [if_pos r]; simp; omega
        · rw [if_neg r]
          split <;> simp <;> omega
    · rw [if_pos j]; simp; omega
theorem zero_iff {x : Float_} (h : Fit x) : E.kind x = .zero ↔ (x.exp = 0 ∧ x.frac = 0) := by
  have h1 := h.exp
  have h2 := h.frac
  rw [kind_E]
  by_cases e0 : x.exp = 0
  · rw [if_pos e0]
    by_cases j : 9223372036854775808 ≤ x.frac
    · rw [if_pos j]; simp; omega
    · rw [if_neg j]
      by_cases r : x.frac % 9223372036854775808 = 0
      · rw [if_pos r]; simp; omega
      · rw [if_neg r]; simp; omega
  · rw [if_neg e0]
    constructor
    · intro q; exfalso; revert q
      split
      · exact nofun
      · split
        · exact nofun
        · split
          · exact nofun
          · split <;> exact nofun
    · omega
/-! ## sizes as whole numbers -/
/-- a size over the least exponent -/
def M (x : Float_) : Nat := x.frac * 2 ^ (x.exp - 1)
def Z (x : Float_) : Int := if x.sign = true then -(M x : Int) else (M x : Int)
theorem value_E (x : Float_) : E.value x = (Z x : Rat) * Ew.two (-16445) := by
  unfold Format.value
  have hk : E.k x = ((x.exp - 1 : Nat) : Int) + (-16445) := by
    unfold Format.k; simp only [E, Format.emin, Format.emax, Format.p]; omega
  have hm : E.m x = x.frac := by
    unfold Format.m; simp [E]
  rw [hk, hm, two_add, two_nat]
  have e : ((M x : Nat) : Rat) = (x.frac : Rat) * ((2 ^ (x.exp - 1) : Nat) : Rat) := by
    unfold M; rw [Rat.natCast_mul]
  unfold Z
  by_cases s : x.sign = true
  · rw [if_pos s, if_pos s, Rat.intCast_neg, Rat.intCast_natCast, e]
    grind
  · rw [if_neg s, if_neg s, Rat.intCast_natCast, e]
    grind
theorem value_lt (x y : Float_) : E.value x < E.value y ↔ Z x < Z y := by
  rw [value_E, value_E, Rat.mul_lt_mul_right (two_pos _), Rat.intCast_lt_intCast]
theorem value_eq (x y : Float_) : E.value x = E.value y ↔ Z x = Z y := by
  constructor
  · intro h
    have h1 : ¬ E.value x < E.value y := by rw [h]; exact Rat.lt_irrefl
    have h2 : ¬ E.value y < E.value x := by rw [h]; exact Rat.lt_irrefl
    rw [value_lt] at h1 h2; omega
  · intro h; rw [value_E, value_E, h]
end Bx
end
section
namespace Bx
open Ew EwIval Wrxtee
/-- the size's bits, nearly small ones as normal ones -/
def N (x : Float_) : Nat := if x.exp = 0 ∧ 9223372036854775808 ≤ x.frac then x.frac + 18446744073709551616 else x.exp * 18446744073709551616 + x.frac
theorem pow_step {f f' e e' : Nat} (h : e < e') (hf : f < 18446744073709551616) (h0 : e = 0 → f < 9223372036854775808) (hf' : 9223372036854775808 ≤ f') :
    f * 2 ^ (e - 1) < f' * 2 ^ (e' - 1) := by
  by_cases z : e = 0
  · subst z
    have p : 0 < 2 ^ (e' - 1) := Nat.two_pow_pos _
    have q : f < f' := Nat.lt_of_lt_of_le (h0 rfl) hf'
    calc f * 2 ^ (0 - 1) = f := by simp
      _ < f' := q
      _ = f' * 1 := by simp
      _ ≤ f' * 2 ^ (e' - 1) := Nat.mul_le_mul_left _ p
  · have e1 : e' - 1 = (e - 1) + 1 + (e' - 1 - e) := by omega
    have p : 0 < 2 ^ (e - 1) := Nat.two_pow_pos _
    have p2 : 0 < 2 ^ (e' - 1 - e) := Nat.two_pow_pos _
    calc f * 2 ^ (e - 1) < 18446744073709551616 * 2 ^ (e - 1) := (Nat.mul_lt_mul_right p).mpr hf
      _ = 9223372036854775808 * 2 ^ ((e - 1) + 1) := by rw [Nat.pow_succ]; omega
      _ ≤ f' * 2 ^ ((e - 1) + 1) := Nat.mul_le_mul_right _ hf'
      _ = f' * 2 ^ ((e - 1) + 1) * 1 := by simp
      _ ≤ f' * 2 ^ ((e - 1) + 1) * 2 ^ (e' - 1 - e) := Nat.mul_le_mul_left _ p2
      _ = f' * 2 ^ (e' - 1) := by rw [Nat.mul_assoc, ← Nat.pow_add, ← e1]
theorem N_M {x y : Float_} (hx : Fit x) (hy : Fit y) (ex : isEnd x = true) (ey : isEnd y = true) (h : N x < N y) : M x < M y := by
  have a1 := hx.exp
  have a2 := hx.frac
  have b1 := hy.exp
  have b2 := hy.frac
  rw [isEnd_iff hx] at ex
  rw [isEnd_iff hy] at ey
  -- the exponent as a normal one's
  have key : ∀ z : Float_, Fit z → (z.exp = 0 ∨ (z.exp < 32767 ∧ 9223372036854775808 ≤ z.frac) ∨ (z.exp = 32767 ∧ z.frac = 9223372036854775808)) →
      ∃ e, N z = e * 18446744073709551616 + z.frac ∧ M z = z.frac * 2 ^ (e - 1) ∧ (e = 0 → z.frac < 9223372036854775808) ∧ (0 < e → 9223372036854775808 ≤ z.frac) := by
    intro z _ ez
    by_cases c : z.exp = 0 ∧ 9223372036854775808 ≤ z.frac
    · refine ⟨1, ?_, ?_, ?_, ?_⟩
      · unfold N; rw [if_pos c]; omega
      · unfold M; rw [c.1]
      · omega
      · omega
    · refine ⟨z.exp, ?_, ?_, ?_, ?_⟩
      · unfold N; rw [if_neg c]
      · rfl
      · omega
      · omega
  obtain ⟨e, n1, m1, l1, g1⟩ := key x hx ex
  obtain ⟨e', n2, m2, l2, g2⟩ := key y hy ey
  rw [n1, n2] at h
  rw [m1, m2]
  by_cases c : e = e'
  · subst c
    exact (Nat.mul_lt_mul_right (Nat.two_pow_pos _)).mpr (by omega)
  · exact pow_step (by omega) a2 l1 (g2 (by omega))
theorem N_lt {x y : Float_} (hx : Fit x) (hy : Fit y) (ex : isEnd x = true) (ey : isEnd y = true) : N x < N y ↔ M x < M y := by
  constructor
  · exact N_M hx hy ex ey
  · intro h
    by_cases c : N x < N y
    · exact c
    · by_cases d : N y < N x
      · have := N_M hy hx ey ex d; omega
      · exfalso
        -- N equal: the same M
        have q : N x = N y := by omega
        have a2 := hx.frac
        have b2 := hy.frac
        unfold N at q
        unfold M at h
        split at q <;> split at q
        · have : x.frac = y.frac := by omega
          rename_i c1 c2
          rw [this, c1.1, c2.1] at h; omega
        · rename_i c1 c2
          have e1 : y.exp = 1 := by omega
          have : x.frac = y.frac := by omega
          rw [this, c1.1, e1] at h; simp at h
        · rename_i c1 c2
          have e1 : x.exp = 1 := by omega
          have : x.frac = y.frac := by omega
          rw [this, c2.1, e1] at h; simp at h
        · have : x.frac = y.frac := by omega
          have e1 : x.exp = y.exp := by omega
          rw [this, e1] at h; omega
theorem N_eq {x y : Float_} (hx : Fit x) (hy : Fit y) (ex : isEnd x = true) (ey : isEnd y = true) : N x = N y ↔ M x = M y := by
  have h1 := N_lt hx hy ex ey
  have h2 := N_lt hy hx ey ex
  omega
/-- the infinite one's size -/
def INFN : Nat := 604453686435277732577280
theorem N_le {x : Float_} (hx : Fit x) (ex : isEnd x = true) : N x ≤ INFN ∧ (N x = INFN ↔ E.kind x = .infinite) := by
  have a1 := hx.exp
  have a2 := hx.frac
  rw [isEnd_iff hx] at ex
  rw [inf_iff hx]
  unfold N INFN
  split <;> omega
theorem compared_E {x y : Float_} (hx : Fit x) (hy : Fit y) (ex : isEnd x = true) (ey : isEnd y = true) :
    compared E x E y = if Z x < Z y then 0 else if Z x = Z y then 1 else 2 := by
  have nx : (E.kind x).none_ = false := by simpa [isEnd] using ex
  have ny : (E.kind y).none_ = false := by simpa [isEnd] using ey
  have lt := N_lt hx hy ex ey
  have gt := N_lt hy hx ey ex
  have lx := N_le hx ex
  have ly := N_le hy ey
  unfold compared
  rw [if_neg (by simp [nx, ny])]
  simp only [value_lt, value_eq]
  have bx : 0 < INFN := by decide
  by_cases ix : E.kind x = .infinite
  · have wx := lx.2.mpr ix
    by_cases iy : E.kind y = .infinite
    · have wy := ly.2.mpr iy
      have eq : M x = M y := (N_eq hx hy ex ey).mp (by omega)
      have pos : 0 < M x := by
        rw [inf_iff hx] at ix
        unfold M; rw [ix.2]; exact Nat.mul_pos (by decide) (Nat.two_pow_pos _)
      simp only [ix, iy, if_true]
      unfold Z
      cases hs : x.sign <;> cases ht : y.sign <;> simp [eq] <;> (repeat' split) <;> omega
    · have wy : N y < N x := by have := ly.1; have : N y ≠ INFN := fun q => iy (ly.2.mp q); omega
      have m := gt.mp wy
      simp only [ix, iy, if_true, if_false]
      unfold Z
      cases hs : x.sign <;> cases ht : y.sign <;> simp <;> (repeat' split) <;> omega
  · have wx : N x < INFN := by have := lx.1; have : N x ≠ INFN := fun q => ix (lx.2.mp q); omega
    by_cases iy : E.kind y = .infinite
    · have wy := ly.2.mpr iy
      have m := lt.mp (by omega)
      simp only [ix, iy, if_true, if_false]
      unfold Z
      cases hs : x.sign <;> cases ht : y.sign <;> simp <;> (repeat' split) <;> omega
    · simp only [ix, iy, if_false]
      simp
/-- the place in order of an end -/
def P (x : Float_) : Int := if x.sign = true then -1 - (N x : Int) else (N x : Int)
theorem notAbove_E {x y : Float_} (hx : Fit x) (hy : Fit y) (ex : isEnd x = true) (ey : isEnd y = true) : notAbove x y = true ↔ P x ≤ P y := by
  have lt := N_lt hx hy ex ey
  have gt := N_lt hy hx ey ex
  have eq := N_eq hx hy ex ey
  have zx : E.kind x = .zero ↔ N x = 0 := by
    rw [zero_iff hx]; unfold N; have := hx.exp; have := hx.frac; split <;> omega
  have mx : M x = 0 ↔ N x = 0 := by
    unfold M N
    have := hx.exp; have := hx.frac
    have e := (isEnd_iff hx).mp ex
    rw [Nat.mul_eq_zero]
    have : 2 ^ (x.exp - 1) ≠ 0 := Nat.ne_of_gt (Nat.two_pow_pos _)
    split <;> omega
  have my : M y = 0 ↔ N y = 0 := by
    unfold M N
    have := hy.exp; have := hy.frac
    have e := (isEnd_iff hy).mp ey
    rw [Nat.mul_eq_zero]
    have : 2 ^ (y.exp - 1) ≠ 0 := Nat.ne_of_gt (Nat.two_pow_pos _)
    split <;> omega
  unfold notAbove
  rw [compared_E hx hy ex ey]
  by_cases c : Z x < Z y
  · rw [if_pos c]
    simp
    unfold Z at c; unfold P
    cases hs : x.sign <;> cases ht : y.sign <;> simp [hs, ht] at c ⊢ <;> omega
  · rw [if_neg c]
    by_cases d : Z x = Z y
    · rw [if_pos d]
      unfold Z at c d; unfold P
      cases hs : x.sign <;> cases ht : y.sign <;> simp [hs, ht, zx] at c d ⊢ <;> omega
    · rw [if_neg d]
      simp
      unfold Z at c d; unfold P
      cases hs : x.sign <;> cases ht : y.sign <;> simp [hs, ht] at c d ⊢ <;> omega
theorem ends_E {x y : Float_} (hx : Fit x) (hy : Fit y) (ex : isEnd x = true) (ey : isEnd y = true) : ends x y = true ↔ (P x ≠ INFN ∧ P y ≠ -1 - (INFN : Int) ∧ P x ≤ P y) := by
  have lx := N_le hx ex
  have ly := N_le hy ey
  unfold ends
  rw [ex, ey]
  simp only [Bool.true_and, Bool.and_eq_true, notAbove_E hx hy ex ey]
  have a : (endOf x != .plus) = true ↔ P x ≠ INFN := by
    unfold endOf P
    by_cases i : E.kind x = .infinite
    · have := lx.2.mpr i
      rw [if_pos i]
      cases hs : x.sign <;> simp <;> omega
    · have : N x ≠ INFN := fun q => i (lx.2.mp q)
      rw [if_neg i]
      cases hs : x.sign <;> simp <;> omega
  have b : (endOf y != .minus) = true ↔ P y ≠ -1 - (INFN : Int) := by
    unfold endOf P
    by_cases i : E.kind y = .infinite
    · have := ly.2.mpr i
      rw [if_pos i]
      cases hs : y.sign <;> simp <;> omega
    · have : N y ≠ INFN := fun q => i (ly.2.mp q)
      rw [if_neg i]
      cases hs : y.sign <;> simp <;> omega
  rw [a, b]
  exact ⟨fun h => ⟨h.2.1, h.2.2, h.1⟩, fun h => ⟨h.2.2, h.1, h.2.1⟩⟩
end Bx
end
section
namespace Bx
open Ew EwIval Wrxtee
/-! ## the program's functions -/
def expo (a : Int) : Int := a % 604462909807314587353088 / 18446744073709551616
def sig (a : Int) : Int := a % 18446744073709551616
def isNumber (a : Int) : Bool := if expo a = 0 then true else if expo a = 32767 then decide (sig a = 9223372036854775808) else decide (9223372036854775808 ≤ sig a)
def madeNormal (a : Int) : Int := if expo a = 0 ∧ 9223372036854775808 ≤ sig a then a + 18446744073709551616 else a
def told (a : Int) : Int := if a = 604462909807314587353088 then 0 else madeNormal a
def place (a : Int) : Int := if 604462909807314587353088 ≤ madeNormal a then 604462909807314587353087 - madeNormal a else madeNormal a
def areEnds (lo hi : Int) : Bool := if lo = 604453686435277732577280 ∨ hi = 1208916596242592319930368 then false else decide (place lo ≤ place hi)
def isInterval (lo hi : Int) : Bool := if lo = 1208921207928610747318272 ∧ hi = 1208921207928610747318272 then true else isNumber lo && (isNumber hi && areEnds lo hi)
abbrev Bits (a : Int) : Prop := 0 ≤ a ∧ a ≤ 1208925819614629174706175
open WrxteeNeutral (fl)
theorem fl_exp {a : Int} (h : Bits a) : ((fl a).exp : Int) = expo a := by
  obtain ⟨h0, h1⟩ := h
  simp only [fl, ofBits, expo]; omega
theorem fl_frac {a : Int} (h : Bits a) : ((fl a).frac : Int) = sig a := by
  obtain ⟨h0, h1⟩ := h
  simp only [fl, ofBits, sig]; omega
theorem fl_sign {a : Int} (h : Bits a) : (fl a).sign = decide (604462909807314587353088 ≤ a) := by
  obtain ⟨h0, h1⟩ := h
  simp only [fl, ofBits]
  exact decide_eq_decide.mpr (by omega)
theorem bits_split {a : Int} (h : Bits a) : a = (if 604462909807314587353088 ≤ a then 604462909807314587353088 else 0) + expo a * 18446744073709551616 + sig a := by
  obtain ⟨h0, h1⟩ := h
  unfold expo sig; split <;> omega
theorem isNumber_E {a : Int} (h : Bits a) : isEnd (fl a) = isNumber a := by
  have e := fl_exp h
  have f := fl_frac h
  rw [Bool.eq_iff_iff, isEnd_iff (fit_fl a)]
  have g := (fit_fl a).exp
  unfold isNumber
  change (fl a).exp < _ at g
  split
  · simp; omega
  · split <;> simp <;> omega
theorem place_P {a : Int} (h : Bits a) (n : isNumber a = true) : place a = P (fl a) := by
  have e := fl_exp h
  have f := fl_frac h
  have s := fl_sign h
  have b := bits_split h
  have g := (fit_fl a).exp
  have g2 := (fit_fl a).frac
  change (fl a).exp < _ at g
  change (fl a).frac < _ at g2
  unfold place P madeNormal N
  rw [s]
  simp only [decide_eq_true_eq]
  rw [← e, ← f]
  rw [← e, ← f] at b
  split at b <;> (repeat' split) <;> omega
theorem empty_E {a : Int} (h : Bits a) : fl a = E.empty ↔ a = 1208921207928610747318272 := by
  constructor
  · intro q
    have e := fl_exp h
    have f := fl_frac h
    have s := fl_sign h
    have b := bits_split h
    rw [q] at e f s
    simp [E, Format.empty, Format.expBits] at e f s
    rw [if_pos s] at b
    omega
  · rintro rfl; decide
theorem P_inf {a : Int} (h : Bits a) (n : isNumber a = true) : (P (fl a) = INFN ↔ a = 604453686435277732577280) ∧ (P (fl a) = -1 - (INFN : Int) ↔ a = 1208916596242592319930368) := by
  rw [← place_P h n]
  unfold isNumber at n
  have b := bits_split h
  obtain ⟨h0, h1⟩ := h
  unfold place madeNormal INFN
  unfold expo sig at *
  split at n
  · repeat' split
    all_goals omega
  · split at n
    · simp at n
      repeat' split
      all_goals omega
    · simp at n
      repeat' split
      all_goals omega
theorem areEnds_E {a b : Int} (ha : Bits a) (hb : Bits b) (na : isNumber a = true) (nb : isNumber b = true) : ends (fl a) (fl b) = areEnds a b := by
  rw [Bool.eq_iff_iff, ends_E (fit_fl a) (fit_fl b) (by rw [← na]; exact isNumber_E ha) (by rw [← nb]; exact isNumber_E hb)]
  have pa := (P_inf ha na).1
  have pb := (P_inf hb nb).2
  have qa := place_P ha na
  have qb := place_P hb nb
  unfold areEnds
  change (P (fl a) ≠ _ ∧ P (fl b) ≠ _ ∧ P (fl a) ≤ P (fl b)) ↔ _
  rw [ne_eq, ne_eq, pa, pb, ← qa, ← qb]
  split <;> simp <;> omega
theorem takes_E {a b : Int} (ha : Bits a) (hb : Bits b) : takes (fl a) (fl b) =
    if a = 1208921207928610747318272 ∧ b = 1208921207928610747318272 then some none else if isInterval a b = true then some (some ⟨fl a, fl b⟩) else none := by
  unfold takes isEmpty
  have e1 := empty_E ha
  have e2 := empty_E hb
  by_cases c : a = 1208921207928610747318272 ∧ b = 1208921207928610747318272
  · rw [if_pos c, if_pos]
    simp only [Bool.and_eq_true, beq_iff_eq]
    exact ⟨e1.mpr c.1, e2.mpr c.2⟩
  · rw [if_neg c, if_neg]
    · congr 1
      rw [eq_iff_iff]
      unfold isInterval
      rw [if_neg c]
      by_cases na : isNumber a = true
      · by_cases nb : isNumber b = true
        · rw [areEnds_E ha hb na nb, na, nb]; simp
        · have : ends (fl a) (fl b) = false := by
            unfold ends; rw [isNumber_E hb]; simp [nb]
          simp [this, nb]
      · have : ends (fl a) (fl b) = false := by
          unfold ends; rw [isNumber_E ha]; simp [na]
        simp [this, na]
    · simp only [Bool.and_eq_true, beq_iff_eq]
      intro q; exact c ⟨e1.mp q.1, e2.mp q.2⟩
end Bx
end
section
namespace Bx
open Ew EwIval Wrxtee
/-! ## an exact size by its multiples of powers of two -/
theorem div_iff {n d r : Nat} (hd : 0 < d) : n / d = r ↔ r * d ≤ n ∧ n < (r + 1) * d := by
  rw [← Nat.le_div_iff_mul_le hd, ← Nat.div_lt_iff_lt_mul hd]; omega
/-- rootOf -/
theorem rootFrom_iff (n : Nat) : ∀ (k r : Nat), r * r ≤ n → n < (r + 2 ^ k) * (r + 2 ^ k) → rootFrom k r n * rootFrom k r n ≤ n ∧ n < (rootFrom k r n + 1) * (rootFrom k r n + 1)
  | 0, r, h1, h2 => by
    simp only [rootFrom]; exact ⟨h1, by simpa using h2⟩
  | k + 1, r, h1, h2 => by
    simp only [rootFrom]
    have e : (2 : Nat) ^ (k + 1) = 2 ^ k + 2 ^ k := by rw [Nat.pow_succ]; omega
    split
    · rename_i c
      refine rootFrom_iff n k (r + 2 ^ k) c ?_
      rw [e] at h2
      rw [Nat.add_assoc]; exact h2
    · rename_i c
      exact rootFrom_iff n k r h1 (by omega)
theorem rootOf_iff (n : Nat) : rootOf n * rootOf n ≤ n ∧ n < (rootOf n + 1) * (rootOf n + 1) := by
  unfold rootOf
  refine rootFrom_iff n _ 0 (by simp) ?_
  rw [Nat.zero_add, ← Nat.pow_add]
  have h := @Nat.lt_log2_self n
  refine Nat.lt_of_lt_of_le h (Nat.pow_le_pow_right (by omega) (by omega))
theorem sq_lt_sq {a b : Nat} (h : a * a < b * b) : a < b := by
  by_cases c : a < b
  · exact c
  · exact absurd (Nat.mul_le_mul (Nat.le_of_not_lt c) (Nat.le_of_not_lt c)) (by omega)
theorem sq_le_sq {a b : Nat} (h : a * a ≤ b * b) : a ≤ b := by
  by_cases c : a ≤ b
  · exact c
  · have : b < a := by omega
    exact absurd (Nat.mul_lt_mul'' this this) (by omega)
/-- m times D against the number: (m 2^k not above x), by whole numbers -/
def G (x : Size) (m : Nat) : Nat := if x.root = true then m * m else m
def D (x : Size) (b : Nat) : Nat := if x.root = true then x.den * 2 ^ (2 * b) else x.den * 2 ^ b
def U (x : Size) (a : Nat) : Nat := if x.root = true then x.num * 2 ^ (2 * a) else x.num * 2 ^ a
theorem D_pos {x : Size} (h : 0 < x.den) (b : Nat) : 0 < D x b := by
  unfold D; split <;> exact Nat.mul_pos h (Nat.two_pow_pos _)
theorem G_lt {x : Size} {m n : Nat} : G x m < G x n ↔ m < n := by
  unfold G; split
  · exact ⟨sq_lt_sq, fun h => Nat.mul_lt_mul'' h h⟩
  · rfl
theorem G_le {x : Size} {m n : Nat} : G x m ≤ G x n ↔ m ≤ n := by
  unfold G; split
  · exact ⟨sq_le_sq, fun h => Nat.mul_le_mul h h⟩
  · rfl
/-- over, brought to any two powers -/
theorem over_any {x : Size} {k : Int} {a b : Nat} (e : k = (b : Int) - a) : (x.over k).1 * D x b = U x a * (x.over k).2 := by
  unfold Size.over D U
  cases hr : x.root
  · simp only [hr]
    by_cases c : 0 ≤ k
    · obtain ⟨n, rfl⟩ := Int.eq_ofNat_of_zero_le c
      have : b = a + n := by omega
      subst this
      simp [Nat.pow_add]
      simp only [Nat.mul_assoc, Nat.mul_comm, Nat.mul_left_comm]
    · obtain ⟨n, hn⟩ : ∃ n : Nat, k = -(n : Int) := ⟨(-k).toNat, by omega⟩
      have : a = b + n := by omega
      subst this
      simp [c]
      have t : (-k).toNat = n := by omega
      rw [t, Nat.pow_add]
      simp only [Nat.mul_assoc, Nat.mul_comm, Nat.mul_left_comm]
  · simp only [hr]
    by_cases c : 0 ≤ k
    · obtain ⟨n, rfl⟩ := Int.eq_ofNat_of_zero_le c
      have : b = a + n := by omega
      subst this
      have t : (2 * (n : Int)).toNat = 2 * n := by omega
      have c2 : 0 ≤ 2 * (n : Int) := by omega
      simp [c2, t, Nat.pow_add, Nat.mul_add]
      simp only [Nat.mul_assoc, Nat.mul_comm, Nat.mul_left_comm]
    · obtain ⟨n, hn⟩ : ∃ n : Nat, k = -(n : Int) := ⟨(-k).toNat, by omega⟩
      have : a = b + n := by omega
      subst this
      have t : (-(2 * k)).toNat = 2 * n := by omega
      have c2 : ¬ 0 ≤ 2 * k := by omega
      simp only [c2, if_true, if_false, t]
      rw [Nat.mul_add 2 b n, Nat.pow_add]
      simp only [Nat.mul_assoc, Nat.mul_comm, Nat.mul_left_comm]
theorem over_pos {x : Size} (h : 0 < x.den) (k : Int) : 0 < (x.over k).2 := by
  unfold Size.over
  simp only
  split <;> split
  · exact Nat.mul_pos h (Nat.two_pow_pos _)
  · exact h
  · exact Nat.mul_pos h (Nat.two_pow_pos _)
  · exact h
/-- cross multiplied -/
theorem cross_le {n d u v r : Nat} (hd : 0 < d) (hv : 0 < v) (e : n * v = u * d) : r * d ≤ n ↔ r * v ≤ u := by
  constructor
  · intro h
    have := Nat.mul_le_mul_right v h
    rw [e, Nat.mul_assoc, Nat.mul_comm d v, ← Nat.mul_assoc] at this
    exact Nat.le_of_mul_le_mul_right this hd
  · intro h
    have := Nat.mul_le_mul_right d h
    rw [← e, Nat.mul_assoc, Nat.mul_comm v d, ← Nat.mul_assoc] at this
    exact Nat.le_of_mul_le_mul_right this hv
theorem cross_lt {n d u v r : Nat} (hd : 0 < d) (hv : 0 < v) (e : n * v = u * d) : n < r * d ↔ u < r * v := by
  rw [← Nat.not_le, ← Nat.not_le, cross_le hd hv e]
theorem cross_eq {n d u v r : Nat} (hd : 0 < d) (hv : 0 < v) (e : n * v = u * d) : r * d = n ↔ r * v = u := by
  constructor
  · rintro rfl
    refine Nat.eq_of_mul_eq_mul_right hd ?_
    rw [← e, Nat.mul_assoc, Nat.mul_assoc, Nat.mul_comm v d]
  · rintro rfl
    refine Nat.eq_of_mul_eq_mul_right hv ?_
    rw [e, Nat.mul_assoc, Nat.mul_assoc, Nat.mul_comm v d]
theorem floorAt_iff {x : Size} (h : 0 < x.den) {k : Int} {a b : Nat} (e : k = (b : Int) - a) (r : Nat) :
    x.floorAt k = r ↔ G x r * D x b ≤ U x a ∧ U x a < G x (r + 1) * D x b := by
  have ov := over_any (x := x) e
  have op := over_pos h k
  have dp := D_pos h b
  rw [← cross_le op dp ov, ← cross_lt op dp ov]
  have q := div_iff (n := (x.over k).1) (r := (x.over k).1 / (x.over k).2) op
  obtain ⟨q1, q2⟩ := q.mp rfl
  unfold Size.floorAt
  simp only
  cases hr : x.root
  · simp [G, hr]
    exact div_iff op
  · simp [G, hr]
    have rt := rootOf_iff ((x.over k).1 / (x.over k).2)
    constructor
    · rintro rfl
      exact ⟨Nat.le_trans (Nat.mul_le_mul_right _ rt.1) q1, Nat.lt_of_lt_of_le q2 (Nat.mul_le_mul_right _ rt.2)⟩
    · rintro ⟨g1, g2⟩
      have h1 : r * r ≤ (x.over k).1 / (x.over k).2 := (Nat.le_div_iff_mul_le op).mpr g1
      have h2 : (x.over k).1 / (x.over k).2 < (r + 1) * (r + 1) := (Nat.div_lt_iff_lt_mul op).mpr g2
      have a1 : r < rootOf ((x.over k).1 / (x.over k).2) + 1 := sq_lt_sq (Nat.lt_of_le_of_lt h1 rt.2)
      have a2 : rootOf ((x.over k).1 / (x.over k).2) < r + 1 := sq_lt_sq (Nat.lt_of_le_of_lt rt.1 h2)
      omega
theorem exactAt_iff {x : Size} (h : 0 < x.den) {k : Int} {a b : Nat} (e : k = (b : Int) - a) :
    x.exactAt k = true ↔ G x (x.floorAt k) * D x b = U x a := by
  have ov := over_any (x := x) e
  have op := over_pos h k
  have dp := D_pos h b
  unfold Size.exactAt
  simp only [beq_iff_eq]
  rw [show (if x.root = true then x.floorAt k * x.floorAt k else x.floorAt k) = G x (x.floorAt k) from rfl]
  exact cross_eq op dp ov
theorem floor_le {x : Size} (h : 0 < x.den) {k : Int} {a b : Nat} (e : k = (b : Int) - a) (r : Nat) : r ≤ x.floorAt k ↔ G x r * D x b ≤ U x a := by
  obtain ⟨f1, f2⟩ := (floorAt_iff h e (x.floorAt k)).mp rfl
  have dp := D_pos h b
  constructor
  · intro q
    exact Nat.le_trans (Nat.mul_le_mul_right _ (G_le.mpr q)) f1
  · intro q
    have : G x r < G x (x.floorAt k + 1) := Nat.lt_of_mul_lt_mul_right (Nat.lt_of_le_of_lt q f2)
    have := G_lt.mp this
    omega
theorem G_shift {x : Size} (r b j : Nat) : G x r * D x (b + j) = G x (r * 2 ^ j) * D x b := by
  unfold G D
  split
  · rw [Nat.mul_add 2 b j, Nat.pow_add, Nat.two_mul j, Nat.pow_add]
    simp only [Nat.mul_assoc, Nat.mul_comm, Nat.mul_left_comm]
  · rw [Nat.pow_add]
    simp only [Nat.mul_assoc, Nat.mul_comm, Nat.mul_left_comm]
/-- a coarser place -/
theorem floor_up {x : Size} (h : 0 < x.den) (k : Int) (j : Nat) : x.floorAt (k + j) = x.floorAt k / 2 ^ j := by
  obtain ⟨a, b, e⟩ : ∃ a b : Nat, k = (b : Int) - a := ⟨(-k).toNat, k.toNat, by omega⟩
  have e2 : k + j = ((b + j : Nat) : Int) - a := by omega
  have key : ∀ r, r ≤ x.floorAt (k + j) ↔ r ≤ x.floorAt k / 2 ^ j := by
    intro r
    rw [floor_le h e2, G_shift, ← floor_le h e, Nat.le_div_iff_mul_le (Nat.two_pow_pos _)]
  have k1 := (key (x.floorAt (k + j))).mp (Nat.le_refl _)
  have k2 := (key (x.floorAt k / 2 ^ j)).mpr (Nat.le_refl _)
  omega
theorem exact_up {x : Size} (h : 0 < x.den) (k : Int) (j : Nat) : x.exactAt (k + j) = true ↔ (x.exactAt k = true ∧ x.floorAt k % 2 ^ j = 0) := by
  obtain ⟨a, b, e⟩ : ∃ a b : Nat, k = (b : Int) - a := ⟨(-k).toNat, k.toNat, by omega⟩
  have e2 : k + j = ((b + j : Nat) : Int) - a := by omega
  rw [exactAt_iff h e2, exactAt_iff h e, G_shift, floor_up h]
  have dp := D_pos h b
  have dm := Nat.div_add_mod (x.floorAt k) (2 ^ j)
  constructor
  · intro q
    have f2 := (floor_le h e (x.floorAt k)).mp (Nat.le_refl _)
    have le : x.floorAt k ≤ x.floorAt k / 2 ^ j * 2 ^ j := by
      rw [← q] at f2
      exact G_le.mp (Nat.le_of_mul_le_mul_right f2 dp)
    have ge := Nat.div_mul_le_self (x.floorAt k) (2 ^ j)
    have eq : x.floorAt k / 2 ^ j * 2 ^ j = x.floorAt k := by omega
    rw [eq] at q
    refine ⟨q, ?_⟩
    rw [Nat.mul_comm] at eq; omega
  · rintro ⟨q1, q2⟩
    have : x.floorAt k / 2 ^ j * 2 ^ j = x.floorAt k := by rw [Nat.mul_comm]; omega
    rw [this]; exact q1
end Bx
end
section
namespace Bx
open Ew EwIval Wrxtee
theorem floor_one {x : Size} (h : 0 < x.den) {t : Int} (ht : x.floorAt t = 1) (s : Int) : 1 ≤ x.floorAt s ↔ s ≤ t := by
  constructor
  · intro q
    by_cases c : s ≤ t
    · exact c
    · obtain ⟨j, hj⟩ : ∃ j : Nat, s = t + (j + 1 : Nat) := ⟨(s - t - 1).toNat, by omega⟩
      rw [hj, floor_up h, ht] at q
      have : 1 / 2 ^ (j + 1) = 0 := Nat.div_eq_of_lt (Nat.one_lt_two_pow (by omega))
      omega
  · intro q
    obtain ⟨j, hj⟩ : ∃ j : Nat, t = s + j := ⟨(t - s).toNat, by omega⟩
    rw [hj, floor_up h] at ht
    by_cases c : 1 ≤ x.floorAt s
    · exact c
    · have : x.floorAt s = 0 := by omega
      rw [this, Nat.zero_div] at ht; omega
theorem G_one (x : Size) : G x 1 = 1 := by unfold G; split <;> rfl
theorem top_eq {x : Size} (hn : 0 < x.num) (h : 0 < x.den) {t : Int} (ht : x.floorAt t = 1) : x.top = t := by
  have f1 := floor_one h ht
  have n1 := Nat.log2_self_le (n := x.num) (by omega)
  have n2 := @Nat.lt_log2_self x.num
  have d1 := Nat.log2_self_le (n := x.den) (by omega)
  have d2 := @Nat.lt_log2_self x.den
  unfold Size.top
  simp only
  generalize hl : Nat.log2 x.num = ln at *
  generalize hm : Nat.log2 x.den = ld at *
  generalize he : (if x.root = true then ((ln : Int) - ld) / 2 else (ln : Int) - ld) = e
  have B1 : e - 2 ≤ t := by
    rw [← f1]
    cases hr : x.root
    · rw [hr] at he; simp at he
      rw [floor_le h (a := ld + 2) (b := ln) (by omega), G_one, Nat.one_mul]
      unfold D U; rw [hr]; simp only [Bool.false_eq_true, if_false]
      calc x.den * 2 ^ ln ≤ 2 ^ (ld + 1) * x.num := Nat.mul_le_mul (Nat.le_of_lt d2) n1
        _ = x.num * 2 ^ (ld + 1) := Nat.mul_comm _ _
        _ ≤ x.num * 2 ^ (ld + 2) := Nat.mul_le_mul_left _ (Nat.pow_le_pow_right (by omega) (by omega))
    · rw [hr] at he; simp at he
      rw [floor_le h (a := ld + 4) (b := (ld + 2 + e).toNat) (by omega), G_one, Nat.one_mul]
      unfold D U; rw [hr]; simp only [if_true]
      calc x.den * 2 ^ (2 * (ld + 2 + e).toNat) ≤ 2 ^ (ld + 1) * 2 ^ (ln + (ld + 4)) := Nat.mul_le_mul (Nat.le_of_lt d2) (Nat.pow_le_pow_right (by omega) (by omega))
        _ = 2 ^ ln * 2 ^ (ld + 1 + (ld + 4)) := by rw [← Nat.pow_add, ← Nat.pow_add]; congr 1; omega
        _ ≤ x.num * 2 ^ (2 * (ld + 4)) := Nat.mul_le_mul n1 (Nat.pow_le_pow_right (by omega) (by omega))
  have B2 : ¬ e + 2 ≤ t := by
    rw [← f1]
    cases hr : x.root
    · rw [hr] at he; simp at he
      rw [floor_le h (a := ld) (b := ln + 2) (by omega), G_one, Nat.one_mul]
      unfold D U; rw [hr]; simp only [Bool.false_eq_true, if_false]
      rw [Nat.not_le]
      calc x.num * 2 ^ ld < 2 ^ (ln + 1) * 2 ^ ld := (Nat.mul_lt_mul_right (Nat.two_pow_pos _)).mpr n2
        _ ≤ 2 ^ (ln + 1) * x.den := Nat.mul_le_mul_left _ d1
        _ = x.den * 2 ^ (ln + 1) := Nat.mul_comm _ _
        _ ≤ x.den * 2 ^ (ln + 2) := Nat.mul_le_mul_left _ (Nat.pow_le_pow_right (by omega) (by omega))
    · rw [hr] at he; simp at he
      rw [floor_le h (a := ld) (b := (ld + 2 + e).toNat) (by omega), G_one, Nat.one_mul]
      unfold D U; rw [hr]; simp only [if_true]
      rw [Nat.not_le]
      calc x.num * 2 ^ (2 * ld) < 2 ^ (ln + 1) * 2 ^ (2 * ld) := (Nat.mul_lt_mul_right (Nat.two_pow_pos _)).mpr n2
        _ = 2 ^ ld * 2 ^ (ln + 1 + ld) := by rw [← Nat.pow_add, ← Nat.pow_add]; congr 1; omega
        _ ≤ x.den * 2 ^ (2 * (ld + 2 + e).toNat) := Nat.mul_le_mul d1 (Nat.pow_le_pow_right (by omega) (by omega))
  simp only [f1]
  repeat' split
  all_goals omega
/-! ## rounded, to bits -/
/-- the bits of a size m 2^k with the format's own k (64 digits), beyond all: what's told -/
def packed (m : Nat) (kk : Int) (over : Nat) : Nat :=
  if m = 18446744073709551616 then (if 16320 ≤ kk then over else (kk + 16447).toNat * 18446744073709551616 + 9223372036854775808)
  else if 16321 ≤ kk then over else if m < 9223372036854775808 then m else (kk + 16446).toNat * 18446744073709551616 + m
def overOf (r : Rounding) (sign : Bool) : Nat := if r = .cut ∨ (r = .down ∧ sign = false) ∨ (r = .up ∧ sign = true) then 604444463063240877801471 else 604453686435277732577280
def signBits (s : Bool) : Nat := if s = true then 604462909807314587353088 else 0
theorem bitsOf_eq (x : Float_) : bitsOf x = signBits x.sign + (x.exp * 18446744073709551616 + x.frac) := rfl
theorem multiple_cases (x : Size) (r : Rounding) (sign : Bool) (k : Int) : x.multiple r sign k = x.floorAt k ∨ x.multiple r sign k = x.floorAt k + 1 := by
  unfold Size.multiple; split <;> omega
theorem log2_of {m k : Nat} (h1 : 2 ^ k ≤ m) (h2 : m < 2 ^ (k + 1)) : Nat.log2 m = k := (Nat.log2_eq_iff (by have := Nat.two_pow_pos k; omega)).mpr ⟨h1, h2⟩
theorem make_E (sign : Bool) (m : Nat) (k : Int) : E.make sign m k = if m = 0 then E.zero sign else
    E.of sign (if max (((Nat.log2 m : Nat) : Int) + k) (-16382) - ((64 : Nat) : Int) + 1 ≤ k then m * 2 ^ (k - (max (((Nat.log2 m : Nat) : Int) + k) (-16382) - ((64 : Nat) : Int) + 1)).toNat
      else m / 2 ^ (max (((Nat.log2 m : Nat) : Int) + k) (-16382) - ((64 : Nat) : Int) + 1 - k).toNat) (max (((Nat.log2 m : Nat) : Int) + k) (-16382) - ((64 : Nat) : Int) + 1) := rfl
theorem of_E (sign : Bool) (m : Nat) (k : Int) : E.of sign m k = ⟨sign, if m < 2 ^ 63 then 0 else (k - (-16382) + ((64 : Nat) : Int)).toNat, m⟩ := rfl
theorem bits_of_E (sign : Bool) (m : Nat) (k : Int) : bitsOf (E.of sign m k) = signBits sign + ((if m < 9223372036854775808 then 0 else (k + 16446).toNat) * 18446744073709551616 + m) := by
  rw [of_E, bitsOf_eq]
  have e : k - (-16382) + ((64 : Nat) : Int) = k + 16446 := by omega
  simp only [e]
/-- make, of a normal one's m -/
theorem make_normal {sign : Bool} {m : Nat} {k : Int} (h1 : 9223372036854775808 ≤ m) (h2 : m < 18446744073709551616) (hk : -16445 ≤ k) :
    bitsOf (E.make sign m k) = signBits sign + ((k + 16446).toNat * 18446744073709551616 + m) := by
  have lg : Nat.log2 m = 63 := log2_of (by simpa using h1) (by simpa using h2)
  rw [make_E, if_neg (by omega), lg]
  have j : (max (((63 : Nat) : Int) + k) (-16382) - ((64 : Nat) : Int) + 1 : Int) = k := by omega
  rw [j, if_pos (Int.le_refl _)]
  have z : (k - k).toNat = 0 := by omega
  rw [z, Nat.pow_zero, Nat.mul_one, bits_of_E, if_neg (by omega)]
theorem make_over {sign : Bool} {k : Int} (hk : -16446 ≤ k) :
    bitsOf (E.make sign 18446744073709551616 k) = signBits sign + ((k + 16447).toNat * 18446744073709551616 + 9223372036854775808) := by
  have lg : Nat.log2 18446744073709551616 = 64 := log2_of (by decide) (by decide)
  rw [make_E, if_neg (by omega), lg]
  have j : (max (((64 : Nat) : Int) + k) (-16382) - ((64 : Nat) : Int) + 1 : Int) = k + 1 := by omega
  rw [j, if_neg (by omega)]
  have z : (k + 1 - k).toNat = 1 := by omega
  have z2 : 18446744073709551616 / 2 ^ 1 = 9223372036854775808 := by decide
  rw [z, z2, bits_of_E, if_neg (by omega)]
  have e : k + 1 + 16446 = k + 16447 := by omega
  rw [e]
theorem make_small {sign : Bool} {m : Nat} (h : m < 9223372036854775808) : bitsOf (E.make sign m (-16445)) = signBits sign + m := by
  rw [make_E]
  by_cases c : m = 0
  · rw [if_pos c, c, bitsOf_eq]; simp [Format.zero]
  · rw [if_neg c]
    have lg : Nat.log2 m < 63 := (Nat.log2_lt c).mpr (by simpa using h)
    have j : (max (((Nat.log2 m : Nat) : Int) + (-16445)) (-16382) - ((64 : Nat) : Int) + 1 : Int) = -16445 := by omega
    rw [j, if_pos (Int.le_refl _)]
    have z : ((-16445 : Int) - (-16445)).toNat = 0 := by decide
    rw [z, Nat.pow_zero, Nat.mul_one, bits_of_E, if_pos h]
    omega
theorem greatest_bits (sign : Bool) : bitsOf (E.make sign (18446744073709551616 - 1) (16383 - ((64 : Nat) : Int) + 1)) = signBits sign + 604444463063240877801471 := by
  rw [make_normal (by decide) (by decide) (by decide)]
  have : (16383 - ((64 : Nat) : Int) + 1 + 16446).toNat * 18446744073709551616 + (18446744073709551616 - 1) = 604444463063240877801471 := by decide
  rw [this]
theorem infinite_bits (sign : Bool) : bitsOf (E.infinite sign) = signBits sign + 604453686435277732577280 := by
  cases sign <;> decide
/-- the finest multiples fill: then the coarser ones go up too -/
theorem goes_up_too {x : Size} (h : 0 < x.den) {r : Rounding} {sign : Bool} {k : Int} (f : x.floorAt (k + 1) = 9223372036854775807) (g : x.floorAt k = 18446744073709551615)
    (u : x.multiple r sign k = 18446744073709551616) : x.multiple r sign (k + 1) = 9223372036854775808 := by
  have up := exact_up h k 1
  unfold Size.multiple at u ⊢
  rw [g] at u
  rw [f]
  have gu : goesUp r sign 18446744073709551615 (x.rest k) = true := by
    by_cases c : goesUp r sign 18446744073709551615 (x.rest k) = true
    · exact c
    · rw [if_neg c] at u; omega
  have nk : x.exactAt k = false := by
    cases q : x.exactAt k
    · rfl
    · unfold Size.rest at gu; rw [q] at gu; simp [goesUp] at gu
  have nk1 : x.exactAt (k + 1) = false := by
    cases q : x.exactAt (k + 1)
    · rfl
    · have := up.mp q; rw [nk] at this; simp at this
  have r3 : x.rest (k + 1) = 3 := by
    unfold Size.rest
    have e : k + 1 - 1 = k := by omega
    rw [nk1, e, g, f, nk]; simp
  have r0 : x.rest k ≠ 0 := by
    intro q; rw [q] at gu; simp [goesUp] at gu
  rw [r3]
  have g3 : goesUp r sign 9223372036854775807 3 = true := by
    unfold goesUp at gu ⊢
    cases r with
    | nearest => rfl
    | down => simp only [Bool.and_eq_true] at gu; rw [gu.2]; rfl
    | up => simp only [Bool.and_eq_true] at gu; rw [gu.2]; rfl
    | cut => simp at gu
  rw [if_pos g3]
theorem rounded_bits {x : Size} (hn : 0 < x.num) (h : 0 < x.den) (r : Rounding) (sign : Bool) {t : Int} (ht : x.floorAt t = 1) :
    bitsOf (E.rounded 64 r sign x).1 = signBits sign + packed (x.multiple r sign (max (t - 63) (-16445))) (max (t - 63) (-16445)) (overOf r sign) := by
  have te := top_eq hn h ht
  have fk : x.floorAt (t - 63) / 2 ^ 63 = 1 := by
    rw [← ht, ← floor_up h]; congr 1; omega
  have b1 : 9223372036854775808 ≤ x.floorAt (t - 63) ∧ x.floorAt (t - 63) < 18446744073709551616 := by
    rw [div_iff (by decide)] at fk; omega
  have mc := multiple_cases x r sign (t - 63)
  unfold Format.rounded
  rw [te]
  have k0 : (t - ((64 : Nat) : Int) + 1) = t - 63 := by omega
  simp only [k0]
  have em : E.emax = 16383 := rfl
  have en : E.emin = -16382 := rfl
  rw [em, en]
  have p64 : (2 : Nat) ^ 64 = 18446744073709551616 := by decide
  rw [p64]
  by_cases lo : t - 63 ≤ -16446
  · -- below the least normal one
    have kk : max (t - 63) (-16445) = -16445 := by omega
    rw [kk]
    have fj : x.floorAt (-16445) < 9223372036854775808 := by
      obtain ⟨j, hj⟩ : ∃ j : Nat, (-16445 : Int) = t - 63 + (j + 1 : Nat) := ⟨(-16445 - (t - 63) - 1).toNat, by omega⟩
      rw [hj, floor_up h, Nat.div_lt_iff_lt_mul (Nat.two_pow_pos _)]
      have : (2 : Nat) ^ (j + 1) ≥ 2 := by rw [Nat.pow_succ]; have := Nat.two_pow_pos j; omega
      have := Nat.mul_le_mul_left 9223372036854775808 this
      omega
    have mj := multiple_cases x r sign (-16445)
    by_cases y : x.multiple r sign (t - 63) = 18446744073709551616
    · simp only [y, if_true]
      rw [if_neg (by omega)]
      by_cases last : t + 1 < -16382
      · rw [if_pos last]
        have e : (-16382 - ((64 : Nat) : Int) + 1) = -16445 := by omega
        simp only [e]
        generalize x.multiple r sign (-16445) = m at mj ⊢
        by_cases c : m < 9223372036854775808
        · rw [make_small c]; unfold packed; rw [if_neg (by omega), if_neg (by omega), if_pos c]
        · rw [make_normal (by omega) (by omega) (by omega)]; unfold packed; rw [if_neg (by omega), if_neg (by omega), if_neg c]
      · rw [if_neg last]
        simp only
        rw [make_over (by omega)]
        have tt : t - 63 = -16446 := by omega
        have e1 : (-16445 : Int) = (t - 63) + 1 := by omega
        have g : x.floorAt (t - 63) = 18446744073709551615 := by omega
        have fu : x.floorAt (t - 63 + 1) = 9223372036854775807 := by
          have := floor_up h (t - 63) 1
          rw [g] at this; exact this
        have := goes_up_too h fu g y
        rw [← e1] at this
        rw [this, tt]; rfl
    · simp only [y, if_false]
      rw [if_neg (by omega), if_pos (by omega)]
      have e : (-16382 - ((64 : Nat) : Int) + 1) = -16445 := by omega
      simp only [e]
      generalize x.multiple r sign (-16445) = m at mj ⊢
      by_cases c : m < 9223372036854775808
      · rw [make_small c]; unfold packed; rw [if_neg (by omega), if_neg (by omega), if_pos c]
      · rw [make_normal (by omega) (by omega) (by omega)]; unfold packed; rw [if_neg (by omega), if_neg (by omega), if_neg c]
  · have kk : max (t - 63) (-16445) = t - 63 := by omega
    rw [kk]
    generalize hm : x.multiple r sign (t - 63) = m at mc ⊢
    have e0 : (16383 - ((64 : Nat) : Int) + 1) = 16383 - 64 + 1 := by omega
    have ov : bitsOf (if r = .cut ∨ (r = .down ∧ sign = false) ∨ (r = .up ∧ sign = true) then (E.make sign (18446744073709551616 - 1) (16383 - ((64 : Nat) : Int) + 1), OVER + INEXACT) else (E.infinite sign, OVER + INEXACT + UP)).1 = signBits sign + overOf r sign := by
      unfold overOf
      by_cases c : r = .cut ∨ (r = .down ∧ sign = false) ∨ (r = .up ∧ sign = true)
      · rw [if_pos c, if_pos c]; exact greatest_bits sign
      · rw [if_neg c, if_neg c]; exact infinite_bits sign
    by_cases y : m = 18446744073709551616
    · simp only [y, if_true]
      by_cases big : 16383 < t + 1
      · have pk : packed 18446744073709551616 (t - 63) (overOf r sign) = overOf r sign := by
          unfold packed; rw [if_pos rfl, if_pos (by omega)]
        rw [pk, if_pos big]
        exact ov
      · have pk : packed 18446744073709551616 (t - 63) (overOf r sign) = (t - 63 + 16447).toNat * 18446744073709551616 + 9223372036854775808 := by
          unfold packed; rw [if_pos rfl, if_neg (by omega)]
        rw [pk, if_neg big, if_neg (show ¬ t + 1 < -16382 by omega)]
        exact make_over (by omega)
    · simp only [y, if_false]
      by_cases big : 16383 < t
      · have pk : packed m (t - 63) (overOf r sign) = overOf r sign := by
          unfold packed; rw [if_neg y, if_pos (by omega)]
        rw [pk, if_pos big]
        exact ov
      · have pk : packed m (t - 63) (overOf r sign) = (t - 63 + 16446).toNat * 18446744073709551616 + m := by
          unfold packed; rw [if_neg y, if_neg (by omega), if_neg (by omega)]
        rw [pk, if_neg big, if_neg (show ¬ t < -16382 by omega)]
        exact make_normal (by omega) (by omega) (by omega)
end Bx
end
section
namespace Bx
open Ew EwIval Wrxtee
/-! ## a dyadic number that stands for a size -/
def flo (w : Nat) (p k : Int) : Nat := if p ≤ k then w / 2 ^ (k - p).toNat else w * 2 ^ (p - k).toNat
def exa (w : Nat) (p k : Int) : Prop := k ≤ p ∨ w % 2 ^ (k - p).toNat = 0
instance (w : Nat) (p k : Int) : Decidable (exa w p k) := inferInstanceAs (Decidable (_ ∨ _))
structure Rep (x : Size) (w : Nat) (p : Int) : Prop where
  num : 0 < x.num
  den : 0 < x.den
  pos : 0 < w
  all : ∃ k0 : Int, k0 ≤ p + Nat.log2 w - 63 ∧ ∀ k : Int, k0 ≤ k → x.floorAt k = flo w p k ∧ (x.exactAt k = true ↔ exa w p k)
/-- an exact one: num / den is w 2^p -/
theorem Rep.exact {x : Size} {w : Nat} {p : Int} {a b : Nat} (hr : x.root = false) (hd : 0 < x.den) (hw : 0 < w) (e : p = (a : Int) - b) (h : x.num * 2 ^ b = w * 2 ^ a * x.den) : Rep x w p := by
  have hn : 0 < x.num := by
    have : 0 < x.num * 2 ^ b := by rw [h]; exact Nat.mul_pos (Nat.mul_pos hw (Nat.two_pow_pos _)) hd
    exact Nat.pos_of_mul_pos_right this
  refine ⟨hn, hd, hw, p + Nat.log2 w - 63, Int.le_refl _, ?_⟩
  intro k _
  -- x as the fraction with powers b + c, a + d
  have cross : ∀ (c d : Nat), U x (b + c) * 1 = (w * 2 ^ (a + c)) * x.den := by
    intro c d
    unfold U; rw [hr]; simp only [Bool.false_eq_true, if_false]
    rw [Nat.pow_add, Nat.pow_add, ← Nat.mul_assoc, h, Nat.mul_one]
    simp only [Nat.mul_assoc, Nat.mul_comm, Nat.mul_left_comm]
  have fl : x.floorAt k = flo w p k := by
    unfold flo
    by_cases c : p ≤ k
    · rw [if_pos c]
      obtain ⟨n, hn⟩ : ∃ n : Nat, k = p + n := ⟨(k - p).toNat, by omega⟩
      have t : (k - p).toNat = n := by omega
      rw [t, floorAt_iff hd (a := b) (b := a + n) (by omega)]
      have q := (div_iff (n := w) (r := w / 2 ^ n) (Nat.two_pow_pos n)).mp rfl
      unfold G D U; rw [hr]; simp only [Bool.false_eq_true, if_false]
      rw [h]
      constructor
      · calc w / 2 ^ n * (x.den * 2 ^ (a + n)) = (w / 2 ^ n * 2 ^ n) * (2 ^ a * x.den) := by
              rw [Nat.pow_add]; simp only [Nat.mul_assoc, Nat.mul_comm, Nat.mul_left_comm]
          _ ≤ w * (2 ^ a * x.den) := Nat.mul_le_mul_right _ q.1
          _ = w * 2 ^ a * x.den := by rw [Nat.mul_assoc]
      · calc w * 2 ^ a * x.den = w * (2 ^ a * x.den) := by rw [Nat.mul_assoc]
          _ < (w / 2 ^ n + 1) * 2 ^ n * (2 ^ a * x.den) := (Nat.mul_lt_mul_right (Nat.mul_pos (Nat.two_pow_pos _) hd)).mpr q.2
          _ = (w / 2 ^ n + 1) * (x.den * 2 ^ (a + n)) := by
              rw [Nat.pow_add]; simp only [Nat.mul_assoc, Nat.mul_comm, Nat.mul_left_comm]
    · rw [if_neg c]
      obtain ⟨n, hn⟩ : ∃ n : Nat, k = p - n := ⟨(p - k).toNat, by omega⟩
      have t : (p - k).toNat = n := by omega
      rw [t, floorAt_iff hd (a := b + n) (b := a) (by omega)]
      unfold G D U; rw [hr]; simp only [Bool.false_eq_true, if_false]
      have e1 : x.num * 2 ^ (b + n) = w * 2 ^ n * (x.den * 2 ^ a) := by
        rw [Nat.pow_add, ← Nat.mul_assoc, h]; simp only [Nat.mul_assoc, Nat.mul_comm, Nat.mul_left_comm]
      rw [e1]
      have dp : 0 < x.den * 2 ^ a := Nat.mul_pos hd (Nat.two_pow_pos _)
      exact ⟨Nat.le_refl _, (Nat.mul_lt_mul_right dp).mpr (by omega)⟩
  refine ⟨fl, ?_⟩
  by_cases c : p ≤ k
  · obtain ⟨n, hn⟩ : ∃ n : Nat, k = p + n := ⟨(k - p).toNat, by omega⟩
    have t : (k - p).toNat = n := by omega
    rw [exactAt_iff hd (a := b) (b := a + n) (by omega), fl]
    unfold flo exa; rw [if_pos c, t]
    unfold G D U; rw [hr]; simp only [Bool.false_eq_true, if_false]
    rw [h]
    have dp : 0 < 2 ^ a * x.den := Nat.mul_pos (Nat.two_pow_pos _) hd
    have e1 : w / 2 ^ n * (x.den * 2 ^ (a + n)) = (w / 2 ^ n * 2 ^ n) * (2 ^ a * x.den) := by
      rw [Nat.pow_add]; simp only [Nat.mul_assoc, Nat.mul_comm, Nat.mul_left_comm]
    rw [e1, Nat.mul_assoc w]
    have dm := Nat.div_add_mod w (2 ^ n)
    rw [Nat.mul_comm (2 ^ n)] at dm
    constructor
    · intro q
      have := Nat.eq_of_mul_eq_mul_right dp q
      right; omega
    · intro q
      have : w % 2 ^ n = 0 := by
        rcases q with q | q
        · have : n = 0 := by omega
          subst this; simp; omega
        · exact q
      have : w / 2 ^ n * 2 ^ n = w := by omega
      rw [this]
  · obtain ⟨n, hn⟩ : ∃ n : Nat, k = p - n := ⟨(p - k).toNat, by omega⟩
    have t : (p - k).toNat = n := by omega
    rw [exactAt_iff hd (a := b + n) (b := a) (by omega), fl]
    unfold flo exa; rw [if_neg c, t]
    unfold G D U; rw [hr]; simp only [Bool.false_eq_true, if_false]
    constructor
    · intro _; left; omega
    · intro _
      rw [Nat.pow_add, ← Nat.mul_assoc x.num, h]; simp only [Nat.mul_assoc, Nat.mul_comm, Nat.mul_left_comm]
/-- one with a digit that says whether something is left -/
theorem Rep.sticky {x : Size} {w : Nat} {p : Int} (hn : 0 < x.num) (hd : 0 < x.den) (hw : 9223372036854775808 ≤ w) (s : Nat) (f : x.floorAt p = w) (e : s = 0 ∧ x.exactAt p = true ∨ s = 1 ∧ x.exactAt p = false) :
    Rep x (2 * w + s) (p - 1) := by
  have lg : Nat.log2 (2 * w + s) ≥ 64 := (Nat.le_log2 (by omega)).mpr (by simp; omega)
  refine ⟨hn, hd, by omega, p, by omega, ?_⟩
  intro k hk
  obtain ⟨j, hj⟩ : ∃ j : Nat, k = p + j := ⟨(k - p).toNat, by omega⟩
  subst hj
  have t : (p + (j : Int) - (p - 1)).toNat = j + 1 := by omega
  unfold flo exa
  rw [if_pos (by omega), t, floor_up hd, exact_up hd, f]
  have pp := Nat.two_pow_pos j
  have p2 : (2 : Nat) ^ (j + 1) = 2 * 2 ^ j := by rw [Nat.pow_succ, Nat.mul_comm]
  constructor
  · rw [p2, ← Nat.div_div_eq_div_mul]
    congr 1
    omega
  · rw [p2, Nat.mod_mul]
    have d2 : (2 * w + s) / 2 = w := by omega
    rw [d2]
    rcases e with ⟨rfl, e⟩ | ⟨rfl, e⟩
    · rw [e]; simp; omega
    · rw [e]; simp; omega
theorem flo_top {w : Nat} {p : Int} (hw : 0 < w) : flo w p (p + Nat.log2 w) = 1 := by
  unfold flo
  rw [if_pos (by omega)]
  have t : (p + (Nat.log2 w : Int) - p).toNat = Nat.log2 w := by omega
  rw [t, div_iff (Nat.two_pow_pos _)]
  have h1 := Nat.log2_self_le (n := w) (by omega)
  have h2 := @Nat.lt_log2_self w
  rw [Nat.pow_succ] at h2
  omega
/-- outward of down, up -/
def outw (r : Rounding) (sign : Bool) : Bool := (r == .down && sign) || (r == .up && !sign)
def sizeBeside (w : Nat) (p : Int) (out : Bool) : Nat :=
  packed (flo w p (max (p + Nat.log2 w - 63) (-16445)) + if out = true ∧ ¬ exa w p (max (p + Nat.log2 w - 63) (-16445)) then 1 else 0) (max (p + Nat.log2 w - 63) (-16445))
    (if out = true then 604453686435277732577280 else 604444463063240877801471)
theorem Rep.rounded {x : Size} {w : Nat} {p : Int} (R : Rep x w p) {r : Rounding} (hr : r = .down ∨ r = .up) (sign : Bool) :
    bitsOf (E.rounded 64 r sign x).1 = signBits sign + sizeBeside w p (outw r sign) := by
  obtain ⟨hn, hd, hw, k0, hk, all⟩ := R
  have tt := (all (p + Nat.log2 w) (by omega)).1
  rw [flo_top hw] at tt
  rw [rounded_bits hn hd r sign tt]
  unfold sizeBeside
  obtain ⟨f, e⟩ := all (max (p + Nat.log2 w - 63) (-16445)) (by omega)
  generalize max (p + Nat.log2 w - 63) (-16445) = kk at *
  congr 2
  · unfold Size.multiple
    rw [f]
    congr 1
    have rest : x.rest kk = 0 ↔ exa w p kk := by
      rw [← e]; unfold Size.rest
      by_cases c : x.exactAt kk = true
      · rw [if_pos c]; simp [c]
      · rw [if_neg c]; simp [c]; split
        · simp
        · split <;> simp
    unfold goesUp outw
    rcases hr with rfl | rfl <;> cases sign <;> simp [rest]
  · unfold overOf outw
    rcases hr with rfl | rfl <;> cases sign <;> simp
end Bx
end
section
namespace Bx
open Ew EwIval Wrxtee
open WrxteeNeutral (fl)
theorem make_sign (f : Format) (s : Bool) (m : Nat) (k : Int) : (f.make s m k).sign = s := by
  unfold Format.make; split <;> rfl
theorem rounded_sign (f : Format) (q : Nat) (r : Rounding) (s : Bool) (x : Size) : (f.rounded q r s x).1.sign = s := by
  unfold Format.rounded
  simp only
  repeat' split
  all_goals first | exact make_sign _ _ _ _ | rfl
theorem kind_zero (x : Float_) : E.kind x = .zero ↔ x.exp * 18446744073709551616 + x.frac = 0 := by
  rw [kind_E]
  by_cases e0 : x.exp = 0
  · rw [if_pos e0]
    by_cases j : 9223372036854775808 ≤ x.frac
    · rw [if_pos j]; simp; omega
    · rw [if_neg j]
      by_cases r : x.frac % 9223372036854775808 = 0
      · rw [if_pos r]; simp; omega
      · rw [if_neg r]; simp; omega
  · rw [if_neg e0]
    constructor
    · intro q; exfalso; revert q
      split
      · exact nofun
      · split
        · exact nofun
        · split
          · exact nofun
          · split <;> exact nofun
    · omega
theorem plain_bits {y : Float_} {s : Bool} {B : Nat} (hs : y.sign = s) (h : bitsOf y = signBits s + B) : bitsOf (plain y) = if B = 0 then 0 else signBits s + B := by
  have : y.exp * 18446744073709551616 + y.frac = B := by
    rw [bitsOf_eq, hs] at h; omega
  unfold plain
  have kz := kind_zero y
  rw [this] at kz
  by_cases c : B = 0
  · rw [if_pos (kz.mpr c), if_pos c]; rfl
  · rw [if_neg (fun q => c (kz.mp q)), if_neg c, h]
theorem two_mul_pow {k : Int} {a b : Nat} (e : k = (a : Int) - b) : Ew.two k * ((2 ^ b : Nat) : Rat) = ((2 ^ a : Nat) : Rat) := by
  rw [← two_nat, ← two_nat, ← two_add]; congr 1; omega
/-- a fraction that's z 2^k, as a size -/
theorem rat_rep {q : Rat} {z : Int} {k : Int} (h : q = (z : Rat) * Ew.two k) (hz : z ≠ 0) : Rep ⟨q.num.natAbs, q.den, false⟩ z.natAbs k := by
  obtain ⟨a, b, e⟩ : ∃ a b : Nat, k = (a : Int) - b := ⟨k.toNat, (-k).toNat, by omega⟩
  refine Rep.exact (a := a) (b := b) rfl q.den_pos (Int.natAbs_pos.mpr hz) e ?_
  show q.num.natAbs * 2 ^ b = z.natAbs * 2 ^ a * q.den
  have h1 : (q.num : Rat) = q * (q.den : Rat) := by
    have : q = (q.num : Rat) / (q.den : Rat) := by
      rw [← Rat.mkRat_eq_div, Rat.mkRat_self]
    have hd : (q.den : Rat) ≠ 0 := by
      have := q.den_pos
      exact fun c => by
        have : (0 : Rat) < (q.den : Rat) := Rat.natCast_pos.mpr q.den_pos
        rw [c] at this; exact Rat.lt_irrefl this
    calc (q.num : Rat) = (q.num : Rat) / (q.den : Rat) * (q.den : Rat) := (Rat.div_mul_cancel hd).symm
      _ = q * (q.den : Rat) := by rw [← this]
  have h2 : ((q.num * ((2 ^ b : Nat) : Int) : Int) : Rat) = ((z * ((2 ^ a : Nat) : Int) * (q.den : Int) : Int) : Rat) := by
    rw [Rat.intCast_mul, Rat.intCast_mul, Rat.intCast_mul, Rat.intCast_natCast, Rat.intCast_natCast, Rat.intCast_natCast, h1, ← two_mul_pow e]
    generalize (q.den : Rat) = d
    generalize ((2 ^ b : Nat) : Rat) = u
    rw [h]
    generalize Ew.two k = v
    grind
  have h3 : q.num * ((2 ^ b : Nat) : Int) = z * ((2 ^ a : Nat) : Int) * (q.den : Int) := Rat.intCast_inj.mp h2
  have h4 := congrArg Int.natAbs h3
  rw [Int.natAbs_mul, Int.natAbs_mul, Int.natAbs_mul] at h4
  simpa using h4
theorem Rep.rounded_exact {x : Size} {w : Nat} {p : Int} (R : Rep x w p) (r : Rounding) (sign : Bool) (ex : exa w p (max (p + Nat.log2 w - 63) (-16445))) :
    bitsOf (E.rounded 64 r sign x).1 = signBits sign + packed (flo w p (max (p + Nat.log2 w - 63) (-16445))) (max (p + Nat.log2 w - 63) (-16445)) (overOf r sign) := by
  obtain ⟨hn, hd, hw, k0, hk, all⟩ := R
  have tt := (all (p + Nat.log2 w) (by omega)).1
  rw [flo_top hw] at tt
  rw [rounded_bits hn hd r sign tt]
  obtain ⟨f, e⟩ := all (max (p + Nat.log2 w - 63) (-16445)) (by omega)
  generalize max (p + Nat.log2 w - 63) (-16445) = kk at *
  congr 2
  unfold Size.multiple
  rw [f]
  have rest : x.rest kk = 0 := by
    unfold Size.rest; rw [if_pos (e.mpr ex)]
  rw [rest]
  unfold goesUp
  simp
theorem two_ne (k : Int) : Ew.two k ≠ 0 := fun c => by have := two_pos k; rw [c] at this; exact Rat.lt_irrefl this
theorem int_two_zero {z k : Int} : (z : Rat) * Ew.two k = 0 ↔ z = 0 := by
  rw [Rat.mul_eq_zero]
  constructor
  · rintro (h | h)
    · exact Rat.intCast_inj.mp (h.trans Rat.intCast_zero.symm)
    · exact absurd h (two_ne k)
  · rintro rfl; left; rfl
theorem int_two_neg {z k : Int} : (z : Rat) * Ew.two k < 0 ↔ z < 0 := by
  rw [Rat.mul_neg_iff_of_pos_right (two_pos k), ← Rat.intCast_lt_intCast]; rfl
/-- an end by its exponent as a normal one's -/
theorem end_norm {z : Float_} (hz : Fit z) (ez : isEnd z = true) (fin : E.kind z ≠ .infinite) :
    ∃ e, e < 32767 ∧ N z = e * 18446744073709551616 + z.frac ∧ M z = z.frac * 2 ^ (e - 1) ∧ (e = 0 → z.frac < 9223372036854775808) ∧ (0 < e → 9223372036854775808 ≤ z.frac) := by
  rw [isEnd_iff hz] at ez
  rw [Ne, inf_iff hz] at fin
  have := hz.frac
  by_cases c : z.exp = 0 ∧ 9223372036854775808 ≤ z.frac
  · refine ⟨1, by omega, ?_, ?_, ?_, ?_⟩
    · unfold N; rw [if_pos c]; omega
    · unfold M; rw [c.1]
    · omega
    · omega
  · refine ⟨z.exp, by omega, ?_, ?_, ?_, ?_⟩
    · unfold N; rw [if_neg c]
    · rfl
    · omega
    · omega
theorem packed_M {z : Float_} (hz : Fit z) (ez : isEnd z = true) (fin : E.kind z ≠ .infinite) (nz : M z ≠ 0) (over : Nat) :
    exa (M z) (-16445) (max (-16445 + Nat.log2 (M z) - 63) (-16445)) ∧
    packed (flo (M z) (-16445) (max (-16445 + Nat.log2 (M z) - 63) (-16445))) (max (-16445 + Nat.log2 (M z) - 63) (-16445)) over = N z := by
  obtain ⟨e, he, hn, hm, l, g⟩ := end_norm hz ez fin
  have ff := hz.frac
  by_cases c : e = 0
  · subst c
    have m0 : M z = z.frac := by rw [hm]; simp
    have lg : Nat.log2 (M z) < 63 := (Nat.log2_lt nz).mpr (by rw [m0]; simpa using l rfl)
    have kk : max (-16445 + (Nat.log2 (M z) : Int) - 63) (-16445) = -16445 := by omega
    rw [kk]
    refine ⟨.inl (Int.le_refl _), ?_⟩
    have fo : flo (M z) (-16445) (-16445) = z.frac := by
      unfold flo; rw [if_pos (Int.le_refl _), m0]; simp
    rw [fo, hn]
    unfold packed
    have := l rfl
    rw [if_neg (by omega), if_neg (by omega), if_pos this]; omega
  · have g1 := g (by omega)
    have lg : Nat.log2 (M z) = 63 + (e - 1) := by
      refine log2_of ?_ ?_
      · rw [hm, Nat.pow_add]; exact Nat.mul_le_mul_right _ g1
      · rw [hm, show 63 + (e - 1) + 1 = 64 + (e - 1) by omega, Nat.pow_add]
        exact (Nat.mul_lt_mul_right (Nat.two_pow_pos _)).mpr ff
    have kk : max (-16445 + (Nat.log2 (M z) : Int) - 63) (-16445) = -16445 + ((e - 1 : Nat) : Int) := by omega
    rw [kk]
    have t : (-16445 + ((e - 1 : Nat) : Int) - -16445).toNat = e - 1 := by omega
    have fo : flo (M z) (-16445) (-16445 + ((e - 1 : Nat) : Int)) = z.frac := by
      unfold flo; rw [if_pos (by omega), t, hm]; exact Nat.mul_div_cancel _ (Nat.two_pow_pos _)
    refine ⟨.inr ?_, ?_⟩
    · rw [t, hm]; exact Nat.mul_mod_left _ _
    · rw [fo, hn]
      unfold packed
      have : (-16445 + ((e - 1 : Nat) : Int) + 16446).toNat = e := by omega
      rw [if_neg (by omega), if_neg (by omega), if_neg (by omega), this]
theorem Z_sign (x : Float_) (h : M x ≠ 0) : decide (Z x < 0) = x.sign := by
  unfold Z
  cases x.sign <;> simp <;> omega
theorem Z_zero (x : Float_) : Z x = 0 ↔ M x = 0 := by unfold Z; split <;> omega
theorem M_zero {x : Float_} (hx : Fit x) (ex : isEnd x = true) : M x = 0 ↔ N x = 0 := by
  unfold M N
  have := hx.exp; have := hx.frac
  have e := (isEnd_iff hx).mp ex
  rw [Nat.mul_eq_zero]
  have : 2 ^ (x.exp - 1) ≠ 0 := Nat.ne_of_gt (Nat.two_pow_pos _)
  split <;> omega
theorem endTold_bits {x : Float_} (hx : Fit x) (ex : isEnd x = true) : bitsOf (endTold x) = if N x = 0 then 0 else signBits x.sign + N x := by
  have mz := M_zero hx ex
  unfold endTold
  by_cases i : E.kind x = .infinite
  · rw [if_pos i]
    have n := (N_le hx ex).2.mpr i
    rw [if_neg (by rw [n]; decide), bitsOf_eq, n]
    rw [inf_iff hx] at i
    rw [i.1, i.2]; rfl
  · rw [if_neg i]
    unfold Format.ofRat
    rw [value_E]
    by_cases c : Z x = 0
    · rw [if_pos (int_two_zero.mpr c), if_pos (mz.mp ((Z_zero x).mp c))]
      have := plain_bits (y := E.zero x.sign) (s := x.sign) (B := 0) rfl (by rw [bitsOf_eq]; simp [Format.zero])
      exact this
    · rw [if_neg (fun q => c (int_two_zero.mp q))]
      have nm : M x ≠ 0 := fun q => c ((Z_zero x).mpr q)
      have R := rat_rep (q := (Z x : Rat) * Ew.two (-16445)) rfl c
      have ab : (Z x).natAbs = M x := by unfold Z; split <;> omega
      rw [ab] at R
      have sg : decide ((Z x : Rat) * Ew.two (-16445) < 0) = x.sign := by
        rw [← Z_sign x nm]; exact decide_eq_decide.mpr int_two_neg
      rw [sg]
      obtain ⟨pe, pp⟩ := packed_M hx ex i nm (overOf .nearest x.sign)
      have := R.rounded_exact .nearest x.sign pe
      rw [pp] at this
      exact plain_bits (rounded_sign _ _ _ _ _) this
theorem told_E {a : Int} (h : Bits a) (n : isNumber a = true) : (bitsOf (endTold (fl a)) : Int) = told a := by
  have ee : isEnd (fl a) = true := by rw [isNumber_E h]; exact n
  rw [endTold_bits (fit_fl a) ee]
  have e := fl_exp h
  have f := fl_frac h
  have s := fl_sign h
  have b := bits_split h
  have g := (fit_fl a).exp
  have g2 := (fit_fl a).frac
  unfold told madeNormal N signBits
  rw [s]
  simp only [decide_eq_true_eq]
  rw [← e, ← f]
  rw [← e, ← f] at b
  split at b <;> (repeat' split) <;> omega
/-- make -/
def make (lo hi : Int) : List Int := if (isNumber lo && isNumber hi) = false then [-2] else if areEnds lo hi = false then [-5] else [0, told lo, told hi]
end Bx
end
section
namespace Bx
open Ew EwIval Wrxtee
open WrxteeNeutral (fl)
/-! ## the program's values -/
structure Val where
  whole : Int
  power : Int
  inf : Bool
/-- what a value stands for -/
def Stands (v : Val) : End → Prop
  | .minus => v.inf = true ∧ v.whole < 0
  | .plus => v.inf = true ∧ 0 < v.whole
  | .num q => (v.whole = 0 ∧ q = 0) ∨ (v.inf = false ∧ v.whole ≠ 0 ∧ q ≠ 0 ∧ (v.whole < 0 ↔ q < 0) ∧ Rep ⟨q.num.natAbs, q.den, false⟩ v.whole.natAbs v.power)
  | .root q => v.inf = false ∧ 0 < v.whole ∧ 0 < q ∧ Rep ⟨q.num.natAbs, q.den, true⟩ v.whole.natAbs v.power
theorem Stands.exact (w p : Int) : Stands ⟨w, p, false⟩ (.num ((w : Rat) * Ew.two p)) := by
  by_cases c : w = 0
  · left; exact ⟨c, int_two_zero.mpr c⟩
  · right
    exact ⟨rfl, c, fun q => c (int_two_zero.mp q), int_two_neg.symm, rat_rep rfl c⟩
def lowEnd (v : Val) : Int := if v.whole = 0 then 0 else if v.inf = true then (if 0 < v.whole then 604453686435277732577280 else 1208916596242592319930368)
  else if 0 < v.whole then (sizeBeside v.whole.toNat v.power false : Int) else 604462909807314587353088 + (sizeBeside (-v.whole).toNat v.power true : Int)
def turned (b : Int) : Int := if 604462909807314587353088 ≤ b then b - 604462909807314587353088 else b + 604462909807314587353088
def opposite (b : Int) : Int := told (turned b)
def highEnd (v : Val) : Int := opposite (lowEnd ⟨-v.whole, v.power, v.inf⟩)
/-- a size as it's told -/
def SizeBits (n : Nat) : Prop := n < 9223372036854775808 ∨ (18446744073709551616 ≤ n ∧ 9223372036854775808 ≤ n % 18446744073709551616 ∧ n ≤ 604453686435277732577280)
theorem packed_norm {m : Nat} {kk : Int} {over : Nat} (hm : m ≤ 18446744073709551616) (hk : -16445 ≤ kk) (ho : over = 604453686435277732577280 ∨ over = 604444463063240877801471) : SizeBits (packed m kk over) := by
  have so : SizeBits over := by
    rcases ho with rfl | rfl <;> (right; decide)
  unfold packed
  by_cases y : m = 18446744073709551616
  · rw [if_pos y]
    by_cases b : 16320 ≤ kk
    · rw [if_pos b]; exact so
    · rw [if_neg b]; right; omega
  · rw [if_neg y]
    by_cases b : 16321 ≤ kk
    · rw [if_pos b]; exact so
    · rw [if_neg b]
      by_cases c : m < 9223372036854775808
      · rw [if_pos c]; left; exact c
      · rw [if_neg c]; right; omega
theorem flo_lt {w : Nat} {p : Int} (hw : 0 < w) : flo w p (max (p + Nat.log2 w - 63) (-16445)) < 18446744073709551616 := by
  have h2 := @Nat.lt_log2_self w
  generalize hk : max (p + (Nat.log2 w : Int) - 63) (-16445) = kk
  unfold flo
  split
  · rw [Nat.div_lt_iff_lt_mul (Nat.two_pow_pos _)]
    refine Nat.lt_of_lt_of_le h2 ?_
    rw [show 18446744073709551616 = 2 ^ 64 by decide, ← Nat.pow_add]
    exact Nat.pow_le_pow_right (by omega) (by omega)
  · have e : 18446744073709551616 = 2 ^ (64 - (p - kk).toNat) * 2 ^ (p - kk).toNat := by
      rw [← Nat.pow_add, show 64 - (p - kk).toNat + (p - kk).toNat = 64 by omega]
    rw [e]
    refine (Nat.mul_lt_mul_right (Nat.two_pow_pos _)).mpr ?_
    exact Nat.lt_of_lt_of_le h2 (Nat.pow_le_pow_right (by omega) (by omega))
theorem beside_bits {w : Nat} {p : Int} (hw : 0 < w) (out : Bool) : SizeBits (sizeBeside w p out) := by
  have := flo_lt (p := p) hw
  unfold sizeBeside
  refine packed_norm ?_ (by omega) (by cases out <;> simp)
  split <;> omega
theorem packed_pos {m : Nat} {kk : Int} {over : Nat} (hm : 0 < m) (ho : 0 < over) : 0 < packed m kk over := by
  unfold packed; repeat' split
  all_goals omega
theorem beside_pos {w : Nat} {p : Int} (hw : 0 < w) : 0 < sizeBeside w p true := by
  unfold sizeBeside
  generalize max (p + (Nat.log2 w : Int) - 63) (-16445) = kk
  refine packed_pos ?_ (by simp)
  by_cases c : exa w p kk
  · have : 0 < flo w p kk := by
      unfold flo
      split
      · rename_i le
        rcases c with c | c
        · have : (kk - p).toNat = 0 := by omega
          rw [this]; simpa using hw
        · have := Nat.div_add_mod w (2 ^ (kk - p).toNat)
          rw [c] at this
          by_cases z : w / 2 ^ (kk - p).toNat = 0
          · rw [z] at this; omega
          · exact Nat.pos_of_ne_zero z
      · exact Nat.mul_pos hw (Nat.two_pow_pos _)
    omega
  · rw [if_pos ⟨rfl, c⟩]; omega
theorem told_size {n : Nat} (h : SizeBits n) : told (n : Int) = n ∧ (0 < n → told ((n : Int) + 604462909807314587353088) = n + 604462909807314587353088) ∧ turned ((n : Int)) = n + 604462909807314587353088 ∧ turned ((n : Int) + 604462909807314587353088) = n := by
  unfold told madeNormal turned expo sig
  unfold SizeBits at h
  refine ⟨?_, ?_, ?_, ?_⟩
  · repeat' split
    all_goals omega
  · intro _
    repeat' split
    all_goals omega
  · split <;> omega
  · split <;> omega
theorem opp_size {n : Nat} (h : SizeBits n) : opposite ((n : Int) + 604462909807314587353088) = n ∧ opposite (n : Int) = if n = 0 then 0 else (n : Int) + 604462909807314587353088 := by
  obtain ⟨h1, h2, h3, h4⟩ := told_size h
  unfold opposite
  rw [h3, h4]
  refine ⟨h1, ?_⟩
  by_cases c : n = 0
  · rw [if_pos c, c]; decide
  · rw [if_neg c]; exact h2 (by omega)
theorem zero_down : bitsOf (downTo (.num 0)) = 0 := by decide
theorem zero_up : bitsOf (upTo (.num 0)) = 0 := by decide
theorem low_ok {v : Val} {e : End} (h : Stands v e) : lowEnd v = (bitsOf (downTo e) : Int) := by
  unfold lowEnd
  cases e with
  | minus =>
    obtain ⟨h1, h2⟩ := h
    rw [if_neg (by omega), if_pos h1, if_neg (by omega)]; rfl
  | plus =>
    obtain ⟨h1, h2⟩ := h
    rw [if_neg (by omega), if_pos h1, if_pos h2]; rfl
  | root q =>
    obtain ⟨h1, h2, h3, R⟩ := h
    rw [if_neg (by omega), h1, if_neg (by simp), if_pos h2]
    unfold downTo
    simp only
    rw [if_neg (by rw [Rat.not_le]; exact h3), R.rounded (.inl rfl)]
    have : v.whole.toNat = v.whole.natAbs := by omega
    have o : outw .down false = false := by decide
    rw [this, o]; simp [signBits]
  | num q =>
    rcases h with ⟨h1, rfl⟩ | ⟨h1, h2, h3, h4, R⟩
    · rw [if_pos h1, zero_down]; rfl
    · rw [if_neg h2, h1, if_neg (by simp)]
      unfold downTo
      simp only
      have rd := R.rounded (r := .down) (.inl rfl) (decide (q < 0))
      have pb := plain_bits (rounded_sign _ _ _ _ _) rd
      unfold Format.ofRat
      rw [if_neg h3, pb]
      by_cases c : 0 < v.whole
      · have nq : ¬ q < 0 := by rw [← h4]; omega
        rw [if_pos c]
        have : v.whole.toNat = v.whole.natAbs := by omega
        rw [this]
        simp only [nq, decide_false]
        have o : outw .down false = false := by decide
        rw [o]
        simp only [signBits]
        split
        · rename_i z; rw [z]
        · simp
      · have nq : q < 0 := by rw [← h4]; omega
        rw [if_neg c]
        have : (-v.whole).toNat = v.whole.natAbs := by omega
        rw [this]
        have pos := beside_pos (w := v.whole.natAbs) (p := v.power) (by omega)
        simp only [nq, decide_true]
        have o : outw .down true = true := by decide
        rw [o, if_neg (by omega)]
        simp [signBits]
theorem high_ok {v : Val} {e : End} (h : Stands v e) : highEnd v = (bitsOf (upTo e) : Int) := by
  unfold highEnd lowEnd
  simp only
  cases e with
  | minus =>
    obtain ⟨h1, h2⟩ := h
    rw [if_neg (by omega), if_pos h1, if_pos (by omega)]; decide
  | plus =>
    obtain ⟨h1, h2⟩ := h
    rw [if_neg (by omega), if_pos h1, if_neg (by omega)]; decide
  | root q =>
    obtain ⟨h1, h2, h3, R⟩ := h
    rw [if_neg (by omega), h1, if_neg (by simp), if_neg (by omega)]
    unfold upTo
    simp only
    rw [if_neg (by rw [Rat.not_le]; exact h3), R.rounded (.inr rfl)]
    have : (- -v.whole).toNat = v.whole.natAbs := by omega
    have o : outw .up false = true := by decide
    rw [this, Int.add_comm, (opp_size (beside_bits (by omega) true)).1, o]
    simp [signBits]
  | num q =>
    rcases h with ⟨h1, rfl⟩ | ⟨h1, h2, h3, h4, R⟩
    · rw [if_pos (by omega), zero_up]; decide
    · rw [if_neg (by omega), h1, if_neg (by simp)]
      unfold upTo
      simp only
      have rd := R.rounded (r := .up) (.inr rfl) (decide (q < 0))
      have pb := plain_bits (rounded_sign _ _ _ _ _) rd
      unfold Format.ofRat
      rw [if_neg h3, pb]
      by_cases c : 0 < v.whole
      · have nq : ¬ q < 0 := by rw [← h4]; omega
        rw [if_neg (by omega)]
        have : (- -v.whole).toNat = v.whole.natAbs := by omega
        rw [this, Int.add_comm, (opp_size (beside_bits (by omega) true)).1]
        have pos := beside_pos (w := v.whole.natAbs) (p := v.power) (by omega)
        simp only [nq, decide_false]
        have o : outw .up false = true := by decide
        rw [o, if_neg (by omega)]
        simp [signBits]
      · have nq : q < 0 := by rw [← h4]; omega
        rw [if_pos (by omega)]
        have : (-v.whole).toNat = v.whole.natAbs := by omega
        rw [this, (opp_size (beside_bits (by omega) false)).2]
        simp only [nq, decide_true]
        have o : outw .up true = false := by decide
        rw [o]
        simp only [signBits]
        split
        · rfl
        · simp; omega
/-! ## what's read off the bits -/
def valueOf (a : Int) : Val := ⟨if 604462909807314587353088 ≤ a then - sig a else sig a, max (expo a) 1 - 16446, decide (expo a = 32767)⟩
theorem value_stands {a : Int} (h : Bits a) (n : isNumber a = true) : Stands (valueOf a) (endOf (fl a)) := by
  have ee : isEnd (fl a) = true := by rw [isNumber_E h]; exact n
  have e := fl_exp h
  have f := fl_frac h
  have s := fl_sign h
  have fit := fit_fl a
  unfold endOf
  by_cases i : E.kind (fl a) = .infinite
  · rw [if_pos i]
    rw [inf_iff fit] at i
    rw [s]
    by_cases c : 604462909807314587353088 ≤ a
    · simp only [c, decide_true, if_true]
      refine ⟨?_, ?_⟩ <;> simp only [valueOf]
      · simp; omega
      · rw [if_pos c]; omega
    · simp only [c, decide_false]
      refine ⟨?_, ?_⟩ <;> simp only [valueOf]
      · simp; omega
      · rw [if_neg c]; omega
  · rw [if_neg i]
    have fin : decide (expo a = 32767) = false := by
      rw [isEnd_iff fit] at ee
      rw [inf_iff fit] at i
      simp; omega
    have v : valueOf a = ⟨if 604462909807314587353088 ≤ a then - sig a else sig a, max (expo a) 1 - 16446, false⟩ := by
      unfold valueOf; rw [fin]
    rw [v]
    have := Stands.exact (if 604462909807314587353088 ≤ a then - sig a else sig a) (max (expo a) 1 - 16446)
    have q : E.value (fl a) = (((if 604462909807314587353088 ≤ a then - sig a else sig a) : Int) : Rat) * Ew.two (max (expo a) 1 - 16446) := by
      unfold Format.value
      have hk : E.k (fl a) = max (expo a) 1 - 16446 := by
        unfold Format.k; simp only [E, Format.emin, Format.emax, Format.p]; omega
      have hm : E.m (fl a) = (fl a).frac := by
        unfold Format.m; simp [E]
      rw [hk, hm, s]
      congr 1
      by_cases c : 604462909807314587353088 ≤ a
      · simp only [c, decide_true, if_true]
        rw [Rat.intCast_neg, ← f, Rat.intCast_natCast]; grind
      · simp only [c, decide_false, if_false]
        rw [← f, Rat.intCast_natCast]; simp
    rw [q]; exact this
end Bx
end
section
namespace Bx
open Ew EwIval Wrxtee
open WrxteeNeutral (fl)
/-! ## told numbers, by a sign and a size -/
/-- a told number -/
def TN (a : Int) : Prop := ∃ n : Nat, SizeBits n ∧ (a = n ∨ (0 < n ∧ a = (n : Int) + 604462909807314587353088))
theorem TN.bits {a : Int} (h : TN a) : Bits a := by
  obtain ⟨n, s, h⟩ := h; unfold SizeBits at s; constructor <;> omega
theorem TN.number {a : Int} (h : TN a) : isNumber a = true := by
  obtain ⟨n, s, h⟩ := h; unfold SizeBits at s
  unfold isNumber expo sig
  repeat' split
  all_goals (try simp only [decide_eq_true_eq])
  all_goals omega
theorem told_TN {a : Int} (h : Bits a) (n : isNumber a = true) : TN (told a) := by
  unfold isNumber at n
  obtain ⟨h0, h1⟩ := h
  refine ⟨(told a % 604462909807314587353088).toNat, ?_, ?_⟩
  · unfold told madeNormal SizeBits
    unfold expo sig at *
    repeat' split
    all_goals (repeat' split at n)
    all_goals (try simp only [decide_eq_true_eq] at n)
    all_goals omega
  · unfold told madeNormal
    unfold expo sig at *
    repeat' split
    all_goals (repeat' split at n)
    all_goals (try simp only [decide_eq_true_eq] at n)
    all_goals omega
/-- the end that bits stand for -/
def en (a : Int) : End := endOf (fl a)
/-- the size's value over the least exponent -/
def MM (n : Nat) : Nat := (n % 18446744073709551616) * 2 ^ (n / 18446744073709551616 - 1)
theorem fl_nat {n : Nat} (s : SizeBits n) : fl (n : Int) = ⟨false, n / 18446744073709551616, n % 18446744073709551616⟩ ∧ fl ((n : Int) + 604462909807314587353088) = ⟨true, n / 18446744073709551616, n % 18446744073709551616⟩ := by
  unfold SizeBits at s
  constructor
  · simp only [fl, ofBits, Float_.mk.injEq]
    refine ⟨?_, by omega, by omega⟩
    simp; omega
  · simp only [fl, ofBits, Float_.mk.injEq]
    refine ⟨?_, by omega, by omega⟩
    simp; omega
theorem en_pos {n : Nat} (s : SizeBits n) : en (n : Int) = if n = 604453686435277732577280 then .plus else .num ((MM n : Rat) * Ew.two (-16445)) := by
  unfold en endOf
  have fit := fit_fl (n : Int)
  rw [(fl_nat s).1] at fit ⊢
  have iff := inf_iff fit
  simp only at iff
  by_cases c : n = 604453686435277732577280
  · rw [if_pos (iff.mpr (by omega)), if_pos c]; rfl
  · rw [if_neg (fun q => c (by have := iff.mp q; omega)), if_neg c, value_E]
    congr 2
theorem en_neg {n : Nat} (s : SizeBits n) : en ((n : Int) + 604462909807314587353088) = if n = 604453686435277732577280 then .minus else .num (-((MM n : Rat) * Ew.two (-16445))) := by
  unfold en endOf
  have fit := fit_fl ((n : Int) + 604462909807314587353088)
  rw [(fl_nat s).2] at fit ⊢
  have iff := inf_iff fit
  simp only at iff
  by_cases c : n = 604453686435277732577280
  · rw [if_pos (iff.mpr (by omega)), if_pos c]; rfl
  · rw [if_neg (fun q => c (by have := iff.mp q; omega)), if_neg c, value_E]
    congr 1
    have : Z ⟨true, n / 18446744073709551616, n % 18446744073709551616⟩ = -(MM n : Int) := rfl
    rw [this, Rat.intCast_neg, Rat.intCast_natCast, Rat.neg_mul]
theorem MM_lt {a b : Nat} (ha : SizeBits a) (hb : SizeBits b) (h : a < b) : MM a < MM b := by
  unfold MM SizeBits at *
  by_cases c : a / 18446744073709551616 = b / 18446744073709551616
  · rw [c]
    exact (Nat.mul_lt_mul_right (Nat.two_pow_pos _)).mpr (by omega)
  · exact pow_step (by omega) (by omega) (by omega) (by omega)
theorem MM_lt_iff {a b : Nat} (ha : SizeBits a) (hb : SizeBits b) : a < b ↔ MM a < MM b := by
  constructor
  · exact MM_lt ha hb
  · intro h
    by_cases c : a < b
    · exact c
    · by_cases d : a = b
      · rw [d] at h; omega
      · have := MM_lt hb ha (by omega); omega
theorem MM_zero {a : Nat} (ha : SizeBits a) : MM a = 0 ↔ a = 0 := by
  have z : SizeBits 0 := by left; decide
  have z0 : MM 0 = 0 := by decide
  have := MM_lt_iff z ha
  omega
theorem place_pos {n : Nat} (s : SizeBits n) : place (n : Int) = n := by
  unfold SizeBits at s; unfold place madeNormal expo sig
  repeat' split
  all_goals omega
theorem place_neg {n : Nat} (s : SizeBits n) : place ((n : Int) + 604462909807314587353088) = -1 - (n : Int) := by
  unfold SizeBits at s; unfold place madeNormal expo sig
  repeat' split
  all_goals omega
theorem mulc_lt {x y : Rat} (c : Int) : x * Ew.two c < y * Ew.two c ↔ x < y := Rat.mul_lt_mul_right (two_pos c)
theorem two_nonneg (c : Int) : 0 ≤ Ew.two c := Rat.le_of_lt (two_pos c)
theorem MMr_nonneg (n : Nat) (c : Int) : 0 ≤ (MM n : Rat) * Ew.two c := Rat.mul_nonneg Rat.natCast_nonneg (two_nonneg c)
theorem MMr_lt {a b : Nat} (ha : SizeBits a) (hb : SizeBits b) (c : Int) : (MM a : Rat) * Ew.two c < (MM b : Rat) * Ew.two c ↔ a < b := by
  rw [mulc_lt, Rat.natCast_lt_natCast, MM_lt_iff ha hb]
theorem MMr_pos {a : Nat} (ha : SizeBits a) (c : Int) : 0 < (MM a : Rat) * Ew.two c ↔ 0 < a := by
  rw [Rat.mul_pos_iff_of_pos_right (two_pos c), Rat.natCast_pos]
  have := MM_zero ha; omega
/-- order of told numbers -/
theorem less_place {a b : Int} (ha : TN a) (hb : TN b) : less (en a) (en b) = true ↔ place a < place b := by
  obtain ⟨n, sn, rfl | ⟨pn, rfl⟩⟩ := ha
  · obtain ⟨m, sm, rfl | ⟨pm, rfl⟩⟩ := hb
    · rw [en_pos sn, en_pos sm, place_pos sn, place_pos sm]
      by_cases c : n = 604453686435277732577280
      · rw [if_pos c]
        have : m ≤ 604453686435277732577280 := by unfold SizeBits at sm; omega
        have z : ∀ e, less .plus e = false := by intro e; cases e <;> rfl
        rw [z]; simp; omega
      · rw [if_neg c]
        have : n ≤ 604453686435277732577280 := by unfold SizeBits at sn; omega
        by_cases d : m = 604453686435277732577280
        · rw [if_pos d]; simp [less]; omega
        · rw [if_neg d]; simp only [less, decide_eq_true_eq]
          rw [MMr_lt sn sm]; omega
    · rw [en_pos sn, en_neg sm, place_pos sn, place_neg sm]
      constructor
      · intro h; exfalso
        by_cases c : n = 604453686435277732577280
        · rw [if_pos c] at h
          have z : ∀ e, less .plus e = false := by intro e; cases e <;> rfl
          rw [z] at h; exact nomatch h
        · rw [if_neg c] at h
          by_cases d : m = 604453686435277732577280
          · rw [if_pos d] at h; exact nomatch h
          · rw [if_neg d] at h
            simp only [less, decide_eq_true_eq] at h
            have h1 := MMr_nonneg n (-16445)
            have h2 := MMr_nonneg m (-16445)
            grind
      · omega
  · obtain ⟨m, sm, rfl | ⟨pm, rfl⟩⟩ := hb
    · rw [en_neg sn, en_pos sm, place_neg sn, place_pos sm]
      constructor
      · omega
      · intro _
        by_cases c : n = 604453686435277732577280
        · rw [if_pos c]
          split <;> rfl
        · rw [if_neg c]
          split
          · rfl
          · simp only [less, decide_eq_true_eq]
            have h1 := (MMr_pos sn (-16445)).mpr pn
            have h2 := MMr_nonneg m (-16445)
            grind
    · rw [en_neg sn, en_neg sm, place_neg sn, place_neg sm]
      by_cases c : n = 604453686435277732577280
      · rw [if_pos c]
        have : m ≤ 604453686435277732577280 := by unfold SizeBits at sm; omega
        by_cases d : m = 604453686435277732577280
        · rw [if_pos d]; simp [less]; omega
        · rw [if_neg d]; simp [less]; omega
      · rw [if_neg c]
        have : n ≤ 604453686435277732577280 := by unfold SizeBits at sn; omega
        by_cases d : m = 604453686435277732577280
        · rw [if_pos d]; simp [less]; omega
        · rw [if_neg d]; simp only [less, decide_eq_true_eq]
          rw [Rat.neg_lt_neg_iff, MMr_lt sm sn]; omega
theorem place_inj {a b : Int} (ha : TN a) (hb : TN b) (h : place a = place b) : a = b := by
  obtain ⟨n, sn, rfl | ⟨pn, rfl⟩⟩ := ha
  · obtain ⟨m, sm, rfl | ⟨pm, rfl⟩⟩ := hb
    · rw [place_pos sn, place_pos sm] at h; exact h
    · rw [place_pos sn, place_neg sm] at h; omega
  · obtain ⟨m, sm, rfl | ⟨pm, rfl⟩⟩ := hb
    · rw [place_neg sn, place_pos sm] at h; omega
    · rw [place_neg sn, place_neg sm] at h; omega
theorem less_irrefl (e : End) : less e e = false := by
  cases e with
  | minus => rfl
  | plus => rfl
  | root q => rfl
  | num q => simp only [less]; rw [decide_eq_false_iff_not]; exact Rat.lt_irrefl
/-- signs -/
theorem sign_place {a : Int} (ha : TN a) : (signOf (en a) < 0 ↔ place a < 0) ∧ (0 < signOf (en a) ↔ 0 < place a) ∧ (signOf (en a) = 0 ↔ a = 0) ∧ (place a = 0 ↔ a = 0) := by
  obtain ⟨n, sn, rfl | ⟨pn, rfl⟩⟩ := ha
  · rw [en_pos sn, place_pos sn]
    by_cases c : n = 604453686435277732577280
    · rw [if_pos c]; subst c; decide
    · rw [if_neg c]; simp only [signOf]
      have h1 := MMr_nonneg n (-16445)
      have h2 := MMr_pos sn (-16445)
      rw [if_neg (by rw [Rat.not_lt]; exact h1)]
      by_cases z : n = 0
      · have : (MM n : Rat) * Ew.two (-16445) = 0 := by
          rw [z]; exact Rat.zero_mul _
        rw [if_pos this]; refine ⟨?_, ?_, ?_, ?_⟩ <;> constructor <;> intro _ <;> omega
      · have ne : ¬ (MM n : Rat) * Ew.two (-16445) = 0 := by
          have := h2.mpr (by omega)
          intro q; rw [q] at this; exact Rat.lt_irrefl this
        rw [if_neg ne]; refine ⟨?_, ?_, ?_, ?_⟩ <;> constructor <;> intro _ <;> omega
  · rw [en_neg sn, place_neg sn]
    by_cases c : n = 604453686435277732577280
    · rw [if_pos c]; subst c; decide
    · rw [if_neg c]; simp only [signOf]
      have h2 := (MMr_pos sn (-16445)).mpr pn
      have h3 : -((MM n : Rat) * Ew.two (-16445)) < 0 := by grind
      rw [if_pos h3]; refine ⟨?_, ?_, ?_, ?_⟩ <;> constructor <;> intro _ <;> omega
/-! ## told numbers are their own ends -/
theorem ofRat_exact {x : Float_} (hx : Fit x) (ex : isEnd x = true) (i : ¬ E.kind x = .infinite) (r : Rounding) (s : Bool) : bitsOf (plain (E.ofRat 64 r s (E.value x)).1) = if N x = 0 then 0 else signBits x.sign + N x := by
  have mz := M_zero hx ex
  unfold Format.ofRat
  rw [value_E]
  by_cases c : Z x = 0
  · rw [if_pos (int_two_zero.mpr c), if_pos (mz.mp ((Z_zero x).mp c))]
    have := plain_bits (y := E.zero s) (s := s) (B := 0) rfl (by rw [bitsOf_eq]; simp [Format.zero])
    exact this
  · rw [if_neg (fun q => c (int_two_zero.mp q))]
    have nm : M x ≠ 0 := fun q => c ((Z_zero x).mpr q)
    have R := rat_rep (q := (Z x : Rat) * Ew.two (-16445)) rfl c
    have ab : (Z x).natAbs = M x := by unfold Z; split <;> omega
    rw [ab] at R
    have sg : decide ((Z x : Rat) * Ew.two (-16445) < 0) = x.sign := by
      rw [← Z_sign x nm]; exact decide_eq_decide.mpr int_two_neg
    rw [sg]
    obtain ⟨pe, pp⟩ := packed_M hx ex i nm (overOf r x.sign)
    have := R.rounded_exact r x.sign pe
    rw [pp] at this
    exact plain_bits (rounded_sign _ _ _ _ _) this
/-- the hull's ends, by bits -/
def dn (e : End) : Int := bitsOf (downTo e)
def up (e : End) : Int := bitsOf (upTo e)
theorem dn_told {a : Int} (h : Bits a) (n : isNumber a = true) : dn (en a) = told a ∧ up (en a) = told a := by
  have ee : isEnd (fl a) = true := by rw [isNumber_E h]; exact n
  have te := told_E h n
  rw [endTold_bits (fit_fl a) ee] at te
  unfold dn up en endOf
  by_cases i : E.kind (fl a) = .infinite
  · rw [if_pos i]
    have n := (N_le (fit_fl a) ee).2.mpr i
    rw [n] at te
    rw [← te]
    cases hs : (fl a).sign <;> decide
  · rw [if_neg i]
    simp only [downTo, upTo]
    rw [ofRat_exact (fit_fl a) ee i, ofRat_exact (fit_fl a) ee i]
    exact ⟨te, te⟩
theorem told_self {a : Int} (h : TN a) : told a = a := by
  obtain ⟨n, sn, rfl | ⟨pn, rfl⟩⟩ := h
  · exact (told_size sn).1
  · exact (told_size sn).2.1 pn
theorem dn_self {a : Int} (h : TN a) : dn (en a) = a := by rw [(dn_told h.bits h.number).1, told_self h]
theorem up_self {a : Int} (h : TN a) : up (en a) = a := by rw [(dn_told h.bits h.number).2, told_self h]
theorem MM_N {x : Float_} (hx : Fit x) (ex : isEnd x = true) : MM (N x) = M x := by
  have a1 := hx.exp
  have a2 := hx.frac
  unfold N
  by_cases c : x.exp = 0 ∧ 9223372036854775808 ≤ x.frac
  · rw [if_pos c]
    unfold MM M
    have e1 : (x.frac + 18446744073709551616) % 18446744073709551616 = x.frac := by omega
    have e2 : (x.frac + 18446744073709551616) / 18446744073709551616 = 1 := by omega
    rw [e1, e2, c.1]
  · rw [if_neg c]
    unfold MM M
    have e1 : (x.exp * 18446744073709551616 + x.frac) % 18446744073709551616 = x.frac := by omega
    have e2 : (x.exp * 18446744073709551616 + x.frac) / 18446744073709551616 = x.exp := by omega
    rw [e1, e2]
theorem size_N {x : Float_} (hx : Fit x) (ex : isEnd x = true) : SizeBits (N x) := by
  have a1 := hx.exp
  have a2 := hx.frac
  rw [isEnd_iff hx] at ex
  unfold N SizeBits
  split <;> omega
/-- what's told stands for the same end -/
theorem en_told {a : Int} (h : Bits a) (n : isNumber a = true) : en (told a) = en a := by
  have ee : isEnd (fl a) = true := by rw [isNumber_E h]; exact n
  have te := told_E h n
  rw [endTold_bits (fit_fl a) ee] at te
  have sN := size_N (fit_fl a) ee
  have mN := MM_N (fit_fl a) ee
  have le := N_le (fit_fl a) ee
  rw [← te]
  by_cases z : N (fl a) = 0
  · rw [if_pos z]
    have k : E.kind (fl a) ≠ .infinite := fun q => by have := le.2.mpr q; rw [z] at this; exact absurd this (by decide)
    have : en a = .num 0 := by
      unfold en endOf; rw [if_neg k, value_E]
      have : Z (fl a) = 0 := (Z_zero _).mpr ((M_zero (fit_fl a) ee).mpr z)
      rw [this]; congr 1; exact Rat.zero_mul _
    rw [this]
    have e0 := en_pos (n := 0) (by left; decide)
    rw [if_neg (by decide)] at e0
    have m0 : MM 0 = 0 := by decide
    rw [m0] at e0
    have : ((0 : Nat) : Rat) * Ew.two (-16445) = 0 := Rat.zero_mul _
    rw [this] at e0
    exact e0
  · rw [if_neg z]
    unfold signBits
    have back : en a = if E.kind (fl a) = .infinite then (if (fl a).sign = true then .minus else .plus) else .num (E.value (fl a)) := rfl
    rw [back, value_E]
    unfold Z
    cases hs : (fl a).sign
    · simp only [Bool.false_eq_true, if_false]
      rw [Nat.zero_add, en_pos sN, mN]
      by_cases i : E.kind (fl a) = .infinite
      · rw [if_pos i, if_pos (show N (fl a) = 604453686435277732577280 from le.2.mpr i)]
      · rw [if_neg i, if_neg (fun (q : N (fl a) = 604453686435277732577280) => i (le.2.mp q)), Rat.intCast_natCast]
    · simp only [if_true]
      rw [Nat.add_comm]
      have : (((N (fl a) + 604462909807314587353088 : Nat)) : Int) = (N (fl a) : Int) + 604462909807314587353088 := by omega
      rw [this, en_neg sN, mN]
      by_cases i : E.kind (fl a) = .infinite
      · rw [if_pos i, if_pos (show N (fl a) = 604453686435277732577280 from le.2.mpr i)]
      · rw [if_neg i, if_neg (fun (q : N (fl a) = 604453686435277732577280) => i (le.2.mp q)), Rat.intCast_neg, Rat.intCast_natCast, Rat.neg_mul]
end Bx
end
section
namespace Bx
open Ew EwIval Wrxtee
open WrxteeNeutral (fl)
/-! ## an end's hull: the greatest told number not above it -/
abbrev szq (q : Rat) : Size := ⟨q.num.natAbs, q.den, false⟩
theorem rat_num {q : Rat} : (q.num : Rat) = q * (q.den : Rat) := by
  have e : q = (q.num : Rat) / (q.den : Rat) := by rw [← Rat.mkRat_eq_div, Rat.mkRat_self]
  have hd : (q.den : Rat) ≠ 0 := fun c => by
    have : (0 : Rat) < (q.den : Rat) := Rat.natCast_pos.mpr q.den_pos
    rw [c] at this; exact Rat.lt_irrefl this
  calc (q.num : Rat) = (q.num : Rat) / (q.den : Rat) * (q.den : Rat) := (Rat.div_mul_cancel hd).symm
    _ = q * (q.den : Rat) := by rw [← e]
theorem den_pos_rat (q : Rat) : (0 : Rat) < (q.den : Rat) := Rat.natCast_pos.mpr q.den_pos
/-- f 2^k against q, by whole numbers -/
theorem rat_cmp {q : Rat} (hq : 0 < q) {k : Int} {a b : Nat} (e : k = (b : Int) - a) (f : Nat) :
    ((f : Rat) * Ew.two k ≤ q ↔ f * (q.den * 2 ^ b) ≤ q.num.natAbs * 2 ^ a) ∧ ((f : Rat) * Ew.two k = q ↔ f * (q.den * 2 ^ b) = q.num.natAbs * 2 ^ a) := by
  have n0 : 0 ≤ q.num := Rat.num_nonneg.mpr (Rat.le_of_lt hq)
  have na : ((q.num.natAbs : Nat) : Rat) = q * (q.den : Rat) := by
    rw [← rat_num, ← Rat.intCast_natCast]; congr 1; omega
  have tb : Ew.two k * ((2 ^ a : Nat) : Rat) = ((2 ^ b : Nat) : Rat) := by rw [← two_nat, ← two_nat, ← two_add]; congr 1; omega
  have pa : (0 : Rat) < ((2 ^ a : Nat) : Rat) := Rat.natCast_pos.mpr (Nat.two_pow_pos a)
  have pd := den_pos_rat q
  have pp : (0 : Rat) < (q.den : Rat) * ((2 ^ a : Nat) : Rat) := Rat.mul_pos pd pa
  have l1 : ((f * (q.den * 2 ^ b) : Nat) : Rat) = ((f : Rat) * Ew.two k) * ((q.den : Rat) * ((2 ^ a : Nat) : Rat)) := by
    rw [Rat.natCast_mul, Rat.natCast_mul, ← tb]; grind
  have l2 : ((q.num.natAbs * 2 ^ a : Nat) : Rat) = q * ((q.den : Rat) * ((2 ^ a : Nat) : Rat)) := by
    rw [Rat.natCast_mul, na]; grind
  constructor
  · rw [← Rat.natCast_le_natCast, l1, l2]
    constructor
    · intro h; exact Rat.mul_le_mul_of_nonneg_right h (Rat.le_of_lt pp)
    · intro h; exact Rat.le_of_mul_le_mul_right h pp
  · constructor
    · intro h
      have : ((f * (q.den * 2 ^ b) : Nat) : Rat) = ((q.num.natAbs * 2 ^ a : Nat) : Rat) := by rw [l1, l2, h]
      exact Rat.natCast_inj.mp this
    · intro h
      have : ((f * (q.den * 2 ^ b) : Nat) : Rat) = ((q.num.natAbs * 2 ^ a : Nat) : Rat) := by rw [h]
      rw [l1, l2] at this
      exact Rat.le_antisymm (Rat.le_of_mul_le_mul_right (by rw [this]; exact Rat.le_refl) pp) (Rat.le_of_mul_le_mul_right (by rw [this]; exact Rat.le_refl) pp)
theorem le_floor {q : Rat} (hq : 0 < q) (k : Int) (f : Nat) : (f : Rat) * Ew.two k ≤ q ↔ f ≤ (szq q).floorAt k := by
  obtain ⟨a, b, e⟩ : ∃ a b : Nat, k = (b : Int) - a := ⟨(-k).toNat, k.toNat, by omega⟩
  rw [(rat_cmp hq e f).1, floor_le (x := szq q) q.den_pos e]; rfl
/-- what's left over -/
def lft (x : Size) (k : Int) : Nat := if x.exactAt k = true then 0 else 1
theorem ge_floor {q : Rat} (hq : 0 < q) (k : Int) (f : Nat) : q ≤ (f : Rat) * Ew.two k ↔ (szq q).floorAt k + lft (szq q) k ≤ f := by
  obtain ⟨a, b, e⟩ : ∃ a b : Nat, k = (b : Int) - a := ⟨(-k).toNat, k.toNat, by omega⟩
  have ex := exactAt_iff (x := szq q) q.den_pos e
  have hg : ∀ m, G (szq q) m = m := fun m => rfl
  have hD : D (szq q) b = q.den * 2 ^ b := rfl
  have hU : U (szq q) a = q.num.natAbs * 2 ^ a := rfl
  rw [hg, hD, hU, ← (rat_cmp hq e _).2] at ex
  unfold lft
  constructor
  · intro h
    by_cases c : (szq q).exactAt k = true
    · rw [if_pos c]
      have := ex.mp c
      rw [← this] at h
      have := Rat.natCast_le_natCast.mp (Rat.le_of_mul_le_mul_right h (two_pos k))
      omega
    · rw [if_neg c]
      have lt : q < (f : Rat) * Ew.two k := by
        refine Rat.lt_of_le_of_ne h fun z => c ?_
        rw [ex]
        have := (le_floor hq k f).mp (by rw [← z]; exact Rat.le_refl)
        have h2 := Rat.le_trans ((le_floor hq k ((szq q).floorAt k)).mpr (Nat.le_refl _)) h
        have h3 := Rat.natCast_le_natCast.mp (Rat.le_of_mul_le_mul_right h2 (two_pos k))
        have h4 : (szq q).floorAt k = f := by omega
        rw [h4]; exact z.symm
      have := le_floor hq k f
      have : ¬ f ≤ (szq q).floorAt k := by rw [← this, Rat.not_le]; exact lt
      omega
  · intro h
    by_cases c : (szq q).exactAt k = true
    · rw [if_pos c] at h
      rw [← ex.mp c]
      exact Rat.mul_le_mul_of_nonneg_right (Rat.natCast_le_natCast.mpr (by omega)) (two_nonneg k)
    · rw [if_neg c] at h
      have := le_floor hq k f
      refine Rat.le_of_lt ?_
      rw [← Rat.not_le, this]; omega
/-- a size's value by its own place -/
theorem MM_place (n : Nat) : (MM n : Rat) * Ew.two (-16445) = ((n % 18446744073709551616 : Nat) : Rat) * Ew.two (((max (n / 18446744073709551616) 1 : Nat) : Int) - 16446) := by
  unfold MM
  rw [Rat.natCast_mul, ← two_nat, Rat.mul_assoc, ← two_add]
  congr 2; omega
theorem lft_le (x : Size) (k : Int) : lft x k ≤ 1 := by unfold lft; split <;> omega
/-- sizes rounded down, up -/
def dsz (x : Size) (t : Int) : Nat := packed (x.floorAt (max (t - 63) (-16445))) (max (t - 63) (-16445)) 604444463063240877801471
def usz (x : Size) (t : Int) : Nat := packed (x.floorAt (max (t - 63) (-16445)) + lft x (max (t - 63) (-16445))) (max (t - 63) (-16445)) 604453686435277732577280
theorem floor_kk {x : Size} (h : 0 < x.den) {t : Int} (ht : x.floorAt t = 1) : x.floorAt (max (t - 63) (-16445)) < 18446744073709551616 ∧ (-16445 < max (t - 63) (-16445) → 9223372036854775808 ≤ x.floorAt (max (t - 63) (-16445))) := by
  by_cases c : t - 63 ≤ -16445
  · have e : max (t - 63) (-16445) = -16445 := by omega
    rw [e]
    refine ⟨?_, by omega⟩
    obtain ⟨j, hj⟩ : ∃ j : Nat, (-16445 : Int) = t - 63 + j := ⟨(-16445 - (t - 63)).toNat, by omega⟩
    have f0 : x.floorAt (t - 63) / 2 ^ 63 = 1 := by rw [← ht, ← floor_up h]; congr 1; omega
    have : x.floorAt (t - 63) < 18446744073709551616 := by rw [div_iff (by decide)] at f0; omega
    rw [hj, floor_up h]
    exact Nat.lt_of_le_of_lt (Nat.div_le_self _ _) this
  · have e : max (t - 63) (-16445) = t - 63 := by omega
    rw [e]
    have f0 : x.floorAt (t - 63) / 2 ^ 63 = 1 := by rw [← ht, ← floor_up h]; congr 1; omega
    rw [div_iff (by decide)] at f0; omega
/-- the three places -/
theorem places {x : Size} (h : 0 < x.den) {t : Int} (ht : x.floorAt t = 1) (k : Int) :
    (max (t - 63) (-16445) < k → x.floorAt k < 9223372036854775808) ∧ (-16445 ≤ k → k < max (t - 63) (-16445) → 18446744073709551616 ≤ x.floorAt k) := by
  obtain ⟨f1, f2⟩ := floor_kk h ht
  generalize max (t - 63) (-16445) = kk at *
  constructor
  · intro c
    obtain ⟨j, hj⟩ : ∃ j : Nat, k = kk + (j + 1 : Nat) := ⟨(k - kk - 1).toNat, by omega⟩
    rw [hj, floor_up h, Nat.div_lt_iff_lt_mul (Nat.two_pow_pos _), Nat.pow_succ]
    have := Nat.two_pow_pos j
    omega
  · intro c0 c
    obtain ⟨j, hj⟩ : ∃ j : Nat, kk = k + (j + 1 : Nat) := ⟨(kk - k - 1).toNat, by omega⟩
    have g := f2 (by omega)
    rw [hj, floor_up h, Nat.le_div_iff_mul_le (Nat.two_pow_pos _), Nat.pow_succ] at g
    have := Nat.two_pow_pos j
    omega
theorem dsz_iff {x : Size} (h : 0 < x.den) {t : Int} (ht : x.floorAt t = 1) {n : Nat} (sn : SizeBits n) (fin : n ≠ 604453686435277732577280) :
    n ≤ dsz x t ↔ n % 18446744073709551616 ≤ x.floorAt (((max (n / 18446744073709551616) 1 : Nat) : Int) - 16446) := by
  obtain ⟨f1, f2⟩ := floor_kk h ht
  obtain ⟨p1, p2⟩ := places h ht (((max (n / 18446744073709551616) 1 : Nat) : Int) - 16446)
  unfold dsz
  have lo : -16445 ≤ max (t - 63) (-16445) := by omega
  generalize max (t - 63) (-16445) = kk at *
  generalize hk : ((max (n / 18446744073709551616) 1 : Nat) : Int) - 16446 = k at *
  generalize hm : x.floorAt kk = m at *
  unfold SizeBits at sn
  unfold packed
  rw [if_neg (by omega)]
  rcases Int.lt_trichotomy k kk with c | c | c
  · have := p2 (by omega) c
    have := f2 (by omega)
    by_cases b : 16321 ≤ kk
    · rw [if_pos b]; omega
    · rw [if_neg b, if_neg (by omega)]; omega
  · subst c
    rw [hm, if_neg (by omega)]
    by_cases b : m < 9223372036854775808
    · rw [if_pos b]; omega
    · rw [if_neg b]; omega
  · have := p1 c
    rw [if_neg (by omega)]
    by_cases b : m < 9223372036854775808
    · rw [if_pos b]; omega
    · rw [if_neg b]; omega
theorem usz_iff {x : Size} (h : 0 < x.den) {t : Int} (ht : x.floorAt t = 1) {n : Nat} (sn : SizeBits n) (fin : n ≠ 604453686435277732577280) :
    usz x t ≤ n ↔ x.floorAt (((max (n / 18446744073709551616) 1 : Nat) : Int) - 16446) + lft x (((max (n / 18446744073709551616) 1 : Nat) : Int) - 16446) ≤ n % 18446744073709551616 := by
  obtain ⟨f1, f2⟩ := floor_kk h ht
  obtain ⟨p1, p2⟩ := places h ht (((max (n / 18446744073709551616) 1 : Nat) : Int) - 16446)
  unfold usz
  have lo : -16445 ≤ max (t - 63) (-16445) := by omega
  generalize max (t - 63) (-16445) = kk at *
  generalize hk : ((max (n / 18446744073709551616) 1 : Nat) : Int) - 16446 = k at *
  have l1 := lft_le x kk
  have l2 := lft_le x k
  generalize hm : x.floorAt kk = m at *
  unfold SizeBits at sn
  unfold packed
  rcases Int.lt_trichotomy k kk with c | c | c
  · have := p2 (by omega) c
    have := f2 (by omega)
    generalize lft x kk = s at *
    by_cases y : m + s = 18446744073709551616
    · rw [if_pos y]
      by_cases b : 16320 ≤ kk
      · rw [if_pos b]; omega
      · rw [if_neg b]; omega
    · rw [if_neg y]
      by_cases b : 16321 ≤ kk
      · rw [if_pos b]; omega
      · rw [if_neg b, if_neg (by omega)]; omega
  · subst c
    rw [hm]
    generalize lft x k = s at *
    by_cases y : m + s = 18446744073709551616
    · rw [if_pos y]
      by_cases b : 16320 ≤ k
      · rw [if_pos b]; omega
      · rw [if_neg b]; omega
    · rw [if_neg y, if_neg (by omega)]
      by_cases b : m + s < 9223372036854775808
      · rw [if_pos b]; omega
      · rw [if_neg b]; omega
  · have := p1 c
    generalize lft x kk = s at *
    by_cases y : m + s = 18446744073709551616
    · rw [if_pos y, if_neg (by omega)]; omega
    · rw [if_neg y, if_neg (by omega)]
      by_cases b : m + s < 9223372036854775808
      · rw [if_pos b]; omega
      · rw [if_neg b]; omega
/-- some t there is -/
theorem top_ex {x : Size} (hn : 0 < x.num) (h : 0 < x.den) (hr : x.root = false) : ∃ t, x.floorAt t = 1 := by
  -- the place (of no digit) at which nothing is left of the number, and one finer: whole
  have k0 : x.floorAt (-(x.den : Int)) ≥ 1 := by
    rw [ge_iff_le, floor_le h (a := x.den) (b := 0) (by omega), G_one]
    unfold D U; rw [hr]; simp
    have : x.den < 2 ^ x.den := Nat.lt_two_pow_self
    calc x.den ≤ 2 ^ x.den := Nat.le_of_lt this
      _ = 1 * 2 ^ x.den := by simp
      _ ≤ x.num * 2 ^ x.den := Nat.mul_le_mul_right _ hn
  refine ⟨-(x.den : Int) + (Nat.log2 (x.floorAt (-(x.den : Int))) : Nat), ?_⟩
  rw [floor_up h, div_iff (Nat.two_pow_pos _)]
  have h1 := Nat.log2_self_le (n := x.floorAt (-(x.den : Int))) (by omega)
  have h2 := @Nat.lt_log2_self (x.floorAt (-(x.den : Int)))
  rw [Nat.pow_succ] at h2
  omega
end Bx
end
section
namespace Bx
open Ew EwIval Wrxtee
open WrxteeNeutral (fl)
theorem mult_down (x : Size) (k : Int) : x.multiple .down false k = x.floorAt k ∧ x.multiple .down true k = x.floorAt k + lft x k ∧ x.multiple .up false k = x.floorAt k + lft x k ∧ x.multiple .up true k = x.floorAt k := by
  have rest : (x.rest k != 0) = !x.exactAt k := by
    unfold Size.rest
    cases x.exactAt k
    · simp; split
      · simp
      · split <;> simp
    · simp
  unfold Size.multiple goesUp lft
  rw [rest]
  cases x.exactAt k <;> simp
theorem szq_neg (q : Rat) : szq (-q) = szq q := by simp [szq]
theorem num_pos {q : Rat} (h : q ≠ 0) : 0 < (szq q).num := by
  have : q.num ≠ 0 := fun c => h (Rat.num_eq_zero.mp c)
  show 0 < q.num.natAbs; omega
theorem dn_pos {q : Rat} (hq : 0 < q) {t : Int} (ht : (szq q).floorAt t = 1) : dn (.num q) = dsz (szq q) t ∧ up (.num q) = usz (szq q) t := by
  have nz : q ≠ 0 := fun c => by rw [c] at hq; exact Rat.lt_irrefl hq
  have ng : decide (q < 0) = false := by rw [decide_eq_false_iff_not, Rat.not_lt]; exact Rat.le_of_lt hq
  have r1 := rounded_bits (num_pos nz) q.den_pos .down false ht
  have r2 := rounded_bits (num_pos nz) q.den_pos .up false ht
  rw [(mult_down _ _).1] at r1
  rw [(mult_down _ _).2.2.1] at r2
  have p1 := plain_bits (rounded_sign _ _ _ _ _) r1
  have p2 := plain_bits (rounded_sign _ _ _ _ _) r2
  constructor
  · unfold dn downTo Format.ofRat dsz
    simp only
    rw [if_neg nz, ng, p1]
    unfold signBits overOf
    simp
    split
    · rename_i z; rw [z]
    · rfl
  · unfold up upTo Format.ofRat usz
    simp only
    rw [if_neg nz, ng, p2]
    unfold signBits overOf
    simp
    split
    · rename_i z; rw [z]
    · rfl
theorem usz_pos {x : Size} (hn : 0 < x.num) (h : 0 < x.den) (t : Int) : 0 < usz x t := by
  unfold usz
  refine packed_pos ?_ (by decide)
  generalize max (t - 63) (-16445) = kk
  unfold lft
  split
  · rename_i c
    obtain ⟨a, b, e⟩ : ∃ a b : Nat, kk = (b : Int) - a := ⟨(-kk).toNat, kk.toNat, by omega⟩
    rw [exactAt_iff h e] at c
    by_cases z : x.floorAt kk = 0
    · rw [z] at c
      exfalso
      have : 0 < U x a := by unfold U; split <;> exact Nat.mul_pos hn (Nat.two_pow_pos _)
      rw [← c] at this
      unfold G at this
      split at this <;> simp at this
    · omega
  · omega
theorem dn_neg {q : Rat} (hq : q < 0) {t : Int} (ht : (szq q).floorAt t = 1) : dn (.num q) = (usz (szq q) t : Int) + 604462909807314587353088 ∧ up (.num q) = if dsz (szq q) t = 0 then 0 else (dsz (szq q) t : Int) + 604462909807314587353088 := by
  have nz : q ≠ 0 := fun c => by rw [c] at hq; exact Rat.lt_irrefl hq
  have ng : decide (q < 0) = true := by simp; exact hq
  have r1 := rounded_bits (num_pos nz) q.den_pos .down true ht
  have r2 := rounded_bits (num_pos nz) q.den_pos .up true ht
  rw [(mult_down _ _).2.1] at r1
  rw [(mult_down _ _).2.2.2] at r2
  have p1 := plain_bits (rounded_sign _ _ _ _ _) r1
  have p2 := plain_bits (rounded_sign _ _ _ _ _) r2
  have ps := usz_pos (num_pos nz) q.den_pos t
  have o1 : overOf .down true = 604453686435277732577280 := by decide
  have o2 : overOf .up true = 604444463063240877801471 := by decide
  constructor
  · unfold dn downTo Format.ofRat
    simp only
    rw [if_neg nz, ng, p1, o1]
    unfold usz at ps ⊢
    rw [if_neg (by omega)]
    unfold signBits
    simp only [if_true]
    omega
  · unfold up upTo Format.ofRat
    simp only
    rw [if_neg nz, ng, p2, o2]
    unfold dsz
    unfold signBits
    simp only [if_true]
    split
    · rfl
    · omega
theorem dsz_bits {x : Size} (h : 0 < x.den) {t : Int} (ht : x.floorAt t = 1) : SizeBits (dsz x t) ∧ SizeBits (usz x t) := by
  obtain ⟨f1, f2⟩ := floor_kk h ht
  have := lft_le x (max (t - 63) (-16445))
  exact ⟨packed_norm (by omega) (by omega) (.inr rfl), packed_norm (by omega) (by omega) (.inl rfl)⟩
theorem dsz_fin {x : Size} (h : 0 < x.den) {t : Int} (ht : x.floorAt t = 1) : dsz x t < 604453686435277732577280 := by
  obtain ⟨f1, f2⟩ := floor_kk h ht
  unfold dsz packed
  rw [if_neg (by omega)]
  repeat' split
  all_goals omega
/-- roots are no operands -/
def Plain : End → Prop
  | .root _ => False
  | _ => True
theorem dn_TN {e : End} (he : Plain e) : TN (dn e) ∧ TN (up e) := by
  cases e with
  | root q => exact he.elim
  | minus => exact ⟨⟨604453686435277732577280, by right; decide, .inr ⟨by decide, by decide⟩⟩, ⟨604453686435277732577280, by right; decide, .inr ⟨by decide, by decide⟩⟩⟩
  | plus => exact ⟨⟨604453686435277732577280, by right; decide, .inl (by decide)⟩, ⟨604453686435277732577280, by right; decide, .inl (by decide)⟩⟩
  | num q =>
    by_cases z : q = 0
    · subst z
      have z1 : dn (.num 0) = 0 := by unfold dn; rw [zero_down]; rfl
      have z2 : up (.num 0) = 0 := by unfold up; rw [zero_up]; rfl
      rw [z1, z2]
      exact ⟨⟨0, by left; decide, .inl rfl⟩, ⟨0, by left; decide, .inl rfl⟩⟩
    · obtain ⟨t, ht⟩ := top_ex (num_pos z) q.den_pos rfl
      obtain ⟨s1, s2⟩ := dsz_bits q.den_pos ht
      by_cases p : 0 < q
      · obtain ⟨e1, e2⟩ := dn_pos p ht
        rw [e1, e2]
        exact ⟨⟨_, s1, .inl rfl⟩, ⟨_, s2, .inl rfl⟩⟩
      · have ng : q < 0 := Rat.lt_of_le_of_ne (Rat.not_lt.mp p) z
        obtain ⟨e1, e2⟩ := dn_neg ng ht
        have ps := usz_pos (num_pos z) q.den_pos t
        rw [e1, e2]
        refine ⟨⟨_, s2, .inr ⟨ps, rfl⟩⟩, ?_⟩
        split
        · exact ⟨0, by left; decide, .inl rfl⟩
        · exact ⟨_, s1, .inr ⟨by omega, rfl⟩⟩
theorem z_TN : TN 0 := ⟨0, by left; decide, .inl rfl⟩
theorem en_zero : en 0 = .num 0 := by
  have e0 := en_pos (n := 0) (by left; decide)
  rw [if_neg (by decide)] at e0
  have m0 : MM 0 = 0 := by decide
  rw [m0] at e0
  have : ((0 : Nat) : Rat) * Ew.two (-16445) = 0 := Rat.zero_mul _
  rw [this] at e0
  exact e0
theorem less_minus_plus : (∀ e, less .plus e = false) ∧ (∀ e, less e .minus = false) := by
  constructor <;> intro e <;> cases e <;> rfl
theorem dn_gal {b : Int} (hb : TN b) {e : End} (he : Plain e) : less e (en b) = false ↔ place b ≤ place (dn e) := by
  cases e with
  | root q => exact he.elim
  | minus =>
    have e1 : dn .minus = ((604453686435277732577280 : Nat) : Int) + 604462909807314587353088 := by decide
    have s : SizeBits 604453686435277732577280 := by right; decide
    have tn : TN (((604453686435277732577280 : Nat) : Int) + 604462909807314587353088) := ⟨_, s, .inr ⟨by decide, rfl⟩⟩
    have := less_place tn hb
    have e2 : en (((604453686435277732577280 : Nat) : Int) + 604462909807314587353088) = .minus := by rw [en_neg s, if_pos rfl]
    rw [e2] at this
    rw [e1, ← Bool.not_eq_true, this]; omega
  | plus =>
    have e1 : dn .plus = ((604453686435277732577280 : Nat) : Int) := by decide
    have s : SizeBits 604453686435277732577280 := by right; decide
    have tn : TN ((604453686435277732577280 : Nat) : Int) := ⟨_, s, .inl rfl⟩
    have := less_place tn hb
    have e2 : en ((604453686435277732577280 : Nat) : Int) = .plus := by rw [en_pos s, if_pos rfl]
    rw [e2] at this
    rw [e1, ← Bool.not_eq_true, this]; omega
  | num q =>
    by_cases z : q = 0
    · subst z
      have z1 : dn (.num 0) = 0 := by unfold dn; rw [zero_down]; rfl
      have := less_place z_TN hb
      rw [en_zero] at this
      rw [z1, ← Bool.not_eq_true, this]; omega
    · obtain ⟨t, ht⟩ := top_ex (num_pos z) q.den_pos rfl
      obtain ⟨s1, s2⟩ := dsz_bits q.den_pos ht
      by_cases p : 0 < q
      · obtain ⟨e1, e2⟩ := dn_pos p ht
        rw [e1, place_pos s1]
        have fn := dsz_fin q.den_pos ht
        obtain ⟨n, sn, rfl | ⟨pn, rfl⟩⟩ := hb
        · rw [en_pos sn, place_pos sn]
          by_cases c : n = 604453686435277732577280
          · rw [if_pos c]
            constructor
            · intro h; exact nomatch h
            · intro h; omega
          · rw [if_neg c]
            simp only [less, decide_eq_false_iff_not, Rat.not_lt]
            rw [MM_place, le_floor p, ← dsz_iff q.den_pos ht sn c]; omega
        · rw [en_neg sn, place_neg sn]
          constructor
          · intro _; omega
          · intro _
            split
            · rfl
            · simp only [less, decide_eq_false_iff_not, Rat.not_lt]
              have := MMr_nonneg n (-16445)
              grind
      · have ng : q < 0 := Rat.lt_of_le_of_ne (Rat.not_lt.mp p) z
        obtain ⟨e1, e2⟩ := dn_neg ng ht
        rw [e1, place_neg s2]
        obtain ⟨n, sn, rfl | ⟨pn, rfl⟩⟩ := hb
        · rw [en_pos sn, place_pos sn]
          constructor
          · intro h; exfalso
            split at h
            · exact nomatch h
            · simp only [less, decide_eq_false_iff_not, Rat.not_lt] at h
              have := MMr_nonneg n (-16445)
              grind
          · intro h; omega
        · rw [en_neg sn, place_neg sn]
          by_cases c : n = 604453686435277732577280
          · rw [if_pos c]
            have : usz (szq q) t ≤ 604453686435277732577280 := by unfold SizeBits at s2; omega
            constructor
            · intro _; omega
            · intro _; rfl
          · rw [if_neg c]
            simp only [less, decide_eq_false_iff_not, Rat.not_lt]
            have p' : 0 < -q := by grind
            have g := ge_floor p' (((max (n / 18446744073709551616) 1 : Nat) : Int) - 16446) (n % 18446744073709551616)
            rw [szq_neg, ← MM_place, ← usz_iff q.den_pos ht sn c] at g
            rw [Rat.neg_le_iff, g]; omega
theorem up_gal {b : Int} (hb : TN b) {e : End} (he : Plain e) : less (en b) e = false ↔ place (up e) ≤ place b := by
  cases e with
  | root q => exact he.elim
  | minus =>
    have e1 : up .minus = ((604453686435277732577280 : Nat) : Int) + 604462909807314587353088 := by decide
    have s : SizeBits 604453686435277732577280 := by right; decide
    have tn : TN (((604453686435277732577280 : Nat) : Int) + 604462909807314587353088) := ⟨_, s, .inr ⟨by decide, rfl⟩⟩
    have := less_place hb tn
    have e2 : en (((604453686435277732577280 : Nat) : Int) + 604462909807314587353088) = .minus := by rw [en_neg s, if_pos rfl]
    rw [e2] at this
    rw [e1, ← Bool.not_eq_true, this]; omega
  | plus =>
    have e1 : up .plus = ((604453686435277732577280 : Nat) : Int) := by decide
    have s : SizeBits 604453686435277732577280 := by right; decide
    have tn : TN ((604453686435277732577280 : Nat) : Int) := ⟨_, s, .inl rfl⟩
    have := less_place hb tn
    have e2 : en ((604453686435277732577280 : Nat) : Int) = .plus := by rw [en_pos s, if_pos rfl]
    rw [e2] at this
    rw [e1, ← Bool.not_eq_true, this]; omega
  | num q =>
    by_cases z : q = 0
    · subst z
      have z1 : up (.num 0) = 0 := by unfold up; rw [zero_up]; rfl
      have := less_place hb z_TN
      rw [en_zero] at this
      rw [z1, ← Bool.not_eq_true, this]; omega
    · obtain ⟨t, ht⟩ := top_ex (num_pos z) q.den_pos rfl
      obtain ⟨s1, s2⟩ := dsz_bits q.den_pos ht
      by_cases p : 0 < q
      · obtain ⟨e1, e2⟩ := dn_pos p ht
        rw [e2, place_pos s2]
        obtain ⟨n, sn, rfl | ⟨pn, rfl⟩⟩ := hb
        · rw [en_pos sn, place_pos sn]
          by_cases c : n = 604453686435277732577280
          · rw [if_pos c, less_minus_plus.1]
            have : usz (szq q) t ≤ 604453686435277732577280 := by unfold SizeBits at s2; omega
            constructor
            · intro h; omega
            · intro h; rfl
          · rw [if_neg c]
            simp only [less, decide_eq_false_iff_not, Rat.not_lt]
            rw [MM_place, ge_floor p, ← usz_iff q.den_pos ht sn c]; omega
        · rw [en_neg sn, place_neg sn]
          constructor
          · intro h; exfalso
            split at h
            · exact nomatch h
            · simp only [less, decide_eq_false_iff_not, Rat.not_lt] at h
              have := MMr_nonneg n (-16445)
              grind
          · intro h; omega
      · have ng : q < 0 := Rat.lt_of_le_of_ne (Rat.not_lt.mp p) z
        obtain ⟨e1, e2⟩ := dn_neg ng ht
        rw [e2]
        have fn := dsz_fin q.den_pos ht
        have pl : place (if dsz (szq q) t = 0 then 0 else (dsz (szq q) t : Int) + 604462909807314587353088) = if dsz (szq q) t = 0 then 0 else -1 - (dsz (szq q) t : Int) := by
          split
          · decide
          · exact place_neg s1
        rw [pl]
        obtain ⟨n, sn, rfl | ⟨pn, rfl⟩⟩ := hb
        · rw [en_pos sn, place_pos sn]
          constructor
          · intro _; split <;> omega
          · intro h
            split
            · exact less_minus_plus.1 _
            · simp only [less, decide_eq_false_iff_not, Rat.not_lt]
              have := MMr_nonneg n (-16445)
              grind
        · rw [en_neg sn, place_neg sn]
          by_cases c : n = 604453686435277732577280
          · rw [if_pos c]
            constructor
            · intro h; exact nomatch h
            · intro h; split at h <;> omega
          · rw [if_neg c]
            simp only [less, decide_eq_false_iff_not, Rat.not_lt]
            have p' : 0 < -q := by grind
            have g := le_floor p' (((max (n / 18446744073709551616) 1 : Nat) : Int) - 16446) (n % 18446744073709551616)
            rw [szq_neg, ← MM_place, ← dsz_iff q.den_pos ht sn c] at g
            rw [Rat.le_neg_iff, g]
            split <;> omega
/-! ## order of ends -/
theorem less_asymm {a b : End} (h : less a b = true) : less b a = false := by
  cases a <;> cases b <;> simp [less] at h ⊢
  grind
theorem le_trans_end {a b c : End} (pa : Plain a) (pb : Plain b) (pc : Plain c) (h1 : less b a = false) (h2 : less c b = false) : less c a = false := by
  cases a <;> cases b <;> cases c <;> simp [less, Plain] at pa pb pc h1 h2 ⊢
  grind
theorem plain_en {a : Int} : Plain (en a) := by
  unfold en endOf
  split
  · split <;> trivial
  · trivial
theorem dn_mono {a b : End} (pa : Plain a) (pb : Plain b) (h : less b a = false) : place (dn a) ≤ place (dn b) := by
  rw [← dn_gal (dn_TN pa).1 pb]
  have : less a (en (dn a)) = false := (dn_gal (dn_TN pa).1 pa).mpr (Int.le_refl _)
  exact le_trans_end plain_en pa pb this h
theorem up_mono {a b : End} (pa : Plain a) (pb : Plain b) (h : less b a = false) : place (up a) ≤ place (up b) := by
  rw [← up_gal (dn_TN pb).2 pa]
  have : less (en (up b)) b = false := (up_gal (dn_TN pb).2 pb).mpr (Int.le_refl _)
  exact le_trans_end pa pb plain_en h this
/-- the lesser's hull is the lesser of the hulls -/
def lesserB (a b : Int) : Int := if place b < place a then b else a
def greaterB (a b : Int) : Int := if place a < place b then b else a
theorem plain_lesser {a b : End} (pa : Plain a) (pb : Plain b) : Plain (lesser a b) ∧ Plain (greater a b) := by
  unfold lesser greater; constructor <;> split <;> assumption
theorem dn_lesser {a b : End} (pa : Plain a) (pb : Plain b) : dn (lesser a b) = lesserB (dn a) (dn b) := by
  unfold lesser lesserB
  by_cases c : less b a = true
  · rw [if_pos c]
    have := dn_mono pb pa (less_asymm c)
    split
    · rfl
    · exact place_inj (dn_TN pb).1 (dn_TN pa).1 (by omega)
  · rw [if_neg c]
    have := dn_mono pa pb (by simpa using c)
    rw [if_neg (by omega)]
theorem up_greater {a b : End} (pa : Plain a) (pb : Plain b) : up (greater a b) = greaterB (up a) (up b) := by
  unfold greater greaterB
  by_cases c : less a b = true
  · rw [if_pos c]
    have := up_mono pa pb (less_asymm c)
    split
    · rfl
    · exact place_inj (dn_TN pb).2 (dn_TN pa).2 (by omega)
  · rw [if_neg c]
    have := up_mono pb pa (by simpa using c)
    rw [if_neg (by omega)]
end Bx
end
section
namespace Bx
open Ew EwIval Wrxtee
open WrxteeNeutral (fl)
/-! ## exact values -/
def ExV (v : Val) : End → Prop
  | .minus => v.inf = true ∧ v.whole < 0
  | .plus => v.inf = true ∧ 0 < v.whole
  | .num q => v.inf = false ∧ q = (v.whole : Rat) * Ew.two v.power
  | .root _ => False
theorem ExV.stands {v : Val} {e : End} (h : ExV v e) : Stands v e := by
  cases e with
  | minus => exact h
  | plus => exact h
  | root q => exact h.elim
  | num q =>
    obtain ⟨h1, h2⟩ := h
    have := Stands.exact v.whole v.power
    rw [← h2] at this
    obtain ⟨w, p, i⟩ := v
    simp only at h1
    subst h1
    exact this
theorem value_exact {a : Int} (h : Bits a) (n : isNumber a = true) : ExV (valueOf a) (en a) := by
  have st := value_stands h n
  unfold en
  have ee : isEnd (fl a) = true := by rw [isNumber_E h]; exact n
  have e := fl_exp h
  have f := fl_frac h
  have s := fl_sign h
  have fit := fit_fl a
  unfold endOf at st ⊢
  by_cases i : E.kind (fl a) = .infinite
  · rw [if_pos i] at st ⊢
    cases hs : (fl a).sign
    · rw [hs] at st; exact st
    · rw [hs] at st; exact st
  · rw [if_neg i]
    have fin : decide (expo a = 32767) = false := by
      rw [isEnd_iff fit] at ee
      rw [inf_iff fit] at i
      simp; omega
    refine ⟨fin, ?_⟩
    unfold Format.value
    have hk : E.k (fl a) = max (expo a) 1 - 16446 := by
      unfold Format.k; simp only [E, Format.emin, Format.emax, Format.p]; omega
    have hm : E.m (fl a) = (fl a).frac := by
      unfold Format.m; simp [E]
    rw [hk, hm, s]
    unfold valueOf
    simp only
    congr 1
    by_cases c : 604462909807314587353088 ≤ a
    · simp only [c, decide_true, if_true]
      rw [Rat.intCast_neg, ← f, Rat.intCast_natCast]; grind
    · simp only [c, decide_false, if_false]
      rw [← f, Rat.intCast_natCast]; simp
theorem ExV.sign {v : Val} {e : End} (h : ExV v e) : (signOf e < 0 ↔ v.whole < 0) ∧ (0 < signOf e ↔ 0 < v.whole) ∧ (signOf e = 0 ↔ v.whole = 0) := by
  cases e with
  | minus =>
    obtain ⟨_, h2⟩ := h
    simp only [signOf]
    refine ⟨?_, ?_, ?_⟩ <;> constructor <;> intro _ <;> omega
  | plus =>
    obtain ⟨_, h2⟩ := h
    simp only [signOf]
    refine ⟨?_, ?_, ?_⟩ <;> constructor <;> intro _ <;> omega
  | root q => exact h.elim
  | num q =>
    obtain ⟨_, h2⟩ := h
    have n := int_two_neg (z := v.whole) (k := v.power)
    have z := int_two_zero (z := v.whole) (k := v.power)
    rw [← h2] at n z
    simp only [signOf]
    by_cases c : q < 0
    · rw [if_pos c]
      have := n.mp c
      refine ⟨?_, ?_, ?_⟩ <;> constructor <;> intro _ <;> omega
    · rw [if_neg c]
      have c' : ¬ v.whole < 0 := fun w => c (n.mpr w)
      by_cases d : q = 0
      · rw [if_pos d]
        have := z.mp d
        refine ⟨?_, ?_, ?_⟩ <;> constructor <;> intro _ <;> omega
      · rw [if_neg d]
        have d' : ¬ v.whole = 0 := fun w => d (z.mpr w)
        refine ⟨?_, ?_, ?_⟩ <;> constructor <;> intro _ <;> omega
/-! ## sums -/
def plusV (v o : Val) : Val := if v.inf = true then v else if o.inf = true then o else
  ⟨v.whole * 2 ^ (v.power - min v.power o.power).toNat + o.whole * 2 ^ (o.power - min v.power o.power).toNat, min v.power o.power, false⟩
theorem shift_two (w p m : Int) (h : m ≤ p) : ((w * 2 ^ (p - m).toNat : Int) : Rat) * Ew.two m = (w : Rat) * Ew.two p := by
  have e : Ew.two p = ((2 ^ (p - m).toNat : Nat) : Rat) * Ew.two m := by
    rw [← two_nat, ← two_add]; congr 1; omega
  rw [e, Rat.intCast_mul]
  have : (((2 : Int) ^ (p - m).toNat : Int) : Rat) = ((2 ^ (p - m).toNat : Nat) : Rat) := by
    rw [← Rat.intCast_natCast]; congr 1
  rw [this]; grind
theorem plus_exact {v o : Val} {a b : End} (ha : ExV v a) (hb : ExV o b) (h : (a ≠ .plus ∧ b ≠ .plus) ∨ (a ≠ .minus ∧ b ≠ .minus)) : ExV (plusV v o) (plusEnd a b) := by
  unfold plusV
  cases a with
  | root q => exact ha.elim
  | minus => rw [if_pos ha.1]; cases b <;> exact ha
  | plus =>
    rw [if_pos ha.1]
    cases b with
    | minus => simp at h
    | root q => exact hb.elim
    | num q => exact ha
    | plus => exact ha
  | num x =>
    rw [if_neg (by rw [ha.1]; simp)]
    cases b with
    | root q => exact hb.elim
    | minus => rw [if_pos hb.1]; exact hb
    | plus => rw [if_pos hb.1]; exact hb
    | num y =>
      rw [if_neg (by rw [hb.1]; simp)]
      refine ⟨rfl, ?_⟩
      simp only
      rw [Rat.intCast_add, Rat.add_mul, shift_two _ _ _ (by omega), shift_two _ _ _ (by omega), ← ha.2, ← hb.2]
/-! ## products -/
def endless (w : Int) : Val := ⟨if 0 < w then 1 else -1, 0, true⟩
def timesV (v o : Val) : Val := if v.whole * o.whole = 0 then ⟨0, 0, false⟩ else if v.inf = true ∨ o.inf = true then endless (v.whole * o.whole) else ⟨v.whole * o.whole, v.power + o.power, false⟩
theorem sign_mul (a b : Int) : (a * b < 0 ↔ (a < 0 ∧ 0 < b) ∨ (0 < a ∧ b < 0)) ∧ (a * b = 0 ↔ a = 0 ∨ b = 0) := by
  refine ⟨⟨fun h => ?_, fun h => ?_⟩, Int.mul_eq_zero⟩
  · rcases Int.lt_trichotomy a 0 with c | c | c <;> rcases Int.lt_trichotomy b 0 with d | d | d
    · have := Int.mul_pos_of_neg_of_neg c d; omega
    · subst d; simp at h
    · exact .inl ⟨c, d⟩
    · subst c; simp at h
    · subst c; simp at h
    · subst c; simp at h
    · exact .inr ⟨c, d⟩
    · subst d; simp at h
    · have := Int.mul_pos c d; omega
  · rcases h with ⟨a1, b1⟩ | ⟨a1, b1⟩
    · exact Int.mul_neg_of_neg_of_pos a1 b1
    · exact Int.mul_neg_of_pos_of_neg a1 b1
theorem endless_exact {w : Int} : (w < 0 → ExV (endless w) .minus) ∧ (0 < w → ExV (endless w) .plus) := by
  unfold endless
  constructor
  · intro h; rw [if_neg (by omega)]; exact ⟨rfl, by decide⟩
  · intro h; rw [if_pos h]; exact ⟨rfl, by decide⟩
theorem zero_exact : ExV ⟨0, 0, false⟩ (.num 0) := ⟨rfl, (Rat.zero_mul _).symm⟩
theorem times_any {v o : Val} {a b : End} (ha : ExV v a) (hb : ExV o b) (h : v.inf = true ∨ o.inf = true) :
    ExV (timesV v o) (if signOf a * signOf b = 0 then .num 0 else if signOf a * signOf b < 0 then .minus else .plus) := by
  have sa := ha.sign
  have sb := hb.sign
  have m1 := sign_mul v.whole o.whole
  have m2 := sign_mul (signOf a) (signOf b)
  unfold timesV
  by_cases z : v.whole * o.whole = 0
  · rw [if_pos z, if_pos (by rw [m2.2, sa.2.2, sb.2.2, ← m1.2]; exact z)]; exact zero_exact
  · rw [if_neg z, if_pos h, if_neg (by rw [m2.2, sa.2.2, sb.2.2, ← m1.2]; exact z)]
    by_cases n : v.whole * o.whole < 0
    · rw [if_pos (by rw [m2.1, sa.1, sa.2.1, sb.1, sb.2.1, ← m1.1]; exact n)]; exact endless_exact.1 n
    · rw [if_neg (by rw [m2.1, sa.1, sa.2.1, sb.1, sb.2.1, ← m1.1]; exact n)]; exact endless_exact.2 (by omega)
theorem times_exact {v o : Val} {a b : End} (ha : ExV v a) (hb : ExV o b) : ExV (timesV v o) (timesEnd a b) := by
  cases a with
  | root q => exact ha.elim
  | minus => exact times_any ha hb (.inl ha.1)
  | plus => exact times_any ha hb (.inl ha.1)
  | num x =>
    cases b with
    | root q => exact hb.elim
    | minus => exact times_any ha hb (.inr hb.1)
    | plus => exact times_any ha hb (.inr hb.1)
    | num y =>
      have e : x * y = ((v.whole * o.whole : Int) : Rat) * Ew.two (v.power + o.power) := by
        rw [ha.2, hb.2, Rat.intCast_mul, two_add]; grind
      show ExV (timesV v o) (.num (x * y))
      unfold timesV
      by_cases z : v.whole * o.whole = 0
      · rw [if_pos z]
        refine ⟨rfl, ?_⟩
        rw [e, z]
        show ((0 : Int) : Rat) * _ = ((0 : Int) : Rat) * _
        rw [Rat.intCast_zero, Rat.zero_mul, Rat.zero_mul]
      · rw [if_neg z, if_neg (by rw [ha.1, hb.1]; simp)]
        exact ⟨rfl, e⟩
end Bx
end
section
namespace Bx
open Ew EwIval Wrxtee
open WrxteeNeutral (fl)
/-! ## quotients by what's above 0 -/
def finerV (w p : Int) (ex : Bool) : Val := ⟨2 * w + (if ex = true then 0 else 1), p - 1, false⟩
theorem pos_div (A y : Nat) : (2 * ((A : Int) / y) + (if (A : Int) / y * y = (A : Int) then 0 else 1) : Int) = ((2 * (A / y) + (if A / y * y = A then 0 else 1) : Nat) : Int) := by
  have e : (A : Int) / y = ((A / y : Nat) : Int) := by simp
  rw [e]
  by_cases c : A / y * y = A
  · rw [if_pos c, if_pos (by rw [← Int.natCast_mul, c])]; omega
  · rw [if_neg c, if_neg (by rw [← Int.natCast_mul]; intro h; exact c (Int.ofNat.inj h))]; omega
theorem neg_div (A y : Nat) (hy : 0 < y) : (2 * (-(A : Int) / y) + (if -(A : Int) / y * y = -(A : Int) then 0 else 1) : Int) = -((2 * (A / y) + (if A / y * y = A then 0 else 1) : Nat) : Int) := by
  have q := (div_iff (n := A) (r := A / y) hy).mp rfl
  generalize A / y = W at *
  by_cases c : W * y = A
  · have d : -(A : Int) / y = -(W : Int) := by
      rw [← c, Int.natCast_mul, ← Int.neg_mul]; exact Int.mul_ediv_cancel _ (by omega)
    rw [d, if_pos c, if_pos (by rw [Int.neg_mul, ← Int.natCast_mul, c])]; omega
  · have h1 : (W : Int) * y < A := by rw [← Int.natCast_mul]; omega
    have h2 : (A : Int) < (W + 1 : Int) * y := by
      have := q.2
      have e : (W + 1 : Int) * y = (((W + 1) * y : Nat) : Int) := by rw [Int.natCast_mul]; rfl
      rw [e]; omega
    have e1 : (-(W : Int) - 1) * y = -((W + 1 : Int) * y) := by rw [← Int.neg_mul]; congr 1; omega
    have e2 : (-(W : Int)) * y = -((W : Int) * y) := Int.neg_mul _ _
    have d : -(A : Int) / y = -(W : Int) - 1 := by
      have le : -(W : Int) - 1 ≤ -(A : Int) / y := by
        rw [Int.le_ediv_iff_mul_le (by omega), e1]; omega
      have lt : -(A : Int) / y < -(W : Int) := by
        rw [Int.ediv_lt_iff_lt_mul (by omega), e2]; omega
      omega
    rw [d, if_neg c, if_neg (by rw [e1]; omega)]; omega
/-- a quotient's size; C: so much finer -/
theorem quot_gen (c k : Nat) (hc : k + 63 ≤ c) {z y p1 p2 : Int} (hz : z ≠ 0) (hy : 0 < y) (hy2 : y.natAbs < 2 ^ k) {q : Rat} (hq : q = ((z : Rat) * Ew.two p1) * (1 / ((y : Rat) * Ew.two p2))) :
    Stands (finerV (z * ((2 ^ c : Nat) : Int) / y) (p1 - p2 - c) (decide (z * ((2 ^ c : Nat) : Int) / y * y = z * ((2 ^ c : Nat) : Int)))) (.num q) := by
  have hC : 2 ^ 63 * 2 ^ k ≤ 2 ^ c := by rw [← Nat.pow_add]; exact Nat.pow_le_pow_right (n := 2) (by omega) (by omega)
  have yr : (y : Rat) ≠ 0 := fun c => by have := Rat.intCast_inj.mp (c.trans Rat.intCast_zero.symm); omega
  have yp : (0 : Rat) < (y : Rat) := Rat.intCast_pos.mpr hy
  have qy : q * (y : Rat) = (z : Rat) * Ew.two (p1 - p2) := by
    have t2 := two_ne p2
    have tt : Ew.two p1 = Ew.two (p1 - p2) * Ew.two p2 := by rw [← two_add]; congr 1; omega
    rw [hq, tt, Rat.div_def, Rat.one_mul, Rat.inv_mul_rev]
    have i1 := Rat.mul_inv_cancel _ t2
    have i2 := Rat.inv_mul_cancel _ yr
    generalize (Ew.two p2)⁻¹ = u at *
    generalize ((y : Rat))⁻¹ = v at *
    calc (z : Rat) * (Ew.two (p1 - p2) * Ew.two p2) * (u * v) * (y : Rat) = (z : Rat) * Ew.two (p1 - p2) * (Ew.two p2 * u) * (v * (y : Rat)) := by grind
      _ = (z : Rat) * Ew.two (p1 - p2) := by rw [i1, i2, Rat.mul_one, Rat.mul_one]
  have q0 : q ≠ 0 := fun c => by
    rw [c, Rat.zero_mul] at qy
    exact hz (int_two_zero.mp qy.symm)
  have qn : q < 0 ↔ z < 0 := by
    rw [← Rat.mul_neg_iff_of_pos_right yp, qy, int_two_neg]
  obtain ⟨a, b, e⟩ : ∃ a b : Nat, p1 - p2 = (a : Int) - b := ⟨(p1 - p2).toNat, (-(p1 - p2)).toNat, by omega⟩
  have hI : q.num * y * ((2 ^ b : Nat) : Int) = z * ((2 ^ a : Nat) : Int) * (q.den : Int) := by
    have : ((q.num * y * ((2 ^ b : Nat) : Int) : Int) : Rat) = ((z * ((2 ^ a : Nat) : Int) * (q.den : Int) : Int) : Rat) := by
      rw [Rat.intCast_mul, Rat.intCast_mul, Rat.intCast_mul, Rat.intCast_mul, Rat.intCast_natCast, Rat.intCast_natCast, Rat.intCast_natCast, rat_num, ← two_mul_pow e]
      generalize ((2 ^ b : Nat) : Rat) = B
      generalize (q.den : Rat) = d
      calc q * d * (y : Rat) * B = (q * (y : Rat)) * d * B := by grind
        _ = (z : Rat) * (Ew.two (p1 - p2) * B) * d := by rw [qy]; grind
    exact Rat.intCast_inj.mp this
  have hN : q.num.natAbs * y.natAbs * 2 ^ b = z.natAbs * 2 ^ a * q.den := by
    have h4 := congrArg Int.natAbs hI
    rw [Int.natAbs_mul, Int.natAbs_mul, Int.natAbs_mul, Int.natAbs_mul, Int.natAbs_natCast, Int.natAbs_natCast, Int.natAbs_natCast] at h4
    exact h4
  generalize hW : z.natAbs * 2 ^ c / y.natAbs = W
  have yn : 0 < y.natAbs := by omega
  have hWi := (div_iff yn).mp hW
  have Wbig : 9223372036854775808 ≤ W := by
    rw [← hW, Nat.le_div_iff_mul_le yn]
    calc 9223372036854775808 * y.natAbs ≤ 2 ^ 63 * 2 ^ k := Nat.mul_le_mul (by decide) (by omega)
      _ ≤ 1 * 2 ^ c := by rw [Nat.one_mul]; exact hC
      _ ≤ z.natAbs * 2 ^ c := Nat.mul_le_mul_right _ (by omega)
  have cr : q.num.natAbs * 2 ^ (b + c) * y.natAbs = z.natAbs * 2 ^ c * (q.den * 2 ^ a) := by
    rw [Nat.pow_add]
    generalize 2 ^ c = C at *
    calc q.num.natAbs * (2 ^ b * C) * y.natAbs = (q.num.natAbs * y.natAbs * 2 ^ b) * C := by simp only [Nat.mul_assoc, Nat.mul_comm, Nat.mul_left_comm]
      _ = z.natAbs * C * (q.den * 2 ^ a) := by rw [hN]; simp only [Nat.mul_assoc, Nat.mul_comm, Nat.mul_left_comm]
  have dp : 0 < q.den * 2 ^ a := Nat.mul_pos q.den_pos (Nat.two_pow_pos _)
  have fl : (szq q).floorAt (p1 - p2 - c) = W := by
    rw [floorAt_iff (x := szq q) q.den_pos (a := b + c) (b := a) (by omega)]
    exact ⟨(cross_le dp yn cr).mpr hWi.1, (cross_lt dp yn cr).mpr hWi.2⟩
  have ex : (szq q).exactAt (p1 - p2 - c) = true ↔ W * y.natAbs = z.natAbs * 2 ^ c := by
    rw [exactAt_iff (x := szq q) q.den_pos (a := b + c) (b := a) (by omega), fl]
    exact cross_eq dp yn cr
  have R := Rep.sticky (x := szq q) (w := W) (p := p1 - p2 - c) (num_pos q0) q.den_pos (by omega) (if W * y.natAbs = z.natAbs * 2 ^ c then 0 else 1) fl
    (by by_cases w : W * y.natAbs = z.natAbs * 2 ^ c
        · left; rw [if_pos w]; exact ⟨rfl, ex.mpr w⟩
        · right; rw [if_neg w]; refine ⟨rfl, ?_⟩
          cases h : (szq q).exactAt (p1 - p2 - c)
          · rfl
          · exact absurd (ex.mp h) w)
  have yi : y = (y.natAbs : Int) := by omega
  have key : (2 * (z * ((2 ^ c : Nat) : Int) / y) + (if decide (z * ((2 ^ c : Nat) : Int) / y * y = z * ((2 ^ c : Nat) : Int)) = true then 0 else 1) : Int) =
      (if z < 0 then -((2 * W + (if W * y.natAbs = z.natAbs * 2 ^ c then 0 else 1) : Nat) : Int) else ((2 * W + (if W * y.natAbs = z.natAbs * 2 ^ c then 0 else 1) : Nat) : Int)) := by
    simp only [decide_eq_true_eq]
    generalize 2 ^ c = C at *
    by_cases s : z < 0
    · rw [if_pos s]
      have za : z * (C : Int) = -((z.natAbs * C : Nat) : Int) := by
        rw [Int.natCast_mul, ← Int.neg_mul]; congr 1; omega
      rw [za, ← hW]
      have := neg_div (z.natAbs * C) y.natAbs yn
      rw [← yi] at this
      exact this
    · rw [if_neg s]
      have za : z * (C : Int) = ((z.natAbs * C : Nat) : Int) := by
        rw [Int.natCast_mul]; congr 1; omega
      rw [za, ← hW]
      have := pos_div (z.natAbs * C) y.natAbs
      rw [← yi] at this
      exact this
  right
  unfold finerV
  simp only
  rw [key]
  generalize hs : (2 * W + (if W * y.natAbs = z.natAbs * 2 ^ c then 0 else 1) : Nat) = S at *
  have Sp : 0 < S := by omega
  refine ⟨trivial, ?_, q0, ?_, ?_⟩
  · split <;> omega
  · rw [qn]; split <;> omega
  · have : (if z < 0 then -(S : Int) else (S : Int)).natAbs = S := by split <;> omega
    rw [this]; exact R
end Bx
end
section
namespace Bx
open Ew EwIval Wrxtee
open WrxteeNeutral (fl)
def ovS (o : Val) : Nat := 64 + (Nat.log2 o.whole.natAbs + 1)
def overV (v o : Val) : Val := if v.whole = 0 ∨ o.inf = true then ⟨0, 0, false⟩ else if v.inf = true ∨ o.whole = 0 then endless v.whole else
  finerV (v.whole * ((2 ^ ovS o : Nat) : Int) / o.whole) (v.power - o.power - ovS o) (decide (v.whole * ((2 ^ ovS o : Nat) : Int) / o.whole * o.whole = v.whole * ((2 ^ ovS o : Nat) : Int)))
/-- what quotients come to -/
def quotEnd (a b : End) : End := if signOf b = 0 then (if signOf a < 0 then .minus else if signOf a = 0 then .num 0 else .plus) else timesEnd a (invEnd b)
theorem zero_stands : Stands ⟨0, 0, false⟩ (.num 0) := .inl ⟨rfl, rfl⟩
theorem ex_zero {v : Val} {a : End} (ha : ExV v a) (h : v.whole = 0) : a = .num 0 := by
  cases a with
  | minus => have := ha.2; omega
  | plus => have := ha.2; omega
  | root q => exact ha.elim
  | num q => rw [ha.2, h]; congr 1; exact Rat.zero_mul _
theorem sign_zero : signOf (.num 0) = 0 := by decide
theorem sign_one {y : Rat} (h : 0 < y) : signOf (.num y) = 1 := by
  simp only [signOf]
  rw [if_neg (by rw [Rat.not_lt]; exact Rat.le_of_lt h), if_neg (fun c => by rw [c] at h; exact Rat.lt_irrefl h)]
theorem over_stands {v o : Val} {a b : End} (ha : ExV v a) (hb : ExV o b) (h0 : 0 ≤ o.whole) : Stands (overV v o) (quotEnd a b) := by
  have sa := ha.sign
  have sb := hb.sign
  unfold overV
  by_cases c : v.whole = 0 ∨ o.inf = true
  · rw [if_pos c]
    have : quotEnd a b = .num 0 := by
      unfold quotEnd
      rcases c with c | c
      · rw [ex_zero ha c]
        by_cases d : signOf b = 0
        · rw [if_pos d, sign_zero, if_neg (by decide), if_pos rfl]
        · rw [if_neg d]
          cases b with
          | minus => show End.num (0 * 0) = _; rw [Rat.zero_mul]
          | plus => show End.num (0 * 0) = _; rw [Rat.zero_mul]
          | root q => exact hb.elim
          | num q => show End.num (0 * (1 / q)) = _; rw [Rat.zero_mul]
      · cases b with
        | minus => have := hb.2; omega
        | root q => exact hb.elim
        | num q => rw [hb.1] at c; exact nomatch c
        | plus =>
          rw [if_neg (by decide)]
          cases a with
          | root q => exact ha.elim
          | num q => show End.num (q * 0) = _; rw [Rat.mul_zero]
          | minus => rfl
          | plus => rfl
    rw [this]; exact zero_stands
  · rw [if_neg c]
    have v0 : v.whole ≠ 0 := fun h => c (.inl h)
    have oi : o.inf = false := by simpa using fun h => c (.inr h)
    cases b with
    | minus => rw [hb.1] at oi; exact nomatch oi
    | plus => rw [hb.1] at oi; exact nomatch oi
    | root q => exact hb.elim
    | num y =>
      by_cases d : v.inf = true ∨ o.whole = 0
      · rw [if_pos d]
        unfold quotEnd
        by_cases z : o.whole = 0
        · rw [if_pos (sb.2.2.mpr z)]
          by_cases n : v.whole < 0
          · rw [if_pos (sa.1.mpr n)]; exact (endless_exact.1 n).stands
          · rw [if_neg (fun h => n (sa.1.mp h)), if_neg (fun h => v0 (sa.2.2.mp h))]; exact (endless_exact.2 (by omega)).stands
        · rw [if_neg (fun h => z (sb.2.2.mp h))]
          have vi : v.inf = true := by
            rcases d with d | d
            · exact d
            · exact absurd d z
          have y0 : 0 < y := by
            rw [hb.2, Rat.mul_pos_iff_of_pos_right (two_pos _)]; exact Rat.intCast_pos.mpr (by omega)
          have i0 : 0 < 1 / y := by rw [Rat.div_def, Rat.one_mul]; exact Rat.inv_pos.mpr y0
          have s1 := sign_one i0
          cases a with
          | root q => exact ha.elim
          | num q => rw [ha.1] at vi; exact nomatch vi
          | minus =>
            have e : timesEnd .minus (invEnd (.num y)) = .minus := by
              show (if signOf .minus * signOf (.num (1 / y)) = 0 then End.num 0 else if signOf .minus * signOf (.num (1 / y)) < 0 then .minus else .plus) = .minus
              rw [s1]; rfl
            rw [e]; exact (endless_exact.1 ha.2).stands
          | plus =>
            have e : timesEnd .plus (invEnd (.num y)) = .plus := by
              show (if signOf .plus * signOf (.num (1 / y)) = 0 then End.num 0 else if signOf .plus * signOf (.num (1 / y)) < 0 then .minus else .plus) = .plus
              rw [s1]; rfl
            rw [e]; exact (endless_exact.2 ha.2).stands
      · rw [if_neg d]
        have o0 : ¬ o.whole = 0 := fun h => d (.inr h)
        have vi : v.inf = false := by simpa using fun h => d (.inl h)
        unfold quotEnd
        rw [if_neg (fun h => o0 (sb.2.2.mp h))]
        cases a with
        | root q => exact ha.elim
        | minus => rw [ha.1] at vi; exact nomatch vi
        | plus => rw [ha.1] at vi; exact nomatch vi
        | num x =>
          show Stands _ (.num (x * (1 / y)))
          exact quot_gen (ovS o) (Nat.log2 o.whole.natAbs + 1) (by unfold ovS; omega) v0 (by omega) Nat.lt_log2_self (by rw [ha.2, hb.2])
/-! ## roots -/
end Bx
end
section
namespace Bx
open Ew EwIval Wrxtee
open WrxteeNeutral (fl)
/-! ## ops on told ends -/
/-- told ends of an interval -/
structure IvB (l h : Int) : Prop where
  lo : TN l
  hi : TN h
  le : place l ≤ place h
  np : en l ≠ .plus
  nm : en h ≠ .minus
def EMP : Int := 1208921207928610747318272
def hullI : Ends → List Int
  | none => [EMP, EMP]
  | some (a, b) => [dn a, up b]
theorem ivT_hull (x : Ends) : WrxteeNeutral.ivT (hull x) = hullI x := by
  cases x with
  | none => decide
  | some p => rfl
theorem opp_en {a : Int} (h : TN a) : TN (opposite a) ∧ en (opposite a) = turn (en a) := by
  obtain ⟨n, sn, rfl | ⟨pn, rfl⟩⟩ := h
  · rw [(opp_size sn).2]
    by_cases c : n = 0
    · rw [if_pos c]
      refine ⟨z_TN, ?_⟩
      rw [c, en_zero]
      have : en ((0 : Nat) : Int) = .num 0 := en_zero
      rw [this]; simp only [turn]; rw [Rat.neg_zero]
    · rw [if_neg c]
      refine ⟨⟨n, sn, .inr ⟨by omega, rfl⟩⟩, ?_⟩
      rw [en_neg sn, en_pos sn]
      split <;> rfl
  · rw [(opp_size sn).1]
    refine ⟨⟨n, sn, .inl rfl⟩, ?_⟩
    rw [en_neg sn, en_pos sn]
    split
    · rfl
    · simp only [turn]; rw [Rat.neg_neg]
theorem place_opp {a b : Int} (ha : TN a) (hb : TN b) (h : place a ≤ place b) : place (opposite b) ≤ place (opposite a) := by
  have k : ∀ {c : Int}, TN c → (0 < place c → place (opposite c) = -1 - place c) ∧ (place c = 0 → place (opposite c) = 0) ∧ (place c < 0 → place (opposite c) = -1 - place c) := by
    rintro c ⟨n, sn, rfl | ⟨pn, rfl⟩⟩
    · rw [(opp_size sn).2, place_pos sn]
      refine ⟨fun h => ?_, fun h => ?_, fun h => by omega⟩
      · rw [if_neg (by omega), place_neg sn]
      · rw [if_pos (by omega)]; decide
    · rw [(opp_size sn).1, place_neg sn, place_pos sn]
      refine ⟨fun h => by omega, fun h => by omega, fun h => by omega⟩
  have ka := k ha
  have kb := k hb
  rcases Int.lt_trichotomy (place a) 0 with c | c | c <;> rcases Int.lt_trichotomy (place b) 0 with d | d | d
  · rw [ka.2.2 c, kb.2.2 d]; omega
  · rw [ka.2.2 c, kb.2.1 d]; omega
  · rw [ka.2.2 c, kb.1 d]; omega
  · omega
  · rw [ka.2.1 c, kb.2.1 d]; omega
  · rw [ka.2.1 c, kb.1 d]; omega
  · omega
  · omega
  · rw [ka.1 c, kb.1 d]; omega
theorem IvB.opp {l h : Int} (I : IvB l h) : IvB (opposite h) (opposite l) := by
  refine ⟨(opp_en I.hi).1, (opp_en I.lo).1, place_opp I.lo I.hi I.le, ?_, ?_⟩
  · rw [(opp_en I.hi).2]; intro c; apply I.nm
    cases e : en h <;> rw [e] at c <;> simp [turn] at c ⊢
  · rw [(opp_en I.lo).2]; intro c; apply I.np
    cases e : en l <;> rw [e] at c <;> simp [turn] at c ⊢
theorem exv {a : Int} (h : TN a) : ExV (valueOf a) (en a) := value_exact h.bits h.number
/-- low_end and high_end of what stands -/
theorem low_dn {v : Val} {e : End} (h : Stands v e) : lowEnd v = dn e := low_ok h
theorem high_up {v : Val} {e : End} (h : Stands v e) : highEnd v = up e := high_ok h
/-! ### add, sub -/
def addB (l h c d : Int) : List Int := [lowEnd (plusV (valueOf l) (valueOf c)), highEnd (plusV (valueOf h) (valueOf d))]
theorem add_ok {l h c d : Int} (X : IvB l h) (Y : IvB c d) : addB l h c d = hullI (EwIval.add (some (en l, en h)) (some (en c, en d))) := by
  unfold addB
  rw [low_dn (plus_exact (exv X.lo) (exv Y.lo) (.inl ⟨X.np, Y.np⟩)).stands, high_up (plus_exact (exv X.hi) (exv Y.hi) (.inr ⟨X.nm, Y.nm⟩)).stands]
  rfl
def subB (l h c d : Int) : List Int := addB l h (opposite d) (opposite c)
theorem sub_ok {l h c d : Int} (X : IvB l h) (Y : IvB c d) : subB l h c d = hullI (EwIval.add (some (en l, en h)) (EwIval.neg (some (en c, en d)))) := by
  unfold subB
  rw [add_ok X Y.opp, (opp_en Y.hi).2, (opp_en Y.lo).2]; rfl
/-! ### mul -/
def min4 (a b c d : Int) : Int := lesserB (lesserB (lesserB a b) c) d
def max4 (a b c d : Int) : Int := greaterB (greaterB (greaterB a b) c) d
def mulB (l h c d : Int) : List Int :=
  [min4 (lowEnd (timesV (valueOf l) (valueOf c))) (lowEnd (timesV (valueOf l) (valueOf d))) (lowEnd (timesV (valueOf h) (valueOf c))) (lowEnd (timesV (valueOf h) (valueOf d))),
   max4 (highEnd (timesV (valueOf l) (valueOf c))) (highEnd (timesV (valueOf l) (valueOf d))) (highEnd (timesV (valueOf h) (valueOf c))) (highEnd (timesV (valueOf h) (valueOf d)))]
theorem lesserB_TN {a b : Int} (ha : TN a) (hb : TN b) : TN (lesserB a b) ∧ TN (greaterB a b) := by
  unfold lesserB greaterB; constructor <;> split <;> assumption
theorem lesserB_place (a b : Int) : place (lesserB a b) = min (place a) (place b) ∧ place (greaterB a b) = max (place a) (place b) := by
  unfold lesserB greaterB; constructor <;> split <;> omega
theorem min4_eq {a b c d : Int} (ha : TN a) (hb : TN b) (hc : TN c) (hd : TN d) : min4 a b c d = lesserB (lesserB a b) (lesserB c d) ∧ max4 a b c d = greaterB (greaterB a b) (greaterB c d) := by
  unfold min4 max4
  constructor
  · refine place_inj (lesserB_TN (lesserB_TN (lesserB_TN ha hb).1 hc).1 hd).1 (lesserB_TN (lesserB_TN ha hb).1 (lesserB_TN hc hd).1).1 ?_
    simp only [(lesserB_place _ _).1]; omega
  · refine place_inj (lesserB_TN (lesserB_TN (lesserB_TN ha hb).2 hc).2 hd).2 (lesserB_TN (lesserB_TN ha hb).2 (lesserB_TN hc hd).2).2 ?_
    simp only [(lesserB_place _ _).2]; omega
theorem plain_times {v : Val} {e : End} (h : ExV v e) : Plain e := by
  cases e with
  | root q => exact h.elim
  | _ => trivial
theorem mul_ok {l h c d : Int} (X : IvB l h) (Y : IvB c d) : mulB l h c d = hullI (EwIval.mul (some (en l, en h)) (some (en c, en d))) := by
  unfold mulB
  have e1 := times_exact (exv X.lo) (exv Y.lo)
  have e2 := times_exact (exv X.lo) (exv Y.hi)
  have e3 := times_exact (exv X.hi) (exv Y.lo)
  have e4 := times_exact (exv X.hi) (exv Y.hi)
  have p1 := plain_times e1
  have p2 := plain_times e2
  have p3 := plain_times e3
  have p4 := plain_times e4
  rw [low_dn e1.stands, low_dn e2.stands, low_dn e3.stands, low_dn e4.stands, high_up e1.stands, high_up e2.stands, high_up e3.stands, high_up e4.stands]
  rw [(min4_eq (dn_TN p1).1 (dn_TN p2).1 (dn_TN p3).1 (dn_TN p4).1).1, (min4_eq (dn_TN p1).2 (dn_TN p2).2 (dn_TN p3).2 (dn_TN p4).2).2]
  show _ = [dn (lesser (lesser _ _) (lesser _ _)), up (greater (greater _ _) (greater _ _))]
  rw [dn_lesser (plain_lesser p1 p2).1 (plain_lesser p3 p4).1, dn_lesser p1 p2, dn_lesser p3 p4, up_greater (plain_lesser p1 p2).2 (plain_lesser p3 p4).2, up_greater p1 p2, up_greater p3 p4]
/-! ### min, max, join, meet -/
theorem en_lesser {a b : Int} (ha : TN a) (hb : TN b) : lesser (en a) (en b) = en (lesserB a b) ∧ greater (en a) (en b) = en (greaterB a b) := by
  have h1 := less_place ha hb
  have h2 := less_place hb ha
  unfold lesser greater lesserB greaterB
  constructor
  · by_cases c : place b < place a
    · rw [if_pos (h2.mpr c), if_pos c]
    · rw [if_neg (fun h => c (h2.mp h)), if_neg c]
  · by_cases c : place a < place b
    · rw [if_pos (h1.mpr c), if_pos c]
    · rw [if_neg (fun h => c (h1.mp h)), if_neg c]
theorem hullI_self {a b : Int} (ha : TN a) (hb : TN b) : hullI (some (en a, en b)) = [a, b] := by
  show [dn _, up _] = _
  rw [dn_self ha, up_self hb]
def leastB (l h c d : Int) : List Int := [lesserB l c, lesserB h d]
theorem least_ok {l h c d : Int} (X : IvB l h) (Y : IvB c d) : leastB l h c d = hullI (EwIval.minOf (some (en l, en h)) (some (en c, en d))) := by
  show _ = hullI (some (lesser _ _, lesser _ _))
  rw [(en_lesser X.lo Y.lo).1, (en_lesser X.hi Y.hi).1, hullI_self (lesserB_TN X.lo Y.lo).1 (lesserB_TN X.hi Y.hi).1]; rfl
def greatestB (l h c d : Int) : List Int := [greaterB l c, greaterB h d]
theorem greatest_ok {l h c d : Int} (X : IvB l h) (Y : IvB c d) : greatestB l h c d = hullI (EwIval.maxOf (some (en l, en h)) (some (en c, en d))) := by
  show _ = hullI (some (greater _ _, greater _ _))
  rw [(en_lesser X.lo Y.lo).2, (en_lesser X.hi Y.hi).2, hullI_self (lesserB_TN X.lo Y.lo).2 (lesserB_TN X.hi Y.hi).2]; rfl
theorem join_ok {l h c d : Int} (X : IvB l h) (Y : IvB c d) : [lesserB l c, greaterB h d] = hullI (EwIval.joinEnds (some (en l, en h)) (some (en c, en d))) := by
  show _ = hullI (some (lesser _ _, greater _ _))
  rw [(en_lesser X.lo Y.lo).1, (en_lesser X.hi Y.hi).2, hullI_self (lesserB_TN X.lo Y.lo).1 (lesserB_TN X.hi Y.hi).2]
def meetB (l h c d : Int) : List Int := if place (lesserB h d) < place (greaterB l c) then [EMP, EMP] else [greaterB l c, lesserB h d]
theorem meet_ok {l h c d : Int} (X : IvB l h) (Y : IvB c d) : meetB l h c d = hullI (EwIval.meet (some (en l, en h)) (some (en c, en d))) := by
  show _ = hullI (if less (en h) (en c) = true ∨ less (en d) (en l) = true then none else some (greater _ _, lesser _ _))
  rw [(en_lesser X.lo Y.lo).2, (en_lesser X.hi Y.hi).1]
  have g1 := less_place X.hi Y.lo
  have g2 := less_place Y.hi X.lo
  unfold meetB
  rw [(lesserB_place h d).1, (lesserB_place l c).2]
  have := X.le
  have := Y.le
  by_cases g : place h < place c ∨ place d < place l
  · rw [if_pos (show less (en h) (en c) = true ∨ less (en d) (en l) = true by rw [g1, g2]; exact g), if_pos (by omega)]; rfl
  · rw [if_neg (show ¬ (less (en h) (en c) = true ∨ less (en d) (en l) = true) by rw [g1, g2]; exact g), if_neg (by omega), hullI_self (lesserB_TN X.lo Y.lo).2 (lesserB_TN X.hi Y.hi).1]
end Bx
end
section
namespace Bx
open Ew EwIval Wrxtee
open WrxteeNeutral (fl)
/-! ### div -/
theorem sign_turn {e : End} (h : Plain e) : signOf (turn e) = - signOf e := by
  cases e with
  | minus => rfl
  | plus => rfl
  | root q => exact h.elim
  | num q =>
    simp only [turn, signOf]
    by_cases c : q < 0
    · rw [if_pos c, if_neg (by grind), if_neg (by grind)]; rfl
    · rw [if_neg c]
      by_cases d : q = 0
      · subst d; rw [Rat.neg_zero, if_neg (by exact Rat.lt_irrefl), if_pos rfl]; rfl
      · rw [if_neg d, if_pos (by grind)]
theorem plain_timesEnd {a b : End} : Plain (timesEnd a b) := by
  unfold timesEnd
  split
  · trivial
  · split
    · trivial
    · split <;> trivial
theorem inv_num (e : End) : ∃ u, invEnd e = .num u := by cases e <;> exact ⟨_, rfl⟩
theorem minus_num {u : Rat} (h : 0 < u) : timesEnd .minus (.num u) = .minus ∧ timesEnd .plus (.num u) = .plus := by
  constructor
  · show (if signOf .minus * signOf (.num u) = 0 then End.num 0 else if signOf .minus * signOf (.num u) < 0 then .minus else .plus) = .minus
    rw [sign_one h]; rfl
  · show (if signOf .plus * signOf (.num u) = 0 then End.num 0 else if signOf .plus * signOf (.num u) < 0 then .minus else .plus) = .plus
    rw [sign_one h]; rfl
theorem num_num (x u : Rat) : timesEnd (.num x) (.num u) = .num (x * u) := rfl
theorem nonneg_cases {u : Rat} (h : 0 ≤ u) : u = 0 ∨ 0 < u := by
  by_cases c : u = 0
  · exact .inl c
  · exact .inr (Rat.lt_of_le_of_ne h (fun q => c q.symm))
theorem T1 {a b : End} (pa : Plain a) (pb : Plain b) {u : Rat} (hu : 0 ≤ u) (h : less b a = false) : less (timesEnd b (.num u)) (timesEnd a (.num u)) = false := by
  rcases nonneg_cases hu with rfl | p
  · have k : ∀ e, Plain e → timesEnd e (.num 0) = .num 0 := by
      intro e pe
      cases e with
      | minus => rfl
      | plus => rfl
      | root q => exact pe.elim
      | num q => rw [num_num, Rat.mul_zero]
    rw [k a pa, k b pb]; exact less_irrefl _
  · cases a with
    | root q => exact pa.elim
    | minus => rw [(minus_num p).1]; exact less_minus_plus.2 _
    | plus =>
      cases b with
      | root q => exact pb.elim
      | plus => exact less_irrefl _
      | minus => simp [less] at h
      | num y => simp [less] at h
    | num x =>
      cases b with
      | root q => exact pb.elim
      | plus => rw [(minus_num p).2]; exact less_minus_plus.1 _
      | minus => simp [less] at h
      | num y =>
        rw [num_num, num_num]
        simp only [less, decide_eq_false_iff_not, Rat.not_lt] at h ⊢
        exact Rat.mul_le_mul_of_nonneg_right h hu
theorem T2 {e : End} (pe : Plain e) {w u : Rat} (hw : 0 ≤ w) (h : w ≤ u) (s : signOf e < 0) : less (timesEnd e (.num w)) (timesEnd e (.num u)) = false := by
  cases e with
  | root q => exact pe.elim
  | plus => simp [signOf] at s
  | minus =>
    rcases nonneg_cases (Rat.le_trans hw h) with z | p
    · have : w = 0 := by grind
      rw [z, this]; exact less_irrefl _
    · rw [(minus_num p).1]; exact less_minus_plus.2 _
  | num x =>
    have xn : x < 0 := by
      simp only [signOf] at s
      by_cases c : x < 0
      · exact c
      · rw [if_neg c] at s; split at s <;> omega
    rw [num_num, num_num]
    simp only [less, decide_eq_false_iff_not, Rat.not_lt]
    have := Rat.mul_le_mul_of_nonneg_left h (show 0 ≤ -x by grind)
    grind
theorem T3 {e : End} (pe : Plain e) {w u : Rat} (hw : 0 ≤ w) (h : w ≤ u) (s : ¬ signOf e < 0) : less (timesEnd e (.num u)) (timesEnd e (.num w)) = false := by
  cases e with
  | root q => exact pe.elim
  | minus => simp [signOf] at s
  | plus =>
    rcases nonneg_cases (Rat.le_trans hw h) with z | p
    · have : w = 0 := by grind
      rw [z, this]; exact less_irrefl _
    · rw [(minus_num p).2]; exact less_minus_plus.1 _
  | num x =>
    have xn : ¬ x < 0 := by
      intro c; simp only [signOf] at s; rw [if_pos c] at s; exact s (by decide)
    rw [num_num, num_num]
    simp only [less, decide_eq_false_iff_not, Rat.not_lt]
    exact Rat.mul_le_mul_of_nonneg_left h (by grind)
theorem end_antisymm {a b : End} (pa : Plain a) (pb : Plain b) (h1 : less a b = false) (h2 : less b a = false) : a = b := by
  cases a <;> cases b <;> simp [less, Plain] at pa pb h1 h2 ⊢
  grind
theorem lesser_le (a b : End) : less a (lesser a b) = false ∧ less b (lesser a b) = false ∧ (lesser a b = a ∨ lesser a b = b) := by
  unfold lesser
  by_cases c : less b a = true
  · rw [if_pos c]; exact ⟨less_asymm c, less_irrefl _, .inr rfl⟩
  · rw [if_neg c]; exact ⟨less_irrefl _, by simpa using c, .inl rfl⟩
theorem greater_le (a b : End) : less (greater a b) a = false ∧ less (greater a b) b = false ∧ (greater a b = a ∨ greater a b = b) := by
  unfold greater
  by_cases c : less a b = true
  · rw [if_pos c]; exact ⟨less_asymm c, less_irrefl _, .inr rfl⟩
  · rw [if_neg c]; exact ⟨less_irrefl _, by simpa using c, .inl rfl⟩
theorem lesser_four {p q r s t : End} (hp : Plain p) (hq : Plain q) (hr : Plain r) (hs : Plain s) (ht : t = p ∨ t = q ∨ t = r ∨ t = s)
    (lp : less p t = false) (lq : less q t = false) (lr : less r t = false) (ls : less s t = false) : lesser (lesser p q) (lesser r s) = t := by
  have pt : Plain t := by rcases ht with rfl | rfl | rfl | rfl <;> assumption
  obtain ⟨a1, a2, a3⟩ := lesser_le p q
  obtain ⟨b1, b2, b3⟩ := lesser_le r s
  obtain ⟨c1, c2, c3⟩ := lesser_le (lesser p q) (lesser r s)
  have pl := (plain_lesser (plain_lesser hp hq).1 (plain_lesser hr hs).1).1
  refine end_antisymm pl pt ?_ ?_
  · -- t ≤ m
    rcases c3 with c | c <;> rw [c]
    · rcases a3 with a | a <;> rw [a] <;> assumption
    · rcases b3 with a | a <;> rw [a] <;> assumption
  · -- m ≤ t
    have m1 := le_trans_end pl (plain_lesser hp hq).1 hp c1 a1
    have m2 := le_trans_end pl (plain_lesser hp hq).1 hq c1 a2
    have m3 := le_trans_end pl (plain_lesser hr hs).1 hr c2 b1
    have m4 := le_trans_end pl (plain_lesser hr hs).1 hs c2 b2
    rcases ht with rfl | rfl | rfl | rfl <;> assumption
theorem greater_four {p q r s t : End} (hp : Plain p) (hq : Plain q) (hr : Plain r) (hs : Plain s) (ht : t = p ∨ t = q ∨ t = r ∨ t = s)
    (lp : less t p = false) (lq : less t q = false) (lr : less t r = false) (ls : less t s = false) : greater (greater p q) (greater r s) = t := by
  have pt : Plain t := by rcases ht with rfl | rfl | rfl | rfl <;> assumption
  obtain ⟨a1, a2, a3⟩ := greater_le p q
  obtain ⟨b1, b2, b3⟩ := greater_le r s
  obtain ⟨c1, c2, c3⟩ := greater_le (greater p q) (greater r s)
  have pl := (plain_lesser (plain_lesser hp hq).2 (plain_lesser hr hs).2).2
  refine end_antisymm pl pt ?_ ?_
  · have m1 := le_trans_end hp (plain_lesser hp hq).2 pl a1 c1
    have m2 := le_trans_end hq (plain_lesser hp hq).2 pl a2 c1
    have m3 := le_trans_end hr (plain_lesser hr hs).2 pl b1 c2
    have m4 := le_trans_end hs (plain_lesser hr hs).2 pl b2 c2
    rcases ht with rfl | rfl | rfl | rfl <;> assumption
  · rcases c3 with c | c <;> rw [c]
    · rcases a3 with a | a <;> rw [a] <;> assumption
    · rcases b3 with a | a <;> rw [a] <;> assumption
def divAboveB (l h c d : Int) : List Int := [lowEnd (overV (valueOf l) (valueOf (if place l < 0 then c else d))), highEnd (overV (valueOf h) (valueOf (if place h < 0 then d else c)))]
theorem sig_lt {a : Int} (h : 0 ≤ place a) (ha : TN a) : 0 ≤ (valueOf a).whole ∧ (valueOf a).whole < 18446744073709551616 := by
  obtain ⟨n, sn, rfl | ⟨pn, rfl⟩⟩ := ha
  · unfold valueOf sig; simp only
    unfold SizeBits at sn
    split <;> omega
  · rw [place_neg sn] at h; omega
theorem div_above {l h c d : Int} (X : IvB l h) (Y : IvB c d) (hc : 0 ≤ place c) (hd : 0 < place d) : divAboveB l h c d = hullI (EwIval.overAbove (en l, en h) (en c, en d)) := by
  have sl := sign_place X.lo
  have sh := sign_place X.hi
  have sc := sign_place Y.lo
  have sd := sign_place Y.hi
  have pl : Plain (en l) := plain_en
  have ph : Plain (en h) := plain_en
  obtain ⟨c1, c2⟩ := sig_lt hc Y.lo
  obtain ⟨d1, d2⟩ := sig_lt (by omega : 0 ≤ place d) Y.hi
  have qlc := over_stands (exv X.lo) (exv Y.lo) c1
  have qld := over_stands (exv X.lo) (exv Y.hi) d1
  have qhc := over_stands (exv X.hi) (exv Y.lo) c1
  have qhd := over_stands (exv X.hi) (exv Y.hi) d1
  have dz : ¬ signOf (en d) = 0 := by have := sd.2.1.mpr hd; omega
  have low : lowEnd (overV (valueOf l) (valueOf (if place l < 0 then c else d))) = dn (if place l < 0 then quotEnd (en l) (en c) else quotEnd (en l) (en d)) := by
    split
    · exact low_dn qlc
    · exact low_dn qld
  have high : highEnd (overV (valueOf h) (valueOf (if place h < 0 then d else c))) = up (if place h < 0 then quotEnd (en h) (en d) else quotEnd (en h) (en c)) := by
    split
    · exact high_up qhd
    · exact high_up qhc
  unfold divAboveB
  rw [low, high]
  unfold EwIval.overAbove
  simp only
  rw [if_pos (sd.2.1.mpr hd)]
  by_cases z : 0 < place c
  · rw [if_pos (sc.2.1.mpr z)]
    have nz : isZero (en c) = false := by
      unfold isZero
      have := sc.2.1.mpr z
      simp; omega
    rw [nz, if_neg (show ¬ (false = true) by simp)]
    -- the two factors
    have cz : ¬ signOf (en c) = 0 := by have := sc.2.1.mpr z; omega
    have i1 : ∃ y, en c = .num y ∧ 0 < y := by
      have s := sc.2.1.mpr z
      have n := Y.np
      cases e : en c with
      | plus => exact absurd e n
      | minus => rw [e] at s; simp [signOf] at s
      | root q => have := @plain_en c; rw [e] at this; exact this.elim
      | num y =>
        refine ⟨y, rfl, ?_⟩
        rw [e] at s; simp only [signOf] at s
        by_cases c : y < 0
        · rw [if_pos c] at s; omega
        · rw [if_neg c] at s
          by_cases w : y = 0
          · rw [if_pos w] at s; omega
          · exact Rat.lt_of_le_of_ne (Rat.not_lt.mp c) (fun q => w q.symm)
    obtain ⟨y, ey, yp⟩ := i1
    have ip : 0 < 1 / y := by rw [Rat.div_def, Rat.one_mul]; exact Rat.inv_pos.mpr yp
    have i2 : ∃ w, invEnd (en d) = .num w ∧ 0 ≤ w ∧ w ≤ 1 / y := by
      have ld : less (en d) (en c) = false := by
        have := less_place Y.hi Y.lo
        have := Y.le
        cases q : less (en d) (en c)
        · rfl
        · exfalso; have := (less_place Y.hi Y.lo).mp q; omega
      cases e : en d with
      | plus => exact ⟨0, rfl, Rat.le_refl, Rat.le_of_lt ip⟩
      | minus => rw [e, ey] at ld; simp [less] at ld
      | root q => have := @plain_en d; rw [e] at this; exact this.elim
      | num v =>
        rw [e, ey] at ld
        simp only [less, decide_eq_false_iff_not, Rat.not_lt] at ld
        have vp : 0 < v := by grind
        refine ⟨1 / v, rfl, ?_, ?_⟩
        · rw [Rat.div_def, Rat.one_mul]; exact Rat.le_of_lt (Rat.inv_pos.mpr vp)
        · -- 1/v ≤ 1/y
          have hv : (1 / v) * v = 1 := Rat.div_mul_cancel (fun q => by rw [q] at vp; exact Rat.lt_irrefl vp)
          have hy : (1 / y) * y = 1 := Rat.div_mul_cancel (fun q => by rw [q] at yp; exact Rat.lt_irrefl yp)
          have iv : 0 < 1 / v := by rw [Rat.div_def, Rat.one_mul]; exact Rat.inv_pos.mpr vp
          refine Rat.not_lt.mp fun lt => ?_
          have a1 : (1 / y) * y < (1 / v) * y := Rat.mul_lt_mul_of_pos_right lt yp
          have a2 : (1 / v) * y ≤ (1 / v) * v := Rat.mul_le_mul_of_nonneg_left ld (Rat.le_of_lt iv)
          rw [hv] at a2
          rw [hy] at a1
          exact Rat.lt_irrefl (show (1 : Rat) < 1 by grind)
    obtain ⟨w, ew, w0, wy⟩ := i2
    have ie : invEnd (en c) = .num (1 / y) := by rw [ey]; rfl
    have q1 : ∀ e, quotEnd e (en c) = timesEnd e (.num (1 / y)) := by
      intro e; unfold quotEnd; rw [if_neg cz, ie]
    have q2 : ∀ e, quotEnd e (en d) = timesEnd e (.num w) := by
      intro e; unfold quotEnd; rw [if_neg dz, ew]
    rw [q1, q1, q2, q2]
    show _ = [dn (lesser (lesser (timesEnd (en l) (invEnd (en d))) (timesEnd (en l) (invEnd (en c)))) (lesser (timesEnd (en h) (invEnd (en d))) (timesEnd (en h) (invEnd (en c))))),
      up (greater (greater (timesEnd (en l) (invEnd (en d))) (timesEnd (en l) (invEnd (en c)))) (greater (timesEnd (en h) (invEnd (en d))) (timesEnd (en h) (invEnd (en c)))))]
    rw [ie, ew]
    have lh : less (en h) (en l) = false := by
      cases q : less (en h) (en l)
      · rfl
      · exfalso; have := (less_place X.hi X.lo).mp q; have := X.le; omega
    have u0 : 0 ≤ 1 / y := Rat.le_of_lt ip
    have hu := T1 pl ph u0 lh
    have hw := T1 pl ph w0 lh
    have P : ∀ a b, Plain (timesEnd a b) := fun _ _ => plain_timesEnd
    congr 1
    · congr 1
      symm
      by_cases n : place l < 0
      · rw [if_pos n]
        have t2 := T2 pl w0 wy (sl.1.mpr n)
        refine lesser_four (P _ _) (P _ _) (P _ _) (P _ _) (.inr (.inl rfl)) t2 (less_irrefl _) ?_ hu
        exact le_trans_end (P _ _) (P _ _) (P _ _) t2 hw
      · rw [if_neg n]
        have t3 := T3 pl w0 wy (fun q => n (sl.1.mp q))
        refine lesser_four (P _ _) (P _ _) (P _ _) (P _ _) (.inl rfl) (less_irrefl _) t3 hw ?_
        exact le_trans_end (P _ _) (P _ _) (P _ _) t3 hu
    · congr 2
      symm
      by_cases n : place h < 0
      · rw [if_pos n]
        have t2 := T2 ph w0 wy (sh.1.mpr n)
        refine greater_four (P _ _) (P _ _) (P _ _) (P _ _) (.inr (.inr (.inl rfl))) hw ?_ (less_irrefl _) t2
        exact le_trans_end (P _ _) (P _ _) (P _ _) hu t2
      · rw [if_neg n]
        have t3 := T3 ph w0 wy (fun q => n (sh.1.mp q))
        refine greater_four (P _ _) (P _ _) (P _ _) (P _ _) (.inr (.inr (.inr rfl))) ?_ hu t3 (less_irrefl _)
        exact le_trans_end (P _ _) (P _ _) (P _ _) hw t3
  · have c0 : c = 0 := sc.2.2.2.mp (by omega)
    have s0 : signOf (en c) = 0 := sc.2.2.1.mpr c0
    rw [if_neg (show ¬ 0 < signOf (en c) by omega)]
    have : isZero (.num 0) = true := by decide
    rw [this, if_pos rfl]
    show _ = [dn (if signOf (en l) < 0 then .minus else timesEnd (en l) (invEnd (en d))), up (if 0 < signOf (en h) then .plus else timesEnd (en h) (invEnd (en d)))]
    congr 1
    · congr 1
      by_cases n : place l < 0
      · rw [if_pos n, if_pos (sl.1.mpr n)]; unfold quotEnd; rw [if_pos s0, if_pos (sl.1.mpr n)]
      · rw [if_neg n, if_neg (fun q => n (sl.1.mp q))]; unfold quotEnd; rw [if_neg dz]
    · congr 2
      by_cases n : place h < 0
      · rw [if_pos n, if_neg (by have := sh.1.mpr n; omega)]; unfold quotEnd; rw [if_neg dz]
      · rw [if_neg n]; unfold quotEnd
        rw [if_pos s0, if_neg (fun q => n (sh.1.mp q))]
        by_cases w : signOf (en h) = 0
        · have h0 : en h = .num 0 := by rw [sh.2.2.1.mp w]; exact en_zero
          rw [if_pos w, if_neg (by omega), h0]
          obtain ⟨u, eu⟩ := inv_num (en d)
          rw [eu, num_num, Rat.zero_mul]
        · rw [if_neg w, if_pos (by have := fun q => n (sh.1.mp q); omega)]
def divB (l h c d : Int) : List Int := if c = 0 ∧ d = 0 then [EMP, EMP] else if place c < 0 ∧ 0 < place d then (if l = 0 ∧ h = 0 then [0, 0] else [1208916596242592319930368, 604453686435277732577280])
  else if place c < 0 then divAboveB (opposite h) (opposite l) (opposite d) (opposite c) else divAboveB l h c d
theorem below_above {x1 x2 y1 y2 : End} (p1 : Plain y1) (p2 : Plain y2) : EwIval.overBelow (x1, x2) (y1, y2) = EwIval.overAbove (turn x2, turn x1) (turn y2, turn y1) := by
  unfold EwIval.overBelow EwIval.overAbove
  simp only [sign_turn p1, sign_turn p2]
  by_cases a : signOf y1 < 0
  · rw [if_pos a, if_pos (show 0 < - signOf y1 by omega)]
    by_cases b : signOf y2 < 0
    · rw [if_pos b, if_pos (show 0 < - signOf y2 by omega)]
    · rw [if_neg b, if_neg (show ¬ 0 < - signOf y2 by omega)]
  · rw [if_neg a, if_neg (show ¬ 0 < - signOf y1 by omega)]
theorem div_ok {l h c d : Int} (X : IvB l h) (Y : IvB c d) : divB l h c d = hullI (EwIval.div (some (en l, en h)) (some (en c, en d))) := by
  have sl := sign_place X.lo
  have sh := sign_place X.hi
  have sc := sign_place Y.lo
  have sd := sign_place Y.hi
  have pc : Plain (en c) := plain_en
  have pd : Plain (en d) := plain_en
  have pl : Plain (en l) := plain_en
  have ph : Plain (en h) := plain_en
  have yle := Y.le
  have xle := X.le
  show _ = hullI (joinEnds (overBelow (en l, en h) (en c, en d)) (overAbove (en l, en h) (en c, en d)))
  have bn : ¬ signOf (en c) < 0 → overBelow (en l, en h) (en c, en d) = none := by
    intro q; unfold overBelow; simp only; rw [if_neg q]
  have an : ¬ 0 < signOf (en d) → overAbove (en l, en h) (en c, en d) = none := by
    intro q; unfold overAbove; simp only; rw [if_neg q]
  unfold divB
  by_cases zz : c = 0 ∧ d = 0
  · rw [if_pos zz, bn (by have := sc.2.2.1.mpr zz.1; omega), an (by have := sd.2.2.1.mpr zz.2; omega)]; rfl
  · rw [if_neg zz]
    by_cases both : place c < 0 ∧ 0 < place d
    · rw [if_pos both]
      have s1 := sc.1.mpr both.1
      have s2 := sd.2.1.mpr both.2
      have ab : overAbove (en l, en h) (en c, en d) = some (overFrom0 (en l, en h) (en d)) := by
        unfold overAbove; simp only
        rw [if_pos s2, if_neg (show ¬ 0 < signOf (en c) by omega)]
        rfl
      have be : overBelow (en l, en h) (en c, en d) = some (overFrom0 (turn (en h), turn (en l)) (turn (en c))) := by
        unfold overBelow; simp only
        rw [if_pos s1, if_neg (show ¬ signOf (en d) < 0 by omega)]
        rfl
      rw [ab, be]
      show _ = [dn (lesser (if signOf (turn (en h)) < 0 then .minus else timesEnd (turn (en h)) (invEnd (turn (en c)))) (if signOf (en l) < 0 then .minus else timesEnd (en l) (invEnd (en d)))),
        up (greater (if 0 < signOf (turn (en l)) then .plus else timesEnd (turn (en l)) (invEnd (turn (en c)))) (if 0 < signOf (en h) then .plus else timesEnd (en h) (invEnd (en d))))]
      rw [sign_turn ph, sign_turn pl]
      by_cases w : l = 0 ∧ h = 0
      · rw [if_pos w]
        have e1 : en l = .num 0 := by rw [w.1]; exact en_zero
        have e2 : en h = .num 0 := by rw [w.2]; exact en_zero
        obtain ⟨u, eu⟩ := inv_num (en d)
        obtain ⟨v, ev⟩ := inv_num (turn (en c))
        have t0 : turn (.num 0) = .num 0 := by simp only [turn]; rw [Rat.neg_zero]
        rw [e1, e2, t0, eu, ev, sign_zero, num_num, num_num, Rat.zero_mul, Rat.zero_mul]
        decide
      · rw [if_neg w]
        have m1 : dn .minus = 1208916596242592319930368 := by decide
        have p1 : up .plus = 604453686435277732577280 := by decide
        have lm : ∀ e, lesser .minus e = .minus := by intro e; unfold lesser; rw [less_minus_plus.2]; rfl
        have lm2 : ∀ e, Plain e → lesser e .minus = .minus := by
          intro e pe; unfold lesser
          cases e with
          | minus => rfl
          | root q => exact pe.elim
          | num q => rfl
          | plus => rfl
        have gp : ∀ e, greater .plus e = .plus := by intro e; unfold greater; rw [less_minus_plus.1]; rfl
        have gp2 : ∀ e, Plain e → greater e .plus = .plus := by
          intro e pe; unfold greater
          cases e with
          | minus => rfl
          | root q => exact pe.elim
          | num q => rfl
          | plus => rfl
        by_cases n : place l < 0
        · have sn := sl.1.mpr n
          have pp : Plain (if - signOf (en h) < 0 then End.minus else timesEnd (turn (en h)) (invEnd (turn (en c)))) := by
            split
            · trivial
            · exact plain_timesEnd
          rw [if_pos sn, lm2 _ pp, if_pos (show 0 < - signOf (en l) by omega), gp, m1, p1]
        · have hp : 0 < place h := by
            have := sl.2.2.2
            have := sh.2.2.2
            omega
          have sp := sh.2.1.mpr hp
          have pp : Plain (if 0 < - signOf (en l) then End.plus else timesEnd (turn (en l)) (invEnd (turn (en c)))) := by
            split
            · trivial
            · exact plain_timesEnd
          rw [if_pos (show - signOf (en h) < 0 by omega), lm, if_pos sp, gp2 _ pp, m1, p1]
    · rw [if_neg both]
      by_cases n : place c < 0
      · rw [if_pos n]
        have jn : ∀ (x : Ends), joinEnds x none = x := by intro x; cases x <;> rfl
        rw [an (by rw [sd.2.1]; omega), jn, below_above pc pd]
        rw [← (opp_en X.hi).2, ← (opp_en X.lo).2, ← (opp_en Y.hi).2, ← (opp_en Y.lo).2]
        have so := sign_place (opp_en Y.lo).1
        have sp := sign_place (opp_en Y.hi).1
        rw [(opp_en Y.lo).2, sign_turn pc] at so
        rw [(opp_en Y.hi).2, sign_turn pd] at sp
        refine div_above X.opp Y.opp ?_ ?_
        · by_cases q : place (opposite d) < 0
          · have := sp.1.mpr q; have := sd.2.1.mp (by omega); omega
          · omega
        · exact so.2.1.mp (by have := sc.1.mpr n; omega)
      · rw [if_neg n, bn (fun q => n (sc.1.mp q))]
        have : ∀ x, joinEnds none x = x := by intro x; cases x <;> rfl
        rw [this]
        refine div_above X Y (by omega) ?_
        by_cases q : 0 < place d
        · exact q
        · exfalso; apply zz
          exact ⟨sc.2.2.2.mp (by omega), sd.2.2.2.mp (by omega)⟩
end Bx
end
section
namespace Bx
open Ew EwIval Wrxtee
open WrxteeNeutral (fl)
/-! ### one -/
/-! ## the calls -/
theorem place_told {a : Int} (h : Bits a) (n : isNumber a = true) : place (told a) = if a = 604462909807314587353088 then 0 else place a := by
  unfold isNumber at n
  obtain ⟨h0, h1⟩ := h
  unfold told place madeNormal
  unfold expo sig at *
  by_cases c : a = 604462909807314587353088
  · subst c; decide
  · rw [if_neg c, if_neg c]
    repeat' split
    all_goals (repeat' split at n)
    all_goals (try simp only [decide_eq_true_eq] at n)
    all_goals omega
theorem iv_of {a b : Int} (ha : Bits a) (hb : Bits b) (i : isInterval a b = true) (ne : ¬ (a = 1208921207928610747318272 ∧ b = 1208921207928610747318272)) :
    IvB (told a) (told b) ∧ isNumber a = true ∧ isNumber b = true := by
  unfold isInterval at i
  rw [if_neg ne] at i
  simp only [Bool.and_eq_true] at i
  obtain ⟨na, nb, ae⟩ := i
  refine ⟨?_, na, nb⟩
  have es := areEnds_E ha hb na nb
  rw [ae] at es
  unfold ends at es
  simp only [Bool.and_eq_true, bne_iff_ne] at es
  obtain ⟨_, _, _, np, nm⟩ := es
  refine ⟨told_TN ha na, told_TN hb nb, ?_, ?_, ?_⟩
  · unfold areEnds at ae
    split at ae
    · exact nomatch ae
    · simp only [decide_eq_true_eq] at ae
      rw [place_told ha na, place_told hb nb]
      have ps : place 604462909807314587353088 = -1 := by decide
      by_cases c : a = 604462909807314587353088
      · rw [if_pos c]
        rw [c, ps] at ae
        by_cases d : b = 604462909807314587353088
        · rw [if_pos d]; omega
        · rw [if_neg d]
          -- only -0 has -1
          have tb := told_TN hb nb
          have pt := place_told hb nb
          rw [if_neg d] at pt
          obtain ⟨n, sn, e | ⟨pn, e⟩⟩ := tb
          · rw [e, place_pos sn] at pt; omega
          · rw [e, place_neg sn] at pt; omega
      · rw [if_neg c]
        split
        · rename_i d; rw [d, ps] at ae; omega
        · exact ae
  · rw [en_told ha na]; exact np
  · rw [en_told hb nb]; exact nm
def joinB (l h c d : Int) : List Int := if l = EMP then [c, d] else if c = EMP then [l, h] else [lesserB l c, greaterB h d]
def opB (op l h c d : Int) : List Int := if op = 0 then addB l h c d else if op = 1 then subB l h c d else if op = 2 then mulB l h c d else if op = 3 then divB l h c d
  else if op = 4 then leastB l h c d else if op = 5 then greatestB l h c d else if op = 6 then joinB l h c d else meetB l h c d
def twoB (op a b c d : Int) : List Int := if 8 ≤ op then [-1] else if (isInterval a b && isInterval c d) = false then [-2]
  else if op ≠ 6 ∧ (a = EMP ∨ c = EMP) then [0, EMP, EMP] else 0 :: opB op (told a) (told b) (told c) (told d)
theorem told_emp : told EMP = EMP := by decide
theorem emp_not {a : Int} (n : isNumber a = true) : a ≠ EMP := by
  intro c; rw [c] at n; exact absurd n (by decide)
theorem TN_emp {a : Int} (h : TN a) : a ≠ EMP := emp_not h.number
/-- a pair taken -/
theorem takes_iv {a b : Int} (ha : Bits a) (hb : Bits b) : takes (fl a) (fl b) = if isInterval a b = false then none else if a = EMP then some none else some (some ⟨fl a, fl b⟩) := by
  rw [takes_E ha hb]
  by_cases c : a = 1208921207928610747318272 ∧ b = 1208921207928610747318272
  · have i : isInterval a b = true := by unfold isInterval; rw [if_pos c]
    rw [if_pos c, i, if_neg (by simp), if_pos (show a = EMP from c.1)]
  · rw [if_neg c]
    by_cases i : isInterval a b = true
    · rw [if_pos i, i, if_neg (by simp), if_neg (emp_not (iv_of ha hb i c).2.1)]
    · have : isInterval a b = false := by simpa using i
      rw [if_neg i, if_pos this]
theorem iv_both {a b : Int} (ha : Bits a) (hb : Bits b) (i : isInterval a b = true) : (a = EMP ∧ b = EMP) ∨ (a ≠ EMP ∧ IvB (told a) (told b) ∧ en (told a) = en a ∧ en (told b) = en b) := by
  by_cases c : a = 1208921207928610747318272 ∧ b = 1208921207928610747318272
  · exact .inl c
  · obtain ⟨I, na, nb⟩ := iv_of ha hb i c
    exact .inr ⟨emp_not na, I, en_told ha na, en_told hb nb⟩
theorem two_none (op : Nat) (x : Ends) (h : op ≠ 6) : EwIval.two_ op none x = none ∧ EwIval.two_ op x none = none := by
  match op, h with
  | 0, _ => cases x <;> exact ⟨rfl, rfl⟩
  | 1, _ => cases x <;> exact ⟨rfl, rfl⟩
  | 2, _ => cases x <;> exact ⟨rfl, rfl⟩
  | 3, _ => cases x <;> exact ⟨rfl, rfl⟩
  | 4, _ => cases x <;> exact ⟨rfl, rfl⟩
  | 5, _ => cases x <;> exact ⟨rfl, rfl⟩
  | n + 7, _ => cases x <;> exact ⟨rfl, rfl⟩
theorem op_ok {op l h c d : Int} (h0 : 0 ≤ op) (h7 : op < 8) (X : IvB l h) (Y : IvB c d) : opB op l h c d = hullI (EwIval.two_ op.toNat (some (en l, en h)) (some (en c, en d))) := by
  unfold opB
  rcases (show op = 0 ∨ op = 1 ∨ op = 2 ∨ op = 3 ∨ op = 4 ∨ op = 5 ∨ op = 6 ∨ op = 7 by omega) with rfl | rfl | rfl | rfl | rfl | rfl | rfl | rfl
  · exact add_ok X Y
  · exact sub_ok X Y
  · exact mul_ok X Y
  · exact div_ok X Y
  · exact least_ok X Y
  · exact greatest_ok X Y
  · show joinB l h c d = _
    unfold joinB
    rw [if_neg (TN_emp X.lo), if_neg (TN_emp Y.lo)]
    exact join_ok X Y
  · exact meet_ok X Y
theorem two_E {op a b c d : Int} (h0 : 0 ≤ op) (ha : Bits a) (hb : Bits b) (hc : Bits c) (hd : Bits d) : PyWrxtee.two op a b c d = twoB op a b c d := by
  show WrxteeNeutral.told (Wrxtee.answer (.two_ op.toNat (fl a, fl b) (fl c, fl d))) = _
  unfold Wrxtee.answer twoB
  by_cases o : 8 ≤ op
  · rw [if_pos (show asked (.two_ op.toNat (fl a, fl b) (fl c, fl d)) = false by simp [asked]; omega), if_pos o]; rfl
  · rw [if_neg (show ¬ asked (.two_ op.toNat (fl a, fl b) (fl c, fl d)) = false by simp [asked]; omega), if_neg o]
    simp only [with2, with_, takes_iv ha hb, takes_iv hc hd]
    by_cases i : isInterval a b = true
    · by_cases j : isInterval c d = true
      · rw [i, j]
        simp only [Bool.and_self, Bool.true_eq_false, if_false]
        rcases iv_both ha hb i with ⟨ea, eb⟩ | ⟨na, X, xa, xb⟩
        · rcases iv_both hc hd j with ⟨ec, ed⟩ | ⟨nc, Y, yc, yd⟩
          · rw [if_pos ea, if_pos ec]
            show 0 :: WrxteeNeutral.ivT (hull (EwIval.two_ op.toNat none none)) = _
            rw [ivT_hull]
            by_cases k : op = 6
            · subst k
              rw [if_neg (by simp), ea, eb, ec, ed, told_emp]
              decide
            · rw [(two_none op.toNat none (by omega)).1, if_pos ⟨k, .inl ea⟩]; rfl
          · rw [if_pos ea, if_neg nc]
            show 0 :: WrxteeNeutral.ivT (hull (EwIval.two_ op.toNat none (some (en c, en d)))) = _
            rw [ivT_hull]
            by_cases k : op = 6
            · subst k
              rw [if_neg (by simp), ea, eb, told_emp]
              show 0 :: hullI (some (en c, en d)) = 0 :: joinB EMP EMP (told c) (told d)
              unfold joinB
              rw [if_pos rfl, ← yc, ← yd, hullI_self Y.lo Y.hi]
            · rw [(two_none op.toNat _ (by omega)).1, if_pos ⟨k, .inl ea⟩]; rfl
        · rcases iv_both hc hd j with ⟨ec, ed⟩ | ⟨nc, Y, yc, yd⟩
          · rw [if_neg na, if_pos ec]
            show 0 :: WrxteeNeutral.ivT (hull (EwIval.two_ op.toNat (some (en a, en b)) none)) = _
            rw [ivT_hull]
            by_cases k : op = 6
            · subst k
              rw [if_neg (by simp), ec, ed, told_emp]
              show 0 :: hullI (some (en a, en b)) = 0 :: joinB (told a) (told b) EMP EMP
              unfold joinB
              rw [if_neg (TN_emp X.lo), if_pos rfl, ← xa, ← xb, hullI_self X.lo X.hi]
            · rw [(two_none op.toNat _ (by omega)).2, if_pos ⟨k, .inr ec⟩]; rfl
          · rw [if_neg na, if_neg nc]
            show 0 :: WrxteeNeutral.ivT (hull (EwIval.two_ op.toNat (some (en a, en b)) (some (en c, en d)))) = _
            rw [ivT_hull, if_neg (by rintro ⟨_, z | z⟩; exact na z; exact nc z), op_ok h0 (by omega) X Y, xa, xb, yc, yd]
      · have j' : isInterval c d = false := by simpa using j
        rw [i, j']
        simp only [Bool.true_and, if_true, Bool.true_eq_false, if_false]
        split <;> rfl
    · have i' : isInterval a b = false := by simpa using i
      rw [i']; rfl
end Bx
end
section
namespace Bx
open Ew EwIval Wrxtee
open WrxteeNeutral (fl)
/-- the program's size_beside, by whole numbers -/
def keptI (w p E : Int) (out : Bool) : Int := if p < E - 16446 then (if out = true ∧ ¬ w / 2 ^ (E - 16446 - p).toNat * 2 ^ (E - 16446 - p).toNat = w then w / 2 ^ (E - 16446 - p).toNat + 1 else w / 2 ^ (E - 16446 - p).toNat) else w * 2 ^ (-(E - 16446 - p)).toNat
def besideI (w p E : Int) (out : Bool) : Int := if keptI w p E out = 18446744073709551616 then (if 32767 ≤ E + 1 then (if out = true then 604453686435277732577280 else 604444463063240877801471) else (E + 1) * 18446744073709551616 + 9223372036854775808)
  else if 32767 ≤ E then (if out = true then 604453686435277732577280 else 604444463063240877801471) else if keptI w p E out < 9223372036854775808 then keptI w p E out else E * 18446744073709551616 + keptI w p E out
theorem two_pow_int (n : Nat) : (2 : Int) ^ n = ((2 ^ n : Nat) : Int) := by simp
theorem beside_I {w : Nat} (hw : 0 < w) (p : Int) (out : Bool) {E : Int} (hE : E = max (p + ((Nat.log2 w + 1 : Nat) : Int) - 64 + 16446) 1) : (sizeBeside w p out : Int) = besideI w p E out := by
  have hk : max (p + (Nat.log2 w : Int) - 63) (-16445) = E - 16446 := by omega
  have hE1 : 1 ≤ E := by omega
  unfold sizeBeside
  rw [hk]
  have kp : ((flo w p (E - 16446) + (if out = true ∧ ¬ exa w p (E - 16446) then 1 else 0) : Nat) : Int) = keptI w p E out := by
    unfold keptI
    by_cases c : p < E - 16446
    · rw [if_pos c]
      have fo : flo w p (E - 16446) = w / 2 ^ (E - 16446 - p).toNat := by unfold flo; rw [if_pos (by omega)]
      have ex : exa w p (E - 16446) ↔ w % 2 ^ (E - 16446 - p).toNat = 0 := by
        unfold exa
        constructor
        · rintro (h | h)
          · omega
          · exact h
        · exact .inr
      rw [fo]
      generalize (E - 16446 - p).toNat = d at *
      rw [two_pow_int]
      have dm := Nat.div_add_mod w (2 ^ d)
      have e1 : (w : Int) / ((2 ^ d : Nat) : Int) = ((w / 2 ^ d : Nat) : Int) := by simp
      rw [e1]
      have e2 : (((w / 2 ^ d : Nat) : Int) * ((2 ^ d : Nat) : Int) = (w : Int)) ↔ w % 2 ^ d = 0 := by
        rw [← Int.natCast_mul, Int.natCast_inj, Nat.mul_comm]
        generalize 2 ^ d * (w / 2 ^ d) = z at *
        omega
      by_cases hx : out = true ∧ ¬ exa w p (E - 16446)
      · rw [if_pos hx, if_pos ⟨hx.1, fun q => hx.2 (ex.mpr (e2.mp q))⟩]; simp
      · rw [if_neg hx, if_neg (fun q => hx ⟨q.1, fun r => q.2 (e2.mpr (ex.mp r))⟩)]; simp
    · rw [if_neg c]
      have ex : exa w p (E - 16446) := .inl (by omega)
      rw [if_neg (fun q => q.2 ex)]
      have ed : (-(E - 16446 - p)).toNat = (p - (E - 16446)).toNat := by omega
      rw [ed]
      unfold flo
      by_cases z : p ≤ E - 16446
      · have : E - 16446 = p := by omega
        rw [if_pos z, this]; simp
      · rw [if_neg z]
        generalize (p - (E - 16446)).toNat = d
        rw [two_pow_int, ← Int.natCast_mul]; rfl
  unfold besideI
  rw [← kp]
  generalize flo w p (E - 16446) + (if out = true ∧ ¬ exa w p (E - 16446) then 1 else 0) = m
  unfold packed
  cases out <;> simp only [if_true, Bool.false_eq_true, if_false] <;> (repeat' split) <;> omega
theorem xor_turned {a : Int} (h : Bits a) (x : Int) (hx : x = a + 604462909807314587353088 - 2 * ((a / 604462909807314587353088 % 2) * 604462909807314587353088)) : x = turned a := by
  obtain ⟨h0, h1⟩ := h
  unfold turned
  split <;> omega
end Bx
end
section
namespace Bx
open Ew EwIval Wrxtee
open WrxteeNeutral (fl)
/-- what the program's defs want of a value -/
structure Ok (v : Val) : Prop where
  w : v.whole.natAbs.log2 < 1000000
  p0 : -10000000 ≤ v.power
  p1 : v.power ≤ 10000000
theorem Ok.neg {v : Val} (h : Ok v) : Ok ⟨-v.whole, v.power, v.inf⟩ := ⟨by rw [Int.natAbs_neg]; exact h.w, h.p0, h.p1⟩
theorem low_bits (v : Val) : Bits (lowEnd v) := by
  unfold lowEnd
  split
  · constructor <;> omega
  · split
    · split <;> constructor <;> omega
    · split
      · have := beside_bits (w := v.whole.toNat) (p := v.power) (by omega) false
        unfold SizeBits at this; constructor <;> omega
      · have := beside_bits (w := (-v.whole).toNat) (p := v.power) (by omega) true
        unfold SizeBits at this; constructor <;> omega
theorem log2_lt_of {n k : Nat} (hk : 0 < k) (h : n < 2 ^ k) : Nat.log2 n < k := by
  by_cases c : n = 0
  · subst c; simpa using hk
  · exact (Nat.log2_lt c).mpr h
theorem sig_size (a : Int) : 0 ≤ sig a ∧ sig a < 18446744073709551616 := by unfold sig; omega
theorem value_whole (a : Int) : (valueOf a).whole.natAbs < 2 ^ 64 := by
  have := sig_size a
  unfold valueOf; simp only
  split <;> omega
theorem value_small (a : Int) : (valueOf a).whole.natAbs.log2 < 64 ∧ -16445 ≤ (valueOf a).power ∧ (valueOf a).power ≤ 16321 := by
  refine ⟨log2_lt_of (by decide) (value_whole a), ?_⟩
  unfold valueOf expo; simp only
  omega
/-! ### the root's loop -/
end Bx
end
section
namespace Bx
open Ew EwIval Wrxtee
open WrxteeNeutral (fl)
end Bx
end
section
namespace Bx
open Ew EwIval Wrxtee
open WrxteeNeutral (fl)
/-- small values -/
structure Sm (v : Val) : Prop where
  w : v.whole.natAbs < 2 ^ 64
  p0 : -20000 ≤ v.power
  p1 : v.power ≤ 20000
theorem value_sm (a : Int) : Sm (valueOf a) := by
  obtain ⟨_, h2, h3⟩ := value_small a
  exact ⟨value_whole a, by omega, by omega⟩
theorem Sm.log {v : Val} (h : Sm v) : v.whole.natAbs.log2 < 64 := log2_lt_of (by decide) h.w
theorem endless_ok (w : Int) : Ok (endless w) := by
  unfold endless
  by_cases c : 0 < w
  · rw [if_pos c]; exact ⟨by decide, by decide, by decide⟩
  · rw [if_neg c]; exact ⟨by decide, by decide, by decide⟩
theorem times_ok {v o : Val} (hv : Sm v) (ho : Sm o) : Ok (timesV v o) := by
  unfold timesV
  split
  · exact ⟨by decide, by decide, by decide⟩
  · split
    · exact endless_ok _
    · have h1 := hv.p0
      have h2 := hv.p1
      have h3 := ho.p0
      have h4 := ho.p1
      refine ⟨?_, by simp only; omega, by simp only; omega⟩
      have : (v.whole * o.whole).natAbs < 2 ^ 128 := by
        rw [Int.natAbs_mul, show (2 : Nat) ^ 128 = 2 ^ 64 * 2 ^ 64 by decide]
        exact Nat.mul_lt_mul'' hv.w ho.w
      exact Nat.lt_trans (log2_lt_of (by decide) this) (by decide)
theorem finer_ok {w p : Int} {ex : Bool} (hw : w.natAbs.log2 < 900000) (h0 : -9000000 ≤ p) (h1 : p ≤ 9000000) : Ok (finerV w p ex) := by
  unfold finerV
  refine ⟨?_, by simp only; omega, by simp only; omega⟩
  simp only
  have b := @Nat.lt_log2_self w.natAbs
  have : (2 * w + (if ex = true then 0 else 1)).natAbs < 2 ^ (w.natAbs.log2 + 3) := by
    have e : (2 : Nat) ^ (w.natAbs.log2 + 3) = 4 * 2 ^ (w.natAbs.log2 + 1) := by rw [Nat.pow_add _ _ 3, Nat.pow_succ]; omega
    rw [e]
    have : 1 ≤ 2 ^ (w.natAbs.log2 + 1) := Nat.two_pow_pos _
    split <;> omega
  exact Nat.lt_of_lt_of_le (log2_lt_of (by omega) this) (by omega)
end Bx
end
section
namespace Bx
open Ew EwIval Wrxtee
open WrxteeNeutral (fl)
theorem shl_abs (w : Int) (d : Nat) : (w * 2 ^ d).natAbs = w.natAbs * 2 ^ d := by
  rw [Int.natAbs_mul, two_pow_int, Int.natAbs_natCast]
theorem plus_ok {v o : Val} (hv : Sm v) (ho : Sm o) : Ok (plusV v o) := by
  have h1 := hv.p0
  have h2 := hv.p1
  have h3 := ho.p0
  have h4 := ho.p1
  have lv := hv.log
  have lo := ho.log
  unfold plusV
  split
  · exact ⟨by omega, by omega, by omega⟩
  · split
    · exact ⟨by omega, by omega, by omega⟩
    · refine ⟨?_, by simp only; omega, by simp only; omega⟩
      simp only
      generalize hd : (v.power - min v.power o.power).toNat = d
      generalize he : (o.power - min v.power o.power).toNat = e
      have d1 : d ≤ 40000 := by omega
      have e1 : e ≤ 40000 := by omega
      have a1 : (v.whole * 2 ^ d).natAbs < 2 ^ (64 + 40000) := by
        rw [shl_abs, Nat.pow_add]
        exact Nat.lt_of_lt_of_le ((Nat.mul_lt_mul_right (Nat.two_pow_pos _)).mpr hv.w) (Nat.mul_le_mul_left _ (Nat.pow_le_pow_right (by omega) d1))
      have a2 : (o.whole * 2 ^ e).natAbs < 2 ^ (64 + 40000) := by
        rw [shl_abs, Nat.pow_add]
        exact Nat.lt_of_lt_of_le ((Nat.mul_lt_mul_right (Nat.two_pow_pos _)).mpr ho.w) (Nat.mul_le_mul_left _ (Nat.pow_le_pow_right (by omega) e1))
      have a3 : (v.whole * 2 ^ d + o.whole * 2 ^ e).natAbs < 2 ^ (64 + 40000 + 1) := by
        rw [Nat.pow_succ]
        generalize (2 : Nat) ^ (64 + 40000) = B at *
        omega
      exact Nat.lt_of_lt_of_le (log2_lt_of (by omega) a3) (by omega)
theorem div_log {z y : Int} (hy : 0 < y) {k : Nat} (hz : z.natAbs < 2 ^ k) : (z / y).natAbs ≤ 2 ^ k := by
  have h1 : -(z.natAbs : Int) ≤ z / y := by
    rw [Int.le_ediv_iff_mul_le hy]
    have : -(z.natAbs : Int) * y ≤ -(z.natAbs : Int) * 1 := Int.mul_le_mul_of_nonpos_left (by omega) (by omega)
    omega
  have h2 : z / y ≤ (z.natAbs : Int) := by
    rw [← Int.lt_add_one_iff, Int.ediv_lt_iff_lt_mul hy]
    have : ((z.natAbs : Int) + 1) * 1 ≤ ((z.natAbs : Int) + 1) * y := Int.mul_le_mul_of_nonneg_left (by omega) (by omega)
    omega
  omega
/-- what over wants of a value -/
structure Md (v : Val) : Prop where
  w : v.whole.natAbs.log2 < 9000
  p0 : -4000000 ≤ v.power
  p1 : v.power ≤ 4000000
theorem Sm.md {v : Val} (h : Sm v) : Md v := by
  have := h.log
  have := h.p0
  have := h.p1
  exact ⟨by omega, by omega, by omega⟩
theorem ovS_le {o : Val} (h : Md o) : 65 ≤ ovS o ∧ ovS o ≤ 9064 := by
  have := h.w
  unfold ovS; omega
theorem quot_log {v o : Val} (hv : Md v) (ho : Md o) (hy : 0 < o.whole) : (v.whole * ((2 ^ ovS o : Nat) : Int) / o.whole).natAbs.log2 < 20000 := by
  have s := ovS_le ho
  generalize ovS o = c at s
  have w : v.whole.natAbs < 2 ^ 9000 := Nat.lt_of_lt_of_le Nat.lt_log2_self (Nat.pow_le_pow_right (by omega) hv.w)
  generalize hk : (9000 : Nat) = k at w
  have a : (v.whole * ((2 ^ c : Nat) : Int)).natAbs < 2 ^ (k + c) := by
    rw [Int.natAbs_mul, Int.natAbs_natCast, Nat.pow_add]
    exact (Nat.mul_lt_mul_right (Nat.two_pow_pos _)).mpr w
  have b := div_log hy a
  have := log2_lt_of (k := k + c + 1) (by omega) (Nat.lt_of_le_of_lt b (Nat.pow_lt_pow_right (by omega) (by omega)))
  omega
theorem over_ok {v o : Val} (hv : Md v) (ho : Md o) (h0 : 0 ≤ o.whole) : Ok (overV v o) := by
  have h1 := hv.p0
  have h2 := hv.p1
  have h3 := ho.p0
  have h4 := ho.p1
  have s := ovS_le ho
  unfold overV
  split
  · exact ⟨by decide, by decide, by decide⟩
  · split
    · exact endless_ok _
    · rename_i c
      have hy : 0 < o.whole := by
        have : ¬ o.whole = 0 := fun h => c (.inr h)
        omega
      have q := quot_log hv ho hy
      exact finer_ok (by omega) (by omega) (by omega)
theorem two_len (l h c d : Int) : (addB l h c d).length = 2 ∧ (subB l h c d).length = 2 ∧ (mulB l h c d).length = 2 ∧ (divB l h c d).length = 2 ∧ (leastB l h c d).length = 2 ∧ (greatestB l h c d).length = 2 ∧ (joinB l h c d).length = 2 ∧ (meetB l h c d).length = 2 := by
  refine ⟨rfl, rfl, rfl, ?_, rfl, rfl, ?_, ?_⟩
  · unfold divB; repeat' split
    all_goals rfl
  · unfold joinB; repeat' split
    all_goals rfl
  · unfold meetB; split <;> rfl
theorem opp_place {a : Int} (ha : TN a) (h : place a ≤ 0) : 0 ≤ place (opposite a) := by
  have := place_opp ha z_TN (by rw [show place 0 = 0 by decide]; exact h)
  rw [show opposite 0 = 0 by decide, show place 0 = 0 by decide] at this
  exact this
def aroundB (l h : Int) : List Int := if l = 0 ∧ h = 0 then [0, 0] else [1208916596242592319930368, 604453686435277732577280]
theorem opB_eq (l h c d : Int) : opB 0 l h c d = addB l h c d ∧ opB 1 l h c d = subB l h c d ∧ opB 2 l h c d = mulB l h c d ∧ opB 3 l h c d = divB l h c d ∧ opB 4 l h c d = leastB l h c d ∧ opB 5 l h c d = greatestB l h c d ∧ opB 6 l h c d = joinB l h c d ∧ opB 7 l h c d = meetB l h c d := by
  unfold opB
  refine ⟨if_pos rfl, ?_, ?_, ?_, ?_, ?_, ?_, ?_⟩
  · rw [if_neg (by decide), if_pos rfl]
  · rw [if_neg (by decide), if_neg (by decide), if_pos rfl]
  · rw [if_neg (by decide), if_neg (by decide), if_neg (by decide), if_pos rfl]
  · rw [if_neg (by decide), if_neg (by decide), if_neg (by decide), if_neg (by decide), if_pos rfl]
  · rw [if_neg (by decide), if_neg (by decide), if_neg (by decide), if_neg (by decide), if_neg (by decide), if_pos rfl]
  · rw [if_neg (by decide), if_neg (by decide), if_neg (by decide), if_neg (by decide), if_neg (by decide), if_neg (by decide), if_pos rfl]
  · rw [if_neg (by decide), if_neg (by decide), if_neg (by decide), if_neg (by decide), if_neg (by decide), if_neg (by decide), if_neg (by decide)]
end Bx
end
section
namespace Bx
open Ew EwIval Wrxtee
open WrxteeNeutral (fl)
/-! ### relate -/
theorem op_ne {op : Int} (h0 : 0 ≤ op) (k : Nat) : (op.toNat != k) = decide (op ≠ (k : Int)) ∧ (op.toNat == k) = decide (op = (k : Int)) := by
  constructor
  · by_cases c : op = k
    · simp [c]
    · have : op.toNat ≠ k := by omega
      simp [this, c]
  · by_cases c : op = k
    · simp [c]
    · have : op.toNat ≠ k := by omega
      simp [this, c]
/-! ### has -/
end Bx
end
section
namespace Bx
open Ew EwIval Wrxtee
open WrxteeNeutral (fl)
/-! ### width -/
/-! ### div2 -/
theorem IvB.zero {d : Int} (h : TN d) (p : 0 ≤ place d) : IvB 0 d := by
  refine ⟨z_TN, h, p, ?_, ?_⟩
  · rw [en_zero]; exact fun c => nomatch c
  · intro c
    have := (sign_place h).1
    rw [c] at this
    have := this.mp (by decide)
    omega
end Bx
end
section
namespace Bx
open Ew EwIval Wrxtee
open WrxteeNeutral (fl)
/-! ### powers -/
/-! ### 1 over an interval -/
end Bx
end
section
namespace Bx
open Ew EwIval Wrxtee
open WrxteeNeutral (fl)
/-! ### power -/
end Bx
end
section
namespace Bx
open Ew EwIval Wrxtee
open WrxteeNeutral (fl)
/-! ### to the nearest -/
/-! ### middle -/
end Bx
end
section
namespace Bx
open Ew EwIval Wrxtee
/-! ## texts as lists of whole numbers -/
abbrev Byt (l : List Int) : Prop := ∀ z ∈ l, 0 ≤ z ∧ z ≤ 255
def u8 (c : Int) : UInt8 := UInt8.ofNat c.toNat
abbrev T (l : List Int) : Bytes := l.map u8
theorem Byt.drop {l : List Int} (h : Byt l) (n : Nat) : Byt (l.drop n) := fun z m => h z (List.mem_of_mem_drop m)
/-! ### powers of ten -/
end Bx
end
section
namespace Bx
open Ew EwIval Wrxtee
/-! ### a number's text -/
inductive RI where
  | inf (neg : Bool)
  | fin (neg hex : Bool) (w : Nat) (e : Int)
theorem Byt.take {l : List Int} (h : Byt l) (n : Nat) : Byt (l.take n) := fun z m => h z (List.mem_of_mem_take m)
/-! ### a pair's text -/
end Bx
end
section
namespace Bx
open Ew EwIval Wrxtee
open WrxteeNeutral (fl)
/-! ## texts that are told -/
abbrev I8 (b : Bytes) : List Int := b.map fun c => ((c.toNat : Nat) : Int)
/-! ### the digits from their front, and with 0s behind -/
/-! ### an end's text -/
end Bx
end
section
namespace Bx
open Ew EwIval Wrxtee
open WrxteeNeutral (fl)
/-! ### the opposite of an end -/
/-! ### powers step by step -/
theorem Md.ok {v : Val} (h : Md v) : Ok v := by
  have := h.w
  have := h.p0
  have := h.p1
  exact ⟨by omega, by omega, by omega⟩
/-! ### power_above_zero -/
/-! ### odd_power, power_of -/
end Bx
end
section
namespace Bx
open Ew EwIval Wrxtee
open WrxteeNeutral (fl)
/-! ### div2 as the program has it -/
/-! ### relate as the program has it -/
/-! ### has -/
end Bx
end
section
namespace Bx
open Ew EwIval Wrxtee
open WrxteeNeutral (fl)
end Bx
end
section
namespace Bx
open Ew EwIval Wrxtee
open WrxteeNeutral (fl)
/-- what over takes, however long -/
structure Lg (v : Val) : Prop where
  w : v.whole.natAbs.log2 < 400000
  p0 : -4000000 ≤ v.power
  p1 : v.power ≤ 4000000
theorem Md.lg {v : Val} (h : Md v) : Lg v := by
  have := h.w
  exact ⟨by omega, h.p0, h.p1⟩
end Bx
end
section
namespace Bx
open Ew EwIval Wrxtee
open WrxteeNeutral (fl)
/-! ### the program's shortened and size_rounded, by whole numbers -/
def shortI (w d r : Int) : Int := if d ≤ 0 then w * 2 ^ (-d).toNat else
  if r = 1 ∧ 0 < w - w / 2 ^ d.toNat * 2 ^ d.toNat then w / 2 ^ d.toNat + 1 else
  if r = 2 ∧ (2 ^ (d - 1).toNat < w - w / 2 ^ d.toNat * 2 ^ d.toNat ∨ (w - w / 2 ^ d.toNat * 2 ^ d.toNat = 2 ^ (d - 1).toNat ∧ w / 2 ^ d.toNat % 2 = 1)) then w / 2 ^ d.toNat + 1 else w / 2 ^ d.toNat
def packR (m E r : Int) : Int := if m = 18446744073709551616 then (if 32767 ≤ E + 1 then (if r = 0 then 604444463063240877801471 else 604453686435277732577280) else (E + 1) * 18446744073709551616 + 9223372036854775808)
  else if 32767 ≤ E then (if r = 0 then 604444463063240877801471 else 604453686435277732577280) else if m < 9223372036854775808 then m else E * 18446744073709551616 + m
def expR (w : Nat) (p : Int) : Int := max (p + ((Nat.log2 w + 1 : Nat) : Int) - 64 + 16446) 1
def sizeR (w : Nat) (p r : Int) : Int := packR (shortI w (expR w p - 16446 - p) r) (expR w p) r
theorem shortI_kept {w : Nat} (p E : Int) (out : Bool) : shortI w (E - 16446 - p) (if out = true then 1 else 0) = keptI w p E out := by
  unfold shortI keptI
  by_cases c : p < E - 16446
  · rw [if_neg (by omega), if_pos c]
    generalize (E - 16446 - p).toNat = d
    rw [two_pow_int]
    have dm := Nat.div_add_mod w (2 ^ d)
    have e1 : (w : Int) / ((2 ^ d : Nat) : Int) = ((w / 2 ^ d : Nat) : Int) := by simp
    rw [e1, ← Int.natCast_mul, Nat.mul_comm]
    generalize 2 ^ d * (w / 2 ^ d) = z at *
    cases out
    · simp
    · simp only [if_true, true_and, show ¬ (1 : Int) = 2 by decide, false_and, if_false]
      have e2 : (0 < (w : Int) - (z : Int)) ↔ ¬ ((z : Int) = w) := by omega
      simp only [e2]
  · rw [if_pos (by omega), if_neg c]
theorem sizeR_out {w : Nat} (hw : 0 < w) (p : Int) (out : Bool) : sizeR w p (if out = true then 1 else 0) = sizeBeside w p out := by
  rw [beside_I hw p out (E := expR w p) rfl]
  unfold sizeR besideI packR
  rw [shortI_kept]
  cases out <;> simp
theorem sizeR_in {w : Nat} (hw : 0 < w) (p : Int) : sizeR w p 0 = sizeBeside w p false := sizeR_out hw p false
theorem sizeR_up {w : Nat} (hw : 0 < w) (p : Int) : sizeR w p 1 = sizeBeside w p true := sizeR_out hw p true
end Bx
end
section
namespace Bx
open Ew EwIval Wrxtee
open WrxteeNeutral (fl)
/-! ### texts as the program makes them -/
end Bx
end
section
set_option Elab.async false
set_option linter.all false
set_option maxRecDepth 100000
namespace L2
open PySem PySem.Spec PyProof.Rows
/-! ## the program's Value -/
def vf (w p : Int) (i : Bool) : List (Str × V) := putF "infinite" (.bl i) (putF "power" (.int p) (putF "whole" (.int w) []))
theorem vf_look (w p : Int) (i : Bool) : (vf w p i).lookup ("whole" : Str) = some (.int w) ∧ (vf w p i).lookup ("power" : Str) = some (.int p) ∧ (vf w p i).lookup ("infinite" : Str) = some (.bl i) := by
  unfold vf
  refine ⟨?_, ?_, ?_⟩
  · rw [lookup_putF, if_neg (by decide +kernel), lookup_putF, if_neg (by decide +kernel), lookup_putF, if_pos rfl]
  · rw [lookup_putF, if_neg (by decide +kernel), lookup_putF, if_pos rfl]
  · rw [lookup_putF, if_pos rfl]
def VAt (C : Addr) (H : Hp) (a : Addr) (v : Bx.Val) : Prop := ∃ dx, H a = some (.ins C dx (vf v.whole v.power v.inf))
theorem VAt.same {C : Addr} {H H' : Hp} {a : Addr} {v : Bx.Val} (h : VAt C H a v) (s : Same H H') : VAt C H' a v := by
  obtain ⟨dx, e⟩ := h; exact ⟨dx, s _ _ e⟩
theorem VAt.inj {C : Addr} {H : Hp} {a : Addr} {v u : Bx.Val} (h : VAt C H a v) (k : VAt C H a u) : v = u := by
  obtain ⟨dx, e⟩ := h
  obtain ⟨dy, f⟩ := k
  rw [e] at f
  have f' := Option.some.inj f
  injection f' with _ _ g
  have a1 := vf_look v.whole v.power v.inf
  have a2 := vf_look u.whole u.power u.inf
  rw [g] at a1
  have b1 := Option.some.inj (a1.1.symm.trans a2.1)
  have b2 := Option.some.inj (a1.2.1.symm.trans a2.2.1)
  have b3 := Option.some.inj (a1.2.2.symm.trans a2.2.2)
  injection b1 with b1
  injection b2 with b2
  injection b3 with b3
  cases v; cases u
  simp only at b1 b2 b3
  subst b1 b2 b3
  rfl
theorem vat_ex {C : Addr} {H : Hp} {p : Addr} {v : Bx.Val} (hv : VAt C H p v) {R : Bx.Val → Prop} : (∃ u, VAt C H p u ∧ R u) ↔ R v := by
  constructor
  · rintro ⟨u, h, r⟩; rw [hv.inj h]; exact r
  · intro r; exact ⟨v, hv, r⟩
structure VTxt (K : PySem.W.Frag) (C : Addr) : Prop where
  cl : Cls K C
  n1 : NoAttr K C "whole"
  n2 : NoAttr K C "power"
  n3 : NoAttr K C "infinite"
def tFV (C : Addr) (g : Bx.Val → V) (te : TE) : TE := fun σ H Q => te σ H fun x H1 => ∃ a v, x = .ref a ∧ VAt C H1 a v ∧ Q (g v) H1
section
variable {X : Cx} {e : Expr} {es : List Expr} {te : TE} {t : TA} {p pos : Pos} {C : Addr}
theorem pe_whole (T : VTxt X.K C) (he : PE X e te) (hb : attributeBase e "whole" X.env (eval e X.env) = eval e X.env := by rfl) : PE X (.Attribute e "whole" pos) (tFV C (fun v => .int v.whole) te) := by
  intro pins s σ H Q I h
  refine attr_of hb (thn (he pins s σ H _ I h) fun u s1 ⟨x, H1, I1, rx, a, v, ex, ⟨dx, ea⟩, q⟩ => ?_)
  subst ex
  obtain rfl : u = Value.ref a := rx
  exact getattr_ok I1 ea T.cl T.n1 (vf_look _ _ _).1 fun u' s2 I2 ru => ⟨_, H1, I2, ru, q⟩
theorem pe_power (T : VTxt X.K C) (he : PE X e te) (hb : attributeBase e "power" X.env (eval e X.env) = eval e X.env := by rfl) : PE X (.Attribute e "power" pos) (tFV C (fun v => .int v.power) te) := by
  intro pins s σ H Q I h
  refine attr_of hb (thn (he pins s σ H _ I h) fun u s1 ⟨x, H1, I1, rx, a, v, ex, ⟨dx, ea⟩, q⟩ => ?_)
  subst ex
  obtain rfl : u = Value.ref a := rx
  exact getattr_ok I1 ea T.cl T.n2 (vf_look _ _ _).2.1 fun u' s2 I2 ru => ⟨_, H1, I2, ru, q⟩
theorem pe_infinite (T : VTxt X.K C) (he : PE X e te) (hb : attributeBase e "infinite" X.env (eval e X.env) = eval e X.env := by rfl) : PE X (.Attribute e "infinite" pos) (tFV C (fun v => .bl v.inf) te) := by
  intro pins s σ H Q I h
  refine attr_of hb (thn (he pins s σ H _ I h) fun u s1 ⟨x, H1, I1, rx, a, v, ex, ⟨dx, ea⟩, q⟩ => ?_)
  subst ex
  obtain rfl : u = Value.ref a := rx
  exact getattr_ok I1 ea T.cl T.n3 (vf_look _ _ _).2.2 fun u' s2 I2 ru => ⟨_, H1, I2, ru, q⟩
end
def spInitV (C : Addr) : Sp := fun vs H Q _ => ∃ p dx w pw i, vs = [.ref p, .int w, .int pw, .bl i] ∧ H p = some (.ins C dx []) ∧ ∀ H' : Hp, VAt C H' p ⟨w, pw, i⟩ → (∀ b o, H b = some o → b ≠ p → H' b = some o) → Q .non H'
def MkV (P : Program) (w : World) (K : PySem.W.Frag) (mg : Str → Option Value) (base : Heap) (C : Addr) (k : Nat) : Prop :=
  ∃ f fd, Mk K C f ∧ FnOk P w K mg base CX0 k f fd ["self", "whole", "power", "infinite"] (spInitV C) ∧ mg "Value" = some (.ref C) ∧ Binds K fd ["self", "whole", "power", "infinite"] []
def mkq (C : Addr) (vs : List V) (H1 : Hp) (Q : VK) : Prop := ∃ w p i, vs = [.int w, .int p, .bl i] ∧ ∀ (x : Addr) (H' : Hp), Same H1 H' → VAt C H' x ⟨w, p, i⟩ → Q (.ref x) H'
theorem mkq_app {C : Addr} {w p : Int} {i : Bool} {H1 : Hp} {Q : VK} : mkq C [.int w, .int p, .bl i] H1 Q ↔ ∀ (x : Addr) (H' : Hp), Same H1 H' → VAt C H' x ⟨w, p, i⟩ → Q (.ref x) H' := by
  constructor
  · rintro ⟨_, _, _, e, h⟩; cases e; exact h
  · intro h; exact ⟨w, p, i, rfl, h⟩
def tMkV (C : Addr) (t : TA) : TE := fun σ H Q => t σ H fun vs H1 => mkq C vs H1 Q
section
variable {X : Cx} {e : Expr} {es : List Expr} {te : TE} {t : TA} {p pos : Pos} {C : Addr} {k : Nat}
theorem pe_mkV (M : MkV X.prog X.w X.K X.mg X.base C k) (hr : Room (k + 1) X.A) (hg : Gl X "Value") (ha : PA X (e :: es) t)
    (he : starEach (e :: es) X.env = (false, eval e X.env) :: starEach es X.env := by rfl) (hpl : (backTo pos (starEach es X.env)).any (·.1) = false := by rfl) :
    PE X (.Call (.Name "Value" p) (e :: es) [] pos) (tMkV C t) := by
  obtain ⟨f, fd, mk, F, hm, hb⟩ := M
  intro pins s σ H Q I h
  refine wpAny_Call_Name_kw (ld_glob I hg hm ?_ (by decide))
  refine PySem.W.callWith_K (h₀ := X.base) I.ok.mod.kin mk.kp (thn (ha pos pins s σ H _ I h) fun us s1 ⟨vs, H1, I1, r, w, pw, i, ev, q⟩ => ⟨I1.kIn, ?_⟩) he hpl
  subst ev
  exact run_make (E := E0) mk F hr hb .nil pass0 I1 r fun x dx nx nd ne => ⟨x, dx, w, pw, i, rfl, upd_same, fun H' hv kp => ⟨rfl, q x H' (Same.made nx nd kp) hv⟩⟩
/-- max(a, b), min(a, b) of two numbers -/
def rMx (xs : List V) (H : Hp) (Q : VK) : Prop := ∃ i j, xs = [.int i, .int j] ∧ Q (.int (max i j)) H
def rMn (xs : List V) (H : Hp) (Q : VK) : Prop := ∃ i j, xs = [.int i, .int j] ∧ Q (.int (min i j)) H
theorem rMx_app {i j : Int} {H : Hp} {Q : VK} : rMx [.int i, .int j] H Q ↔ Q (.int (max i j)) H := by
  constructor
  · rintro ⟨_, _, e, h⟩; cases e; exact h
  · intro h; exact ⟨i, j, rfl, h⟩
theorem rMn_app {i j : Int} {H : Hp} {Q : VK} : rMn [.int i, .int j] H Q ↔ Q (.int (min i j)) H := by
  constructor
  · rintro ⟨_, _, e, h⟩; cases e; exact h
  · intro h; exact ⟨i, j, rfl, h⟩
theorem call_mx (hc : X.calm = true) : CallR X (.builtin "max") rMx := by
  intro pins s σ H xs us Q I r h
  obtain ⟨i, j, rfl, q⟩ := h
  refine call_max2 hc pins s σ H _ us Q I r ⟨i, j, rfl, ?_⟩
  have e : (if j > i then j else i) = max i j := by split <;> omega
  rw [e]; exact q
theorem call_mn (hc : X.calm = true) : CallR X (.builtin "min") rMn := by
  intro pins s σ H xs us Q I r h
  obtain ⟨i, j, rfl, q⟩ := h
  refine call_min2 hc pins s σ H _ us Q I r ⟨i, j, rfl, ?_⟩
  have e : (if j < i then j else i) = min i j := by split <;> omega
  rw [e]; exact q
theorem boot_mx : bootBuiltins "max" = some (.builtin "max") := by first | rfl | decide +kernel
theorem boot_mn : bootBuiltins "min" = some (.builtin "min") := by first | rfl | decide +kernel
/-- n.bit_length() -/
theorem mt_bitlen : MtR X "int.bit_length" (fun x xs H Q => ∃ i, x = .int i ∧ xs = [] ∧ Q (.int (Builtin.Int.intBits i)) H) := by
  intro pins s σ H x xs v us Q I rx r h
  obtain ⟨i, rfl, rfl, q⟩ := h
  obtain ⟨t, rfl⟩ := rx
  cases r
  exact call_int_bit_length ⟨.int _, H, I.tok _, ⟨_, rfl⟩, q⟩
end
theorem ib_le {x : Int} {k : Nat} (h : x.natAbs < 2 ^ k) : Builtin.Int.intBits x ≤ k := by
  unfold Builtin.Int.intBits
  split
  · exact Nat.zero_le _
  · rename_i c
    have c' : x.natAbs ≠ 0 := by intro z; apply c; simp; omega
    exact (Nat.log2_lt c').mpr h
theorem ib_log {x : Int} : Builtin.Int.intBits x ≤ x.natAbs.log2 + 1 := by
  unfold Builtin.Int.intBits
  split <;> omega
/-- size_beside's end -/
theorem sb_tail {Q : VK} {H : Hp} {E m over : Int} (h0 : 0 ≤ E) (h1 : E < 1000000000)
    (k : Q (.int (if m = 18446744073709551616 then (if 32767 ≤ E + 1 then over else (E + 1) * 18446744073709551616 + 9223372036854775808) else if 32767 ≤ E then over else if m < 9223372036854775808 then m else E * 18446744073709551616 + m)) H) :
    if m = 18446744073709551616 then (if 32767 ≤ E + 1 then Q (.int over) H else (Builtin.Int.intBits (E + 1) ≤ 1048576 ∧ Builtin.Int.intBits 18446744073709551616 ≤ 1048576) ∧ Q (.int ((E + 1) * 18446744073709551616 + 9223372036854775808)) H)
    else if 32767 ≤ E then Q (.int over) H else if m < 9223372036854775808 then Q (.int m) H else (Builtin.Int.intBits E ≤ 1048576 ∧ Builtin.Int.intBits 18446744073709551616 ≤ 1048576) ∧ Q (.int (E * 18446744073709551616 + m)) H := by
  have b1 : Builtin.Int.intBits (E + 1) ≤ 1048576 := Nat.le_trans (ib_le (k := 30) (by omega)) (by decide)
  have b2 : Builtin.Int.intBits E ≤ 1048576 := Nat.le_trans (ib_le (k := 30) (by omega)) (by decide)
  have b3 : Builtin.Int.intBits 18446744073709551616 ≤ 1048576 := Nat.le_trans (ib_le (k := 65) (by decide)) (by decide)
  by_cases y : m = 18446744073709551616
  · simp only [y, if_true] at k ⊢
    by_cases z : 32767 ≤ E + 1
    · simp only [z, if_true] at k ⊢; exact k
    · simp only [z, if_false] at k ⊢; exact ⟨⟨b1, b3⟩, k⟩
  · simp only [y, if_false] at k ⊢
    by_cases z : 32767 ≤ E
    · simp only [z, if_true] at k ⊢; exact k
    · simp only [z, if_false] at k ⊢
      by_cases u : m < 9223372036854775808
      · simp only [u, if_true] at k ⊢; exact k
      · simp only [u, if_false] at k ⊢; exact ⟨⟨b2, b3⟩, k⟩
/-! ## promises -/
def spV1 (C : Addr) (pre : Int → Prop) (g : Int → Bx.Val) : Sp := fun vs H Q _ => ∃ a, vs = [.int a] ∧ pre a ∧ ∀ (x : Addr) (H' : Hp), Same H H' → VAt C H' x (g a) → Q (.ref x) H'
def spVI (C : Addr) (pre : Bx.Val → Prop) (g : Bx.Val → Int) : Sp := fun vs H Q _ => ∃ p v, vs = [.ref p] ∧ VAt C H p v ∧ pre v ∧ ∀ H' : Hp, Same H H' → Q (.int (g v)) H'
def spVVV (C : Addr) (pre : Bx.Val → Bx.Val → Prop) (g : Bx.Val → Bx.Val → Bx.Val) : Sp := fun vs H Q _ => ∃ p q v o, vs = [.ref p, .ref q] ∧ VAt C H p v ∧ VAt C H q o ∧ pre v o ∧ ∀ (x : Addr) (H' : Hp), Same H H' → VAt C H' x (g v o) → Q (.ref x) H'
def sp3 (pre : Int → Int → Bool → Prop) (g : Int → Int → Bool → V) : Sp := fun vs H Q _ => ∃ a b c, vs = [.int a, .int b, .bl c] ∧ pre a b c ∧ Q (g a b c) H
def spV3 (C : Addr) (pre : Int → Int → Bool → Prop) (g : Int → Int → Bool → Bx.Val) : Sp := fun vs H Q _ => ∃ a b c, vs = [.int a, .int b, .bl c] ∧ pre a b c ∧ ∀ (x : Addr) (H' : Hp), Same H H' → VAt C H' x (g a b c) → Q (.ref x) H'
section
variable {C p q : Addr} {H : Hp} {Q : VK} {E : XK} {v o : Bx.Val}
theorem spV1_app {pre : Int → Prop} {g : Int → Bx.Val} {a : Int} : spV1 C pre g [.int a] H Q E ↔ pre a ∧ ∀ (x : Addr) (H' : Hp), Same H H' → VAt C H' x (g a) → Q (.ref x) H' := by
  constructor
  · rintro ⟨_, e, h⟩; cases e; exact h
  · intro h; exact ⟨a, rfl, h⟩
theorem sp3_app {pre : Int → Int → Bool → Prop} {g : Int → Int → Bool → V} {a b : Int} {c : Bool} : sp3 pre g [.int a, .int b, .bl c] H Q E ↔ pre a b c ∧ Q (g a b c) H := by
  constructor
  · rintro ⟨_, _, _, e, h⟩; cases e; exact h
  · intro h; exact ⟨a, b, c, rfl, h⟩
theorem spV3_app {pre : Int → Int → Bool → Prop} {g : Int → Int → Bool → Bx.Val} {a b : Int} {c : Bool} : spV3 C pre g [.int a, .int b, .bl c] H Q E ↔ pre a b c ∧ ∀ (x : Addr) (H' : Hp), Same H H' → VAt C H' x (g a b c) → Q (.ref x) H' := by
  constructor
  · rintro ⟨_, _, _, e, h⟩; cases e; exact h
  · intro h; exact ⟨a, b, c, rfl, h⟩
theorem spVI_app {pre : Bx.Val → Prop} {g : Bx.Val → Int} (hv : VAt C H p v) : spVI C pre g [.ref p] H Q E ↔ pre v ∧ ∀ H' : Hp, Same H H' → Q (.int (g v)) H' := by
  constructor
  · rintro ⟨_, u, e, hu, h⟩; cases e; rw [hv.inj hu]; exact h
  · intro h; exact ⟨p, v, rfl, hv, h⟩
theorem spVVV_app {pre : Bx.Val → Bx.Val → Prop} {g : Bx.Val → Bx.Val → Bx.Val} (hv : VAt C H p v) (ho : VAt C H q o) : spVVV C pre g [.ref p, .ref q] H Q E ↔ pre v o ∧ ∀ (x : Addr) (H' : Hp), Same H H' → VAt C H' x (g v o) → Q (.ref x) H' := by
  constructor
  · rintro ⟨_, _, u, u', e, hu, hu', h⟩; cases e; rw [hv.inj hu, ho.inj hu']; exact h
  · intro h; exact ⟨p, q, v, o, rfl, hv, ho, h⟩
end
end L2
end
section
set_option Elab.async false
set_option linter.all false
set_option maxRecDepth 100000
set_option maxHeartbeats 4000000
namespace L2
open PySem PySem.Spec PyProof.Rows
theorem sameSq_list {K : PySem.W.Frag} {H : Hp} {S a : Addr} {o : HO} {xs : List V} (h : S ≠ a) (q : SqL K H a xs) : SqL K (upd H S o) a xs := by
  rcases q with (q | ⟨ob, q⟩) | q
  · exact .inl (.inl (by rw [upd_ne h.symm]; exact q))
  · exact .inl (.inr ⟨ob, by rw [upd_ne h.symm]; exact q⟩)
  · exact .inr q
theorem sameSq_tuple {K : PySem.W.Frag} {H : Hp} {S a : Addr} {o : HO} {xs : List V} (h : S ≠ a) (q : SqT K H a xs) : SqT K (upd H S o) a xs := by
  rcases q with (q | ⟨ob, q⟩) | q
  · exact .inl (.inl (by rw [upd_ne h.symm]; exact q))
  · exact .inl (.inr ⟨ob, by rw [upd_ne h.symm]; exact q⟩)
  · exact .inr q
theorem min_list_loop {X : Cx} {k : Nat} {q : Addr} {fd : FuncData} {x : Str} {sp : Sp} {pins : List (Addr × Obj)} {σ : St} {it S a : Addr} {ns : List Int} {R : Result → Shared → Prop} (g : Int → Int)
    (F : FnOk X.prog X.w X.K X.mg X.base CX0 k q fd [x] sp) (hb : Binds X.K fd [x] []) (hr : Room (k + 1) X.A) (hc : X.calm = true)
    (hsp : ∀ n H Q, Q (.int (g n)) H → sp [.int n] H Q E0) (hSa : S ≠ a) (hSi : S ≠ it) :
    ∀ (r j : Nat) (s : Shared) (H : Hp) (b : Int), ns.length - j = r → j ≤ ns.length → Inv X pins σ H s → FpOk X pins H it → s.heap.IsListIter it a j → SqL X.K H a (ns.map V.int) → H S = some (.lst [.int b, .int (g b)]) →
      (∀ s' H' t, Inv X pins σ H' s' → (∀ c o, c ≠ S → H c = some o → H' c = some o) → R (.ok (.ret (.int ((ns.drop j).foldl (fun b n => if g n < g b then n else b) b) t))) s') →
      codeAny (model X.prog X.w) X.A (.builtin "min.loop" ⟨[.ref it, .ref q, .ref S], []⟩) R s := by
  have hname : (toString "min" ++ toString ".loop" : String) = "min.loop" := by decide
  intro r
  induction r with
  | zero =>
    intro j s H b hr0 hj I fp st hq hS hR
    have hjn : j = ns.length := by omega
    obtain ⟨its, rv, p, hz⟩ := I.list hq
    obtain ⟨f0, f1, f2, f3, f4, f5⟩ := fp
    obtain ⟨zS, itS, nS, rS, lS, eS⟩ := I.lstM hS
    obtain ⟨ta, tb, rfl⟩ := Vals.int2 rS
    refine codeAny_builtin PySem.F.entry_min_loop ?_
    rw [Around.under_plainId PySem.F.plain_min_loop _]
    show wpAny _ X.A.in1 (seqItems? (.ref S) >>= _) _ _ _
    refine wpAny_bind (wpAny_seqItems eS rfl ?_)
    show wpAny _ X.A.in1 (tryCatch (pyNext (.ref it)) _ >>= _) _ _ _
    have hl := rv.length
    rw [List.length_map] at hl
    refine wpAny_bind (wpAny_tryCatch (wpAny_pyNext_list_end (I.ok.hd hc) st p.isList (by simp; omega) fun h' eb => ?_))
    have I1 : Inv X pins σ H { s with heap := h' } := I.turned (t' := s.toks) (fun b o hb e => eb b o hb e) f0 f1 f3 f4 f5
    obtain ⟨_, itS', nS', rS', _, eS'⟩ := I1.lstM hS
    show wpAny _ X.A.in1 (updateSeq S (fun _ => #[]) >>= _) _ _ _
    refine wpAny_bind ?_
    refine wpAny_updateSeq eS' rfl (wpAny_bind (wpAny_letGo (wpAny_pure ?_)))
    have I2 := I1.lset (its' := []) (ys := []) (f := fun _ => #[]) (t' := s.toks) hS eS' rfl .nil (Nat.zero_le _)
    have e0 : ns.drop j = [] := by rw [hjn]; exact List.drop_length
    have := hR _ _ ta I2 (fun c o hc e => by rw [upd_ne hc]; exact e)
    rw [e0] at this
    exact this
  | succ r ih =>
    intro j s H b hr0 hj I fp st hq hS hR
    have hlt : j < ns.length := by omega
    obtain ⟨its, rv, p, hz⟩ := I.list hq
    obtain ⟨f0, f1, f2, f3, f4, f5⟩ := id fp
    obtain ⟨zS, itS, nS, rS, lS, eS⟩ := I.lstM hS
    obtain ⟨ta, tb, rfl⟩ := Vals.int2 rS
    obtain ⟨n, hn⟩ : ∃ n, ns[j]? = some n := ⟨_, List.getElem?_eq_getElem hlt⟩
    obtain ⟨u, hu, ru⟩ := rv.get (i := j) (x := V.int n) (by rw [List.getElem?_map, hn]; rfl)
    obtain ⟨tn, rfl⟩ := ru
    refine codeAny_builtin PySem.F.entry_min_loop ?_
    rw [Around.under_plainId PySem.F.plain_min_loop _]
    show wpAny _ X.A.in1 (seqItems? (.ref S) >>= _) _ _ _
    refine wpAny_bind (wpAny_seqItems eS rfl ?_)
    show wpAny _ X.A.in1 (tryCatch (pyNext (.ref it)) _ >>= _) _ _ _
    refine wpAny_bind (wpAny_tryCatch (wpAny_pyNext_list_item st p.isList (x := .int n tn) (by simpa using hu) fun h' st' sb => ?_))
    have I1 : Inv X pins σ H { s with heap := h' } := I.turned (t' := s.toks) (fun b o hb e => (sb.2 b hb).trans e) f0 f1 f3 f4 f5
    obtain ⟨oI, eI, cI, dI⟩ := id st'
    have I1p : Inv X (pins ++ [(it, oI)]) σ H { s with heap := h' } := I1.pins_of fun p hp => by
      rcases List.mem_append.mp hp with z | z
      · exact I1.pin p (List.mem_append_right _ z)
      · rw [List.mem_singleton.mp z]
        exact ⟨eI, f0, f1, f2, fun v z => by rw [dI] at z; cases z⟩
    show wpAny _ X.A.in1 (tryCatch (holding [.int n tn] (call (.ref q) [.int n tn])) _ >>= _) _ _ _
    refine wpAny_bind (wpAny_tryCatch (wpAny_holding ?_))
    refine wpAny_call (codeAny_mono (F.run X.A.in1 X.stack _ H ⟨[.int n tn], []⟩ [.int n tn] [.int n] (fun v H' => v = .int (g n) ∧ H' = H) E0 hr.in1 I1p.env0.in1 (hb _ [.int n tn] I1p.kIn rfl) (.cons ⟨tn, rfl⟩ .nil) (hsp n H _ ⟨rfl, rfl⟩)) fun rr s2 hq2 => ?_)
    cases rr with
    | error e => exact hq2.elim
    | ok fl =>
    cases fl with
    | next => exact hq2.elim
    | brk => exact hq2.elim
    | cont => exact hq2.elim
    | ret u2 =>
    obtain ⟨v2, H2, I2p, r2, ev, eH⟩ := I1p.after hq2
    subst ev
    subst eH
    obtain ⟨t2, rfl⟩ := r2
    have st2 : s2.heap.IsListIter it a (j + 1) := ⟨oI, (I2p.pin (it, oI) (List.mem_append_right _ (List.mem_append_right _ (List.mem_singleton.mpr rfl)))).1, cI, dI⟩
    have I2 : Inv X pins σ H2 s2 := I2p.unpinned
    show wpAny _ X.A.in1 (tryCatch (holding [.int n tn, .int (g n) t2] (richCompare .Lt (.int (g n) t2) (.int (g b) tb) >>= _)) _ >>= _) _ _ _
    refine wpAny_bind (wpAny_tryCatch (wpAny_holding (wpAny_bind (CmpOf.ints_lt (prog := X.prog) (w := X.w) (A := X.A.in1) (P := fun i v => ∃ t, v = .int ((fun i : Nat => if i = 0 then g n else g b) i) t) (fun i : Nat => if i = 0 then g n else g b) (fun i v h => h) 0 1 _ _ _ _ _ ⟨t2, rfl⟩ ⟨tb, rfl⟩ ?_))))
    refine wpAny_bind (wpAny_holding (wpAny_truthy_bool ?_))
    refine wpAny_bind (wpAny_letGo (wpAny_pure ?_))
    obtain ⟨_, itS2, nS2, rS2, _, eS2⟩ := I2.lstM hS
    have dr : ns.drop j = n :: ns.drop (j + 1) := by
      rw [List.drop_eq_getElem_cons hlt]; congr 1
      have := List.getElem?_eq_getElem hlt; rw [hn] at this; exact (Option.some.inj this).symm
    change wpAny _ _ (if decide (g n < g b) = true then _ else _) _ _ _
    by_cases c : g n < g b
    · rw [if_pos (decide_eq_true (show g n < g b from c))]
      refine wpAny_bind ?_
      refine wpAny_updateSeq eS2 rfl (wpAny_bind (wpAny_letGo ?_))
      rw [hname]
      have I3 := I2.lset (its' := [.int n tn, .int (g n) t2]) (ys := [.int n, .int (g n)]) (f := fun _ => #[.int n tn, .int (g n) t2]) (t' := s2.toks) hS eS2 rfl (.cons ⟨_, rfl⟩ (.cons ⟨_, rfl⟩ .nil)) (by show 2 ≤ sizeLine; decide)
      have nia : it ≠ S := fun z => hSi z.symm
      refine wpAny_pure ⟨plainId_quiet PySem.F.plain_min_loop _, ih (j + 1) _ _ n (by omega) (by omega) I3 ⟨by rw [upd_ne nia]; exact f0, f1, f2, f3, f4, f5⟩ ?_ ?_ upd_same fun s' H' t I' kp => ?_⟩
      · obtain ⟨o, e, c, d⟩ := st2
        exact ⟨o, (Heap.get?_update_other s2.heap _ hSi).trans e, c, d⟩
      · exact sameSq_list hSa hq
      · have := hR s' H' t I' fun c o hc e => kp c o hc (by rw [upd_ne hc]; exact e)
        rw [dr, List.foldl_cons, if_pos c] at this
        exact this
    · rw [if_neg (fun z => c (of_decide_eq_true z))]
      refine wpAny_bind (wpAny_letGo ?_)
      rw [hname]
      refine wpAny_pure ⟨plainId_quiet PySem.F.plain_min_loop _, ih (j + 1) _ _ b (by omega) (by omega) I2 fp st2 hq hS fun s' H' t I' kp => ?_⟩
      have := hR s' H' t I' kp
      rw [dr, List.foldl_cons, if_neg c] at this
      exact this
theorem min_list_first {X : Cx} {k : Nat} {q : Addr} {fd : FuncData} {x : Str} {sp : Sp} {pins : List (Addr × Obj)} {σ : St} {it S a : Addr} {n : Int} {ns : List Int} {R : Result → Shared → Prop} (g : Int → Int)
    (F : FnOk X.prog X.w X.K X.mg X.base CX0 k q fd [x] sp) (hb : Binds X.K fd [x] []) (hr : Room (k + 1) X.A) (hc : X.calm = true)
    (hsp : ∀ n H Q, Q (.int (g n)) H → sp [.int n] H Q E0) (hSa : S ≠ a) (hSi : S ≠ it) {s : Shared} {H : Hp} (I : Inv X pins σ H s) (fp : FpOk X pins H it) (st : s.heap.IsListIter it a 0) (hq : SqL X.K H a ((n :: ns).map V.int)) (hS : H S = some (.lst []))
    (hR : ∀ s' H' t, Inv X pins σ H' s' → (∀ c o, c ≠ S → H c = some o → H' c = some o) → R (.ok (.ret (.int (ns.foldl (fun b n => if g n < g b then n else b) n) t))) s') :
    codeAny (model X.prog X.w) X.A (.builtin "min.loop" ⟨[.ref it, .ref q, .ref S], []⟩) R s := by
  have hname : (toString "min" ++ toString ".loop" : String) = "min.loop" := by decide
  obtain ⟨its, rv, p, hz⟩ := I.list hq
  obtain ⟨f0, f1, f2, f3, f4, f5⟩ := id fp
  obtain ⟨zS, itS, nS, rS, lS, eS⟩ := I.lstM hS
  cases rS
  obtain ⟨u, hu, ru⟩ := rv.get (i := 0) (x := V.int n) rfl
  obtain ⟨tn, rfl⟩ := ru
  refine codeAny_builtin PySem.F.entry_min_loop ?_
  rw [Around.under_plainId PySem.F.plain_min_loop _]
  show wpAny _ X.A.in1 (seqItems? (.ref S) >>= _) _ _ _
  refine wpAny_bind (wpAny_seqItems eS rfl ?_)
  show wpAny _ X.A.in1 (tryCatch (pyNext (.ref it)) _ >>= _) _ _ _
  refine wpAny_bind (wpAny_tryCatch (wpAny_pyNext_list_item st p.isList (x := .int n tn) (by simpa using hu) fun h' st' sb => ?_))
  have I1 : Inv X pins σ H { s with heap := h' } := I.turned (t' := s.toks) (fun b o hb e => (sb.2 b hb).trans e) f0 f1 f3 f4 f5
  obtain ⟨oI, eI, cI, dI⟩ := id st'
  have I1p : Inv X (pins ++ [(it, oI)]) σ H { s with heap := h' } := I1.pins_of fun p hp => by
    rcases List.mem_append.mp hp with z | z
    · exact I1.pin p (List.mem_append_right _ z)
    · rw [List.mem_singleton.mp z]
      exact ⟨eI, f0, f1, f2, fun v z => by rw [dI] at z; cases z⟩
  show wpAny _ X.A.in1 (tryCatch (holding [.int n tn] (call (.ref q) [.int n tn])) _ >>= _) _ _ _
  refine wpAny_bind (wpAny_tryCatch (wpAny_holding ?_))
  refine wpAny_call (codeAny_mono (F.run X.A.in1 X.stack _ H ⟨[.int n tn], []⟩ [.int n tn] [.int n] (fun v H' => v = .int (g n) ∧ H' = H) E0 hr.in1 I1p.env0.in1 (hb _ [.int n tn] I1p.kIn rfl) (.cons ⟨tn, rfl⟩ .nil) (hsp n H _ ⟨rfl, rfl⟩)) fun rr s2 hq2 => ?_)
  cases rr with
  | error e => exact hq2.elim
  | ok fl =>
  cases fl with
  | next => exact hq2.elim
  | brk => exact hq2.elim
  | cont => exact hq2.elim
  | ret u2 =>
  obtain ⟨v2, H2, I2p, r2, ev, eH⟩ := I1p.after hq2
  subst ev
  subst eH
  obtain ⟨t2, rfl⟩ := r2
  have st2 : s2.heap.IsListIter it a 1 := ⟨oI, (I2p.pin (it, oI) (List.mem_append_right _ (List.mem_append_right _ (List.mem_singleton.mpr rfl)))).1, cI, dI⟩
  have I2 : Inv X pins σ H2 s2 := I2p.unpinned
  obtain ⟨_, itS2, nS2, rS2, _, eS2⟩ := I2.lstM hS
  show wpAny _ X.A.in1 (updateSeq S (fun _ => #[.int n tn, .int (g n) t2]) >>= _) _ _ _
  refine wpAny_bind ?_
  refine wpAny_updateSeq eS2 rfl ?_
  rw [hname]
  have I3 := I2.lset (its' := [.int n tn, .int (g n) t2]) (ys := [.int n, .int (g n)]) (f := fun _ => #[.int n tn, .int (g n) t2]) (t' := s2.toks) hS eS2 rfl (.cons ⟨_, rfl⟩ (.cons ⟨_, rfl⟩ .nil)) (by show 2 ≤ sizeLine; decide)
  have nia : it ≠ S := fun z => hSi z.symm
  refine wpAny_pure ⟨plainId_quiet PySem.F.plain_min_loop _, min_list_loop (ns := n :: ns) g F hb hr hc hsp hSa hSi _ 1 _ _ n rfl (Nat.succ_le_succ (Nat.zero_le _)) I3 ⟨by rw [upd_ne nia]; exact f0, f1, f2, f3, f4, f5⟩ ?_ ?_ upd_same fun s' H' t I' kp => ?_⟩
  · obtain ⟨o, e, c, d⟩ := st2
    exact ⟨o, (Heap.get?_update_other s2.heap _ hSi).trans e, c, d⟩
  · exact sameSq_list hSa hq
  · exact hR s' H' t I' fun c o hc e => kp c o hc (by rw [upd_ne hc]; exact e)
theorem min_tuple_loop {X : Cx} {k : Nat} {q : Addr} {fd : FuncData} {x : Str} {sp : Sp} {pins : List (Addr × Obj)} {σ : St} {it S a : Addr} {ns : List Int} {R : Result → Shared → Prop} (g : Int → Int)
    (F : FnOk X.prog X.w X.K X.mg X.base CX0 k q fd [x] sp) (hb : Binds X.K fd [x] []) (hr : Room (k + 1) X.A) (hc : X.calm = true)
    (hsp : ∀ n H Q, Q (.int (g n)) H → sp [.int n] H Q E0) (hSa : S ≠ a) (hSi : S ≠ it) :
    ∀ (r j : Nat) (s : Shared) (H : Hp) (b : Int), ns.length - j = r → j ≤ ns.length → Inv X pins σ H s → FpOk X pins H it → s.heap.IsTupleIter it a j → SqT X.K H a (ns.map V.int) → H S = some (.lst [.int b, .int (g b)]) →
      (∀ s' H' t, Inv X pins σ H' s' → (∀ c o, c ≠ S → H c = some o → H' c = some o) → R (.ok (.ret (.int ((ns.drop j).foldl (fun b n => if g n < g b then n else b) b) t))) s') →
      codeAny (model X.prog X.w) X.A (.builtin "min.loop" ⟨[.ref it, .ref q, .ref S], []⟩) R s := by
  have hname : (toString "min" ++ toString ".loop" : String) = "min.loop" := by decide
  intro r
  induction r with
  | zero =>
    intro j s H b hr0 hj I fp st hq hS hR
    have hjn : j = ns.length := by omega
    obtain ⟨its, rv, p, hz⟩ := I.tuple hq
    obtain ⟨f0, f1, f2, f3, f4, f5⟩ := fp
    obtain ⟨zS, itS, nS, rS, lS, eS⟩ := I.lstM hS
    obtain ⟨ta, tb, rfl⟩ := Vals.int2 rS
    refine codeAny_builtin PySem.F.entry_min_loop ?_
    rw [Around.under_plainId PySem.F.plain_min_loop _]
    show wpAny _ X.A.in1 (seqItems? (.ref S) >>= _) _ _ _
    refine wpAny_bind (wpAny_seqItems eS rfl ?_)
    show wpAny _ X.A.in1 (tryCatch (pyNext (.ref it)) _ >>= _) _ _ _
    have hl := rv.length
    rw [List.length_map] at hl
    refine wpAny_bind (wpAny_tryCatch (wpAny_pyNext_tuple_end (I.ok.hd hc) st (show s.heap.IsTuple a its.toArray from p) (by simp; omega) fun h' eb => ?_))
    have I1 : Inv X pins σ H { s with heap := h' } := I.turned (t' := s.toks) (fun b o hb e => eb b o hb e) f0 f1 f3 f4 f5
    obtain ⟨_, itS', nS', rS', _, eS'⟩ := I1.lstM hS
    show wpAny _ X.A.in1 (updateSeq S (fun _ => #[]) >>= _) _ _ _
    refine wpAny_bind ?_
    refine wpAny_updateSeq eS' rfl (wpAny_bind (wpAny_letGo (wpAny_pure ?_)))
    have I2 := I1.lset (its' := []) (ys := []) (f := fun _ => #[]) (t' := s.toks) hS eS' rfl .nil (Nat.zero_le _)
    have e0 : ns.drop j = [] := by rw [hjn]; exact List.drop_length
    have := hR _ _ ta I2 (fun c o hc e => by rw [upd_ne hc]; exact e)
    rw [e0] at this
    exact this
  | succ r ih =>
    intro j s H b hr0 hj I fp st hq hS hR
    have hlt : j < ns.length := by omega
    obtain ⟨its, rv, p, hz⟩ := I.tuple hq
    obtain ⟨f0, f1, f2, f3, f4, f5⟩ := id fp
    obtain ⟨zS, itS, nS, rS, lS, eS⟩ := I.lstM hS
    obtain ⟨ta, tb, rfl⟩ := Vals.int2 rS
    obtain ⟨n, hn⟩ : ∃ n, ns[j]? = some n := ⟨_, List.getElem?_eq_getElem hlt⟩
    obtain ⟨u, hu, ru⟩ := rv.get (i := j) (x := V.int n) (by rw [List.getElem?_map, hn]; rfl)
    obtain ⟨tn, rfl⟩ := ru
    refine codeAny_builtin PySem.F.entry_min_loop ?_
    rw [Around.under_plainId PySem.F.plain_min_loop _]
    show wpAny _ X.A.in1 (seqItems? (.ref S) >>= _) _ _ _
    refine wpAny_bind (wpAny_seqItems eS rfl ?_)
    show wpAny _ X.A.in1 (tryCatch (pyNext (.ref it)) _ >>= _) _ _ _
    refine wpAny_bind (wpAny_tryCatch (wpAny_pyNext_tuple_item st (show s.heap.IsTuple a its.toArray from p) (x := .int n tn) (by simpa using hu) fun h' st' sb => ?_))
    have I1 : Inv X pins σ H { s with heap := h' } := I.turned (t' := s.toks) (fun b o hb e => (sb.2 b hb).trans e) f0 f1 f3 f4 f5
    obtain ⟨oI, eI, cI, dI⟩ := id st'
    have I1p : Inv X (pins ++ [(it, oI)]) σ H { s with heap := h' } := I1.pins_of fun p hp => by
      rcases List.mem_append.mp hp with z | z
      · exact I1.pin p (List.mem_append_right _ z)
      · rw [List.mem_singleton.mp z]
        exact ⟨eI, f0, f1, f2, fun v z => by rw [dI] at z; cases z⟩
    show wpAny _ X.A.in1 (tryCatch (holding [.int n tn] (call (.ref q) [.int n tn])) _ >>= _) _ _ _
    refine wpAny_bind (wpAny_tryCatch (wpAny_holding ?_))
    refine wpAny_call (codeAny_mono (F.run X.A.in1 X.stack _ H ⟨[.int n tn], []⟩ [.int n tn] [.int n] (fun v H' => v = .int (g n) ∧ H' = H) E0 hr.in1 I1p.env0.in1 (hb _ [.int n tn] I1p.kIn rfl) (.cons ⟨tn, rfl⟩ .nil) (hsp n H _ ⟨rfl, rfl⟩)) fun rr s2 hq2 => ?_)
    cases rr with
    | error e => exact hq2.elim
    | ok fl =>
    cases fl with
    | next => exact hq2.elim
    | brk => exact hq2.elim
    | cont => exact hq2.elim
    | ret u2 =>
    obtain ⟨v2, H2, I2p, r2, ev, eH⟩ := I1p.after hq2
    subst ev
    subst eH
    obtain ⟨t2, rfl⟩ := r2
    have st2 : s2.heap.IsTupleIter it a (j + 1) := ⟨oI, (I2p.pin (it, oI) (List.mem_append_right _ (List.mem_append_right _ (List.mem_singleton.mpr rfl)))).1, cI, dI⟩
    have I2 : Inv X pins σ H2 s2 := I2p.unpinned
    show wpAny _ X.A.in1 (tryCatch (holding [.int n tn, .int (g n) t2] (richCompare .Lt (.int (g n) t2) (.int (g b) tb) >>= _)) _ >>= _) _ _ _
    refine wpAny_bind (wpAny_tryCatch (wpAny_holding (wpAny_bind (CmpOf.ints_lt (prog := X.prog) (w := X.w) (A := X.A.in1) (P := fun i v => ∃ t, v = .int ((fun i : Nat => if i = 0 then g n else g b) i) t) (fun i : Nat => if i = 0 then g n else g b) (fun i v h => h) 0 1 _ _ _ _ _ ⟨t2, rfl⟩ ⟨tb, rfl⟩ ?_))))
    refine wpAny_bind (wpAny_holding (wpAny_truthy_bool ?_))
    refine wpAny_bind (wpAny_letGo (wpAny_pure ?_))
    obtain ⟨_, itS2, nS2, rS2, _, eS2⟩ := I2.lstM hS
    have dr : ns.drop j = n :: ns.drop (j + 1) := by
      rw [List.drop_eq_getElem_cons hlt]; congr 1
      have := List.getElem?_eq_getElem hlt; rw [hn] at this; exact (Option.some.inj this).symm
    change wpAny _ _ (if decide (g n < g b) = true then _ else _) _ _ _
    by_cases c : g n < g b
    · rw [if_pos (decide_eq_true (show g n < g b from c))]
      refine wpAny_bind ?_
      refine wpAny_updateSeq eS2 rfl (wpAny_bind (wpAny_letGo ?_))
      rw [hname]
      have I3 := I2.lset (its' := [.int n tn, .int (g n) t2]) (ys := [.int n, .int (g n)]) (f := fun _ => #[.int n tn, .int (g n) t2]) (t' := s2.toks) hS eS2 rfl (.cons ⟨_, rfl⟩ (.cons ⟨_, rfl⟩ .nil)) (by show 2 ≤ sizeLine; decide)
      have nia : it ≠ S := fun z => hSi z.symm
      refine wpAny_pure ⟨plainId_quiet PySem.F.plain_min_loop _, ih (j + 1) _ _ n (by omega) (by omega) I3 ⟨by rw [upd_ne nia]; exact f0, f1, f2, f3, f4, f5⟩ ?_ ?_ upd_same fun s' H' t I' kp => ?_⟩
      · obtain ⟨o, e, c, d⟩ := st2
        exact ⟨o, (Heap.get?_update_other s2.heap _ hSi).trans e, c, d⟩
      · exact sameSq_tuple hSa hq
      · have := hR s' H' t I' fun c o hc e => kp c o hc (by rw [upd_ne hc]; exact e)
        rw [dr, List.foldl_cons, if_pos c] at this
        exact this
    · rw [if_neg (fun z => c (of_decide_eq_true z))]
      refine wpAny_bind (wpAny_letGo ?_)
      rw [hname]
      refine wpAny_pure ⟨plainId_quiet PySem.F.plain_min_loop _, ih (j + 1) _ _ b (by omega) (by omega) I2 fp st2 hq hS fun s' H' t I' kp => ?_⟩
      have := hR s' H' t I' kp
      rw [dr, List.foldl_cons, if_neg c] at this
      exact this
theorem min_tuple_first {X : Cx} {k : Nat} {q : Addr} {fd : FuncData} {x : Str} {sp : Sp} {pins : List (Addr × Obj)} {σ : St} {it S a : Addr} {n : Int} {ns : List Int} {R : Result → Shared → Prop} (g : Int → Int)
    (F : FnOk X.prog X.w X.K X.mg X.base CX0 k q fd [x] sp) (hb : Binds X.K fd [x] []) (hr : Room (k + 1) X.A) (hc : X.calm = true)
    (hsp : ∀ n H Q, Q (.int (g n)) H → sp [.int n] H Q E0) (hSa : S ≠ a) (hSi : S ≠ it) {s : Shared} {H : Hp} (I : Inv X pins σ H s) (fp : FpOk X pins H it) (st : s.heap.IsTupleIter it a 0) (hq : SqT X.K H a ((n :: ns).map V.int)) (hS : H S = some (.lst []))
    (hR : ∀ s' H' t, Inv X pins σ H' s' → (∀ c o, c ≠ S → H c = some o → H' c = some o) → R (.ok (.ret (.int (ns.foldl (fun b n => if g n < g b then n else b) n) t))) s') :
    codeAny (model X.prog X.w) X.A (.builtin "min.loop" ⟨[.ref it, .ref q, .ref S], []⟩) R s := by
  have hname : (toString "min" ++ toString ".loop" : String) = "min.loop" := by decide
  obtain ⟨its, rv, p, hz⟩ := I.tuple hq
  obtain ⟨f0, f1, f2, f3, f4, f5⟩ := id fp
  obtain ⟨zS, itS, nS, rS, lS, eS⟩ := I.lstM hS
  cases rS
  obtain ⟨u, hu, ru⟩ := rv.get (i := 0) (x := V.int n) rfl
  obtain ⟨tn, rfl⟩ := ru
  refine codeAny_builtin PySem.F.entry_min_loop ?_
  rw [Around.under_plainId PySem.F.plain_min_loop _]
  show wpAny _ X.A.in1 (seqItems? (.ref S) >>= _) _ _ _
  refine wpAny_bind (wpAny_seqItems eS rfl ?_)
  show wpAny _ X.A.in1 (tryCatch (pyNext (.ref it)) _ >>= _) _ _ _
  refine wpAny_bind (wpAny_tryCatch (wpAny_pyNext_tuple_item st (show s.heap.IsTuple a its.toArray from p) (x := .int n tn) (by simpa using hu) fun h' st' sb => ?_))
  have I1 : Inv X pins σ H { s with heap := h' } := I.turned (t' := s.toks) (fun b o hb e => (sb.2 b hb).trans e) f0 f1 f3 f4 f5
  obtain ⟨oI, eI, cI, dI⟩ := id st'
  have I1p : Inv X (pins ++ [(it, oI)]) σ H { s with heap := h' } := I1.pins_of fun p hp => by
    rcases List.mem_append.mp hp with z | z
    · exact I1.pin p (List.mem_append_right _ z)
    · rw [List.mem_singleton.mp z]
      exact ⟨eI, f0, f1, f2, fun v z => by rw [dI] at z; cases z⟩
  show wpAny _ X.A.in1 (tryCatch (holding [.int n tn] (call (.ref q) [.int n tn])) _ >>= _) _ _ _
  refine wpAny_bind (wpAny_tryCatch (wpAny_holding ?_))
  refine wpAny_call (codeAny_mono (F.run X.A.in1 X.stack _ H ⟨[.int n tn], []⟩ [.int n tn] [.int n] (fun v H' => v = .int (g n) ∧ H' = H) E0 hr.in1 I1p.env0.in1 (hb _ [.int n tn] I1p.kIn rfl) (.cons ⟨tn, rfl⟩ .nil) (hsp n H _ ⟨rfl, rfl⟩)) fun rr s2 hq2 => ?_)
  cases rr with
  | error e => exact hq2.elim
  | ok fl =>
  cases fl with
  | next => exact hq2.elim
  | brk => exact hq2.elim
  | cont => exact hq2.elim
  | ret u2 =>
  obtain ⟨v2, H2, I2p, r2, ev, eH⟩ := I1p.after hq2
  subst ev
  subst eH
  obtain ⟨t2, rfl⟩ := r2
  have st2 : s2.heap.IsTupleIter it a 1 := ⟨oI, (I2p.pin (it, oI) (List.mem_append_right _ (List.mem_append_right _ (List.mem_singleton.mpr rfl)))).1, cI, dI⟩
  have I2 : Inv X pins σ H2 s2 := I2p.unpinned
  obtain ⟨_, itS2, nS2, rS2, _, eS2⟩ := I2.lstM hS
  show wpAny _ X.A.in1 (updateSeq S (fun _ => #[.int n tn, .int (g n) t2]) >>= _) _ _ _
  refine wpAny_bind ?_
  refine wpAny_updateSeq eS2 rfl ?_
  rw [hname]
  have I3 := I2.lset (its' := [.int n tn, .int (g n) t2]) (ys := [.int n, .int (g n)]) (f := fun _ => #[.int n tn, .int (g n) t2]) (t' := s2.toks) hS eS2 rfl (.cons ⟨_, rfl⟩ (.cons ⟨_, rfl⟩ .nil)) (by show 2 ≤ sizeLine; decide)
  have nia : it ≠ S := fun z => hSi z.symm
  refine wpAny_pure ⟨plainId_quiet PySem.F.plain_min_loop _, min_tuple_loop (ns := n :: ns) g F hb hr hc hsp hSa hSi _ 1 _ _ n rfl (Nat.succ_le_succ (Nat.zero_le _)) I3 ⟨by rw [upd_ne nia]; exact f0, f1, f2, f3, f4, f5⟩ ?_ ?_ upd_same fun s' H' t I' kp => ?_⟩
  · obtain ⟨o, e, c, d⟩ := st2
    exact ⟨o, (Heap.get?_update_other s2.heap _ hSi).trans e, c, d⟩
  · exact sameSq_tuple hSa hq
  · exact hR s' H' t I' fun c o hc e => kp c o hc (by rw [upd_ne hc]; exact e)
theorem ok_min2 (a b v : Value) : argsOk "min" ⟨[a, b], [(Str.ofString "key", v)]⟩ := by unfold argsOk; kernel_rfl
theorem min_key_list {X : Cx} {k : Nat} {q : Addr} {fd : FuncData} {x : Str} {sp : Sp} {pins : List (Addr × Obj)} {σ : St} {a : Addr} {n : Int} {ns : List Int} {Q : VK} (g : Int → Int)
    (F : FnOk X.prog X.w X.K X.mg X.base CX0 k q fd [x] sp) (hb : Binds X.K fd [x] []) (hr : Room (k + 1) X.A) (hc : X.calm = true)
    (hsp : ∀ n H Q, Q (.int (g n)) H → sp [.int n] H Q E0) {s : Shared} {H : Hp} (I : Inv X pins σ H s) (hq : SqL X.K H a ((n :: ns).map V.int))
    (hQ : ∀ H', Same H H' → Q (.int (ns.foldl (fun b n => if g n < g b then n else b) n)) H') :
    wpAny (model X.prog X.w) X.A (call (.builtin "min") [.ref a] [(Str.ofString "key", .ref q)]) (EP X pins σ Q) X.xe s := by
  have hname : (toString "min" ++ toString ".loop" : String) = "min.loop" := by decide
  obtain ⟨its, rv, p, hz⟩ := I.list hq
  refine kmk_tree PySem.F.kind_min PySem.F.plain_min PySem.F.entry_min (kmk_min_key _ _) ?_
  show wpAny _ X.A.in1 (Builtin.Builtins.bindParams "min" ["key", "default"] 0 ⟨[], [(Str.ofString "key", .ref q)]⟩ >>= _) _ _ s
  refine wpAny_bind (wpAny_of_eq (show Builtin.Builtins.bindParams "min" ["key", "default"] 0 ⟨[], [(Str.ofString "key", .ref q)]⟩ = pure [some (.ref q), none] from rfl) ?_)
  refine wpAny_bind (wpAny_pure ?_)
  refine wpAny_bind (wpAny_pyIter_list p.isList ?_)
  have hla : a < s.heap.objs.size := by obtain ⟨o, e, _⟩ := p.isList; exact Heap.lt_size e
  have I1 : Inv X pins σ H { s with heap := s.heap.push { cls := .type "list_iterator", data := .fields #[.ref a, .int 0 0] } } := I.kept (t' := s.toks) fun b o e => Heap.get?_push_of_some _ e
  have hS : (s.heap.push { cls := .type "list_iterator", data := .fields #[.ref a, .int 0 0] }).objs.size = s.heap.objs.size + 1 := size_push' ..
  refine wpAny_bind (wpAny_newList ?_ (Nat.zero_le _))
  rw [hname]
  refine wpAny_pure ⟨plainId_quiet PySem.F.plain_min_loop _, ?_⟩
  have I2 := I1.lnew (its := []) (ys := []) (t' := s.toks) .nil (Nat.zero_le _)
  have fp := I.fpOk (H' := upd H (s.heap.objs.size + 1) (.lst [])) (Nat.le_refl s.heap.objs.size) (by rw [upd_ne (Nat.ne_of_lt (Nat.lt_succ_self _))]; exact I.fresh)
  have hn : H (s.heap.objs.size + 1) = none := I.hok.fresh (Nat.le_succ _)
  simp only [hS] at I2 ⊢
  refine min_list_first (S := s.heap.objs.size + 1) (it := s.heap.objs.size) (a := a) (n := n) (ns := ns) g F hb hr hc hsp (Nat.ne_of_gt (Nat.lt_succ_of_lt hla)) (Nat.ne_of_gt (Nat.lt_succ_self _)) I2 fp ?_ (sameSq_list (Nat.ne_of_gt (Nat.lt_succ_of_lt hla)) hq) upd_same fun s' H' t I' kp => ?_
  · exact ⟨_, Heap.get?_push_of_some _ (Heap.get?_push_size _ rfl), rfl, rfl⟩
  · refine ⟨.int _, H', I', ⟨t, rfl⟩, hQ H' fun b o e => kp b o (ne_of_none e hn) ?_⟩
    rw [upd_ne (ne_of_none e hn)]; exact e
theorem min_key_two {X : Cx} {k : Nat} {q : Addr} {fd : FuncData} {x : Str} {sp : Sp} {pins : List (Addr × Obj)} {σ : St} {i j : Int} {ti tj : Tok} {Q : VK} (g : Int → Int)
    (F : FnOk X.prog X.w X.K X.mg X.base CX0 k q fd [x] sp) (hb : Binds X.K fd [x] []) (hr : Room (k + 1) X.A) (hc : X.calm = true)
    (hsp : ∀ n H Q, Q (.int (g n)) H → sp [.int n] H Q E0) {s : Shared} {H : Hp} (I : Inv X pins σ H s)
    (hQ : ∀ H', Same H H' → Q (.int ([j].foldl (fun b n => if g n < g b then n else b) i)) H') :
    wpAny (model X.prog X.w) X.A (call (.builtin "min") [.int i ti, .int j tj] [(Str.ofString "key", .ref q)]) (EP X pins σ Q) X.xe s := by
  have hname : (toString "min" ++ toString ".loop" : String) = "min.loop" := by decide
  refine kmk_tree PySem.F.kind_min PySem.F.plain_min PySem.F.entry_min (ok_min2 _ _ _) ?_
  show wpAny _ X.A.in1 (Builtin.Builtins.bindParams "min" ["key", "default"] 0 ⟨[], [(Str.ofString "key", .ref q)]⟩ >>= _) _ _ s
  refine wpAny_bind (wpAny_of_eq (show Builtin.Builtins.bindParams "min" ["key", "default"] 0 ⟨[], [(Str.ofString "key", .ref q)]⟩ = pure [some (.ref q), none] from rfl) ?_)
  refine wpAny_bind ?_
  show wpAny _ X.A.in1 (newTuple [.int i ti, .int j tj]) _ _ _
  refine wpAny_newTuple ?_ (by show 2 ≤ sizeLine; decide)
  have hv : Vals [V.int i, V.int j] [Value.int i ti, Value.int j tj] := .cons ⟨ti, rfl⟩ (.cons ⟨tj, rfl⟩ .nil)
  have I0 : Inv X pins σ (upd H s.heap.objs.size (.tup [.int i, .int j])) { s with heap := s.heap.push { cls := .type "tuple", data := .seq [Value.int i ti, Value.int j tj].toArray } } :=
    I.laid (t' := s.toks) (fun b u e => Heap.get?_push_of_some _ e) (Nat.le_refl _) ⟨by show 2 ≤ sizeLine; decide, _, hv, ⟨_, Heap.get?_push_size _ rfl, rfl, _, rfl⟩⟩
  have hT : (s.heap.push { cls := .type "tuple", data := .seq [Value.int i ti, Value.int j tj].toArray }).objs.size = s.heap.objs.size + 1 := size_push' ..
  have hq0 : SqT X.K (upd H s.heap.objs.size (.tup [.int i, .int j])) s.heap.objs.size ((i :: [j]).map V.int) := SqT.of upd_same
  have hn0 : H s.heap.objs.size = none := I.fresh
  generalize hH0 : upd H s.heap.objs.size (.tup [.int i, .int j]) = H0 at I0 hq0
  have same0 : Same H H0 := fun b o e => by rw [← hH0, upd_ne (ne_of_none e hn0)]; exact e
  generalize hs0 : ({ s with heap := s.heap.push { cls := .type "tuple", data := .seq [Value.int i ti, Value.int j tj].toArray } } : Shared) = s0 at I0 ⊢
  have hz0 : s0.heap.objs.size = s.heap.objs.size + 1 := by rw [← hs0]; exact hT
  generalize ha : s.heap.objs.size = a at hq0 hz0 ⊢
  obtain ⟨its, rv, p, hz⟩ := I0.tuple hq0
  refine wpAny_bind (wpAny_pyIter_tuple (show s0.heap.IsTuple a its.toArray from p) ?_)
  have hla : a < s0.heap.objs.size := by omega
  have I1 : Inv X pins σ H0 { s0 with heap := s0.heap.push { cls := .type "tuple_iterator", data := .fields #[.ref a, .int 0 0] } } := I0.kept (t' := s0.toks) fun b o e => Heap.get?_push_of_some _ e
  have hS : (s0.heap.push { cls := .type "tuple_iterator", data := .fields #[.ref a, .int 0 0] }).objs.size = s0.heap.objs.size + 1 := size_push' ..
  refine wpAny_bind (wpAny_newList ?_ (Nat.zero_le _))
  rw [hname]
  refine wpAny_pure ⟨plainId_quiet PySem.F.plain_min_loop _, ?_⟩
  have I2 := I1.lnew (its := []) (ys := []) (t' := s0.toks) .nil (Nat.zero_le _)
  have fp := I0.fpOk (H' := upd H0 (s0.heap.objs.size + 1) (.lst [])) (Nat.le_refl s0.heap.objs.size) (by rw [upd_ne (Nat.ne_of_lt (Nat.lt_succ_self _))]; exact I0.fresh)
  have hn : H0 (s0.heap.objs.size + 1) = none := I0.hok.fresh (Nat.le_succ _)
  simp only [hS] at I2 ⊢
  refine min_tuple_first (S := s0.heap.objs.size + 1) (it := s0.heap.objs.size) (a := a) (n := i) (ns := [j]) g F hb hr hc hsp (Nat.ne_of_gt (Nat.lt_succ_of_lt hla)) (Nat.ne_of_gt (Nat.lt_succ_self _)) I2 fp ?_ (sameSq_tuple (Nat.ne_of_gt (Nat.lt_succ_of_lt hla)) hq0) upd_same fun s' H' t I' kp => ?_
  · exact ⟨_, Heap.get?_push_of_some _ (Heap.get?_push_size _ rfl), rfl, rfl⟩
  · refine ⟨.int _, H', I', ⟨t, rfl⟩, hQ H' fun b o e => kp b o (ne_of_none (same0 b o e) hn) ?_⟩
    rw [upd_ne (ne_of_none (same0 b o e) hn)]; exact same0 b o e
/-- min(a, b, key=f); min(xs, key=f) -/
def tmin2 (g : Int → Int) (t : TA) : TE := fun σ H Q => t σ H fun vs H1 => ∃ i j, vs = [.int i, .int j] ∧ ∀ H', Same H1 H' → Q (.int ([j].foldl (fun b n => if g n < g b then n else b) i)) H'
def tminL (K : PySem.W.Frag) (g : Int → Int) (t : TA) : TE := fun σ H Q => t σ H fun vs H1 => ∃ a n ns, vs = [.ref a] ∧ SqL K H1 a ((n :: ns).map V.int) ∧ ∀ H', Same H1 H' → Q (.int (ns.foldl (fun b n => if g n < g b then n else b) n)) H'
section
variable {X : Cx} {e : Expr} {es : List Expr} {t : TA} {p pos kp kpos : Pos} {k : Nat} {sp : Sp} {nm x : Str}
theorem pe_min2 (g : Int → Int) (C : Cal X.prog X.w X.K X.mg X.base nm [x] k sp) (hsp : ∀ n H Q, Q (.int (g n)) H → sp [.int n] H Q E0) (hr : Room (k + 1) X.A) (hc : X.calm = true) (hg : Gl X nm) (hm : Gl X "min") (hn : X.mg "min" = none) (ha : PA X (e :: es) t)
    (hdb : (nm == ("__debug__" : Str)) = false := by decide) (he : backTo pos (starEach (e :: es) X.env) = (false, eval e X.env) :: backTo pos (starEach es X.env) := by rfl)
    (hplain : (backTo pos (starEach (e :: es) X.env)).any (·.1) = false := by rfl) :
    PE X (.Call (.Name "min" p) (e :: es) [⟨some "key", .Name nm kp, kpos⟩] pos) (tmin2 g t) := by
  obtain ⟨f, fd, F, hmf, hk, hb⟩ := C
  intro pins s σ H Q I h
  refine wpAny_Call_Name_kw (ld_blt I hm hn boot_mn ?_ (by decide) (by decide))
  refine PyProof.Rows.callWith_kw (thn (ha pos pins s σ H _ I h) fun us s1 ⟨vs, H1, I1, r1, i, j, ev, q1⟩ => ?_) he hplain
  subst ev
  refine PyProof.Rows.kws_cons (thn (pe_glob hg hmf (v := .ref f) rfl hdb pins s1 σ H1 (fun v H' => v = .ref f ∧ H' = H1) I1 ⟨rfl, rfl⟩) fun u s2 ⟨v2, H2, I2, r2, ev, eH⟩ => PyProof.Rows.kws_nil ?_)
  subst ev
  subst eH
  cases r2
  obtain ⟨ti, tj, rfl⟩ := Vals.int2 r1
  exact min_key_two g F hb hr hc hsp I2 q1
theorem pe_minL (g : Int → Int) (C : Cal X.prog X.w X.K X.mg X.base nm [x] k sp) (hsp : ∀ n H Q, Q (.int (g n)) H → sp [.int n] H Q E0) (hr : Room (k + 1) X.A) (hc : X.calm = true) (hg : Gl X nm) (hm : Gl X "min") (hn : X.mg "min" = none) (ha : PA X (e :: es) t)
    (hdb : (nm == ("__debug__" : Str)) = false := by decide) (he : backTo pos (starEach (e :: es) X.env) = (false, eval e X.env) :: backTo pos (starEach es X.env) := by rfl)
    (hplain : (backTo pos (starEach (e :: es) X.env)).any (·.1) = false := by rfl) :
    PE X (.Call (.Name "min" p) (e :: es) [⟨some "key", .Name nm kp, kpos⟩] pos) (tminL X.K g t) := by
  obtain ⟨f, fd, F, hmf, hk, hb⟩ := C
  intro pins s σ H Q I h
  refine wpAny_Call_Name_kw (ld_blt I hm hn boot_mn ?_ (by decide) (by decide))
  refine PyProof.Rows.callWith_kw (thn (ha pos pins s σ H _ I h) fun us s1 ⟨vs, H1, I1, r1, a, n, ns, ev, hq, q1⟩ => ?_) he hplain
  subst ev
  refine PyProof.Rows.kws_cons (thn (pe_glob hg hmf (v := .ref f) rfl hdb pins s1 σ H1 (fun v H' => v = .ref f ∧ H' = H1) I1 ⟨rfl, rfl⟩) fun u s2 ⟨v2, H2, I2, r2, ev, eH⟩ => PyProof.Rows.kws_nil ?_)
  subst ev
  subst eH
  cases r2
  obtain rfl := Vals.ref1 r1
  exact min_key_list g F hb hr hc hsp I2 hq q1
end
theorem max_list_loop {X : Cx} {k : Nat} {q : Addr} {fd : FuncData} {x : Str} {sp : Sp} {pins : List (Addr × Obj)} {σ : St} {it S a : Addr} {ns : List Int} {R : Result → Shared → Prop} (g : Int → Int)
    (F : FnOk X.prog X.w X.K X.mg X.base CX0 k q fd [x] sp) (hb : Binds X.K fd [x] []) (hr : Room (k + 1) X.A) (hc : X.calm = true)
    (hsp : ∀ n H Q, Q (.int (g n)) H → sp [.int n] H Q E0) (hSa : S ≠ a) (hSi : S ≠ it) :
    ∀ (r j : Nat) (s : Shared) (H : Hp) (b : Int), ns.length - j = r → j ≤ ns.length → Inv X pins σ H s → FpOk X pins H it → s.heap.IsListIter it a j → SqL X.K H a (ns.map V.int) → H S = some (.lst [.int b, .int (g b)]) →
      (∀ s' H' t, Inv X pins σ H' s' → (∀ c o, c ≠ S → H c = some o → H' c = some o) → R (.ok (.ret (.int ((ns.drop j).foldl (fun b n => if g b < g n then n else b) b) t))) s') →
      codeAny (model X.prog X.w) X.A (.builtin "max.loop" ⟨[.ref it, .ref q, .ref S], []⟩) R s := by
  have hname : (toString "max" ++ toString ".loop" : String) = "max.loop" := by decide
  intro r
  induction r with
  | zero =>
    intro j s H b hr0 hj I fp st hq hS hR
    have hjn : j = ns.length := by omega
    obtain ⟨its, rv, p, hz⟩ := I.list hq
    obtain ⟨f0, f1, f2, f3, f4, f5⟩ := fp
    obtain ⟨zS, itS, nS, rS, lS, eS⟩ := I.lstM hS
    obtain ⟨ta, tb, rfl⟩ := Vals.int2 rS
    refine codeAny_builtin PySem.F.entry_max_loop ?_
    rw [Around.under_plainId PySem.F.plain_max_loop _]
    show wpAny _ X.A.in1 (seqItems? (.ref S) >>= _) _ _ _
    refine wpAny_bind (wpAny_seqItems eS rfl ?_)
    show wpAny _ X.A.in1 (tryCatch (pyNext (.ref it)) _ >>= _) _ _ _
    have hl := rv.length
    rw [List.length_map] at hl
    refine wpAny_bind (wpAny_tryCatch (wpAny_pyNext_list_end (I.ok.hd hc) st p.isList (by simp; omega) fun h' eb => ?_))
    have I1 : Inv X pins σ H { s with heap := h' } := I.turned (t' := s.toks) (fun b o hb e => eb b o hb e) f0 f1 f3 f4 f5
    obtain ⟨_, itS', nS', rS', _, eS'⟩ := I1.lstM hS
    show wpAny _ X.A.in1 (updateSeq S (fun _ => #[]) >>= _) _ _ _
    refine wpAny_bind ?_
    refine wpAny_updateSeq eS' rfl (wpAny_bind (wpAny_letGo (wpAny_pure ?_)))
    have I2 := I1.lset (its' := []) (ys := []) (f := fun _ => #[]) (t' := s.toks) hS eS' rfl .nil (Nat.zero_le _)
    have e0 : ns.drop j = [] := by rw [hjn]; exact List.drop_length
    have := hR _ _ ta I2 (fun c o hc e => by rw [upd_ne hc]; exact e)
    rw [e0] at this
    exact this
  | succ r ih =>
    intro j s H b hr0 hj I fp st hq hS hR
    have hlt : j < ns.length := by omega
    obtain ⟨its, rv, p, hz⟩ := I.list hq
    obtain ⟨f0, f1, f2, f3, f4, f5⟩ := id fp
    obtain ⟨zS, itS, nS, rS, lS, eS⟩ := I.lstM hS
    obtain ⟨ta, tb, rfl⟩ := Vals.int2 rS
    obtain ⟨n, hn⟩ : ∃ n, ns[j]? = some n := ⟨_, List.getElem?_eq_getElem hlt⟩
    obtain ⟨u, hu, ru⟩ := rv.get (i := j) (x := V.int n) (by rw [List.getElem?_map, hn]; rfl)
    obtain ⟨tn, rfl⟩ := ru
    refine codeAny_builtin PySem.F.entry_max_loop ?_
    rw [Around.under_plainId PySem.F.plain_max_loop _]
    show wpAny _ X.A.in1 (seqItems? (.ref S) >>= _) _ _ _
    refine wpAny_bind (wpAny_seqItems eS rfl ?_)
    show wpAny _ X.A.in1 (tryCatch (pyNext (.ref it)) _ >>= _) _ _ _
    refine wpAny_bind (wpAny_tryCatch (wpAny_pyNext_list_item st p.isList (x := .int n tn) (by simpa using hu) fun h' st' sb => ?_))
    have I1 : Inv X pins σ H { s with heap := h' } := I.turned (t' := s.toks) (fun b o hb e => (sb.2 b hb).trans e) f0 f1 f3 f4 f5
    obtain ⟨oI, eI, cI, dI⟩ := id st'
    have I1p : Inv X (pins ++ [(it, oI)]) σ H { s with heap := h' } := I1.pins_of fun p hp => by
      rcases List.mem_append.mp hp with z | z
      · exact I1.pin p (List.mem_append_right _ z)
      · rw [List.mem_singleton.mp z]
        exact ⟨eI, f0, f1, f2, fun v z => by rw [dI] at z; cases z⟩
    show wpAny _ X.A.in1 (tryCatch (holding [.int n tn] (call (.ref q) [.int n tn])) _ >>= _) _ _ _
    refine wpAny_bind (wpAny_tryCatch (wpAny_holding ?_))
    refine wpAny_call (codeAny_mono (F.run X.A.in1 X.stack _ H ⟨[.int n tn], []⟩ [.int n tn] [.int n] (fun v H' => v = .int (g n) ∧ H' = H) E0 hr.in1 I1p.env0.in1 (hb _ [.int n tn] I1p.kIn rfl) (.cons ⟨tn, rfl⟩ .nil) (hsp n H _ ⟨rfl, rfl⟩)) fun rr s2 hq2 => ?_)
    cases rr with
    | error e => exact hq2.elim
    | ok fl =>
    cases fl with
    | next => exact hq2.elim
    | brk => exact hq2.elim
    | cont => exact hq2.elim
    | ret u2 =>
    obtain ⟨v2, H2, I2p, r2, ev, eH⟩ := I1p.after hq2
    subst ev
    subst eH
    obtain ⟨t2, rfl⟩ := r2
    have st2 : s2.heap.IsListIter it a (j + 1) := ⟨oI, (I2p.pin (it, oI) (List.mem_append_right _ (List.mem_append_right _ (List.mem_singleton.mpr rfl)))).1, cI, dI⟩
    have I2 : Inv X pins σ H2 s2 := I2p.unpinned
    show wpAny _ X.A.in1 (tryCatch (holding [.int n tn, .int (g n) t2] (richCompare .Gt (.int (g n) t2) (.int (g b) tb) >>= _)) _ >>= _) _ _ _
    refine wpAny_bind (wpAny_tryCatch (wpAny_holding (wpAny_bind (CmpOf.ints_gt (prog := X.prog) (w := X.w) (A := X.A.in1) (P := fun i v => ∃ t, v = .int ((fun i : Nat => if i = 0 then g n else g b) i) t) (fun i : Nat => if i = 0 then g n else g b) (fun i v h => h) 0 1 _ _ _ _ _ ⟨t2, rfl⟩ ⟨tb, rfl⟩ ?_))))
    refine wpAny_bind (wpAny_holding (wpAny_truthy_bool ?_))
    refine wpAny_bind (wpAny_letGo (wpAny_pure ?_))
    obtain ⟨_, itS2, nS2, rS2, _, eS2⟩ := I2.lstM hS
    have dr : ns.drop j = n :: ns.drop (j + 1) := by
      rw [List.drop_eq_getElem_cons hlt]; congr 1
      have := List.getElem?_eq_getElem hlt; rw [hn] at this; exact (Option.some.inj this).symm
    change wpAny _ _ (if decide (g n > g b) = true then _ else _) _ _ _
    by_cases c : g b < g n
    · rw [if_pos (decide_eq_true (show g n > g b from c))]
      refine wpAny_bind ?_
      refine wpAny_updateSeq eS2 rfl (wpAny_bind (wpAny_letGo ?_))
      rw [hname]
      have I3 := I2.lset (its' := [.int n tn, .int (g n) t2]) (ys := [.int n, .int (g n)]) (f := fun _ => #[.int n tn, .int (g n) t2]) (t' := s2.toks) hS eS2 rfl (.cons ⟨_, rfl⟩ (.cons ⟨_, rfl⟩ .nil)) (by show 2 ≤ sizeLine; decide)
      have nia : it ≠ S := fun z => hSi z.symm
      refine wpAny_pure ⟨plainId_quiet PySem.F.plain_max_loop _, ih (j + 1) _ _ n (by omega) (by omega) I3 ⟨by rw [upd_ne nia]; exact f0, f1, f2, f3, f4, f5⟩ ?_ ?_ upd_same fun s' H' t I' kp => ?_⟩
      · obtain ⟨o, e, c, d⟩ := st2
        exact ⟨o, (Heap.get?_update_other s2.heap _ hSi).trans e, c, d⟩
      · exact sameSq_list hSa hq
      · have := hR s' H' t I' fun c o hc e => kp c o hc (by rw [upd_ne hc]; exact e)
        rw [dr, List.foldl_cons, if_pos c] at this
        exact this
    · rw [if_neg (fun z => c (of_decide_eq_true z))]
      refine wpAny_bind (wpAny_letGo ?_)
      rw [hname]
      refine wpAny_pure ⟨plainId_quiet PySem.F.plain_max_loop _, ih (j + 1) _ _ b (by omega) (by omega) I2 fp st2 hq hS fun s' H' t I' kp => ?_⟩
      have := hR s' H' t I' kp
      rw [dr, List.foldl_cons, if_neg c] at this
      exact this
theorem max_list_first {X : Cx} {k : Nat} {q : Addr} {fd : FuncData} {x : Str} {sp : Sp} {pins : List (Addr × Obj)} {σ : St} {it S a : Addr} {n : Int} {ns : List Int} {R : Result → Shared → Prop} (g : Int → Int)
    (F : FnOk X.prog X.w X.K X.mg X.base CX0 k q fd [x] sp) (hb : Binds X.K fd [x] []) (hr : Room (k + 1) X.A) (hc : X.calm = true)
    (hsp : ∀ n H Q, Q (.int (g n)) H → sp [.int n] H Q E0) (hSa : S ≠ a) (hSi : S ≠ it) {s : Shared} {H : Hp} (I : Inv X pins σ H s) (fp : FpOk X pins H it) (st : s.heap.IsListIter it a 0) (hq : SqL X.K H a ((n :: ns).map V.int)) (hS : H S = some (.lst []))
    (hR : ∀ s' H' t, Inv X pins σ H' s' → (∀ c o, c ≠ S → H c = some o → H' c = some o) → R (.ok (.ret (.int (ns.foldl (fun b n => if g b < g n then n else b) n) t))) s') :
    codeAny (model X.prog X.w) X.A (.builtin "max.loop" ⟨[.ref it, .ref q, .ref S], []⟩) R s := by
  have hname : (toString "max" ++ toString ".loop" : String) = "max.loop" := by decide
  obtain ⟨its, rv, p, hz⟩ := I.list hq
  obtain ⟨f0, f1, f2, f3, f4, f5⟩ := id fp
  obtain ⟨zS, itS, nS, rS, lS, eS⟩ := I.lstM hS
  cases rS
  obtain ⟨u, hu, ru⟩ := rv.get (i := 0) (x := V.int n) rfl
  obtain ⟨tn, rfl⟩ := ru
  refine codeAny_builtin PySem.F.entry_max_loop ?_
  rw [Around.under_plainId PySem.F.plain_max_loop _]
  show wpAny _ X.A.in1 (seqItems? (.ref S) >>= _) _ _ _
  refine wpAny_bind (wpAny_seqItems eS rfl ?_)
  show wpAny _ X.A.in1 (tryCatch (pyNext (.ref it)) _ >>= _) _ _ _
  refine wpAny_bind (wpAny_tryCatch (wpAny_pyNext_list_item st p.isList (x := .int n tn) (by simpa using hu) fun h' st' sb => ?_))
  have I1 : Inv X pins σ H { s with heap := h' } := I.turned (t' := s.toks) (fun b o hb e => (sb.2 b hb).trans e) f0 f1 f3 f4 f5
  obtain ⟨oI, eI, cI, dI⟩ := id st'
  have I1p : Inv X (pins ++ [(it, oI)]) σ H { s with heap := h' } := I1.pins_of fun p hp => by
    rcases List.mem_append.mp hp with z | z
    · exact I1.pin p (List.mem_append_right _ z)
    · rw [List.mem_singleton.mp z]
      exact ⟨eI, f0, f1, f2, fun v z => by rw [dI] at z; cases z⟩
  show wpAny _ X.A.in1 (tryCatch (holding [.int n tn] (call (.ref q) [.int n tn])) _ >>= _) _ _ _
  refine wpAny_bind (wpAny_tryCatch (wpAny_holding ?_))
  refine wpAny_call (codeAny_mono (F.run X.A.in1 X.stack _ H ⟨[.int n tn], []⟩ [.int n tn] [.int n] (fun v H' => v = .int (g n) ∧ H' = H) E0 hr.in1 I1p.env0.in1 (hb _ [.int n tn] I1p.kIn rfl) (.cons ⟨tn, rfl⟩ .nil) (hsp n H _ ⟨rfl, rfl⟩)) fun rr s2 hq2 => ?_)
  cases rr with
  | error e => exact hq2.elim
  | ok fl =>
  cases fl with
  | next => exact hq2.elim
  | brk => exact hq2.elim
  | cont => exact hq2.elim
  | ret u2 =>
  obtain ⟨v2, H2, I2p, r2, ev, eH⟩ := I1p.after hq2
  subst ev
  subst eH
  obtain ⟨t2, rfl⟩ := r2
  have st2 : s2.heap.IsListIter it a 1 := ⟨oI, (I2p.pin (it, oI) (List.mem_append_right _ (List.mem_append_right _ (List.mem_singleton.mpr rfl)))).1, cI, dI⟩
  have I2 : Inv X pins σ H2 s2 := I2p.unpinned
  obtain ⟨_, itS2, nS2, rS2, _, eS2⟩ := I2.lstM hS
  show wpAny _ X.A.in1 (updateSeq S (fun _ => #[.int n tn, .int (g n) t2]) >>= _) _ _ _
  refine wpAny_bind ?_
  refine wpAny_updateSeq eS2 rfl ?_
  rw [hname]
  have I3 := I2.lset (its' := [.int n tn, .int (g n) t2]) (ys := [.int n, .int (g n)]) (f := fun _ => #[.int n tn, .int (g n) t2]) (t' := s2.toks) hS eS2 rfl (.cons ⟨_, rfl⟩ (.cons ⟨_, rfl⟩ .nil)) (by show 2 ≤ sizeLine; decide)
  have nia : it ≠ S := fun z => hSi z.symm
  refine wpAny_pure ⟨plainId_quiet PySem.F.plain_max_loop _, max_list_loop (ns := n :: ns) g F hb hr hc hsp hSa hSi _ 1 _ _ n rfl (Nat.succ_le_succ (Nat.zero_le _)) I3 ⟨by rw [upd_ne nia]; exact f0, f1, f2, f3, f4, f5⟩ ?_ ?_ upd_same fun s' H' t I' kp => ?_⟩
  · obtain ⟨o, e, c, d⟩ := st2
    exact ⟨o, (Heap.get?_update_other s2.heap _ hSi).trans e, c, d⟩
  · exact sameSq_list hSa hq
  · exact hR s' H' t I' fun c o hc e => kp c o hc (by rw [upd_ne hc]; exact e)
theorem max_tuple_loop {X : Cx} {k : Nat} {q : Addr} {fd : FuncData} {x : Str} {sp : Sp} {pins : List (Addr × Obj)} {σ : St} {it S a : Addr} {ns : List Int} {R : Result → Shared → Prop} (g : Int → Int)
    (F : FnOk X.prog X.w X.K X.mg X.base CX0 k q fd [x] sp) (hb : Binds X.K fd [x] []) (hr : Room (k + 1) X.A) (hc : X.calm = true)
    (hsp : ∀ n H Q, Q (.int (g n)) H → sp [.int n] H Q E0) (hSa : S ≠ a) (hSi : S ≠ it) :
    ∀ (r j : Nat) (s : Shared) (H : Hp) (b : Int), ns.length - j = r → j ≤ ns.length → Inv X pins σ H s → FpOk X pins H it → s.heap.IsTupleIter it a j → SqT X.K H a (ns.map V.int) → H S = some (.lst [.int b, .int (g b)]) →
      (∀ s' H' t, Inv X pins σ H' s' → (∀ c o, c ≠ S → H c = some o → H' c = some o) → R (.ok (.ret (.int ((ns.drop j).foldl (fun b n => if g b < g n then n else b) b) t))) s') →
      codeAny (model X.prog X.w) X.A (.builtin "max.loop" ⟨[.ref it, .ref q, .ref S], []⟩) R s := by
  have hname : (toString "max" ++ toString ".loop" : String) = "max.loop" := by decide
  intro r
  induction r with
  | zero =>
    intro j s H b hr0 hj I fp st hq hS hR
    have hjn : j = ns.length := by omega
    obtain ⟨its, rv, p, hz⟩ := I.tuple hq
    obtain ⟨f0, f1, f2, f3, f4, f5⟩ := fp
    obtain ⟨zS, itS, nS, rS, lS, eS⟩ := I.lstM hS
    obtain ⟨ta, tb, rfl⟩ := Vals.int2 rS
    refine codeAny_builtin PySem.F.entry_max_loop ?_
    rw [Around.under_plainId PySem.F.plain_max_loop _]
    show wpAny _ X.A.in1 (seqItems? (.ref S) >>= _) _ _ _
    refine wpAny_bind (wpAny_seqItems eS rfl ?_)
    show wpAny _ X.A.in1 (tryCatch (pyNext (.ref it)) _ >>= _) _ _ _
    have hl := rv.length
    rw [List.length_map] at hl
    refine wpAny_bind (wpAny_tryCatch (wpAny_pyNext_tuple_end (I.ok.hd hc) st (show s.heap.IsTuple a its.toArray from p) (by simp; omega) fun h' eb => ?_))
    have I1 : Inv X pins σ H { s with heap := h' } := I.turned (t' := s.toks) (fun b o hb e => eb b o hb e) f0 f1 f3 f4 f5
    obtain ⟨_, itS', nS', rS', _, eS'⟩ := I1.lstM hS
    show wpAny _ X.A.in1 (updateSeq S (fun _ => #[]) >>= _) _ _ _
    refine wpAny_bind ?_
    refine wpAny_updateSeq eS' rfl (wpAny_bind (wpAny_letGo (wpAny_pure ?_)))
    have I2 := I1.lset (its' := []) (ys := []) (f := fun _ => #[]) (t' := s.toks) hS eS' rfl .nil (Nat.zero_le _)
    have e0 : ns.drop j = [] := by rw [hjn]; exact List.drop_length
    have := hR _ _ ta I2 (fun c o hc e => by rw [upd_ne hc]; exact e)
    rw [e0] at this
    exact this
  | succ r ih =>
    intro j s H b hr0 hj I fp st hq hS hR
    have hlt : j < ns.length := by omega
    obtain ⟨its, rv, p, hz⟩ := I.tuple hq
    obtain ⟨f0, f1, f2, f3, f4, f5⟩ := id fp
    obtain ⟨zS, itS, nS, rS, lS, eS⟩ := I.lstM hS
    obtain ⟨ta, tb, rfl⟩ := Vals.int2 rS
    obtain ⟨n, hn⟩ : ∃ n, ns[j]? = some n := ⟨_, List.getElem?_eq_getElem hlt⟩
    obtain ⟨u, hu, ru⟩ := rv.get (i := j) (x := V.int n) (by rw [List.getElem?_map, hn]; rfl)
    obtain ⟨tn, rfl⟩ := ru
    refine codeAny_builtin PySem.F.entry_max_loop ?_
    rw [Around.under_plainId PySem.F.plain_max_loop _]
    show wpAny _ X.A.in1 (seqItems? (.ref S) >>= _) _ _ _
    refine wpAny_bind (wpAny_seqItems eS rfl ?_)
    show wpAny _ X.A.in1 (tryCatch (pyNext (.ref it)) _ >>= _) _ _ _
    refine wpAny_bind (wpAny_tryCatch (wpAny_pyNext_tuple_item st (show s.heap.IsTuple a its.toArray from p) (x := .int n tn) (by simpa using hu) fun h' st' sb => ?_))
    have I1 : Inv X pins σ H { s with heap := h' } := I.turned (t' := s.toks) (fun b o hb e => (sb.2 b hb).trans e) f0 f1 f3 f4 f5
    obtain ⟨oI, eI, cI, dI⟩ := id st'
    have I1p : Inv X (pins ++ [(it, oI)]) σ H { s with heap := h' } := I1.pins_of fun p hp => by
      rcases List.mem_append.mp hp with z | z
      · exact I1.pin p (List.mem_append_right _ z)
      · rw [List.mem_singleton.mp z]
        exact ⟨eI, f0, f1, f2, fun v z => by rw [dI] at z; cases z⟩
    show wpAny _ X.A.in1 (tryCatch (holding [.int n tn] (call (.ref q) [.int n tn])) _ >>= _) _ _ _
    refine wpAny_bind (wpAny_tryCatch (wpAny_holding ?_))
    refine wpAny_call (codeAny_mono (F.run X.A.in1 X.stack _ H ⟨[.int n tn], []⟩ [.int n tn] [.int n] (fun v H' => v = .int (g n) ∧ H' = H) E0 hr.in1 I1p.env0.in1 (hb _ [.int n tn] I1p.kIn rfl) (.cons ⟨tn, rfl⟩ .nil) (hsp n H _ ⟨rfl, rfl⟩)) fun rr s2 hq2 => ?_)
    cases rr with
    | error e => exact hq2.elim
    | ok fl =>
    cases fl with
    | next => exact hq2.elim
    | brk => exact hq2.elim
    | cont => exact hq2.elim
    | ret u2 =>
    obtain ⟨v2, H2, I2p, r2, ev, eH⟩ := I1p.after hq2
    subst ev
    subst eH
    obtain ⟨t2, rfl⟩ := r2
    have st2 : s2.heap.IsTupleIter it a (j + 1) := ⟨oI, (I2p.pin (it, oI) (List.mem_append_right _ (List.mem_append_right _ (List.mem_singleton.mpr rfl)))).1, cI, dI⟩
    have I2 : Inv X pins σ H2 s2 := I2p.unpinned
    show wpAny _ X.A.in1 (tryCatch (holding [.int n tn, .int (g n) t2] (richCompare .Gt (.int (g n) t2) (.int (g b) tb) >>= _)) _ >>= _) _ _ _
    refine wpAny_bind (wpAny_tryCatch (wpAny_holding (wpAny_bind (CmpOf.ints_gt (prog := X.prog) (w := X.w) (A := X.A.in1) (P := fun i v => ∃ t, v = .int ((fun i : Nat => if i = 0 then g n else g b) i) t) (fun i : Nat => if i = 0 then g n else g b) (fun i v h => h) 0 1 _ _ _ _ _ ⟨t2, rfl⟩ ⟨tb, rfl⟩ ?_))))
    refine wpAny_bind (wpAny_holding (wpAny_truthy_bool ?_))
    refine wpAny_bind (wpAny_letGo (wpAny_pure ?_))
    obtain ⟨_, itS2, nS2, rS2, _, eS2⟩ := I2.lstM hS
    have dr : ns.drop j = n :: ns.drop (j + 1) := by
      rw [List.drop_eq_getElem_cons hlt]; congr 1
      have := List.getElem?_eq_getElem hlt; rw [hn] at this; exact (Option.some.inj this).symm
    change wpAny _ _ (if decide (g n > g b) = true then _ else _) _ _ _
    by_cases c : g b < g n
    · rw [if_pos (decide_eq_true (show g n > g b from c))]
      refine wpAny_bind ?_
      refine wpAny_updateSeq eS2 rfl (wpAny_bind (wpAny_letGo ?_))
      rw [hname]
      have I3 := I2.lset (its' := [.int n tn, .int (g n) t2]) (ys := [.int n, .int (g n)]) (f := fun _ => #[.int n tn, .int (g n) t2]) (t' := s2.toks) hS eS2 rfl (.cons ⟨_, rfl⟩ (.cons ⟨_, rfl⟩ .nil)) (by show 2 ≤ sizeLine; decide)
      have nia : it ≠ S := fun z => hSi z.symm
      refine wpAny_pure ⟨plainId_quiet PySem.F.plain_max_loop _, ih (j + 1) _ _ n (by omega) (by omega) I3 ⟨by rw [upd_ne nia]; exact f0, f1, f2, f3, f4, f5⟩ ?_ ?_ upd_same fun s' H' t I' kp => ?_⟩
      · obtain ⟨o, e, c, d⟩ := st2
        exact ⟨o, (Heap.get?_update_other s2.heap _ hSi).trans e, c, d⟩
      · exact sameSq_tuple hSa hq
      · have := hR s' H' t I' fun c o hc e => kp c o hc (by rw [upd_ne hc]; exact e)
        rw [dr, List.foldl_cons, if_pos c] at this
        exact this
    · rw [if_neg (fun z => c (of_decide_eq_true z))]
      refine wpAny_bind (wpAny_letGo ?_)
      rw [hname]
      refine wpAny_pure ⟨plainId_quiet PySem.F.plain_max_loop _, ih (j + 1) _ _ b (by omega) (by omega) I2 fp st2 hq hS fun s' H' t I' kp => ?_⟩
      have := hR s' H' t I' kp
      rw [dr, List.foldl_cons, if_neg c] at this
      exact this
theorem max_tuple_first {X : Cx} {k : Nat} {q : Addr} {fd : FuncData} {x : Str} {sp : Sp} {pins : List (Addr × Obj)} {σ : St} {it S a : Addr} {n : Int} {ns : List Int} {R : Result → Shared → Prop} (g : Int → Int)
    (F : FnOk X.prog X.w X.K X.mg X.base CX0 k q fd [x] sp) (hb : Binds X.K fd [x] []) (hr : Room (k + 1) X.A) (hc : X.calm = true)
    (hsp : ∀ n H Q, Q (.int (g n)) H → sp [.int n] H Q E0) (hSa : S ≠ a) (hSi : S ≠ it) {s : Shared} {H : Hp} (I : Inv X pins σ H s) (fp : FpOk X pins H it) (st : s.heap.IsTupleIter it a 0) (hq : SqT X.K H a ((n :: ns).map V.int)) (hS : H S = some (.lst []))
    (hR : ∀ s' H' t, Inv X pins σ H' s' → (∀ c o, c ≠ S → H c = some o → H' c = some o) → R (.ok (.ret (.int (ns.foldl (fun b n => if g b < g n then n else b) n) t))) s') :
    codeAny (model X.prog X.w) X.A (.builtin "max.loop" ⟨[.ref it, .ref q, .ref S], []⟩) R s := by
  have hname : (toString "max" ++ toString ".loop" : String) = "max.loop" := by decide
  obtain ⟨its, rv, p, hz⟩ := I.tuple hq
  obtain ⟨f0, f1, f2, f3, f4, f5⟩ := id fp
  obtain ⟨zS, itS, nS, rS, lS, eS⟩ := I.lstM hS
  cases rS
  obtain ⟨u, hu, ru⟩ := rv.get (i := 0) (x := V.int n) rfl
  obtain ⟨tn, rfl⟩ := ru
  refine codeAny_builtin PySem.F.entry_max_loop ?_
  rw [Around.under_plainId PySem.F.plain_max_loop _]
  show wpAny _ X.A.in1 (seqItems? (.ref S) >>= _) _ _ _
  refine wpAny_bind (wpAny_seqItems eS rfl ?_)
  show wpAny _ X.A.in1 (tryCatch (pyNext (.ref it)) _ >>= _) _ _ _
  refine wpAny_bind (wpAny_tryCatch (wpAny_pyNext_tuple_item st (show s.heap.IsTuple a its.toArray from p) (x := .int n tn) (by simpa using hu) fun h' st' sb => ?_))
  have I1 : Inv X pins σ H { s with heap := h' } := I.turned (t' := s.toks) (fun b o hb e => (sb.2 b hb).trans e) f0 f1 f3 f4 f5
  obtain ⟨oI, eI, cI, dI⟩ := id st'
  have I1p : Inv X (pins ++ [(it, oI)]) σ H { s with heap := h' } := I1.pins_of fun p hp => by
    rcases List.mem_append.mp hp with z | z
    · exact I1.pin p (List.mem_append_right _ z)
    · rw [List.mem_singleton.mp z]
      exact ⟨eI, f0, f1, f2, fun v z => by rw [dI] at z; cases z⟩
  show wpAny _ X.A.in1 (tryCatch (holding [.int n tn] (call (.ref q) [.int n tn])) _ >>= _) _ _ _
  refine wpAny_bind (wpAny_tryCatch (wpAny_holding ?_))
  refine wpAny_call (codeAny_mono (F.run X.A.in1 X.stack _ H ⟨[.int n tn], []⟩ [.int n tn] [.int n] (fun v H' => v = .int (g n) ∧ H' = H) E0 hr.in1 I1p.env0.in1 (hb _ [.int n tn] I1p.kIn rfl) (.cons ⟨tn, rfl⟩ .nil) (hsp n H _ ⟨rfl, rfl⟩)) fun rr s2 hq2 => ?_)
  cases rr with
  | error e => exact hq2.elim
  | ok fl =>
  cases fl with
  | next => exact hq2.elim
  | brk => exact hq2.elim
  | cont => exact hq2.elim
  | ret u2 =>
  obtain ⟨v2, H2, I2p, r2, ev, eH⟩ := I1p.after hq2
  subst ev
  subst eH
  obtain ⟨t2, rfl⟩ := r2
  have st2 : s2.heap.IsTupleIter it a 1 := ⟨oI, (I2p.pin (it, oI) (List.mem_append_right _ (List.mem_append_right _ (List.mem_singleton.mpr rfl)))).1, cI, dI⟩
  have I2 : Inv X pins σ H2 s2 := I2p.unpinned
  obtain ⟨_, itS2, nS2, rS2, _, eS2⟩ := I2.lstM hS
  show wpAny _ X.A.in1 (updateSeq S (fun _ => #[.int n tn, .int (g n) t2]) >>= _) _ _ _
  refine wpAny_bind ?_
  refine wpAny_updateSeq eS2 rfl ?_
  rw [hname]
  have I3 := I2.lset (its' := [.int n tn, .int (g n) t2]) (ys := [.int n, .int (g n)]) (f := fun _ => #[.int n tn, .int (g n) t2]) (t' := s2.toks) hS eS2 rfl (.cons ⟨_, rfl⟩ (.cons ⟨_, rfl⟩ .nil)) (by show 2 ≤ sizeLine; decide)
  have nia : it ≠ S := fun z => hSi z.symm
  refine wpAny_pure ⟨plainId_quiet PySem.F.plain_max_loop _, max_tuple_loop (ns := n :: ns) g F hb hr hc hsp hSa hSi _ 1 _ _ n rfl (Nat.succ_le_succ (Nat.zero_le _)) I3 ⟨by rw [upd_ne nia]; exact f0, f1, f2, f3, f4, f5⟩ ?_ ?_ upd_same fun s' H' t I' kp => ?_⟩
  · obtain ⟨o, e, c, d⟩ := st2
    exact ⟨o, (Heap.get?_update_other s2.heap _ hSi).trans e, c, d⟩
  · exact sameSq_tuple hSa hq
  · exact hR s' H' t I' fun c o hc e => kp c o hc (by rw [upd_ne hc]; exact e)
theorem ok_max2 (a b v : Value) : argsOk "max" ⟨[a, b], [(Str.ofString "key", v)]⟩ := by unfold argsOk; kernel_rfl
theorem max_key_list {X : Cx} {k : Nat} {q : Addr} {fd : FuncData} {x : Str} {sp : Sp} {pins : List (Addr × Obj)} {σ : St} {a : Addr} {n : Int} {ns : List Int} {Q : VK} (g : Int → Int)
    (F : FnOk X.prog X.w X.K X.mg X.base CX0 k q fd [x] sp) (hb : Binds X.K fd [x] []) (hr : Room (k + 1) X.A) (hc : X.calm = true)
    (hsp : ∀ n H Q, Q (.int (g n)) H → sp [.int n] H Q E0) {s : Shared} {H : Hp} (I : Inv X pins σ H s) (hq : SqL X.K H a ((n :: ns).map V.int))
    (hQ : ∀ H', Same H H' → Q (.int (ns.foldl (fun b n => if g b < g n then n else b) n)) H') :
    wpAny (model X.prog X.w) X.A (call (.builtin "max") [.ref a] [(Str.ofString "key", .ref q)]) (EP X pins σ Q) X.xe s := by
  have hname : (toString "max" ++ toString ".loop" : String) = "max.loop" := by decide
  obtain ⟨its, rv, p, hz⟩ := I.list hq
  refine kmk_tree PySem.F.kind_max PySem.F.plain_max PySem.F.entry_max (kmk_max_key _ _) ?_
  show wpAny _ X.A.in1 (Builtin.Builtins.bindParams "max" ["key", "default"] 0 ⟨[], [(Str.ofString "key", .ref q)]⟩ >>= _) _ _ s
  refine wpAny_bind (wpAny_of_eq (show Builtin.Builtins.bindParams "max" ["key", "default"] 0 ⟨[], [(Str.ofString "key", .ref q)]⟩ = pure [some (.ref q), none] from rfl) ?_)
  refine wpAny_bind (wpAny_pure ?_)
  refine wpAny_bind (wpAny_pyIter_list p.isList ?_)
  have hla : a < s.heap.objs.size := by obtain ⟨o, e, _⟩ := p.isList; exact Heap.lt_size e
  have I1 : Inv X pins σ H { s with heap := s.heap.push { cls := .type "list_iterator", data := .fields #[.ref a, .int 0 0] } } := I.kept (t' := s.toks) fun b o e => Heap.get?_push_of_some _ e
  have hS : (s.heap.push { cls := .type "list_iterator", data := .fields #[.ref a, .int 0 0] }).objs.size = s.heap.objs.size + 1 := size_push' ..
  refine wpAny_bind (wpAny_newList ?_ (Nat.zero_le _))
  rw [hname]
  refine wpAny_pure ⟨plainId_quiet PySem.F.plain_max_loop _, ?_⟩
  have I2 := I1.lnew (its := []) (ys := []) (t' := s.toks) .nil (Nat.zero_le _)
  have fp := I.fpOk (H' := upd H (s.heap.objs.size + 1) (.lst [])) (Nat.le_refl s.heap.objs.size) (by rw [upd_ne (Nat.ne_of_lt (Nat.lt_succ_self _))]; exact I.fresh)
  have hn : H (s.heap.objs.size + 1) = none := I.hok.fresh (Nat.le_succ _)
  simp only [hS] at I2 ⊢
  refine max_list_first (S := s.heap.objs.size + 1) (it := s.heap.objs.size) (a := a) (n := n) (ns := ns) g F hb hr hc hsp (Nat.ne_of_gt (Nat.lt_succ_of_lt hla)) (Nat.ne_of_gt (Nat.lt_succ_self _)) I2 fp ?_ (sameSq_list (Nat.ne_of_gt (Nat.lt_succ_of_lt hla)) hq) upd_same fun s' H' t I' kp => ?_
  · exact ⟨_, Heap.get?_push_of_some _ (Heap.get?_push_size _ rfl), rfl, rfl⟩
  · refine ⟨.int _, H', I', ⟨t, rfl⟩, hQ H' fun b o e => kp b o (ne_of_none e hn) ?_⟩
    rw [upd_ne (ne_of_none e hn)]; exact e
theorem max_key_two {X : Cx} {k : Nat} {q : Addr} {fd : FuncData} {x : Str} {sp : Sp} {pins : List (Addr × Obj)} {σ : St} {i j : Int} {ti tj : Tok} {Q : VK} (g : Int → Int)
    (F : FnOk X.prog X.w X.K X.mg X.base CX0 k q fd [x] sp) (hb : Binds X.K fd [x] []) (hr : Room (k + 1) X.A) (hc : X.calm = true)
    (hsp : ∀ n H Q, Q (.int (g n)) H → sp [.int n] H Q E0) {s : Shared} {H : Hp} (I : Inv X pins σ H s)
    (hQ : ∀ H', Same H H' → Q (.int ([j].foldl (fun b n => if g b < g n then n else b) i)) H') :
    wpAny (model X.prog X.w) X.A (call (.builtin "max") [.int i ti, .int j tj] [(Str.ofString "key", .ref q)]) (EP X pins σ Q) X.xe s := by
  have hname : (toString "max" ++ toString ".loop" : String) = "max.loop" := by decide
  refine kmk_tree PySem.F.kind_max PySem.F.plain_max PySem.F.entry_max (ok_max2 _ _ _) ?_
  show wpAny _ X.A.in1 (Builtin.Builtins.bindParams "max" ["key", "default"] 0 ⟨[], [(Str.ofString "key", .ref q)]⟩ >>= _) _ _ s
  refine wpAny_bind (wpAny_of_eq (show Builtin.Builtins.bindParams "max" ["key", "default"] 0 ⟨[], [(Str.ofString "key", .ref q)]⟩ = pure [some (.ref q), none] from rfl) ?_)
  refine wpAny_bind ?_
  show wpAny _ X.A.in1 (newTuple [.int i ti, .int j tj]) _ _ _
  refine wpAny_newTuple ?_ (by show 2 ≤ sizeLine; decide)
  have hv : Vals [V.int i, V.int j] [Value.int i ti, Value.int j tj] := .cons ⟨ti, rfl⟩ (.cons ⟨tj, rfl⟩ .nil)
  have I0 : Inv X pins σ (upd H s.heap.objs.size (.tup [.int i, .int j])) { s with heap := s.heap.push { cls := .type "tuple", data := .seq [Value.int i ti, Value.int j tj].toArray } } :=
    I.laid (t' := s.toks) (fun b u e => Heap.get?_push_of_some _ e) (Nat.le_refl _) ⟨by show 2 ≤ sizeLine; decide, _, hv, ⟨_, Heap.get?_push_size _ rfl, rfl, _, rfl⟩⟩
  have hT : (s.heap.push { cls := .type "tuple", data := .seq [Value.int i ti, Value.int j tj].toArray }).objs.size = s.heap.objs.size + 1 := size_push' ..
  have hq0 : SqT X.K (upd H s.heap.objs.size (.tup [.int i, .int j])) s.heap.objs.size ((i :: [j]).map V.int) := SqT.of upd_same
  have hn0 : H s.heap.objs.size = none := I.fresh
  generalize hH0 : upd H s.heap.objs.size (.tup [.int i, .int j]) = H0 at I0 hq0
  have same0 : Same H H0 := fun b o e => by rw [← hH0, upd_ne (ne_of_none e hn0)]; exact e
  generalize hs0 : ({ s with heap := s.heap.push { cls := .type "tuple", data := .seq [Value.int i ti, Value.int j tj].toArray } } : Shared) = s0 at I0 ⊢
  have hz0 : s0.heap.objs.size = s.heap.objs.size + 1 := by rw [← hs0]; exact hT
  generalize ha : s.heap.objs.size = a at hq0 hz0 ⊢
  obtain ⟨its, rv, p, hz⟩ := I0.tuple hq0
  refine wpAny_bind (wpAny_pyIter_tuple (show s0.heap.IsTuple a its.toArray from p) ?_)
  have hla : a < s0.heap.objs.size := by omega
  have I1 : Inv X pins σ H0 { s0 with heap := s0.heap.push { cls := .type "tuple_iterator", data := .fields #[.ref a, .int 0 0] } } := I0.kept (t' := s0.toks) fun b o e => Heap.get?_push_of_some _ e
  have hS : (s0.heap.push { cls := .type "tuple_iterator", data := .fields #[.ref a, .int 0 0] }).objs.size = s0.heap.objs.size + 1 := size_push' ..
  refine wpAny_bind (wpAny_newList ?_ (Nat.zero_le _))
  rw [hname]
  refine wpAny_pure ⟨plainId_quiet PySem.F.plain_max_loop _, ?_⟩
  have I2 := I1.lnew (its := []) (ys := []) (t' := s0.toks) .nil (Nat.zero_le _)
  have fp := I0.fpOk (H' := upd H0 (s0.heap.objs.size + 1) (.lst [])) (Nat.le_refl s0.heap.objs.size) (by rw [upd_ne (Nat.ne_of_lt (Nat.lt_succ_self _))]; exact I0.fresh)
  have hn : H0 (s0.heap.objs.size + 1) = none := I0.hok.fresh (Nat.le_succ _)
  simp only [hS] at I2 ⊢
  refine max_tuple_first (S := s0.heap.objs.size + 1) (it := s0.heap.objs.size) (a := a) (n := i) (ns := [j]) g F hb hr hc hsp (Nat.ne_of_gt (Nat.lt_succ_of_lt hla)) (Nat.ne_of_gt (Nat.lt_succ_self _)) I2 fp ?_ (sameSq_tuple (Nat.ne_of_gt (Nat.lt_succ_of_lt hla)) hq0) upd_same fun s' H' t I' kp => ?_
  · exact ⟨_, Heap.get?_push_of_some _ (Heap.get?_push_size _ rfl), rfl, rfl⟩
  · refine ⟨.int _, H', I', ⟨t, rfl⟩, hQ H' fun b o e => kp b o (ne_of_none (same0 b o e) hn) ?_⟩
    rw [upd_ne (ne_of_none (same0 b o e) hn)]; exact same0 b o e
/-- max(a, b, key=f); max(xs, key=f) -/
def tmax2 (g : Int → Int) (t : TA) : TE := fun σ H Q => t σ H fun vs H1 => ∃ i j, vs = [.int i, .int j] ∧ ∀ H', Same H1 H' → Q (.int ([j].foldl (fun b n => if g b < g n then n else b) i)) H'
def tmaxL (K : PySem.W.Frag) (g : Int → Int) (t : TA) : TE := fun σ H Q => t σ H fun vs H1 => ∃ a n ns, vs = [.ref a] ∧ SqL K H1 a ((n :: ns).map V.int) ∧ ∀ H', Same H1 H' → Q (.int (ns.foldl (fun b n => if g b < g n then n else b) n)) H'
section
variable {X : Cx} {e : Expr} {es : List Expr} {t : TA} {p pos kp kpos : Pos} {k : Nat} {sp : Sp} {nm x : Str}
theorem pe_max2 (g : Int → Int) (C : Cal X.prog X.w X.K X.mg X.base nm [x] k sp) (hsp : ∀ n H Q, Q (.int (g n)) H → sp [.int n] H Q E0) (hr : Room (k + 1) X.A) (hc : X.calm = true) (hg : Gl X nm) (hm : Gl X "max") (hn : X.mg "max" = none) (ha : PA X (e :: es) t)
    (hdb : (nm == ("__debug__" : Str)) = false := by decide) (he : backTo pos (starEach (e :: es) X.env) = (false, eval e X.env) :: backTo pos (starEach es X.env) := by rfl)
    (hplain : (backTo pos (starEach (e :: es) X.env)).any (·.1) = false := by rfl) :
    PE X (.Call (.Name "max" p) (e :: es) [⟨some "key", .Name nm kp, kpos⟩] pos) (tmax2 g t) := by
  obtain ⟨f, fd, F, hmf, hk, hb⟩ := C
  intro pins s σ H Q I h
  refine wpAny_Call_Name_kw (ld_blt I hm hn boot_mx ?_ (by decide) (by decide))
  refine PyProof.Rows.callWith_kw (thn (ha pos pins s σ H _ I h) fun us s1 ⟨vs, H1, I1, r1, i, j, ev, q1⟩ => ?_) he hplain
  subst ev
  refine PyProof.Rows.kws_cons (thn (pe_glob hg hmf (v := .ref f) rfl hdb pins s1 σ H1 (fun v H' => v = .ref f ∧ H' = H1) I1 ⟨rfl, rfl⟩) fun u s2 ⟨v2, H2, I2, r2, ev, eH⟩ => PyProof.Rows.kws_nil ?_)
  subst ev
  subst eH
  cases r2
  obtain ⟨ti, tj, rfl⟩ := Vals.int2 r1
  exact max_key_two g F hb hr hc hsp I2 q1
theorem pe_maxL (g : Int → Int) (C : Cal X.prog X.w X.K X.mg X.base nm [x] k sp) (hsp : ∀ n H Q, Q (.int (g n)) H → sp [.int n] H Q E0) (hr : Room (k + 1) X.A) (hc : X.calm = true) (hg : Gl X nm) (hm : Gl X "max") (hn : X.mg "max" = none) (ha : PA X (e :: es) t)
    (hdb : (nm == ("__debug__" : Str)) = false := by decide) (he : backTo pos (starEach (e :: es) X.env) = (false, eval e X.env) :: backTo pos (starEach es X.env) := by rfl)
    (hplain : (backTo pos (starEach (e :: es) X.env)).any (·.1) = false := by rfl) :
    PE X (.Call (.Name "max" p) (e :: es) [⟨some "key", .Name nm kp, kpos⟩] pos) (tmaxL X.K g t) := by
  obtain ⟨f, fd, F, hmf, hk, hb⟩ := C
  intro pins s σ H Q I h
  refine wpAny_Call_Name_kw (ld_blt I hm hn boot_mx ?_ (by decide) (by decide))
  refine PyProof.Rows.callWith_kw (thn (ha pos pins s σ H _ I h) fun us s1 ⟨vs, H1, I1, r1, a, n, ns, ev, hq, q1⟩ => ?_) he hplain
  subst ev
  refine PyProof.Rows.kws_cons (thn (pe_glob hg hmf (v := .ref f) rfl hdb pins s1 σ H1 (fun v H' => v = .ref f ∧ H' = H1) I1 ⟨rfl, rfl⟩) fun u s2 ⟨v2, H2, I2, r2, ev, eH⟩ => PyProof.Rows.kws_nil ?_)
  subst ev
  subst eH
  cases r2
  obtain rfl := Vals.ref1 r1
  exact max_key_list g F hb hr hc hsp I2 hq q1
end
/-! ## a def handed on as a value, called -/
def Fn (X : Cx) (f : Addr) (ps : List Str) (k : Nat) (sp : Sp) : Prop := ∃ fd, FnOk X.prog X.w X.K X.mg X.base CX0 k f fd ps sp ∧ PySem.W.keepIn X.K (.ref f) = true ∧ Binds X.K fd ps []
def tCallE (X : Cx) (te : TE) (t : TA) : TE := fun σ H Q => te σ H fun x H1 => ∃ f ps k sp, x = .ref f ∧ Fn X f ps k sp ∧ Room k X.A ∧ t σ H1 fun vs H2 => sp vs H2 Q E0
section
variable {X : Cx} {e fe : Expr} {es : List Expr} {te : TE} {t : TA} {pos : Pos}
theorem pe_callE (h0 : PE X fe te) (ha : PA X (e :: es) t)
    (heq : eval (.Call fe (e :: es) [] pos) X.env = (do callWith pos (← eval fe X.env) [] (backTo pos (starEach (e :: es) X.env)) (backToKw pos (keywordEach [] X.env))) := by rfl)
    (he : starEach (e :: es) X.env = (false, eval e X.env) :: starEach es X.env := by rfl) (hpl : (backTo pos (starEach es X.env)).any (·.1) = false := by rfl) :
    PE X (.Call fe (e :: es) [] pos) (tCallE X te t) := by
  intro pins s σ H Q I h
  refine Call_ (thn (h0 pins s σ H _ I h) fun fv s1 ⟨x, H1, I1, r1, f, ps, k, sp, ex, ⟨fd, F, kp, hb⟩, hr, q⟩ => ?_) heq
  subst ex
  cases r1
  refine PySem.W.callWith_K (h₀ := X.base) I1.ok.mod.kin kp (thn (ha pos pins s1 σ H1 _ I1 q) fun us s2 ⟨vs, H2, I2, r, q2⟩ => ⟨I2.kIn, ?_⟩) he hpl
  exact run_fn (E := E0) F hr hb .nil pass0 I2 r (by rw [List.append_nil]; exact q2)
end
theorem Cal.fn {X : Cx} {nm : Str} {ps : List Str} {k : Nat} {sp : Sp} {f : Addr} (C : Cal X.prog X.w X.K X.mg X.base nm ps k sp) (h : X.mg nm = some (.ref f)) : Fn X f ps k sp := by
  obtain ⟨f', fd, F, hm, hk, hb⟩ := C
  rw [hm] at h
  cases h
  exact ⟨fd, F, hk, hb⟩
/-! ## promises of lists -/
def spL2 (pre : Int → Int → Prop) (g : Int → Int → List Int) : Sp := fun vs H Q _ => ∃ a b, vs = [.int a, .int b] ∧ pre a b ∧ ∀ (p : Addr) (H' : Hp), Same H H' → H' p = some (.lst ((g a b).map V.int)) → Q (.ref p) H'
def sp2S (g : Int → Int → Int) : Sp := fun vs H Q _ => ∃ a b, vs = [.int a, .int b] ∧ ∀ H' : Hp, Same H H' → Q (.int (g a b)) H'
section
variable {H : Hp} {Q : VK} {E : XK} {a b : Int}
theorem spL2_app {pre : Int → Int → Prop} {g : Int → Int → List Int} : spL2 pre g [.int a, .int b] H Q E ↔ pre a b ∧ ∀ (p : Addr) (H' : Hp), Same H H' → H' p = some (.lst ((g a b).map V.int)) → Q (.ref p) H' := by
  constructor
  · rintro ⟨_, _, e, h⟩; cases e; exact h
  · intro h; exact ⟨a, b, rfl, h⟩
theorem sp2S_app {g : Int → Int → Int} : sp2S g [.int a, .int b] H Q E ↔ ∀ H' : Hp, Same H H' → Q (.int (g a b)) H' := by
  constructor
  · rintro ⟨_, _, e, h⟩; cases e; exact h
  · intro h; exact ⟨a, b, rfl, h⟩
theorem sp2S_len {g : Int → Int → Int} {x y : Str} : ∀ vs H Q E, sp2S g vs H Q E → vs.length = [x, y].length := fun vs H Q E h => by
  obtain ⟨a, b, rfl, _⟩ := h; rfl
theorem spL2_len {pre : Int → Int → Prop} {g : Int → Int → List Int} {x y : Str} : ∀ vs H Q E, spL2 pre g vs H Q E → vs.length = [x, y].length := fun vs H Q E h => by
  obtain ⟨a, b, rfl, _⟩ := h; rfl
theorem Same.upd {H H' : Hp} {p : Addr} {o : HO} (s : Same H H') (h : H' p = none) : Same H (upd H' p o) := fun b ob e => by
  rw [upd_ne (ne_of_none (s b ob e) h)]; exact s b ob e
end
end L2
end
section
set_option Elab.async false
set_option linter.all false
set_option maxRecDepth 100000
set_option maxHeartbeats 4000000
namespace L2
open PySem PySem.Spec PyProof.Rows
/-! ## a comprehension over Values whose element is a def's number -/
theorem take_snoc1 {α : Type} : ∀ {l : List α} {i : Nat} {x : α}, l[i]? = some x → l.take (i + 1) = l.take i ++ [x]
  | [], i, x, h => by simp at h
  | a :: l, 0, x, h => by
    have e : a = x := Option.some.inj h
    subst e
    rfl
  | a :: l, i + 1, x, h => by
    have ih := take_snoc1 (l := l) (i := i) (x := x) h
    show a :: l.take (i + 1) = a :: l.take i ++ [x]
    rw [ih]
    rfl
theorem lc_vals {C : Addr} {K : PySem.W.Frag} {σ : St} {H : Hp} {a : Addr} {ps : List Addr} {vs : List Bx.Val} {g : Bx.Val → Int} {sp : Sp} {Q : VK} {i4 i7 : Nat}
    (h4 : σ[i4]? = some (some (.ref a))) (hw : ∀ x, wipe ((wipe σ [i7]).set i7 (some x)) [i7] = wipe σ [i7]) (h7 : ∀ x, ((wipe σ [i7]).set i7 (some x))[i7]? = some (some x))
    (hl : H a = some (.lst (ps.map V.ref))) (len : ps.length = vs.length) (hn : vs.length ≤ 100) (hv : ∀ (i : Nat) p v, ps[i]? = some p → vs[i]? = some v → VAt C H p v)
    (hsp : ∀ (H : Hp) (p : Addr) (v : Bx.Val) (Q : VK), VAt C H p v → v ∈ vs → (∀ H', Same H H' → Q (.int (g v)) H') → sp [.ref p] H Q E0)
    (hQ : ∀ (D : Addr) (H' : Hp), Same H H' → H' D = some (.lst ((vs.map g).map V.int)) → Q (.ref D) H') :
    tLc (iList K (tVar i4)) (gName i7) tYes (tCall sp [] E0 (tCons (tVar i7) tNil)) [i7] σ H Q := by
  refine ⟨_, h4, a, rfl, ⟨_, SqL.of hl⟩, fun D hD => ?_⟩
  refine lc_list (xs := ps.map V.ref) (fun i H' => Same H H' ∧ H' D = some (.lst (((vs.take i).map g).map V.int))) ⟨(Same.refl H).upd hD, upd_same⟩ (fun i H' _ p => SqL.of (p.1 _ _ hl)) ?_ ?_
  · rintro i x H' hx ⟨s, hd⟩
    rw [List.getElem?_map] at hx
    obtain ⟨p, hp, rfl⟩ : ∃ p, ps[i]? = some p ∧ x = V.ref p := by
      cases e : ps[i]? with
      | none => rw [e] at hx; cases hx
      | some p => rw [e] at hx; exact ⟨p, rfl, (Option.some.inj hx).symm⟩
    have lt : i < vs.length := by rw [← len]; exact (List.getElem?_eq_some_iff.mp hp).1
    obtain ⟨v, hvi⟩ : ∃ v, vs[i]? = some v := ⟨_, List.getElem?_eq_getElem lt⟩
    refine ⟨hw _, ?_⟩
    simp only [tYes, if_true]
    refine ⟨_, h7 _, ?_⟩
    refine hsp H' p v _ ((hv i p v hp hvi).same s) (List.mem_of_getElem? hvi) fun H2 s2 => ?_
    have nd : H D = none := hD
    refine ⟨_, s2 _ _ hd, ?_, ?_⟩
    · rw [List.length_map, List.length_map, List.length_take]
      exact Nat.lt_of_le_of_lt (Nat.le_trans (Nat.min_le_right _ _) hn) (by decide)
    · refine ⟨fun b o e => ?_, ?_⟩
      · rw [upd_ne (ne_of_none e nd)]; exact s2 _ _ (s _ _ e)
      · rw [upd_same, take_snoc1 hvi, List.map_append, List.map_append]; rfl
  · rintro H' ⟨s, hd⟩
    rw [List.length_map, len, List.take_length] at hd
    exact hQ D H' s hd
theorem tminL_of {K : PySem.W.Frag} {g : Int → Int} {te : TE} {σ : St} {H : Hp} {Q : VK} (h : te σ H (fun x H1 => ∃ a n ns, [x] = [V.ref a] ∧ SqL K H1 a ((n :: ns).map V.int) ∧ ∀ H', Same H1 H' → Q (.int (ns.foldl (fun b n => if g n < g b then n else b) n)) H')) : tminL K g (tCons te tNil) σ H Q := h
theorem tmaxL_of {K : PySem.W.Frag} {g : Int → Int} {te : TE} {σ : St} {H : Hp} {Q : VK} (h : te σ H (fun x H1 => ∃ a n ns, [x] = [V.ref a] ∧ SqL K H1 a ((n :: ns).map V.int) ∧ ∀ H', Same H1 H' → Q (.int (ns.foldl (fun b n => if g b < g n then n else b) n)) H')) : tmaxL K g (tCons te tNil) σ H Q := h
end L2
end
section
set_option Elab.async false
set_option linter.all false
set_option maxRecDepth 100000
namespace L2
open PySem PySem.Spec PyProof.Rows
/-! ## more promises -/
def spL4 (pre : Int → Int → Int → Int → Prop) (g : Int → Int → Int → Int → List Int) : Sp := fun vs H Q _ => ∃ a b c d, vs = [.int a, .int b, .int c, .int d] ∧ pre a b c d ∧ ∀ (p : Addr) (H' : Hp), Same H H' → H' p = some (.lst ((g a b c d).map V.int)) → Q (.ref p) H'
theorem spL4_app {pre : Int → Int → Int → Int → Prop} {g : Int → Int → Int → Int → List Int} {H : Hp} {Q : VK} {E : XK} {a b c d : Int} : spL4 pre g [.int a, .int b, .int c, .int d] H Q E ↔ pre a b c d ∧ ∀ (p : Addr) (H' : Hp), Same H H' → H' p = some (.lst ((g a b c d).map V.int)) → Q (.ref p) H' := by
  constructor
  · rintro ⟨_, _, _, _, e, h⟩; cases e; exact h
  · intro h; exact ⟨a, b, c, d, rfl, h⟩
theorem spL4_len {pre : Int → Int → Int → Int → Prop} {g : Int → Int → Int → Int → List Int} {x y z w : Str} : ∀ vs H Q E, spL4 pre g vs H Q E → vs.length = [x, y, z, w].length := fun vs H Q E h => by
  obtain ⟨a, b, c, d, rfl, _⟩ := h; rfl
/-- three numbers -/
def spI3 (pre : Int → Int → Int → Prop) (g : Int → Int → Int → V) : Sp := fun vs H Q _ => ∃ a b c, vs = [.int a, .int b, .int c] ∧ pre a b c ∧ Q (g a b c) H
theorem spI3_app {pre : Int → Int → Int → Prop} {g : Int → Int → Int → V} {H : Hp} {Q : VK} {E : XK} {a b c : Int} : spI3 pre g [.int a, .int b, .int c] H Q E ↔ pre a b c ∧ Q (g a b c) H := by
  constructor
  · rintro ⟨_, _, _, e, h⟩; cases e; exact h
  · intro h; exact ⟨a, b, c, rfl, h⟩
theorem sb_shr {a : Int} (w0 : 0 < a) (w1 : a.natAbs.log2 < 1000000) (d : Nat) : Builtin.Int.intBits (a / 2 ^ d) ≤ 1000001 := by
  obtain ⟨n, rfl⟩ : ∃ n : Nat, a = n := ⟨a.toNat, by omega⟩
  refine Nat.le_trans ib_log ?_
  have e : ((n : Int) / 2 ^ d).natAbs = n / 2 ^ d := by rw [Bx.two_pow_int, ← Int.natCast_ediv, Int.natAbs_natCast]
  rw [e]
  rw [Int.natAbs_natCast] at w1
  have : Nat.log2 (n / 2 ^ d) ≤ Nat.log2 n := by
    by_cases z : n / 2 ^ d = 0
    · rw [z]; exact Nat.zero_le _
    · exact (Nat.le_log2 (by omega)).mpr (Nat.le_trans (Nat.log2_self_le z) (Nat.div_le_self _ _))
  omega
end L2
end
section
set_option maxHeartbeats 4000000
set_option Elab.async false
set_option linter.all false
set_option maxRecDepth 100000
namespace L2
open PySem PySem.Spec PyProof.Rows
open PySem.W (WData Codec OpenSpec Well WellAll ReadsW ReadsAllW)
section
variable {X : Cx}
end
end L2
end
section
set_option Elab.async false
set_option linter.all false
set_option maxRecDepth 100000
set_option maxHeartbeats 4000000
namespace L2
open PySem PySem.Spec PyProof.Rows
/-! ## texts as lists of whole numbers -/
def ST (l : List Int) : Str := ⟨(l.map Int.toNat).toArray⟩
/-- the signs of a text, each alone -/
def signs (l : List Int) : List Str := l.map fun c => ST [c]
end L2
end
set_option maxHeartbeats 4000000
set_option Elab.async false
set_option linter.all false
set_option maxRecDepth 100000
namespace Tw
open PySem PySem.Spec PyProof.Rows L2
open PySem.W (Codec)
theorem mask79 (x : Int) : Builtin.bitAnd x 604462909807314587353087 = x % 604462909807314587353088 := PySem.W.kbt_mask x 79
theorem mask64 (x : Int) : Builtin.bitAnd x 18446744073709551615 = x % 18446744073709551616 := PySem.W.kbt_mask x 64
def top (i : Nat) : Stmt := PySem.Challenge.pw_betwixt_s03_two.main.body.getD i (.Pass ⟨0, 0, 0, 0⟩)
abbrev st_Value___init__ : Stmt := inClass (top 14) 0
abbrev st_exponent_of : Stmt := top 15
abbrev st_significand_of : Stmt := top 16
abbrev st_is_number : Stmt := top 17
abbrev st_made_normal : Stmt := top 18
abbrev st_told : Stmt := top 19
abbrev st_place : Stmt := top 20
abbrev st_opposite : Stmt := top 21
abbrev st_value_of : Stmt := top 22
abbrev st_shortened : Stmt := top 23
abbrev st_size_rounded : Stmt := top 24
abbrev st_low_end : Stmt := top 25
abbrev st_high_end : Stmt := top 26
abbrev st_endless : Stmt := top 27
abbrev st_finer : Stmt := top 28
abbrev st_plus : Stmt := top 29
abbrev st_times : Stmt := top 30
abbrev st_over : Stmt := top 31
abbrev st_are_ends : Stmt := top 34
abbrev st_is_interval : Stmt := top 35
abbrev st_lesser : Stmt := top 36
abbrev st_greater : Stmt := top 37
abbrev st_add : Stmt := top 38
abbrev st_sub : Stmt := top 39
abbrev st_mul : Stmt := top 40
abbrev st_div : Stmt := top 41
abbrev st_div_around_zero : Stmt := top 42
abbrev st_div_above_zero : Stmt := top 43
abbrev st_least : Stmt := top 44
abbrev st_greatest : Stmt := top 45
abbrev st_join : Stmt := top 46
abbrev st_meet : Stmt := top 47
abbrev st_two : Stmt := top 49
section
variable {P : Program} {w : World} {K : PySem.W.Frag} {mg : Str → Option Value} {base : Heap}
theorem ok_init {f C : Addr} {fd : FuncData} (F : Fun K "__init__" "Value.__init__" st_Value___init__ f fd) (VT : VTxt K C) : FnOk P w K mg base CX0 1 f fd ["self", "whole", "power", "infinite"] (spInitV C) := by
  have S : FnScope ["self", "whole", "power", "infinite"] ["self", "whole", "power", "infinite"] (defScope st_Value___init__) := ⟨rfl, rfl, rfl, by decide +kernel, rfl, by decide +kernel, by decide +kernel⟩
  refine F.ok S (fun vs H Q E h => ?_) (fun cdv A outer s H vs Q E hr h => ?_)
  · obtain ⟨p, dx, w, pw, i, rfl, _⟩ := h
    rfl
  · obtain ⟨p, dx, w, pw, i, rfl, hp, k⟩ := h
    refine ⟨_, (pss_cons (ps_fld (pv 0) (pv 1) rfl) (pss_cons (ps_fld (pv 0) (pv 2) rfl) (pss_one (ps_fld (pv 0) (pv 3) rfl)))), ?_⟩
    refine ⟨_, rfl, _, rfl, p, C, dx, [], rfl, hp, VT.cl, VT.n1, (by show 0 < 1000; decide), ?_⟩
    refine ⟨_, rfl, _, rfl, p, C, dx, _, rfl, upd_same, VT.cl, VT.n2, Nat.lt_of_le_of_lt (length_putF _ _ _) (by show 0 + 1 < 1000; decide), ?_⟩
    refine ⟨_, rfl, _, rfl, p, C, dx, _, rfl, upd_same, VT.cl, VT.n3, Nat.lt_of_le_of_lt (length_putF _ _ _) (Nat.lt_of_le_of_lt (Nat.succ_le_succ (length_putF _ _ _)) (by show 0 + 1 + 1 < 1000; decide)), ?_⟩
    exact k _ ⟨dx, upd_same⟩ fun b o e hb => by rw [upd_ne hb, upd_ne hb, upd_ne hb]; exact e
def sp_exponent_of : Sp := sp1 (fun _ => True) fun a => .int (Bx.expo a)
theorem sc_exponent_of : FnScope ["bits"] ["bits"] (defScope st_exponent_of) := ⟨rfl, rfl, rfl, by decide +kernel, rfl, by decide +kernel, by decide +kernel⟩
theorem ok_exponent_of (T : At K mg "exponent_of" st_exponent_of ["bits"]) (gBEYOND : IntG mg "BEYOND" (18446744073709551616)) (gSIGN : IntG mg "SIGN" (604462909807314587353088)) : Cal P w K mg base "exponent_of" ["bits"] 1 sp_exponent_of := by
  have S := sc_exponent_of
  refine T.cal S sp1_len fun f cdv A outer s H vs Q E hr h => ?_
  obtain ⟨a, rfl, ha, k⟩ := h
  refine ⟨_, (pss_one (ps_ret (pe_op op_fdivB (pe_op op_and (pv 0) (pe_op op_sub (pe_ig gSIGN (by rfl)) pe_int)) (pe_ig gBEYOND (by rfl))))), ?_⟩
  simp [tSeq, tIfS, tRet, tAsg, gName, tVar, tC, tOp, tUn, rI, rI0, rU, rEq, rNe, tTest, tAnd, tOr, tNot, tAndV, tOrV, tNotV, tB, tIf, tCall, tCons, tNil, tNext, tLst, sp1_app, sp2_app, L2.start, scal, mask79]
  exact ⟨by decide, k⟩
def sp_significand_of : Sp := sp1 (fun _ => True) fun a => .int (Bx.sig a)
theorem sc_significand_of : FnScope ["bits"] ["bits"] (defScope st_significand_of) := ⟨rfl, rfl, rfl, by decide +kernel, rfl, by decide +kernel, by decide +kernel⟩
theorem ok_significand_of (T : At K mg "significand_of" st_significand_of ["bits"]) (gBEYOND : IntG mg "BEYOND" (18446744073709551616)) : Cal P w K mg base "significand_of" ["bits"] 1 sp_significand_of := by
  have S := sc_significand_of
  refine T.cal S sp1_len fun f cdv A outer s H vs Q E hr h => ?_
  obtain ⟨a, rfl, ha, k⟩ := h
  refine ⟨_, (pss_one (ps_ret (pe_op op_and (pv 0) (pe_op op_sub (pe_ig gBEYOND (by rfl)) pe_int)))), ?_⟩
  simp [tSeq, tIfS, tRet, tAsg, gName, tVar, tC, tOp, tUn, rI, rI0, rU, rEq, rNe, tTest, tAnd, tOr, tNot, tAndV, tOrV, tNotV, tB, tIf, tCall, tCons, tNil, tNext, tLst, sp1_app, sp2_app, L2.start, scal, mask64]
  exact k
def sp_is_number : Sp := sp1 (fun _ => True) fun a => .bl (Bx.isNumber a)
theorem sc_is_number : FnScope ["bits", "exponent"] ["bits"] (defScope st_is_number) := ⟨rfl, rfl, rfl, by decide +kernel, rfl, by decide +kernel, by decide +kernel⟩
theorem ok_is_number (T : At K mg "is_number" st_is_number ["bits"]) (c_exponent_of : Cal P w K mg base "exponent_of" ["bits"] 1 sp_exponent_of) (gLAST_EXPONENT : IntG mg "LAST_EXPONENT" (32767)) (gTOP : IntG mg "TOP" (9223372036854775808)) (c_significand_of : Cal P w K mg base "significand_of" ["bits"] 1 sp_significand_of) : Cal P w K mg base "is_number" ["bits"] 2 sp_is_number := by
  have S := sc_is_number
  refine T.cal S sp1_len fun f cdv A outer s H vs Q E hr h => ?_
  obtain ⟨a, rfl, ha, k⟩ := h
  refine ⟨_, (pss_cons (ps_set (i := 1) S.nd rfl (Or.inl rfl) (pe_cal c_exponent_of (hr.mono (by decide)) (by rfl) (pa_cons (pv 0) pa_nil))) (pss_cons (ps_if (pt_cmpR op_eq (pv 1) pe_int (nomark _)) (pss_one (ps_ret pe_bl)) pss_nil) (pss_cons (ps_if (pt_cmpR op_eq (pv 1) (pe_ig gLAST_EXPONENT (by rfl)) (nomark _)) (pss_one (ps_ret (pe_cmpR op_eq (pe_cal c_significand_of (hr.mono (by decide)) (by rfl) (pa_cons (pv 0) pa_nil)) (pe_ig gTOP (by rfl)) (nomark _)))) pss_nil) (pss_one (ps_ret (pe_cmpR op_ge (pe_cal c_significand_of (hr.mono (by decide)) (by rfl) (pa_cons (pv 0) pa_nil)) (pe_ig gTOP (by rfl)) (nomark _))))))), ?_⟩
  simp [sp_exponent_of, sp_significand_of, tSeq, tIfS, tRet, tAsg, gName, tVar, tC, tOp, tUn, rI, rI0, rU, rEq, rNe, tTest, tAnd, tOr, tNot, tAndV, tOrV, tNotV, tB, tIf, tCall, tCons, tNil, tNext, tLst, sp1_app, sp2_app, L2.start, scal]
  simp only [Bx.isNumber] at k
  (repeat' split) <;> simp_all
def sp_made_normal : Sp := sp1 (fun _ => True) fun a => .int (Bx.madeNormal a)
theorem sc_made_normal : FnScope ["bits"] ["bits"] (defScope st_made_normal) := ⟨rfl, rfl, rfl, by decide +kernel, rfl, by decide +kernel, by decide +kernel⟩
theorem ok_made_normal (T : At K mg "made_normal" st_made_normal ["bits"]) (gTOP : IntG mg "TOP" (9223372036854775808)) (gBEYOND : IntG mg "BEYOND" (18446744073709551616)) (c_exponent_of : Cal P w K mg base "exponent_of" ["bits"] 1 sp_exponent_of) (c_significand_of : Cal P w K mg base "significand_of" ["bits"] 1 sp_significand_of) : Cal P w K mg base "made_normal" ["bits"] 2 sp_made_normal := by
  have S := sc_made_normal
  refine T.cal S sp1_len fun f cdv A outer s H vs Q E hr h => ?_
  obtain ⟨a, rfl, ha, k⟩ := h
  refine ⟨_, (pss_cons (ps_if (pw_and (pt_cmpR op_eq (pe_cal c_exponent_of (hr.mono (by decide)) (by rfl) (pa_cons (pv 0) pa_nil)) pe_int (nomark _)) (pw_and1 (pt_cmpR op_ge (pe_cal c_significand_of (hr.mono (by decide)) (by rfl) (pa_cons (pv 0) pa_nil)) (pe_ig gTOP (by rfl)) (nomark _)))).pt (pss_one (ps_ret (pe_op op_add (pv 0) (pe_ig gBEYOND (by rfl))))) pss_nil) (pss_one (ps_ret (pv 0)))), ?_⟩
  simp [sp_exponent_of, sp_significand_of, tSeq, tIfS, tRet, tAsg, gName, tVar, tC, tOp, tUn, rI, rI0, rU, rEq, rNe, tTest, tAnd, tOr, tNot, tAndV, tOrV, tNotV, tB, tIf, tCall, tCons, tNil, tNext, tLst, sp1_app, sp2_app, L2.start, scal]
  simp only [Bx.madeNormal] at k
  (repeat' split) <;> simp_all
def sp_told : Sp := sp1 (fun _ => True) fun a => .int (Bx.told a)
theorem sc_told : FnScope ["bits"] ["bits"] (defScope st_told) := ⟨rfl, rfl, rfl, by decide +kernel, rfl, by decide +kernel, by decide +kernel⟩
theorem ok_told (T : At K mg "told" st_told ["bits"]) (gSIGN : IntG mg "SIGN" (604462909807314587353088)) (c_made_normal : Cal P w K mg base "made_normal" ["bits"] 2 sp_made_normal) : Cal P w K mg base "told" ["bits"] 3 sp_told := by
  have S := sc_told
  refine T.cal S sp1_len fun f cdv A outer s H vs Q E hr h => ?_
  obtain ⟨a, rfl, ha, k⟩ := h
  refine ⟨_, (pss_cons (ps_if (pt_cmpR op_eq (pv 0) (pe_ig gSIGN (by rfl)) (nomark _)) (pss_one (ps_ret pe_int)) pss_nil) (pss_one (ps_ret (pe_cal c_made_normal (hr.mono (by decide)) (by rfl) (pa_cons (pv 0) pa_nil))))), ?_⟩
  simp [sp_made_normal, tSeq, tIfS, tRet, tAsg, gName, tVar, tC, tOp, tUn, rI, rI0, rU, rEq, rNe, tTest, tAnd, tOr, tNot, tAndV, tOrV, tNotV, tB, tIf, tCall, tCons, tNil, tNext, tLst, sp1_app, sp2_app, L2.start, scal]
  simp only [Bx.told] at k
  (repeat' split) <;> simp_all
def sp_place : Sp := sp1 (fun _ => True) fun a => .int (Bx.place a)
theorem sc_place : FnScope ["bits", "normal"] ["bits"] (defScope st_place) := ⟨rfl, rfl, rfl, by decide +kernel, rfl, by decide +kernel, by decide +kernel⟩
theorem ok_place (T : At K mg "place" st_place ["bits"]) (c_made_normal : Cal P w K mg base "made_normal" ["bits"] 2 sp_made_normal) (gSIGN : IntG mg "SIGN" (604462909807314587353088)) : Cal P w K mg base "place" ["bits"] 3 sp_place := by
  have S := sc_place
  refine T.cal S sp1_len fun f cdv A outer s H vs Q E hr h => ?_
  obtain ⟨a, rfl, ha, k⟩ := h
  refine ⟨_, (pss_cons (ps_set (i := 1) S.nd rfl (Or.inl rfl) (pe_cal c_made_normal (hr.mono (by decide)) (by rfl) (pa_cons (pv 0) pa_nil))) (pss_cons (ps_if (pt_cmpR op_ge (pv 1) (pe_ig gSIGN (by rfl)) (nomark _)) (pss_one (ps_ret (pe_op op_sub (pe_op op_sub (pe_ig gSIGN (by rfl)) pe_int) (pv 1)))) pss_nil) (pss_one (ps_ret (pv 1))))), ?_⟩
  simp [sp_made_normal, tSeq, tIfS, tRet, tAsg, gName, tVar, tC, tOp, tUn, rI, rI0, rU, rEq, rNe, tTest, tAnd, tOr, tNot, tAndV, tOrV, tNotV, tB, tIf, tCall, tCons, tNil, tNext, tLst, sp1_app, sp2_app, L2.start, scal]
  simp only [Bx.place] at k
  (repeat' split) <;> simp_all
theorem hsp_place : ∀ (n : Int) (H : Hp) (Q : VK), Q (.int (Bx.place n)) H → sp_place [.int n] H Q E0 := fun n H Q h => sp1_app.mpr ⟨trivial, h⟩
def sp_opposite : Sp := sp1 Bx.Bits fun a => .int (Bx.opposite a)
theorem sc_opposite : FnScope ["bits"] ["bits"] (defScope st_opposite) := ⟨rfl, rfl, rfl, by decide +kernel, rfl, by decide +kernel, by decide +kernel⟩
theorem ok_opposite (T : At K mg "opposite" st_opposite ["bits"]) (c_told : Cal P w K mg base "told" ["bits"] 3 sp_told) (gSIGN : IntG mg "SIGN" (604462909807314587353088)) : Cal P w K mg base "opposite" ["bits"] 4 sp_opposite := by
  have S := sc_opposite
  refine T.cal S sp1_len fun f cdv A outer s H vs Q E hr h => ?_
  obtain ⟨a, rfl, ha, k⟩ := h
  refine ⟨_, (pss_one (ps_ret (pe_cal c_told (hr.mono (by decide)) (by rfl) (pa_cons (pe_op op_xor (pv 0) (pe_ig gSIGN (by rfl))) pa_nil)))), ?_⟩
  simp [sp_told, tSeq, tIfS, tRet, tAsg, gName, tVar, tC, tOp, tUn, rI, rI0, rU, rEq, rNe, tTest, tAnd, tOr, tNot, tAndV, tOrV, tNotV, tB, tIf, tCall, tCons, tNil, tNext, tLst, sp1_app, sp2_app, L2.start, scal, tMkV, mkq_app, tFV, spV1_app, sp3_app, spV3_app, tCB, tBM0, tyV, rMx_app, rMn_app]
  have e : Builtin.bitXor a 604462909807314587353088 = Bx.turned a := Bx.xor_turned ha _ (by rw [bitXor_and, show Builtin.bitAnd a 604462909807314587353088 = (a / 604462909807314587353088 % 2) * 604462909807314587353088 from PySem.W.kbt_bit a 79])
  rw [e]; exact k
def sp_value_of (C : Addr) : Sp := spV1 C (fun _ => True) Bx.valueOf
theorem sc_value_of : FnScope ["bits", "whole", "exponent"] ["bits"] (defScope st_value_of) := ⟨rfl, rfl, rfl, by decide +kernel, rfl, by decide +kernel, by decide +kernel⟩
theorem ok_value_of (T : At K mg "value_of" st_value_of ["bits"]) {C : Addr} (VT : VTxt K C) (mkV : MkV P w K mg base C 1) (n_max : mg "max" = none) (c_significand_of : Cal P w K mg base "significand_of" ["bits"] 1 sp_significand_of) (gSIGN : IntG mg "SIGN" (604462909807314587353088)) (c_exponent_of : Cal P w K mg base "exponent_of" ["bits"] 1 sp_exponent_of) (gOFFSET : IntG mg "OFFSET" (16446)) (gLAST_EXPONENT : IntG mg "LAST_EXPONENT" (32767)) : Cal P w K mg base "value_of" ["bits"] 3 (sp_value_of C) := by
  have S := sc_value_of
  refine T.cal S (fun vs H Q E h => by obtain ⟨a, rfl, _⟩ := h; rfl) fun f cdv A outer s H vs Q E hr h => ?_
  obtain ⟨a, rfl, ha, k⟩ := h
  refine ⟨_, (pss_cons (ps_set (i := 1) S.nd rfl (Or.inl rfl) (pe_cal c_significand_of (hr.mono (by decide)) (by rfl) (pa_cons (pv 0) pa_nil))) (pss_cons (ps_if (pt_cmpR op_ge (pv 0) (pe_ig gSIGN (by rfl)) (nomark _)) (pss_one (ps_set (i := 1) S.nd rfl (Or.inl rfl) (pe_un un_neg (pv 1)))) pss_nil) (pss_cons (ps_set (i := 2) S.nd rfl (Or.inl rfl) (pe_cal c_exponent_of (hr.mono (by decide)) (by rfl) (pa_cons (pv 0) pa_nil))) (pss_one (ps_ret (pe_mkV mkV (hr.mono (by decide)) (by rfl) (pa_cons (pv 1) (pa_cons (pe_op op_sub (pe_callB (call_mx rfl) (by rfl) n_max boot_mx (pa_cons (pv 2) (pa_cons pe_int pa_nil))) (pe_ig gOFFSET (by rfl))) (pa_cons (pe_cmpR op_eq (pv 2) (pe_ig gLAST_EXPONENT (by rfl)) (nomark _)) pa_nil))))))))), ?_⟩
  simp [sp_significand_of, sp_exponent_of, tSeq, tIfS, tRet, tAsg, gName, tVar, tC, tOp, tUn, rI, rI0, rU, rEq, rNe, tTest, tAnd, tOr, tNot, tAndV, tOrV, tNotV, tB, tIf, tCall, tCons, tNil, tNext, tLst, sp1_app, sp2_app, L2.start, scal, tMkV, mkq_app, tFV, spV1_app, sp3_app, spV3_app, tCB, tBM0, tyV, rMx_app, rMn_app]
  simp only [Bx.valueOf] at k
  split
  · rename_i c; simp only [if_pos c] at k; exact k
  · rename_i c; simp only [if_neg c] at k; exact k
def sp_shortened : Sp := spI3 (fun w d _ => 0 < w ∧ w.natAbs.log2 < 1000000 ∧ -20000000 ≤ d ∧ d ≤ 20000000) fun w d r => .int (Bx.shortI w d r)
theorem sc_shortened : FnScope ["whole", "dropped", "rounding", "kept", "rest", "half"] ["whole", "dropped", "rounding"] (defScope st_shortened) := ⟨rfl, rfl, rfl, by decide +kernel, rfl, by decide +kernel, by decide +kernel⟩
theorem ok_shortened (T : At K mg "shortened" st_shortened ["whole", "dropped", "rounding"]) (gOUTWARD : IntG mg "OUTWARD" (1)) (gNEAREST : IntG mg "NEAREST" (2)) : Cal P w K mg base "shortened" ["whole", "dropped", "rounding"] 1 sp_shortened := by
  have S := sc_shortened
  refine T.cal S (fun vs H Q E h => by obtain ⟨a, b, c, rfl, _⟩ := h; rfl) fun f cdv A outer s H vs Q E hr h => ?_
  obtain ⟨a, b, c, rfl, ha, k⟩ := h
  refine ⟨_, (pss_cons (ps_if (pt_cmpR op_le (pv 1) pe_int (nomark _)) (pss_one (ps_ret (pe_op op_shlB (pv 0) (pe_un un_neg (pv 1))))) pss_nil) (pss_cons (ps_set (i := 3) S.nd rfl (Or.inl rfl) (pe_op op_shr (pv 0) (pv 1))) (pss_cons (ps_set (i := 4) S.nd rfl (Or.inl rfl) (pe_op op_sub (pv 0) (pe_op op_shlB (pv 3) (pv 1)))) (pss_cons (ps_set (i := 5) S.nd rfl (Or.inl rfl) (pe_op op_shlB pe_int (pe_op op_sub (pv 1) pe_int))) (pss_cons (ps_if (pw_and (pt_cmpR op_eq (pv 2) (pe_ig gOUTWARD (by rfl)) (nomark _)) (pw_and1 (pt_cmpR op_gt (pv 4) pe_int (nomark _)))).pt (pss_one (ps_ret (pe_op op_add (pv 3) pe_int))) pss_nil) (pss_cons (ps_if (pw_and (pt_cmpR op_eq (pv 2) (pe_ig gNEAREST (by rfl)) (nomark _)) (pw_and1 (pw_or (pt_cmpR op_gt (pv 4) (pv 5) (nomark _)) (pw_or1 (pw_and (pt_cmpR op_eq (pv 4) (pv 5) (nomark _)) (pw_and1 (pt_cmpR op_eq (pe_op op_mod (pv 3) pe_int) pe_int (nomark _)))).pt)).pt)).pt (pss_one (ps_ret (pe_op op_add (pv 3) pe_int))) pss_nil) (pss_one (ps_ret (pv 3))))))))), ?_⟩
  obtain ⟨w0, w1, p0, p1⟩ := ha
  have ia : Builtin.Int.intBits a ≤ 1000001 := Nat.le_trans ib_log (by omega)
  have sm : Builtin.Int.intBits (a / 2 ^ b.toNat) ≤ 1000001 := sb_shr w0 w1 _
  have i1 : Builtin.Int.intBits 1 ≤ 1 := ib_le (k := 1) (by decide)
  simp only [Bx.shortI] at k
  have eb : (b - 1).toNat = b.toNat - 1 := by omega
  rw [eb] at k
  simp [tSeq, tIfS, tRet, tAsg, gName, tVar, tC, tOp, tUn, rI, rI0, rU, rEq, rNe, tTest, tAnd, tOr, tNot, tAndV, tOrV, tNotV, tB, tIf, tCall, tCons, tNil, tNext, tLst, sp1_app, sp2_app, L2.start, scal, tMkV, mkq_app, tFV, spV1_app, sp3_app, spV3_app, tCB, tBM0, tyV, rMx_app, rMn_app]
  by_cases c0 : b ≤ 0
  · simp only [c0, if_true] at k ⊢
    exact ⟨⟨trivial, by omega⟩, k⟩
  · simp only [c0, if_false] at k ⊢
    refine ⟨by omega, ⟨by omega, by omega⟩, ⟨by omega, by omega⟩, ?_⟩
    by_cases c1 : c = 1
    · subst c1
      simp only [if_true, true_and, show ¬ (1 : Int) = 2 by decide, false_and, if_false] at k ⊢
      split
      · rename_i z; rw [if_pos (by omega)] at k; exact k
      · rename_i z; rw [if_neg (by omega)] at k; exact k
    · simp only [c1, false_and, if_false] at k ⊢
      by_cases c2 : c = 2
      · simp only [c2, if_true, true_and] at k ⊢
        generalize a - a / 2 ^ b.toNat * 2 ^ b.toNat = r at k ⊢
        generalize (2 : Int) ^ (b.toNat - 1) = h at k ⊢
        by_cases d1 : h < r
        · simp only [d1, true_or, if_true] at k ⊢; exact k
        · simp only [d1, false_or, if_false] at k ⊢
          by_cases d2 : r = h
          · simp only [d2, true_and, if_true] at k ⊢
            by_cases d3 : a / 2 ^ b.toNat % 2 = 1
            · simp only [d3, if_true] at k ⊢; exact k
            · simp only [d3, if_false] at k ⊢; exact k
          · simp only [d2, false_and, if_false] at k ⊢; exact k
      · simp only [c2, if_false, false_and] at k ⊢
        exact k
def sp_size_rounded : Sp := spI3 (fun w p r => 0 < w ∧ w.natAbs.log2 < 1000000 ∧ -10000000 ≤ p ∧ p ≤ 10000000) fun w p r => .int (Bx.sizeR w.toNat p r)
theorem sc_size_rounded : FnScope ["whole", "power", "rounding", "exponent", "kept"] ["whole", "power", "rounding"] (defScope st_size_rounded) := ⟨rfl, rfl, rfl, by decide +kernel, rfl, by decide +kernel, by decide +kernel⟩
theorem ok_size_rounded (T : At K mg "size_rounded" st_size_rounded ["whole", "power", "rounding"]) (n_max : mg "max" = none) (c_shortened : Cal P w K mg base "shortened" ["whole", "dropped", "rounding"] 1 sp_shortened) (gBEYOND : IntG mg "BEYOND" (18446744073709551616)) (gTOP : IntG mg "TOP" (9223372036854775808)) (gLAST_EXPONENT : IntG mg "LAST_EXPONENT" (32767)) (gOFFSET : IntG mg "OFFSET" (16446)) (gGREATEST : IntG mg "GREATEST" (604444463063240877801471)) (gPLUS_INFINITE : IntG mg "PLUS_INFINITE" (604453686435277732577280)) (gDIGITS : IntG mg "DIGITS" (64)) (gINWARD : IntG mg "INWARD" (0)) : Cal P w K mg base "size_rounded" ["whole", "power", "rounding"] 2 sp_size_rounded := by
  have S := sc_size_rounded
  refine T.cal S (fun vs H Q E h => by obtain ⟨a, b, c, rfl, _⟩ := h; rfl) fun f cdv A outer s H vs Q E hr h => ?_
  obtain ⟨a, b, c, rfl, ha, k⟩ := h
  refine ⟨_, (pss_cons (ps_set (i := 3) S.nd rfl (Or.inl rfl) (pe_callB (call_mx rfl) (by rfl) n_max boot_mx (pa_cons (pe_op op_add (pe_op op_sub (pe_op op_add (pv 1) (pe_bm0 PySem.F.plainAttrs_int PySem.F.slot_int_bit_length PySem.F.type_int_bit_length mt_bitlen (pv 0))) (pe_ig gDIGITS (by rfl))) (pe_ig gOFFSET (by rfl))) (pa_cons pe_int pa_nil)))) (pss_cons (ps_set (i := 4) S.nd rfl (Or.inl rfl) (pe_cal c_shortened (hr.mono (by decide)) (by rfl) (pa_cons (pv 0) (pa_cons (pe_op op_sub (pe_op op_sub (pv 3) (pe_ig gOFFSET (by rfl))) (pv 1)) (pa_cons (pv 2) pa_nil))))) (pss_cons (ps_if (pt_cmpR op_eq (pv 4) (pe_ig gBEYOND (by rfl)) (nomark _)) (pss_cons (ps_set (i := 4) S.nd rfl (Or.inl rfl) (pe_ig gTOP (by rfl))) (pss_one (ps_set (i := 3) S.nd rfl (Or.inl rfl) (pe_op op_add (pv 3) pe_int)))) pss_nil) (pss_cons (ps_if (pt_cmpR op_ge (pv 3) (pe_ig gLAST_EXPONENT (by rfl)) (nomark _)) (pss_one (ps_ret (pe_ifExp (pt_cmpR op_eq (pv 2) (pe_ig gINWARD (by rfl)) (nomark _)) (pe_ig gGREATEST (by rfl)) (pe_ig gPLUS_INFINITE (by rfl))))) pss_nil) (pss_cons (ps_if (pt_cmpR op_lt (pv 4) (pe_ig gTOP (by rfl)) (nomark _)) (pss_one (ps_ret (pv 4))) pss_nil) (pss_one (ps_ret (pe_op op_add (pe_op op_mulB (pv 3) (pe_ig gBEYOND (by rfl))) (pv 4))))))))), ?_⟩
  obtain ⟨w0, w1, p0, p1⟩ := ha
  obtain ⟨n, rfl⟩ : ∃ n : Nat, a = n := ⟨a.toNat, by omega⟩
  have ib : (Builtin.Int.intBits (n : Int) : Int) = ((Nat.log2 n + 1 : Nat) : Int) := by
    unfold Builtin.Int.intBits
    rw [if_neg (by simp; omega)]; simp
  have nn : ((n : Int)).toNat = n := by omega
  simp only [nn] at k
  have lg : Nat.log2 n < 1000000 := by simpa using w1
  simp only [Bx.sizeR] at k
  obtain ⟨E, hE⟩ : ∃ E, E = Bx.expR n b := ⟨_, rfl⟩
  rw [← hE] at k
  have hE' : max (b + ((n.log2 : Int) + 1) - 64 + 16446) 1 = E := by unfold Bx.expR at hE; omega
  simp [ib, sp_shortened, spI3_app, tSeq, tIfS, tRet, tAsg, gName, tVar, tC, tOp, tUn, rI, rI0, rU, rEq, rNe, tTest, tAnd, tOr, tNot, tAndV, tOrV, tNotV, tB, tIf, tCall, tCons, tNil, tNext, tLst, sp1_app, sp2_app, L2.start, scal, tMkV, mkq_app, tFV, spV1_app, sp3_app, spV3_app, tCB, tBM0, tyV, rMx_app, rMn_app]
  simp only [hE']
  refine ⟨⟨by omega, by omega, by omega, by omega⟩, ?_⟩
  simp only [Bx.packR] at k
  generalize Bx.shortI (n : Int) (E - 16446 - b) c = m at k ⊢
  by_cases c1 : c = 0
  · simp only [c1, if_true] at k ⊢
    exact sb_tail (by omega) (by omega) k
  · simp only [c1, if_false] at k ⊢
    exact sb_tail (by omega) (by omega) k
def sp_low_end (C : Addr) : Sp := spVI C Bx.Ok Bx.lowEnd
theorem sc_low_end : FnScope ["value"] ["value"] (defScope st_low_end) := ⟨rfl, rfl, rfl, by decide +kernel, rfl, by decide +kernel, by decide +kernel⟩
theorem ok_low_end (T : At K mg "low_end" st_low_end ["value"]) {C : Addr} (VT : VTxt K C) (mkV : MkV P w K mg base C 1) (gSIGN : IntG mg "SIGN" (604462909807314587353088)) (gPLUS_INFINITE : IntG mg "PLUS_INFINITE" (604453686435277732577280)) (gMINUS_INFINITE : IntG mg "MINUS_INFINITE" (1208916596242592319930368)) (c_size_rounded : Cal P w K mg base "size_rounded" ["whole", "power", "rounding"] 2 sp_size_rounded) (gINWARD : IntG mg "INWARD" (0)) (gOUTWARD : IntG mg "OUTWARD" (1)) : Cal P w K mg base "low_end" ["value"] 3 (sp_low_end C) := by
  have S := sc_low_end
  refine T.cal S (fun vs H Q E h => by obtain ⟨p, v, rfl, _⟩ := h; rfl) fun f cdv A outer s H vs Q E hr h => ?_
  obtain ⟨p, v, rfl, hv, ha, k⟩ := h
  refine ⟨_, (pss_cons (ps_if (pt_cmpR op_eq (pe_whole VT (pv 0) (by rfl)) pe_int (nomark _)) (pss_one (ps_ret pe_int)) pss_nil) (pss_cons (ps_if (pt_val (pe_infinite VT (pv 0) (by rfl))) (pss_one (ps_ret (pe_ifExp (pt_cmpR op_gt (pe_whole VT (pv 0) (by rfl)) pe_int (nomark _)) (pe_ig gPLUS_INFINITE (by rfl)) (pe_ig gMINUS_INFINITE (by rfl))))) pss_nil) (pss_cons (ps_if (pt_cmpR op_gt (pe_whole VT (pv 0) (by rfl)) pe_int (nomark _)) (pss_one (ps_ret (pe_cal c_size_rounded (hr.mono (by decide)) (by rfl) (pa_cons (pe_whole VT (pv 0) (by rfl)) (pa_cons (pe_power VT (pv 0) (by rfl)) (pa_cons (pe_ig gINWARD (by rfl)) pa_nil)))))) pss_nil) (pss_one (ps_ret (pe_op op_add (pe_ig gSIGN (by rfl)) (pe_cal c_size_rounded (hr.mono (by decide)) (by rfl) (pa_cons (pe_un un_neg (pe_whole VT (pv 0) (by rfl))) (pa_cons (pe_power VT (pv 0) (by rfl)) (pa_cons (pe_ig gOUTWARD (by rfl)) pa_nil)))))))))), ?_⟩
  have k := k H (Same.refl H)
  have bw := ha.w
  have b0 := ha.p0
  have b1 := ha.p1
  simp only [Bx.lowEnd] at k
  simp [sp_size_rounded, spI3_app, vat_ex hv, tSeq, tIfS, tRet, tAsg, gName, tVar, tC, tOp, tUn, rI, rI0, rU, rEq, rNe, tTest, tAnd, tOr, tNot, tAndV, tOrV, tNotV, tB, tIf, tCall, tCons, tNil, tNext, tLst, sp1_app, sp2_app, L2.start, scal, tMkV, mkq_app, tFV, spV1_app, sp3_app, spV3_app, tCB, tBM0, tyV, rMx_app, rMn_app]
  by_cases c1 : v.whole = 0
  · simp only [c1, if_true] at k ⊢; exact k
  · simp only [c1, if_false] at k ⊢
    cases c2 : v.inf
    · simp [c2] at k ⊢
      by_cases c3 : 0 < v.whole
      · simp only [c3, if_true] at k ⊢
        rw [← Bx.sizeR_in (by omega)] at k
        exact ⟨⟨trivial, by omega, by omega, by omega⟩, k⟩
      · simp only [c3, if_false] at k ⊢
        rw [← Bx.sizeR_up (by omega)] at k
        exact ⟨⟨by omega, by omega, by omega, by omega⟩, k⟩
    · simp [c2] at k ⊢
      by_cases c3 : 0 < v.whole
      · simp only [c3, if_true] at k ⊢; exact k
      · simp only [c3, if_false] at k ⊢; exact k
def sp_high_end (C : Addr) : Sp := spVI C Bx.Ok Bx.highEnd
theorem sc_high_end : FnScope ["value"] ["value"] (defScope st_high_end) := ⟨rfl, rfl, rfl, by decide +kernel, rfl, by decide +kernel, by decide +kernel⟩
theorem ok_high_end (T : At K mg "high_end" st_high_end ["value"]) {C : Addr} (VT : VTxt K C) (mkV : MkV P w K mg base C 1) (c_opposite : Cal P w K mg base "opposite" ["bits"] 4 sp_opposite) (c_low_end : Cal P w K mg base "low_end" ["value"] 3 (sp_low_end C)) : Cal P w K mg base "high_end" ["value"] 5 (sp_high_end C) := by
  have S := sc_high_end
  refine T.cal S (fun vs H Q E h => by obtain ⟨p, v, rfl, _⟩ := h; rfl) fun f cdv A outer s H vs Q E hr h => ?_
  obtain ⟨p, v, rfl, hv, ha, k⟩ := h
  refine ⟨_, (pss_one (ps_ret (pe_cal c_opposite (hr.mono (by decide)) (by rfl) (pa_cons (pe_cal c_low_end (hr.mono (by decide)) (by rfl) (pa_cons (pe_mkV mkV (hr.mono (by decide)) (by rfl) (pa_cons (pe_un un_neg (pe_whole VT (pv 0) (by rfl))) (pa_cons (pe_power VT (pv 0) (by rfl)) (pa_cons (pe_infinite VT (pv 0) (by rfl)) pa_nil)))) pa_nil)) pa_nil)))), ?_⟩
  simp [vat_ex hv, tSeq, tIfS, tRet, tAsg, gName, tVar, tC, tOp, tUn, rI, rI0, rU, rEq, rNe, tTest, tAnd, tOr, tNot, tAndV, tOrV, tNotV, tB, tIf, tCall, tCons, tNil, tNext, tLst, sp1_app, sp2_app, L2.start, scal, tMkV, mkq_app, tFV, spV1_app, sp3_app, spV3_app, tCB, tBM0, tyV, rMx_app, rMn_app]
  intro x H1 s1 v1
  refine (spVI_app v1).mpr ⟨ha.neg, fun H2 s2 => ?_⟩
  exact (sp1_app).mpr ⟨Bx.low_bits _, k H2 (s1.trans s2)⟩
def sp_endless (C : Addr) : Sp := spV1 C (fun _ => True) Bx.endless
theorem sc_endless : FnScope ["whole"] ["whole"] (defScope st_endless) := ⟨rfl, rfl, rfl, by decide +kernel, rfl, by decide +kernel, by decide +kernel⟩
theorem ok_endless (T : At K mg "endless" st_endless ["whole"]) {C : Addr} (VT : VTxt K C) (mkV : MkV P w K mg base C 1) : Cal P w K mg base "endless" ["whole"] 3 (sp_endless C) := by
  have S := sc_endless
  refine T.cal S (fun vs H Q E h => by obtain ⟨a, rfl, _⟩ := h; rfl) fun f cdv A outer s H vs Q E hr h => ?_
  obtain ⟨a, rfl, ha, k⟩ := h
  refine ⟨_, (pss_one (ps_ret (pe_mkV mkV (hr.mono (by decide)) (by rfl) (pa_cons (pe_ifExp (pt_cmpR op_gt (pv 0) pe_int (nomark _)) pe_int (pe_un un_neg pe_int)) (pa_cons pe_int (pa_cons pe_bl pa_nil)))))), ?_⟩
  simp only [Bx.endless] at k
  simp [tSeq, tIfS, tRet, tAsg, gName, tVar, tC, tOp, tUn, rI, rI0, rU, rEq, rNe, tTest, tAnd, tOr, tNot, tAndV, tOrV, tNotV, tB, tIf, tCall, tCons, tNil, tNext, tLst, sp1_app, sp2_app, L2.start, scal, tMkV, mkq_app, tFV, spV1_app, sp3_app, spV3_app, tCB, tBM0, tyV, rMx_app, rMn_app]
  split
  · rename_i c; simp only [if_pos c] at k; exact k
  · rename_i c; simp only [if_neg c] at k; exact k
def sp_finer (C : Addr) : Sp := spV3 C (fun w _ _ => w.natAbs.log2 < 1000000) Bx.finerV
theorem sc_finer : FnScope ["whole", "power", "exact"] ["whole", "power", "exact"] (defScope st_finer) := ⟨rfl, rfl, rfl, by decide +kernel, rfl, by decide +kernel, by decide +kernel⟩
theorem ok_finer (T : At K mg "finer" st_finer ["whole", "power", "exact"]) {C : Addr} (VT : VTxt K C) (mkV : MkV P w K mg base C 1) : Cal P w K mg base "finer" ["whole", "power", "exact"] 3 (sp_finer C) := by
  have S := sc_finer
  refine T.cal S (fun vs H Q E h => by obtain ⟨a, b, c, rfl, _⟩ := h; rfl) fun f cdv A outer s H vs Q E hr h => ?_
  obtain ⟨a, b, c, rfl, ha, k⟩ := h
  refine ⟨_, (pss_one (ps_ret (pe_mkV mkV (hr.mono (by decide)) (by rfl) (pa_cons (pe_op op_add (pe_op op_mulB pe_int (pv 0)) (pe_ifExp (pt_val (pv 2)) pe_int pe_int)) (pa_cons (pe_op op_sub (pv 1) pe_int) (pa_cons pe_bl pa_nil)))))), ?_⟩
  simp only [Bx.finerV] at k
  have i2 : Builtin.Int.intBits 2 ≤ 1048576 := Nat.le_trans (ib_le (k := 2) (by decide)) (by decide)
  have ia : Builtin.Int.intBits a ≤ 1048576 := Nat.le_trans ib_log (by omega)
  cases c
  · simp [tSeq, tIfS, tRet, tAsg, gName, tVar, tC, tOp, tUn, rI, rI0, rU, rEq, rNe, tTest, tAnd, tOr, tNot, tAndV, tOrV, tNotV, tB, tIf, tCall, tCons, tNil, tNext, tLst, sp1_app, sp2_app, L2.start, scal, tMkV, mkq_app, tFV, spV1_app, sp3_app, spV3_app, tCB, tBM0, tyV, rMx_app, rMn_app]
    simp at k
    exact ⟨⟨i2, ia⟩, k⟩
  · simp [tSeq, tIfS, tRet, tAsg, gName, tVar, tC, tOp, tUn, rI, rI0, rU, rEq, rNe, tTest, tAnd, tOr, tNot, tAndV, tOrV, tNotV, tB, tIf, tCall, tCons, tNil, tNext, tLst, sp1_app, sp2_app, L2.start, scal, tMkV, mkq_app, tFV, spV1_app, sp3_app, spV3_app, tCB, tBM0, tyV, rMx_app, rMn_app]
    simp at k
    exact ⟨⟨i2, ia⟩, k⟩
def sp_plus (C : Addr) : Sp := spVVV C (fun v o => Bx.Sm v ∧ Bx.Sm o) Bx.plusV
theorem sc_plus : FnScope ["value", "other", "power", "whole"] ["value", "other"] (defScope st_plus) := ⟨rfl, rfl, rfl, by decide +kernel, rfl, by decide +kernel, by decide +kernel⟩
theorem ok_plus (T : At K mg "plus" st_plus ["value", "other"]) {C : Addr} (VT : VTxt K C) (mkV : MkV P w K mg base C 1) (n_min : mg "min" = none) : Cal P w K mg base "plus" ["value", "other"] 3 (sp_plus C) := by
  have S := sc_plus
  refine T.cal S (fun vs H Q E h => by obtain ⟨p, q, v, o, rfl, _⟩ := h; rfl) fun f cdv A outer s H vs Q E hr h => ?_
  obtain ⟨p, q, v, o, rfl, hv, ho, ha, k⟩ := h
  refine ⟨_, (pss_cons (ps_if (pt_val (pe_infinite VT (pv 0) (by rfl))) (pss_one (ps_ret (pv 0))) pss_nil) (pss_cons (ps_if (pt_val (pe_infinite VT (pv 1) (by rfl))) (pss_one (ps_ret (pv 1))) pss_nil) (pss_cons (ps_set (i := 2) S.nd rfl (Or.inl rfl) (pe_callB (call_mn rfl) (by rfl) n_min boot_mn (pa_cons (pe_power VT (pv 0) (by rfl)) (pa_cons (pe_power VT (pv 1) (by rfl)) pa_nil)))) (pss_cons (ps_set (i := 3) S.nd rfl (Or.inl rfl) (pe_op op_add (pe_op op_shlB (pe_whole VT (pv 0) (by rfl)) (pe_op op_sub (pe_power VT (pv 0) (by rfl)) (pv 2))) (pe_op op_shlB (pe_whole VT (pv 1) (by rfl)) (pe_op op_sub (pe_power VT (pv 1) (by rfl)) (pv 2))))) (pss_one (ps_ret (pe_mkV mkV (hr.mono (by decide)) (by rfl) (pa_cons (pv 3) (pa_cons (pv 2) (pa_cons pe_bl pa_nil)))))))))), ?_⟩
  obtain ⟨a1, a2⟩ := ha
  have l1 := a1.log
  have l2 := a2.log
  have q1 := a1.p0
  have q2 := a1.p1
  have q3 := a2.p0
  have q4 := a2.p1
  have i1 : Builtin.Int.intBits v.whole ≤ 65 := Nat.le_trans ib_log (by omega)
  have i2 : Builtin.Int.intBits o.whole ≤ 65 := Nat.le_trans ib_log (by omega)
  simp only [Bx.plusV] at k
  simp [vat_ex hv, vat_ex ho, tSeq, tIfS, tRet, tAsg, gName, tVar, tC, tOp, tUn, rI, rI0, rU, rEq, rNe, tTest, tAnd, tOr, tNot, tAndV, tOrV, tNotV, tB, tIf, tCall, tCons, tNil, tNext, tLst, sp1_app, sp2_app, L2.start, scal, tMkV, mkq_app, tFV, spV1_app, sp3_app, spV3_app, tCB, tBM0, tyV, rMx_app, rMn_app]
  cases c1 : v.inf
  · simp only [c1, Bool.false_eq_true, if_false] at k ⊢
    cases c2 : o.inf
    · simp only [c2, Bool.false_eq_true, if_false] at k ⊢
      refine ⟨⟨by omega, by omega⟩, ⟨by omega, by omega⟩, ?_⟩
      exact k
    · simp only [c2, if_true] at k ⊢
      exact k q H (Same.refl H) ho
  · simp only [c1, if_true] at k ⊢
    exact k p H (Same.refl H) hv
def sp_times (C : Addr) : Sp := spVVV C (fun v o => v.whole.natAbs.log2 < 1000000 ∧ o.whole.natAbs.log2 < 1000000) Bx.timesV
theorem sc_times : FnScope ["value", "other", "whole"] ["value", "other"] (defScope st_times) := ⟨rfl, rfl, rfl, by decide +kernel, rfl, by decide +kernel, by decide +kernel⟩
theorem ok_times (T : At K mg "times" st_times ["value", "other"]) {C : Addr} (VT : VTxt K C) (mkV : MkV P w K mg base C 1) (c_endless : Cal P w K mg base "endless" ["whole"] 3 (sp_endless C)) : Cal P w K mg base "times" ["value", "other"] 4 (sp_times C) := by
  have S := sc_times
  refine T.cal S (fun vs H Q E h => by obtain ⟨p, q, v, o, rfl, _⟩ := h; rfl) fun f cdv A outer s H vs Q E hr h => ?_
  obtain ⟨p, q, v, o, rfl, hv, ho, ha, k⟩ := h
  refine ⟨_, (pss_cons (ps_set (i := 2) S.nd rfl (Or.inl rfl) (pe_op op_mulB (pe_whole VT (pv 0) (by rfl)) (pe_whole VT (pv 1) (by rfl)))) (pss_cons (ps_if (pt_cmpR op_eq (pv 2) pe_int (nomark _)) (pss_one (ps_ret (pe_mkV mkV (hr.mono (by decide)) (by rfl) (pa_cons pe_int (pa_cons pe_int (pa_cons pe_bl pa_nil)))))) pss_nil) (pss_cons (ps_if (pw_or (pt_val (pe_infinite VT (pv 0) (by rfl))) (pw_or1 (pt_val (pe_infinite VT (pv 1) (by rfl))))).pt (pss_one (ps_ret (pe_cal c_endless (hr.mono (by decide)) (by rfl) (pa_cons (pv 2) pa_nil)))) pss_nil) (pss_one (ps_ret (pe_mkV mkV (hr.mono (by decide)) (by rfl) (pa_cons (pv 2) (pa_cons (pe_op op_add (pe_power VT (pv 0) (by rfl)) (pe_power VT (pv 1) (by rfl))) (pa_cons pe_bl pa_nil))))))))), ?_⟩
  simp only [Bx.timesV] at k
  have ia : Builtin.Int.intBits v.whole ≤ 1048576 := Nat.le_trans ib_log (by omega)
  have ib : Builtin.Int.intBits o.whole ≤ 1048576 := Nat.le_trans ib_log (by omega)
  simp [vat_ex hv, vat_ex ho, sp_endless, tSeq, tIfS, tRet, tAsg, gName, tVar, tC, tOp, tUn, rI, rI0, rU, rEq, rNe, tTest, tAnd, tOr, tNot, tAndV, tOrV, tNotV, tB, tIf, tCall, tCons, tNil, tNext, tLst, sp1_app, sp2_app, L2.start, scal, tMkV, mkq_app, tFV, spV1_app, sp3_app, spV3_app, tCB, tBM0, tyV, rMx_app, rMn_app]
  refine ⟨⟨ia, ib⟩, ?_⟩
  by_cases c1 : v.whole * o.whole = 0
  · simp only [c1, if_true] at k ⊢; exact k
  · simp only [c1, if_false] at k ⊢
    cases c2 : v.inf
    · cases c3 : o.inf
      · simp [c2, c3] at k ⊢; exact k
      · simp [c2, c3] at k ⊢; exact k
    · simp [c2] at k ⊢; exact k
def sp_over (C : Addr) : Sp := spVVV C (fun v o => Bx.Md v ∧ Bx.Md o ∧ 0 ≤ o.whole) Bx.overV
theorem sc_over : FnScope ["value", "other", "shift", "scaled", "whole"] ["value", "other"] (defScope st_over) := ⟨rfl, rfl, rfl, by decide +kernel, rfl, by decide +kernel, by decide +kernel⟩
theorem ok_over (T : At K mg "over" st_over ["value", "other"]) {C : Addr} (VT : VTxt K C) (mkV : MkV P w K mg base C 1) (gDIGITS : IntG mg "DIGITS" (64)) (c_finer : Cal P w K mg base "finer" ["whole", "power", "exact"] 3 (sp_finer C)) (c_endless : Cal P w K mg base "endless" ["whole"] 3 (sp_endless C)) : Cal P w K mg base "over" ["value", "other"] 4 (sp_over C) := by
  have S := sc_over
  refine T.cal S (fun vs H Q E h => by obtain ⟨p, q, v, o, rfl, _⟩ := h; rfl) fun f cdv A outer s H vs Q E hr h => ?_
  obtain ⟨p, q, v, o, rfl, hv, ho, ha, k⟩ := h
  refine ⟨_, (pss_cons (ps_if (pw_or (pt_cmpR op_eq (pe_whole VT (pv 0) (by rfl)) pe_int (nomark _)) (pw_or1 (pt_val (pe_infinite VT (pv 1) (by rfl))))).pt (pss_one (ps_ret (pe_mkV mkV (hr.mono (by decide)) (by rfl) (pa_cons pe_int (pa_cons pe_int (pa_cons pe_bl pa_nil)))))) pss_nil) (pss_cons (ps_if (pw_or (pt_val (pe_infinite VT (pv 0) (by rfl))) (pw_or1 (pt_cmpR op_eq (pe_whole VT (pv 1) (by rfl)) pe_int (nomark _)))).pt (pss_one (ps_ret (pe_cal c_endless (hr.mono (by decide)) (by rfl) (pa_cons (pe_whole VT (pv 0) (by rfl)) pa_nil)))) pss_nil) (pss_cons (ps_set (i := 2) S.nd rfl (Or.inl rfl) (pe_op op_add (pe_ig gDIGITS (by rfl)) (pe_bm0 PySem.F.plainAttrs_int PySem.F.slot_int_bit_length PySem.F.type_int_bit_length mt_bitlen (pe_whole VT (pv 1) (by rfl))))) (pss_cons (ps_set (i := 3) S.nd rfl (Or.inl rfl) (pe_op op_shlB (pe_whole VT (pv 0) (by rfl)) (pv 2))) (pss_cons (ps_set (i := 4) S.nd rfl (Or.inl rfl) (pe_op op_fdivB (pv 3) (pe_whole VT (pv 1) (by rfl)))) (pss_one (ps_ret (pe_cal c_finer (hr.mono (by decide)) (by rfl) (pa_cons (pv 4) (pa_cons (pe_op op_sub (pe_op op_sub (pe_power VT (pv 0) (by rfl)) (pe_power VT (pv 1) (by rfl))) (pv 2)) (pa_cons (pe_cmpR op_eq (pe_op op_mulB (pv 4) (pe_whole VT (pv 1) (by rfl))) (pv 3) (nomark _)) pa_nil))))))))))), ?_⟩
  obtain ⟨a1, a2, a3⟩ := ha
  have l1 := a1.w
  have l2 := a2.w
  have i1 : Builtin.Int.intBits v.whole ≤ 9001 := Nat.le_trans ib_log (by omega)
  have i2 : Builtin.Int.intBits o.whole ≤ 9001 := Nat.le_trans ib_log (by omega)
  simp only [Bx.overV, ← Bx.two_pow_int] at k
  simp [vat_ex hv, vat_ex ho, sp_endless, sp_finer, tSeq, tIfS, tRet, tAsg, gName, tVar, tC, tOp, tUn, rI, rI0, rU, rEq, rNe, tTest, tAnd, tOr, tNot, tAndV, tOrV, tNotV, tB, tIf, tCall, tCons, tNil, tNext, tLst, sp1_app, sp2_app, L2.start, scal, tMkV, mkq_app, tFV, spV1_app, sp3_app, spV3_app, tCB, tBM0, tyV, rMx_app, rMn_app]
  by_cases c1 : v.whole = 0
  · simp only [c1, if_true, true_or] at k ⊢; exact k
  · simp only [c1, if_false, false_or] at k ⊢
    cases c2 : o.inf
    · simp only [c2, Bool.false_eq_true, if_false] at k ⊢
      cases c3 : v.inf
      · simp only [c3, Bool.false_eq_true, if_false, false_or] at k ⊢
        by_cases c4 : o.whole = 0
        · simp only [c4, if_true] at k ⊢; exact k
        · simp only [c4, if_false] at k ⊢
          have hy : 0 < o.whole := by omega
          have q := Bx.quot_log a1 a2 hy
          have ib : Builtin.Int.intBits o.whole = Nat.log2 o.whole.natAbs + 1 := by
            unfold Builtin.Int.intBits
            rw [if_neg (by simp; omega)]
          have es : (64 + (Builtin.Int.intBits o.whole : Int)) = ((Bx.ovS o : Nat) : Int) := by unfold Bx.ovS; omega
          have ov := Bx.ovS_le a2
          rw [es, Int.toNat_natCast]
          rw [← Bx.two_pow_int] at q
          have iq : Builtin.Int.intBits (v.whole * 2 ^ Bx.ovS o / o.whole) ≤ 1048576 := Nat.le_trans ib_log (by omega)
          refine ⟨⟨by omega, by omega⟩, ⟨hy, by omega⟩, ⟨iq, by omega⟩, by omega, ?_⟩
          exact k
      · simp only [c3, if_true, true_or] at k ⊢; exact k
    · simp only [c2, if_true] at k ⊢; exact k
def sp_are_ends : Sp := sp2 (fun _ _ => True) fun a b => .bl (Bx.areEnds a b)
theorem sc_are_ends : FnScope ["low", "high"] ["low", "high"] (defScope st_are_ends) := ⟨rfl, rfl, rfl, by decide +kernel, rfl, by decide +kernel, by decide +kernel⟩
theorem ok_are_ends (T : At K mg "are_ends" st_are_ends ["low", "high"]) (gPLUS_INFINITE : IntG mg "PLUS_INFINITE" (604453686435277732577280)) (gMINUS_INFINITE : IntG mg "MINUS_INFINITE" (1208916596242592319930368)) (c_place : Cal P w K mg base "place" ["bits"] 3 sp_place) : Cal P w K mg base "are_ends" ["low", "high"] 4 sp_are_ends := by
  have S := sc_are_ends
  refine T.cal S sp2_len fun f cdv A outer s H vs Q E hr h => ?_
  obtain ⟨a, b, rfl, ha, k⟩ := h
  refine ⟨_, (pss_cons (ps_if (pw_or (pt_cmpR op_eq (pv 0) (pe_ig gPLUS_INFINITE (by rfl)) (nomark _)) (pw_or1 (pt_cmpR op_eq (pv 1) (pe_ig gMINUS_INFINITE (by rfl)) (nomark _)))).pt (pss_one (ps_ret pe_bl)) pss_nil) (pss_one (ps_ret (pe_cmpR op_le (pe_cal c_place (hr.mono (by decide)) (by rfl) (pa_cons (pv 0) pa_nil)) (pe_cal c_place (hr.mono (by decide)) (by rfl) (pa_cons (pv 1) pa_nil)) (nomark _))))), ?_⟩
  simp [sp_place, tSeq, tIfS, tRet, tAsg, gName, tVar, tC, tOp, tUn, rI, rI0, rU, rEq, rNe, tTest, tAnd, tOr, tNot, tAndV, tOrV, tNotV, tB, tIf, tCall, tCons, tNil, tNext, tLst, sp1_app, sp2_app, L2.start, scal]
  simp only [Bx.areEnds] at k
  (repeat' split) <;> simp_all
def sp_is_interval : Sp := sp2 (fun _ _ => True) fun a b => .bl (Bx.isInterval a b)
theorem sc_is_interval : FnScope ["low", "high"] ["low", "high"] (defScope st_is_interval) := ⟨rfl, rfl, rfl, by decide +kernel, rfl, by decide +kernel, by decide +kernel⟩
theorem ok_is_interval (T : At K mg "is_interval" st_is_interval ["low", "high"]) (gEMPTY : IntG mg "EMPTY" (1208921207928610747318272)) (c_is_number : Cal P w K mg base "is_number" ["bits"] 2 sp_is_number) (c_are_ends : Cal P w K mg base "are_ends" ["low", "high"] 4 sp_are_ends) : Cal P w K mg base "is_interval" ["low", "high"] 5 sp_is_interval := by
  have S := sc_is_interval
  refine T.cal S sp2_len fun f cdv A outer s H vs Q E hr h => ?_
  obtain ⟨a, b, rfl, ha, k⟩ := h
  refine ⟨_, (pss_cons (ps_if (pw_and (pt_cmpR op_eq (pv 0) (pe_ig gEMPTY (by rfl)) (nomark _)) (pw_and1 (pt_cmpR op_eq (pv 1) (pe_ig gEMPTY (by rfl)) (nomark _)))).pt (pss_one (ps_ret pe_bl)) pss_nil) (pss_one (ps_ret (pe_and (pe_cal c_is_number (hr.mono (by decide)) (by rfl) (pa_cons (pv 0) pa_nil)) (pe_and (pe_cal c_is_number (hr.mono (by decide)) (by rfl) (pa_cons (pv 1) pa_nil)) (pe_one (pe_cal c_are_ends (hr.mono (by decide)) (by rfl) (pa_cons (pv 0) (pa_cons (pv 1) pa_nil))))))))), ?_⟩
  simp [sp_is_number, sp_are_ends, tSeq, tIfS, tRet, tAsg, gName, tVar, tC, tOp, tUn, rI, rI0, rU, rEq, rNe, tTest, tAnd, tOr, tNot, tAndV, tOrV, tNotV, tB, tIf, tCall, tCons, tNil, tNext, tLst, sp1_app, sp2_app, L2.start, scal]
  simp only [Bx.isInterval] at k
  (repeat' split) <;> (cases h1 : Bx.isNumber a <;> cases h2 : Bx.isNumber b <;> simp_all)
def sp_lesser : Sp := sp2S Bx.lesserB
theorem sc_lesser : FnScope ["number", "other"] ["number", "other"] (defScope st_lesser) := ⟨rfl, rfl, rfl, by decide +kernel, rfl, by decide +kernel, by decide +kernel⟩
theorem ok_lesser (T : At K mg "lesser" st_lesser ["number", "other"]) (n_min : mg "min" = none) (c_place : Cal P w K mg base "place" ["bits"] 3 sp_place) : Cal P w K mg base "lesser" ["number", "other"] 5 sp_lesser := by
  have S := sc_lesser
  refine T.cal S sp2S_len fun f cdv A outer s H vs Q E hr h => ?_
  obtain ⟨a, b, rfl, k⟩ := h
  refine ⟨_, (pss_one (ps_ret (pe_min2 Bx.place c_place hsp_place (hr.mono (by decide)) rfl (by rfl) (by rfl) n_min (pa_cons (pv 0) (pa_cons (pv 1) pa_nil))))), ?_⟩
  simp only [tRet, tmin2, tCons, tNil, tVar, L2.start]
  simp only [Bx.lesserB] at k
  simp
  exact ⟨a, b, ⟨rfl, rfl⟩, k⟩
def sp_greater : Sp := sp2S Bx.greaterB
theorem sc_greater : FnScope ["number", "other"] ["number", "other"] (defScope st_greater) := ⟨rfl, rfl, rfl, by decide +kernel, rfl, by decide +kernel, by decide +kernel⟩
theorem ok_greater (T : At K mg "greater" st_greater ["number", "other"]) (n_max : mg "max" = none) (c_place : Cal P w K mg base "place" ["bits"] 3 sp_place) : Cal P w K mg base "greater" ["number", "other"] 5 sp_greater := by
  have S := sc_greater
  refine T.cal S sp2S_len fun f cdv A outer s H vs Q E hr h => ?_
  obtain ⟨a, b, rfl, k⟩ := h
  refine ⟨_, (pss_one (ps_ret (pe_max2 Bx.place c_place hsp_place (hr.mono (by decide)) rfl (by rfl) (by rfl) n_max (pa_cons (pv 0) (pa_cons (pv 1) pa_nil))))), ?_⟩
  simp only [tRet, tmax2, tCons, tNil, tVar, L2.start]
  simp only [Bx.greaterB] at k
  simp
  exact ⟨a, b, ⟨rfl, rfl⟩, k⟩
def sp_add (C : Addr) : Sp := spL4 (fun _ _ _ _ => True) Bx.addB
theorem sc_add : FnScope ["low", "high", "other_low", "other_high", "lowest", "highest"] ["low", "high", "other_low", "other_high"] (defScope st_add) := ⟨rfl, rfl, rfl, by decide +kernel, rfl, by decide +kernel, by decide +kernel⟩
theorem ok_add (T : At K mg "add" st_add ["low", "high", "other_low", "other_high"]) {C : Addr} (VT : VTxt K C) (mkV : MkV P w K mg base C 1) (c_plus : Cal P w K mg base "plus" ["value", "other"] 3 (sp_plus C)) (c_value_of : Cal P w K mg base "value_of" ["bits"] 3 (sp_value_of C)) (c_low_end : Cal P w K mg base "low_end" ["value"] 3 (sp_low_end C)) (c_high_end : Cal P w K mg base "high_end" ["value"] 5 (sp_high_end C)) : Cal P w K mg base "add" ["low", "high", "other_low", "other_high"] 6 (sp_add C) := by
  have S := sc_add
  refine T.cal S spL4_len fun f cdv A outer s H vs Q E hr h => ?_
  obtain ⟨a, b, c, d, rfl, ha, k⟩ := h
  refine ⟨_, (pss_cons (ps_set (i := 4) S.nd rfl (Or.inl rfl) (pe_cal c_plus (hr.mono (by decide)) (by rfl) (pa_cons (pe_cal c_value_of (hr.mono (by decide)) (by rfl) (pa_cons (pv 0) pa_nil)) (pa_cons (pe_cal c_value_of (hr.mono (by decide)) (by rfl) (pa_cons (pv 2) pa_nil)) pa_nil)))) (pss_cons (ps_set (i := 5) S.nd rfl (Or.inl rfl) (pe_cal c_plus (hr.mono (by decide)) (by rfl) (pa_cons (pe_cal c_value_of (hr.mono (by decide)) (by rfl) (pa_cons (pv 1) pa_nil)) (pa_cons (pe_cal c_value_of (hr.mono (by decide)) (by rfl) (pa_cons (pv 3) pa_nil)) pa_nil)))) (pss_one (ps_ret (pe_lst (pa_cons (pe_cal c_low_end (hr.mono (by decide)) (by rfl) (pa_cons (pv 4) pa_nil)) (pa_cons (pe_cal c_high_end (hr.mono (by decide)) (by rfl) (pa_cons (pv 5) pa_nil)) pa_nil))))))), ?_⟩
  have z2 : 2 ≤ sizeLine := by decide
  simp only [Bx.addB] at k
  simp [sp_value_of, tSeq, tIfS, tRet, tAsg, gName, tVar, tC, tOp, tUn, rI, rI0, rU, rEq, rNe, tTest, tAnd, tOr, tNot, tAndV, tOrV, tNotV, tB, tIf, tCall, tCons, tNil, tNext, tLst, sp1_app, sp2_app, L2.start, scal, tMkV, mkq_app, tFV, spV1_app, sp3_app, spV3_app, tCB, tBM0, tyV, rMx_app, rMn_app]
  intro x1 H1 s1 v1 x2 H2 s2 v2
  refine (spVVV_app (v1.same s2) v2).mpr ⟨⟨Bx.value_sm _, Bx.value_sm _⟩, fun x3 H3 s3 v3 => ?_⟩
  intro x4 H4 s4 v4 x5 H5 s5 v5
  refine (spVVV_app (v4.same s5) v5).mpr ⟨⟨Bx.value_sm _, Bx.value_sm _⟩, fun x6 H6 s6 v6 => ?_⟩
  refine (spVI_app (((v3.same s4).same s5).same s6)).mpr ⟨Bx.plus_ok (Bx.value_sm _) (Bx.value_sm _), fun H7 s7 => ?_⟩
  refine (spVI_app (v6.same s7)).mpr ⟨Bx.plus_ok (Bx.value_sm _) (Bx.value_sm _), fun H8 s8 => ⟨z2, fun p hp => ?_⟩⟩
  exact k p _ ((((((((s1.trans s2).trans s3).trans s4).trans s5).trans s6).trans s7).trans s8).upd hp) upd_same
def sp_sub (C : Addr) : Sp := spL4 (fun _ _ c d => Bx.Bits c ∧ Bx.Bits d) Bx.subB
theorem sc_sub : FnScope ["low", "high", "other_low", "other_high"] ["low", "high", "other_low", "other_high"] (defScope st_sub) := ⟨rfl, rfl, rfl, by decide +kernel, rfl, by decide +kernel, by decide +kernel⟩
theorem ok_sub (T : At K mg "sub" st_sub ["low", "high", "other_low", "other_high"]) {C : Addr} (VT : VTxt K C) (mkV : MkV P w K mg base C 1) (c_add : Cal P w K mg base "add" ["low", "high", "other_low", "other_high"] 6 (sp_add C)) (c_opposite : Cal P w K mg base "opposite" ["bits"] 4 sp_opposite) : Cal P w K mg base "sub" ["low", "high", "other_low", "other_high"] 7 (sp_sub C) := by
  have S := sc_sub
  refine T.cal S spL4_len fun f cdv A outer s H vs Q E hr h => ?_
  obtain ⟨a, b, c, d, rfl, ha, k⟩ := h
  refine ⟨_, (pss_one (ps_ret (pe_cal c_add (hr.mono (by decide)) (by rfl) (pa_cons (pv 0) (pa_cons (pv 1) (pa_cons (pe_cal c_opposite (hr.mono (by decide)) (by rfl) (pa_cons (pv 3) pa_nil)) (pa_cons (pe_cal c_opposite (hr.mono (by decide)) (by rfl) (pa_cons (pv 2) pa_nil)) pa_nil))))))), ?_⟩
  simp only [Bx.subB] at k
  simp [sp_opposite, sp_add, spL4_app, tSeq, tIfS, tRet, tAsg, gName, tVar, tC, tOp, tUn, rI, rI0, rU, rEq, rNe, tTest, tAnd, tOr, tNot, tAndV, tOrV, tNotV, tB, tIf, tCall, tCons, tNil, tNext, tLst, sp1_app, sp2_app, L2.start, scal, tMkV, mkq_app, tFV, spV1_app, sp3_app, spV3_app, tCB, tBM0, tyV, rMx_app, rMn_app]
  exact ⟨ha.2, ha.1, k⟩
def sp_mul (C : Addr) : Sp := spL4 (fun _ _ _ _ => True) Bx.mulB
theorem sc_mul : FnScope ["low", "high", "other_low", "other_high", "products", "lowest", "highest", "product"] ["low", "high", "other_low", "other_high"] (defScope st_mul) := ⟨rfl, rfl, rfl, by decide +kernel, rfl, by decide +kernel, by decide +kernel⟩
theorem ok_mul (T : At K mg "mul" st_mul ["low", "high", "other_low", "other_high"]) {C : Addr} (VT : VTxt K C) (mkV : MkV P w K mg base C 1) (n_min : mg "min" = none) (n_max : mg "max" = none) (c_times : Cal P w K mg base "times" ["value", "other"] 4 (sp_times C)) (c_place : Cal P w K mg base "place" ["bits"] 3 sp_place) (c_value_of : Cal P w K mg base "value_of" ["bits"] 3 (sp_value_of C)) (c_low_end : Cal P w K mg base "low_end" ["value"] 3 (sp_low_end C)) (c_high_end : Cal P w K mg base "high_end" ["value"] 5 (sp_high_end C)) : Cal P w K mg base "mul" ["low", "high", "other_low", "other_high"] 6 (sp_mul C) := by
  have S := sc_mul
  refine T.cal S spL4_len fun f cdv A outer s H vs Q E hr h => ?_
  obtain ⟨a, b, c, d, rfl, ha, k⟩ := h
  refine ⟨_, (pss_cons (ps_set (i := 4) S.nd rfl (Or.inl rfl) (pe_lst (pa_cons (pe_cal c_times (hr.mono (by decide)) (by rfl) (pa_cons (pe_cal c_value_of (hr.mono (by decide)) (by rfl) (pa_cons (pv 0) pa_nil)) (pa_cons (pe_cal c_value_of (hr.mono (by decide)) (by rfl) (pa_cons (pv 2) pa_nil)) pa_nil))) (pa_cons (pe_cal c_times (hr.mono (by decide)) (by rfl) (pa_cons (pe_cal c_value_of (hr.mono (by decide)) (by rfl) (pa_cons (pv 0) pa_nil)) (pa_cons (pe_cal c_value_of (hr.mono (by decide)) (by rfl) (pa_cons (pv 3) pa_nil)) pa_nil))) (pa_cons (pe_cal c_times (hr.mono (by decide)) (by rfl) (pa_cons (pe_cal c_value_of (hr.mono (by decide)) (by rfl) (pa_cons (pv 1) pa_nil)) (pa_cons (pe_cal c_value_of (hr.mono (by decide)) (by rfl) (pa_cons (pv 2) pa_nil)) pa_nil))) (pa_cons (pe_cal c_times (hr.mono (by decide)) (by rfl) (pa_cons (pe_cal c_value_of (hr.mono (by decide)) (by rfl) (pa_cons (pv 1) pa_nil)) (pa_cons (pe_cal c_value_of (hr.mono (by decide)) (by rfl) (pa_cons (pv 3) pa_nil)) pa_nil))) pa_nil)))))) (pss_cons (ps_set (i := 5) S.nd rfl (Or.inl rfl) (pe_minL Bx.place c_place hsp_place (hr.mono (by decide)) rfl (by rfl) (by rfl) n_min (pa_cons (pe_lc rfl S.nd (pi_list (pv 4)) (blkOk_by (own := [("product", 7)]) (by rfl)) (fun _ _ _ _ _ => pg_name (i := 7) S.nd rfl (Or.inl rfl)) (fun _ _ _ _ _ => pts_nil) (fun _ _ _ _ _ => (pe_cal c_low_end (hr.mono (by decide)) (by rfl) (pa_cons (pv 7) pa_nil)))) pa_nil))) (pss_cons (ps_set (i := 6) S.nd rfl (Or.inl rfl) (pe_maxL Bx.place c_place hsp_place (hr.mono (by decide)) rfl (by rfl) (by rfl) n_max (pa_cons (pe_lc rfl S.nd (pi_list (pv 4)) (blkOk_by (own := [("product", 7)]) (by rfl)) (fun _ _ _ _ _ => pg_name (i := 7) S.nd rfl (Or.inl rfl)) (fun _ _ _ _ _ => pts_nil) (fun _ _ _ _ _ => (pe_cal c_high_end (hr.mono (by decide)) (by rfl) (pa_cons (pv 7) pa_nil)))) pa_nil))) (pss_one (ps_ret (pe_lst (pa_cons (pv 5) (pa_cons (pv 6) pa_nil)))))))), ?_⟩
  have z2 : 2 ≤ sizeLine := by decide
  simp only [Bx.mulB] at k
  simp [sp_value_of, tSeq, tIfS, tRet, tAsg, gName, tVar, tC, tOp, tUn, rI, rI0, rU, rEq, rNe, tTest, tAnd, tOr, tNot, tAndV, tOrV, tNotV, tB, tIf, tCall, tCons, tNil, tNext, tLst, sp1_app, sp2_app, L2.start, scal, tMkV, mkq_app, tFV, spV1_app, sp3_app, spV3_app, tCB, tBM0, tyV, rMx_app, rMn_app]
  have sm : ∀ x, (Bx.valueOf x).whole.natAbs.log2 < 1000000 := fun x => by have := (Bx.value_sm x).log; omega
  intro x1 H1 s1 v1 x2 H2 s2 v2
  refine (spVVV_app (v1.same s2) v2).mpr ⟨⟨sm _, sm _⟩, fun y1 H3 s3 w1 => ?_⟩
  intro x3 H4 s4 v3 x4 H5 s5 v4
  refine (spVVV_app (v3.same s5) v4).mpr ⟨⟨sm _, sm _⟩, fun y2 H6 s6 w2 => ?_⟩
  intro x5 H7 s7 v5 x6 H8 s8 v6
  refine (spVVV_app (v5.same s8) v6).mpr ⟨⟨sm _, sm _⟩, fun y3 H9 s9 w3 => ?_⟩
  intro x7 H10 s10 v7 x8 H11 s11 v8
  refine (spVVV_app (v7.same s11) v8).mpr ⟨⟨sm _, sm _⟩, fun y4 H12 s12 w4 => ?_⟩
  refine ⟨by decide, fun p hp => ?_⟩
  have t4 : Same H12 (upd H12 p (.lst [.ref y1, .ref y2, .ref y3, .ref y4])) := (Same.refl H12).upd hp
  have t3 := ((s10.trans s11).trans s12).trans t4
  have t2 := ((s7.trans s8).trans s9).trans t3
  have t1 := ((s4.trans s5).trans s6).trans t2
  have t0 := ((s1.trans s2).trans s3).trans t1
  have u1 := w1.same t1
  have u2 := w2.same t2
  have u3 := w3.same t3
  have u4 := w4.same t4
  have hl : upd H12 p (.lst [.ref y1, .ref y2, .ref y3, .ref y4]) p = some (.lst ([y1, y2, y3, y4].map V.ref)) := upd_same
  generalize upd H12 p (.lst [.ref y1, .ref y2, .ref y3, .ref y4]) = Hs at t4 t3 t2 t1 t0 u1 u2 u3 u4 hl ⊢
  have ok : ∀ v ∈ [Bx.timesV (Bx.valueOf a) (Bx.valueOf c), Bx.timesV (Bx.valueOf a) (Bx.valueOf d), Bx.timesV (Bx.valueOf b) (Bx.valueOf c), Bx.timesV (Bx.valueOf b) (Bx.valueOf d)], Bx.Ok v := fun v hm => by
    simp at hm
    rcases hm with rfl | rfl | rfl | rfl <;> exact Bx.times_ok (Bx.value_sm _) (Bx.value_sm _)
  have hvs : ∀ (H' : Hp), Same Hs H' → ∀ (i : Nat) q v, [y1, y2, y3, y4][i]? = some q → [Bx.timesV (Bx.valueOf a) (Bx.valueOf c), Bx.timesV (Bx.valueOf a) (Bx.valueOf d), Bx.timesV (Bx.valueOf b) (Bx.valueOf c), Bx.timesV (Bx.valueOf b) (Bx.valueOf d)][i]? = some v → VAt C H' q v := fun H' sH i q v hq hv => by
    match i, hq, hv with
    | 0, hq, hv => cases hq; cases hv; exact u1.same sH
    | 1, hq, hv => cases hq; cases hv; exact u2.same sH
    | 2, hq, hv => cases hq; cases hv; exact u3.same sH
    | 3, hq, hv => cases hq; cases hv; exact u4.same sH
    | n + 4, hq, hv => simp at hq
  refine tminL_of ?_
  refine lc_vals (C := C) (a := p) (ps := [y1, y2, y3, y4]) (vs := [Bx.timesV (Bx.valueOf a) (Bx.valueOf c), Bx.timesV (Bx.valueOf a) (Bx.valueOf d), Bx.timesV (Bx.valueOf b) (Bx.valueOf c), Bx.timesV (Bx.valueOf b) (Bx.valueOf d)]) (g := Bx.lowEnd) (i4 := 4) (i7 := 7) (by rfl) (fun _ => by rfl) (fun _ => by rfl) hl rfl (by show 4 ≤ 100; decide) (hvs Hs (Same.refl Hs)) (fun H q v Q hv hm hq => (spVI_app hv).mpr ⟨ok v hm, hq⟩) fun D1 K1 r1 hD1 => ?_
  refine ⟨D1, _, _, rfl, SqL.of hD1, fun K2 r2 => ?_⟩
  refine tmaxL_of ?_
  refine lc_vals (C := C) (a := p) (ps := [y1, y2, y3, y4]) (vs := [Bx.timesV (Bx.valueOf a) (Bx.valueOf c), Bx.timesV (Bx.valueOf a) (Bx.valueOf d), Bx.timesV (Bx.valueOf b) (Bx.valueOf c), Bx.timesV (Bx.valueOf b) (Bx.valueOf d)]) (g := Bx.highEnd) (i4 := 4) (i7 := 7) (by rfl) (fun _ => by rfl) (fun _ => by rfl) (r2 _ _ (r1 _ _ hl)) rfl (by show 4 ≤ 100; decide) (hvs K2 (r1.trans r2)) (fun H q v Q hv hm hq => (spVI_app hv).mpr ⟨ok v hm, hq⟩) fun D2 K3 r3 hD2 => ?_
  refine ⟨D2, _, _, rfl, SqL.of hD2, fun K4 r4 => ?_⟩
  refine ⟨z2, fun p' hp' => ?_⟩
  exact k p' _ (((((t0.trans r1).trans r2).trans r3).trans r4).upd hp') upd_same
def sp_div_above_zero (C : Addr) : Sp := spL4 (fun _ _ c d => Bx.TN c ∧ Bx.TN d ∧ 0 ≤ Bx.place c ∧ 0 ≤ Bx.place d) Bx.divAboveB
theorem sc_div_above_zero : FnScope ["low", "high", "other_low", "other_high", "under_low", "under_high", "lowest", "highest"] ["low", "high", "other_low", "other_high"] (defScope st_div_above_zero) := ⟨rfl, rfl, rfl, by decide +kernel, rfl, by decide +kernel, by decide +kernel⟩
theorem ok_div_above_zero (T : At K mg "div_above_zero" st_div_above_zero ["low", "high", "other_low", "other_high"]) {C : Addr} (VT : VTxt K C) (mkV : MkV P w K mg base C 1) (c_over : Cal P w K mg base "over" ["value", "other"] 4 (sp_over C)) (c_value_of : Cal P w K mg base "value_of" ["bits"] 3 (sp_value_of C)) (c_low_end : Cal P w K mg base "low_end" ["value"] 3 (sp_low_end C)) (c_high_end : Cal P w K mg base "high_end" ["value"] 5 (sp_high_end C)) (c_place : Cal P w K mg base "place" ["bits"] 3 sp_place) : Cal P w K mg base "div_above_zero" ["low", "high", "other_low", "other_high"] 6 (sp_div_above_zero C) := by
  have S := sc_div_above_zero
  refine T.cal S spL4_len fun f cdv A outer s H vs Q E hr h => ?_
  obtain ⟨a, b, c, d, rfl, ha, k⟩ := h
  refine ⟨_, (pss_cons (ps_set (i := 4) S.nd rfl (Or.inl rfl) (pe_ifExp (pt_cmpR op_lt (pe_cal c_place (hr.mono (by decide)) (by rfl) (pa_cons (pv 0) pa_nil)) pe_int (nomark _)) (pv 2) (pv 3))) (pss_cons (ps_set (i := 5) S.nd rfl (Or.inl rfl) (pe_ifExp (pt_cmpR op_lt (pe_cal c_place (hr.mono (by decide)) (by rfl) (pa_cons (pv 1) pa_nil)) pe_int (nomark _)) (pv 3) (pv 2))) (pss_cons (ps_set (i := 6) S.nd rfl (Or.inl rfl) (pe_cal c_over (hr.mono (by decide)) (by rfl) (pa_cons (pe_cal c_value_of (hr.mono (by decide)) (by rfl) (pa_cons (pv 0) pa_nil)) (pa_cons (pe_cal c_value_of (hr.mono (by decide)) (by rfl) (pa_cons (pv 4) pa_nil)) pa_nil)))) (pss_cons (ps_set (i := 7) S.nd rfl (Or.inl rfl) (pe_cal c_over (hr.mono (by decide)) (by rfl) (pa_cons (pe_cal c_value_of (hr.mono (by decide)) (by rfl) (pa_cons (pv 1) pa_nil)) (pa_cons (pe_cal c_value_of (hr.mono (by decide)) (by rfl) (pa_cons (pv 5) pa_nil)) pa_nil)))) (pss_one (ps_ret (pe_lst (pa_cons (pe_cal c_low_end (hr.mono (by decide)) (by rfl) (pa_cons (pv 6) pa_nil)) (pa_cons (pe_cal c_high_end (hr.mono (by decide)) (by rfl) (pa_cons (pv 7) pa_nil)) pa_nil))))))))), ?_⟩
  have z2 : 2 ≤ sizeLine := by decide
  simp only [Bx.divAboveB] at k
  simp [sp_place, sp_value_of, tSeq, tIfS, tRet, tAsg, gName, tVar, tC, tOp, tUn, rI, rI0, rU, rEq, rNe, tTest, tAnd, tOr, tNot, tAndV, tOrV, tNotV, tB, tIf, tCall, tCons, tNil, tNext, tLst, sp1_app, sp2_app, L2.start, scal, tMkV, mkq_app, tFV, spV1_app, sp3_app, spV3_app, tCB, tBM0, tyV, rMx_app, rMn_app]
  obtain ⟨tc, td, p0, p1⟩ := ha
  by_cases c1 : Bx.place a < 0
  · by_cases c2 : Bx.place b < 0
    · simp only [c1, c2, if_true] at k ⊢
      intro x1 H1 s1 v1 x2 H2 s2 v2
      refine (spVVV_app (v1.same s2) v2).mpr ⟨⟨(Bx.value_sm _).md, (Bx.value_sm _).md, (Bx.sig_lt p0 tc).1⟩, fun x3 H3 s3 v3 => ?_⟩
      intro x4 H4 s4 v4 x5 H5 s5 v5
      refine (spVVV_app (v4.same s5) v5).mpr ⟨⟨(Bx.value_sm _).md, (Bx.value_sm _).md, (Bx.sig_lt p1 td).1⟩, fun x6 H6 s6 v6 => ?_⟩
      refine (spVI_app (((v3.same s4).same s5).same s6)).mpr ⟨Bx.over_ok (Bx.value_sm _).md (Bx.value_sm _).md (Bx.sig_lt p0 tc).1, fun H7 s7 => ?_⟩
      refine (spVI_app (v6.same s7)).mpr ⟨Bx.over_ok (Bx.value_sm _).md (Bx.value_sm _).md (Bx.sig_lt p1 td).1, fun H8 s8 => ⟨z2, fun p hp => ?_⟩⟩
      exact k p _ ((((((((s1.trans s2).trans s3).trans s4).trans s5).trans s6).trans s7).trans s8).upd hp) upd_same
    · simp only [c1, c2, if_true, if_false] at k ⊢
      intro x1 H1 s1 v1 x2 H2 s2 v2
      refine (spVVV_app (v1.same s2) v2).mpr ⟨⟨(Bx.value_sm _).md, (Bx.value_sm _).md, (Bx.sig_lt p0 tc).1⟩, fun x3 H3 s3 v3 => ?_⟩
      intro x4 H4 s4 v4 x5 H5 s5 v5
      refine (spVVV_app (v4.same s5) v5).mpr ⟨⟨(Bx.value_sm _).md, (Bx.value_sm _).md, (Bx.sig_lt p0 tc).1⟩, fun x6 H6 s6 v6 => ?_⟩
      refine (spVI_app (((v3.same s4).same s5).same s6)).mpr ⟨Bx.over_ok (Bx.value_sm _).md (Bx.value_sm _).md (Bx.sig_lt p0 tc).1, fun H7 s7 => ?_⟩
      refine (spVI_app (v6.same s7)).mpr ⟨Bx.over_ok (Bx.value_sm _).md (Bx.value_sm _).md (Bx.sig_lt p0 tc).1, fun H8 s8 => ⟨z2, fun p hp => ?_⟩⟩
      exact k p _ ((((((((s1.trans s2).trans s3).trans s4).trans s5).trans s6).trans s7).trans s8).upd hp) upd_same
  · by_cases c2 : Bx.place b < 0
    · simp only [c1, c2, if_true, if_false] at k ⊢
      intro x1 H1 s1 v1 x2 H2 s2 v2
      refine (spVVV_app (v1.same s2) v2).mpr ⟨⟨(Bx.value_sm _).md, (Bx.value_sm _).md, (Bx.sig_lt p1 td).1⟩, fun x3 H3 s3 v3 => ?_⟩
      intro x4 H4 s4 v4 x5 H5 s5 v5
      refine (spVVV_app (v4.same s5) v5).mpr ⟨⟨(Bx.value_sm _).md, (Bx.value_sm _).md, (Bx.sig_lt p1 td).1⟩, fun x6 H6 s6 v6 => ?_⟩
      refine (spVI_app (((v3.same s4).same s5).same s6)).mpr ⟨Bx.over_ok (Bx.value_sm _).md (Bx.value_sm _).md (Bx.sig_lt p1 td).1, fun H7 s7 => ?_⟩
      refine (spVI_app (v6.same s7)).mpr ⟨Bx.over_ok (Bx.value_sm _).md (Bx.value_sm _).md (Bx.sig_lt p1 td).1, fun H8 s8 => ⟨z2, fun p hp => ?_⟩⟩
      exact k p _ ((((((((s1.trans s2).trans s3).trans s4).trans s5).trans s6).trans s7).trans s8).upd hp) upd_same
    · simp only [c1, c2, if_false] at k ⊢
      intro x1 H1 s1 v1 x2 H2 s2 v2
      refine (spVVV_app (v1.same s2) v2).mpr ⟨⟨(Bx.value_sm _).md, (Bx.value_sm _).md, (Bx.sig_lt p1 td).1⟩, fun x3 H3 s3 v3 => ?_⟩
      intro x4 H4 s4 v4 x5 H5 s5 v5
      refine (spVVV_app (v4.same s5) v5).mpr ⟨⟨(Bx.value_sm _).md, (Bx.value_sm _).md, (Bx.sig_lt p0 tc).1⟩, fun x6 H6 s6 v6 => ?_⟩
      refine (spVI_app (((v3.same s4).same s5).same s6)).mpr ⟨Bx.over_ok (Bx.value_sm _).md (Bx.value_sm _).md (Bx.sig_lt p1 td).1, fun H7 s7 => ?_⟩
      refine (spVI_app (v6.same s7)).mpr ⟨Bx.over_ok (Bx.value_sm _).md (Bx.value_sm _).md (Bx.sig_lt p0 tc).1, fun H8 s8 => ⟨z2, fun p hp => ?_⟩⟩
      exact k p _ ((((((((s1.trans s2).trans s3).trans s4).trans s5).trans s6).trans s7).trans s8).upd hp) upd_same
def sp_div_around_zero : Sp := spL2 (fun _ _ => True) Bx.aroundB
theorem sc_div_around_zero : FnScope ["low", "high"] ["low", "high"] (defScope st_div_around_zero) := ⟨rfl, rfl, rfl, by decide +kernel, rfl, by decide +kernel, by decide +kernel⟩
theorem ok_div_around_zero (T : At K mg "div_around_zero" st_div_around_zero ["low", "high"]) (gMINUS_INFINITE : IntG mg "MINUS_INFINITE" (1208916596242592319930368)) (gPLUS_INFINITE : IntG mg "PLUS_INFINITE" (604453686435277732577280)) : Cal P w K mg base "div_around_zero" ["low", "high"] 1 sp_div_around_zero := by
  have S := sc_div_around_zero
  refine T.cal S spL2_len fun f cdv A outer s H vs Q E hr h => ?_
  obtain ⟨a, b, rfl, ha, k⟩ := h
  refine ⟨_, (pss_cons (ps_if (pw_and (pt_cmpR op_eq (pv 0) pe_int (nomark _)) (pw_and1 (pt_cmpR op_eq (pv 1) pe_int (nomark _)))).pt (pss_one (ps_ret (pe_lst (pa_cons pe_int (pa_cons pe_int pa_nil))))) pss_nil) (pss_one (ps_ret (pe_lst (pa_cons (pe_ig gMINUS_INFINITE (by rfl)) (pa_cons (pe_ig gPLUS_INFINITE (by rfl)) pa_nil)))))), ?_⟩
  have z2 : 2 ≤ sizeLine := by decide
  simp only [Bx.aroundB] at k
  simp [tSeq, tIfS, tRet, tAsg, gName, tVar, tC, tOp, tUn, rI, rI0, rU, rEq, rNe, tTest, tAnd, tOr, tNot, tAndV, tOrV, tNotV, tB, tIf, tCall, tCons, tNil, tNext, tLst, sp1_app, sp2_app, L2.start, scal, tMkV, mkq_app, tFV, spV1_app, sp3_app, spV3_app, tCB, tBM0, tyV, rMx_app, rMn_app]
  by_cases c1 : a = 0
  · by_cases c2 : b = 0
    · simp only [c1, c2, if_true, and_self] at k ⊢
      exact ⟨z2, fun p hp => k p _ ((Same.refl H).upd hp) upd_same⟩
    · simp only [c1, c2, if_true, if_false, and_false] at k ⊢
      exact ⟨z2, fun p hp => k p _ ((Same.refl H).upd hp) upd_same⟩
  · simp only [c1, if_false, false_and] at k ⊢
    exact ⟨z2, fun p hp => k p _ ((Same.refl H).upd hp) upd_same⟩
def sp_div (C : Addr) : Sp := spL4 (fun a b c d => Bx.IvB a b ∧ Bx.IvB c d) Bx.divB
theorem sc_div : FnScope ["low", "high", "other_low", "other_high"] ["low", "high", "other_low", "other_high"] (defScope st_div) := ⟨rfl, rfl, rfl, by decide +kernel, rfl, by decide +kernel, by decide +kernel⟩
theorem ok_div (T : At K mg "div" st_div ["low", "high", "other_low", "other_high"]) {C : Addr} (VT : VTxt K C) (mkV : MkV P w K mg base C 1) (c_div_above_zero : Cal P w K mg base "div_above_zero" ["low", "high", "other_low", "other_high"] 6 (sp_div_above_zero C)) (gEMPTY : IntG mg "EMPTY" (1208921207928610747318272)) (c_div_around_zero : Cal P w K mg base "div_around_zero" ["low", "high"] 1 sp_div_around_zero) (c_place : Cal P w K mg base "place" ["bits"] 3 sp_place) (c_opposite : Cal P w K mg base "opposite" ["bits"] 4 sp_opposite) : Cal P w K mg base "div" ["low", "high", "other_low", "other_high"] 7 (sp_div C) := by
  have S := sc_div
  refine T.cal S spL4_len fun f cdv A outer s H vs Q E hr h => ?_
  obtain ⟨a, b, c, d, rfl, ha, k⟩ := h
  refine ⟨_, (pss_cons (ps_if (pw_and (pt_cmpR op_eq (pv 2) pe_int (nomark _)) (pw_and1 (pt_cmpR op_eq (pv 3) pe_int (nomark _)))).pt (pss_one (ps_ret (pe_lst (pa_cons (pe_ig gEMPTY (by rfl)) (pa_cons (pe_ig gEMPTY (by rfl)) pa_nil))))) pss_nil) (pss_cons (ps_if (pw_and (pt_cmpR op_lt (pe_cal c_place (hr.mono (by decide)) (by rfl) (pa_cons (pv 2) pa_nil)) pe_int (nomark _)) (pw_and1 (pt_cmpR op_gt (pe_cal c_place (hr.mono (by decide)) (by rfl) (pa_cons (pv 3) pa_nil)) pe_int (nomark _)))).pt (pss_one (ps_ret (pe_cal c_div_around_zero (hr.mono (by decide)) (by rfl) (pa_cons (pv 0) (pa_cons (pv 1) pa_nil))))) pss_nil) (pss_cons (ps_if (pt_cmpR op_lt (pe_cal c_place (hr.mono (by decide)) (by rfl) (pa_cons (pv 2) pa_nil)) pe_int (nomark _)) (pss_one (ps_ret (pe_cal c_div_above_zero (hr.mono (by decide)) (by rfl) (pa_cons (pe_cal c_opposite (hr.mono (by decide)) (by rfl) (pa_cons (pv 1) pa_nil)) (pa_cons (pe_cal c_opposite (hr.mono (by decide)) (by rfl) (pa_cons (pv 0) pa_nil)) (pa_cons (pe_cal c_opposite (hr.mono (by decide)) (by rfl) (pa_cons (pv 3) pa_nil)) (pa_cons (pe_cal c_opposite (hr.mono (by decide)) (by rfl) (pa_cons (pv 2) pa_nil)) pa_nil))))))) pss_nil) (pss_one (ps_ret (pe_cal c_div_above_zero (hr.mono (by decide)) (by rfl) (pa_cons (pv 0) (pa_cons (pv 1) (pa_cons (pv 2) (pa_cons (pv 3) pa_nil)))))))))), ?_⟩
  have z2 : 2 ≤ sizeLine := by decide
  obtain ⟨X, Y⟩ := ha
  simp [sp_place, sp_opposite, sp_div_around_zero, sp_div_above_zero, spL4_app, spL2_app, tSeq, tIfS, tRet, tAsg, gName, tVar, tC, tOp, tUn, rI, rI0, rU, rEq, rNe, tTest, tAnd, tOr, tNot, tAndV, tOrV, tNotV, tB, tIf, tCall, tCons, tNil, tNext, tLst, sp1_app, sp2_app, L2.start, scal, tMkV, mkq_app, tFV, spV1_app, sp3_app, spV3_app, tCB, tBM0, tyV, rMx_app, rMn_app]
  have tail : ¬ (c = 0 ∧ d = 0) → (Bx.place c < 0 ∧ 0 < Bx.place d ∧ Bx.divB a b c d = Bx.aroundB a b) ∨ (Bx.place c < 0 ∧ ¬ 0 < Bx.place d ∧ (Bx.TN (Bx.opposite d) ∧ Bx.TN (Bx.opposite c) ∧ 0 ≤ Bx.place (Bx.opposite d) ∧ 0 ≤ Bx.place (Bx.opposite c)) ∧ Bx.divB a b c d = Bx.divAboveB (Bx.opposite b) (Bx.opposite a) (Bx.opposite d) (Bx.opposite c)) ∨ (¬ Bx.place c < 0 ∧ (Bx.TN c ∧ Bx.TN d ∧ 0 ≤ Bx.place c ∧ 0 ≤ Bx.place d) ∧ Bx.divB a b c d = Bx.divAboveB a b c d) := fun nz => by
    have le := Y.le
    by_cases c3 : Bx.place c < 0
    · by_cases c4 : 0 < Bx.place d
      · exact .inl ⟨c3, c4, by unfold Bx.divB Bx.aroundB; rw [if_neg nz, if_pos ⟨c3, c4⟩]⟩
      · exact .inr (.inl ⟨c3, c4, ⟨(Bx.opp_en Y.hi).1, (Bx.opp_en Y.lo).1, Bx.opp_place Y.hi (by omega), Bx.opp_place Y.lo (by omega)⟩, by unfold Bx.divB; rw [if_neg nz, if_neg (fun z => c4 z.2), if_pos c3]⟩)
    · exact .inr (.inr ⟨c3, ⟨Y.lo, Y.hi, by omega, by omega⟩, by unfold Bx.divB; rw [if_neg nz, if_neg (fun z => c3 z.1), if_neg c3]⟩)
  by_cases c1 : c = 0
  · rw [if_pos c1]
    by_cases c2 : d = 0
    · rw [if_pos c2]
      have e : Bx.divB a b c d = [Bx.EMP, Bx.EMP] := by unfold Bx.divB; rw [if_pos ⟨c1, c2⟩]
      rw [e] at k
      exact ⟨z2, fun p hp => k p _ ((Same.refl H).upd hp) upd_same⟩
    · rw [if_neg c2]
      rcases tail (fun z => c2 z.2) with ⟨c3, c4, e⟩ | ⟨c3, c4, pr, e⟩ | ⟨c3, pr, e⟩
      · rw [e] at k; rw [if_pos c3, if_pos c4]; exact k
      · rw [e] at k; rw [if_pos c3, if_neg c4, if_pos c3]; exact ⟨X.hi.bits, X.lo.bits, Y.hi.bits, Y.lo.bits, pr, k⟩
      · rw [e] at k; rw [if_neg c3, if_neg c3]; exact ⟨pr, k⟩
  · rw [if_neg c1]
    rcases tail (fun z => c1 z.1) with ⟨c3, c4, e⟩ | ⟨c3, c4, pr, e⟩ | ⟨c3, pr, e⟩
    · rw [e] at k; rw [if_pos c3, if_pos c4]; exact k
    · rw [e] at k; rw [if_pos c3, if_neg c4, if_pos c3]; exact ⟨X.hi.bits, X.lo.bits, Y.hi.bits, Y.lo.bits, pr, k⟩
    · rw [e] at k; rw [if_neg c3, if_neg c3]; exact ⟨pr, k⟩
def sp_least : Sp := spL4 (fun _ _ _ _ => True) Bx.leastB
theorem sc_least : FnScope ["low", "high", "other_low", "other_high"] ["low", "high", "other_low", "other_high"] (defScope st_least) := ⟨rfl, rfl, rfl, by decide +kernel, rfl, by decide +kernel, by decide +kernel⟩
theorem ok_least (T : At K mg "least" st_least ["low", "high", "other_low", "other_high"]) (c_lesser : Cal P w K mg base "lesser" ["number", "other"] 5 sp_lesser) : Cal P w K mg base "least" ["low", "high", "other_low", "other_high"] 6 sp_least := by
  have S := sc_least
  refine T.cal S spL4_len fun f cdv A outer s H vs Q E hr h => ?_
  obtain ⟨a, b, c, d, rfl, ha, k⟩ := h
  refine ⟨_, (pss_one (ps_ret (pe_lst (pa_cons (pe_cal c_lesser (hr.mono (by decide)) (by rfl) (pa_cons (pv 0) (pa_cons (pv 2) pa_nil))) (pa_cons (pe_cal c_lesser (hr.mono (by decide)) (by rfl) (pa_cons (pv 1) (pa_cons (pv 3) pa_nil))) pa_nil))))), ?_⟩
  have z2 : 2 ≤ sizeLine := by decide
  simp only [Bx.leastB] at k
  simp [sp_lesser, sp2S_app, tSeq, tIfS, tRet, tAsg, gName, tVar, tC, tOp, tUn, rI, rI0, rU, rEq, rNe, tTest, tAnd, tOr, tNot, tAndV, tOrV, tNotV, tB, tIf, tCall, tCons, tNil, tNext, tLst, sp1_app, sp2_app, L2.start, scal, tMkV, mkq_app, tFV, spV1_app, sp3_app, spV3_app, tCB, tBM0, tyV, rMx_app, rMn_app]
  intro H1 s1 H2 s2
  exact ⟨z2, fun p hp => k p _ ((s1.trans s2).upd hp) upd_same⟩
def sp_greatest : Sp := spL4 (fun _ _ _ _ => True) Bx.greatestB
theorem sc_greatest : FnScope ["low", "high", "other_low", "other_high"] ["low", "high", "other_low", "other_high"] (defScope st_greatest) := ⟨rfl, rfl, rfl, by decide +kernel, rfl, by decide +kernel, by decide +kernel⟩
theorem ok_greatest (T : At K mg "greatest" st_greatest ["low", "high", "other_low", "other_high"]) (c_greater : Cal P w K mg base "greater" ["number", "other"] 5 sp_greater) : Cal P w K mg base "greatest" ["low", "high", "other_low", "other_high"] 6 sp_greatest := by
  have S := sc_greatest
  refine T.cal S spL4_len fun f cdv A outer s H vs Q E hr h => ?_
  obtain ⟨a, b, c, d, rfl, ha, k⟩ := h
  refine ⟨_, (pss_one (ps_ret (pe_lst (pa_cons (pe_cal c_greater (hr.mono (by decide)) (by rfl) (pa_cons (pv 0) (pa_cons (pv 2) pa_nil))) (pa_cons (pe_cal c_greater (hr.mono (by decide)) (by rfl) (pa_cons (pv 1) (pa_cons (pv 3) pa_nil))) pa_nil))))), ?_⟩
  have z2 : 2 ≤ sizeLine := by decide
  simp only [Bx.greatestB] at k
  simp [sp_greater, sp2S_app, tSeq, tIfS, tRet, tAsg, gName, tVar, tC, tOp, tUn, rI, rI0, rU, rEq, rNe, tTest, tAnd, tOr, tNot, tAndV, tOrV, tNotV, tB, tIf, tCall, tCons, tNil, tNext, tLst, sp1_app, sp2_app, L2.start, scal, tMkV, mkq_app, tFV, spV1_app, sp3_app, spV3_app, tCB, tBM0, tyV, rMx_app, rMn_app]
  intro H1 s1 H2 s2
  exact ⟨z2, fun p hp => k p _ ((s1.trans s2).upd hp) upd_same⟩
def sp_join : Sp := spL4 (fun _ _ _ _ => True) Bx.joinB
theorem sc_join : FnScope ["low", "high", "other_low", "other_high"] ["low", "high", "other_low", "other_high"] (defScope st_join) := ⟨rfl, rfl, rfl, by decide +kernel, rfl, by decide +kernel, by decide +kernel⟩
theorem ok_join (T : At K mg "join" st_join ["low", "high", "other_low", "other_high"]) (gEMPTY : IntG mg "EMPTY" (1208921207928610747318272)) (c_lesser : Cal P w K mg base "lesser" ["number", "other"] 5 sp_lesser) (c_greater : Cal P w K mg base "greater" ["number", "other"] 5 sp_greater) : Cal P w K mg base "join" ["low", "high", "other_low", "other_high"] 6 sp_join := by
  have S := sc_join
  refine T.cal S spL4_len fun f cdv A outer s H vs Q E hr h => ?_
  obtain ⟨a, b, c, d, rfl, ha, k⟩ := h
  refine ⟨_, (pss_cons (ps_if (pt_cmpR op_eq (pv 0) (pe_ig gEMPTY (by rfl)) (nomark _)) (pss_one (ps_ret (pe_lst (pa_cons (pv 2) (pa_cons (pv 3) pa_nil))))) pss_nil) (pss_cons (ps_if (pt_cmpR op_eq (pv 2) (pe_ig gEMPTY (by rfl)) (nomark _)) (pss_one (ps_ret (pe_lst (pa_cons (pv 0) (pa_cons (pv 1) pa_nil))))) pss_nil) (pss_one (ps_ret (pe_lst (pa_cons (pe_cal c_lesser (hr.mono (by decide)) (by rfl) (pa_cons (pv 0) (pa_cons (pv 2) pa_nil))) (pa_cons (pe_cal c_greater (hr.mono (by decide)) (by rfl) (pa_cons (pv 1) (pa_cons (pv 3) pa_nil))) pa_nil))))))), ?_⟩
  have z2 : 2 ≤ sizeLine := by decide
  simp only [Bx.joinB, Bx.EMP] at k
  simp [sp_lesser, sp_greater, sp2S_app, tSeq, tIfS, tRet, tAsg, gName, tVar, tC, tOp, tUn, rI, rI0, rU, rEq, rNe, tTest, tAnd, tOr, tNot, tAndV, tOrV, tNotV, tB, tIf, tCall, tCons, tNil, tNext, tLst, sp1_app, sp2_app, L2.start, scal, tMkV, mkq_app, tFV, spV1_app, sp3_app, spV3_app, tCB, tBM0, tyV, rMx_app, rMn_app]
  split
  · rename_i e; simp only [e, if_true] at k; exact ⟨z2, fun p hp => k p _ ((Same.refl H).upd hp) upd_same⟩
  · rename_i e; simp only [e, if_false] at k
    split
    · rename_i e; simp only [e, if_true] at k; exact ⟨z2, fun p hp => k p _ ((Same.refl H).upd hp) upd_same⟩
    · rename_i e; simp only [e, if_false] at k
      intro H1 s1 H2 s2
      exact ⟨z2, fun p hp => k p _ ((s1.trans s2).upd hp) upd_same⟩
def sp_meet : Sp := spL4 (fun _ _ _ _ => True) Bx.meetB
theorem sc_meet : FnScope ["low", "high", "other_low", "other_high", "lowest", "highest"] ["low", "high", "other_low", "other_high"] (defScope st_meet) := ⟨rfl, rfl, rfl, by decide +kernel, rfl, by decide +kernel, by decide +kernel⟩
theorem ok_meet (T : At K mg "meet" st_meet ["low", "high", "other_low", "other_high"]) (c_greater : Cal P w K mg base "greater" ["number", "other"] 5 sp_greater) (c_lesser : Cal P w K mg base "lesser" ["number", "other"] 5 sp_lesser) (c_place : Cal P w K mg base "place" ["bits"] 3 sp_place) (gEMPTY : IntG mg "EMPTY" (1208921207928610747318272)) : Cal P w K mg base "meet" ["low", "high", "other_low", "other_high"] 6 sp_meet := by
  have S := sc_meet
  refine T.cal S spL4_len fun f cdv A outer s H vs Q E hr h => ?_
  obtain ⟨a, b, c, d, rfl, ha, k⟩ := h
  refine ⟨_, (pss_cons (ps_set (i := 4) S.nd rfl (Or.inl rfl) (pe_cal c_greater (hr.mono (by decide)) (by rfl) (pa_cons (pv 0) (pa_cons (pv 2) pa_nil)))) (pss_cons (ps_set (i := 5) S.nd rfl (Or.inl rfl) (pe_cal c_lesser (hr.mono (by decide)) (by rfl) (pa_cons (pv 1) (pa_cons (pv 3) pa_nil)))) (pss_cons (ps_if (pt_cmpR op_gt (pe_cal c_place (hr.mono (by decide)) (by rfl) (pa_cons (pv 4) pa_nil)) (pe_cal c_place (hr.mono (by decide)) (by rfl) (pa_cons (pv 5) pa_nil)) (nomark _)) (pss_one (ps_ret (pe_lst (pa_cons (pe_ig gEMPTY (by rfl)) (pa_cons (pe_ig gEMPTY (by rfl)) pa_nil))))) pss_nil) (pss_one (ps_ret (pe_lst (pa_cons (pv 4) (pa_cons (pv 5) pa_nil)))))))), ?_⟩
  have z2 : 2 ≤ sizeLine := by decide
  simp only [Bx.meetB, Bx.EMP] at k
  simp [sp_lesser, sp_greater, sp_place, sp2S_app, tSeq, tIfS, tRet, tAsg, gName, tVar, tC, tOp, tUn, rI, rI0, rU, rEq, rNe, tTest, tAnd, tOr, tNot, tAndV, tOrV, tNotV, tB, tIf, tCall, tCons, tNil, tNext, tLst, sp1_app, sp2_app, L2.start, scal, tMkV, mkq_app, tFV, spV1_app, sp3_app, spV3_app, tCB, tBM0, tyV, rMx_app, rMn_app]
  intro H1 s1 H2 s2
  split
  · rename_i e; simp only [e, if_true] at k; exact ⟨z2, fun p hp => k p _ ((s1.trans s2).upd hp) upd_same⟩
  · rename_i e; simp only [e, if_false] at k; exact ⟨z2, fun p hp => k p _ ((s1.trans s2).upd hp) upd_same⟩
def sp_two (C : Addr) : Sp := fun vs H Q _ => ∃ op a b c d, vs = [.int op, .int a, .int b, .int c, .int d] ∧ 0 ≤ op ∧ Bx.Bits a ∧ Bx.Bits b ∧ Bx.Bits c ∧ Bx.Bits d ∧ ∀ (H' : Hp) (p : Addr), H' p = some (.lst ((Bx.twoB op a b c d).map V.int)) → Q (.ref p) H'
theorem sc_two : FnScope ["op", "low", "high", "other_low", "other_high"] ["op", "low", "high", "other_low", "other_high"] (defScope st_two) := ⟨rfl, rfl, rfl, by decide +kernel, rfl, by decide +kernel, by decide +kernel⟩
theorem ok_two {f : Addr} {fd : FuncData} (T : Fun K "two" "two" st_two f fd) {C : Addr} (VT : VTxt K C) (mkV : MkV P w K mg base C 1) (n_len : mg "len" = none) {T_TWO : Addr} (gTWO : mg "TWO" = some (.ref T_TWO)) (gJOIN : IntG mg "JOIN" (6)) (gEMPTY : IntG mg "EMPTY" (1208921207928610747318272)) (c_is_interval : Cal P w K mg base "is_interval" ["low", "high"] 5 sp_is_interval) (c_told : Cal P w K mg base "told" ["bits"] 3 sp_told) {f0 f1 f2 f3 f4 f5 f6 f7 : Addr} (hT : ∀ H : Hp, SqT K H T_TWO [.ref f0, .ref f1, .ref f2, .ref f3, .ref f4, .ref f5, .ref f6, .ref f7]) (m0 : mg "add" = some (.ref f0)) (c_add : Cal P w K mg base "add" ["low", "high", "other_low", "other_high"] 6 (sp_add C)) (m1 : mg "sub" = some (.ref f1)) (c_sub : Cal P w K mg base "sub" ["low", "high", "other_low", "other_high"] 7 (sp_sub C)) (m2 : mg "mul" = some (.ref f2)) (c_mul : Cal P w K mg base "mul" ["low", "high", "other_low", "other_high"] 6 (sp_mul C)) (m3 : mg "div" = some (.ref f3)) (c_div : Cal P w K mg base "div" ["low", "high", "other_low", "other_high"] 7 (sp_div C)) (m4 : mg "least" = some (.ref f4)) (c_least : Cal P w K mg base "least" ["low", "high", "other_low", "other_high"] 6 sp_least) (m5 : mg "greatest" = some (.ref f5)) (c_greatest : Cal P w K mg base "greatest" ["low", "high", "other_low", "other_high"] 6 sp_greatest) (m6 : mg "join" = some (.ref f6)) (c_join : Cal P w K mg base "join" ["low", "high", "other_low", "other_high"] 6 sp_join) (m7 : mg "meet" = some (.ref f7)) (c_meet : Cal P w K mg base "meet" ["low", "high", "other_low", "other_high"] 6 sp_meet) : FnOk P w K mg base CX0 12 f fd ["op", "low", "high", "other_low", "other_high"] (sp_two C) := by
  have S := sc_two
  refine T.ok S (fun vs H Q E h => by obtain ⟨op, a, b, c, d, rfl, _⟩ := h; rfl) fun cdv A outer s H vs Q E hr h => ?_
  obtain ⟨op, a, b, c, d, rfl, o0, ha, hb, hc, hd, k⟩ := h
  refine ⟨_, (pss_cons (ps_if (pt_cmpR op_ge (pv 0) (pe_callB call_len (by rfl) n_len PySem.boot_len (pa_cons (pe_glob (v := .ref T_TWO) (by rfl) gTWO rfl) pa_nil)) (nomark _)) (pss_one (ps_ret (pe_lst (pa_cons (pe_un un_neg pe_int) pa_nil)))) pss_nil) (pss_cons (ps_if (pt_not (pw_and (pt_val (pe_cal c_is_interval (hr.mono (by decide)) (by rfl) (pa_cons (pv 1) (pa_cons (pv 2) pa_nil)))) (pw_and1 (pt_val (pe_cal c_is_interval (hr.mono (by decide)) (by rfl) (pa_cons (pv 3) (pa_cons (pv 4) pa_nil)))))).pt) (pss_one (ps_ret (pe_lst (pa_cons (pe_un un_neg pe_int) pa_nil)))) pss_nil) (pss_cons (ps_if (pw_and (pt_cmpR op_ne (pv 0) (pe_ig gJOIN (by rfl)) (nomark _)) (pw_and1 (pw_or (pt_cmpR op_eq (pv 1) (pe_ig gEMPTY (by rfl)) (nomark _)) (pw_or1 (pt_cmpR op_eq (pv 3) (pe_ig gEMPTY (by rfl)) (nomark _)))).pt)).pt (pss_one (ps_ret (pe_lst (pa_cons pe_int (pa_cons (pe_ig gEMPTY (by rfl)) (pa_cons (pe_ig gEMPTY (by rfl)) pa_nil)))))) pss_nil) (pss_one (ps_ret (pe_op op_cat (pe_lst (pa_cons pe_int pa_nil)) (pe_callE (pe_ix ix_tup (pe_glob (v := .ref T_TWO) (by rfl) gTWO rfl) (pv 0) (fun _ _ => rfl)) (pa_cons (pe_cal c_told (hr.mono (by decide)) (by rfl) (pa_cons (pv 1) pa_nil)) (pa_cons (pe_cal c_told (hr.mono (by decide)) (by rfl) (pa_cons (pv 2) pa_nil)) (pa_cons (pe_cal c_told (hr.mono (by decide)) (by rfl) (pa_cons (pv 3) pa_nil)) (pa_cons (pe_cal c_told (hr.mono (by decide)) (by rfl) (pa_cons (pv 4) pa_nil)) pa_nil))))))))))), ?_⟩
  simp only [Bx.twoB] at k
  simp [sp_is_interval, sp_told, rCat, tCallE, rIxT, tSeq, tIfS, tRet, tAsg, gName, tVar, tC, tOp, tUn, rI, rI0, rU, rEq, rNe, tTest, tAnd, tOr, tNot, tAndV, tOrV, tNotV, tB, tIf, tCall, tCons, tNil, tNext, tLst, sp1_app, sp2_app, L2.start, scal, tMkV, mkq_app, tFV, spV1_app, sp3_app, spV3_app, tCB, tBM0, tyV, rMx_app, rMn_app]
  have z3 : 3 ≤ sizeLine := by decide
  refine ⟨8, .inr ⟨_, hT H, rfl⟩, ?_⟩
  by_cases c0 : 8 ≤ op
  · rw [if_pos (by omega)]
    simp only [c0, if_true] at k
    exact ⟨by decide, fun p hp => k _ _ upd_same⟩
  · rw [if_neg (by omega)]
    simp only [c0, if_false] at k
    cases c1 : Bx.isInterval a b
    · left
      simp [c1] at k
      exact ⟨rfl, by decide, fun p hp => k _ _ upd_same⟩
    · right
      refine ⟨rfl, ?_⟩
      cases c2 : Bx.isInterval c d
      · left
        simp [c1, c2] at k
        exact ⟨rfl, by decide, fun p hp => k _ _ upd_same⟩
      · right
        refine ⟨rfl, ?_⟩
        simp only [c1, c2, Bool.and_self, Bool.true_eq_false, if_false] at k
        have ln := Bx.two_len (Bx.told a) (Bx.told b) (Bx.told c) (Bx.told d)
        have eq := Bx.opB_eq (Bx.told a) (Bx.told b) (Bx.told c) (Bx.told d)
        have len : ∀ L : List Int, L.length = 2 → ([V.int 0] : List V).length + (L.map V.int).length ≤ sizeLine := fun L h => by rw [List.length_map, h]; exact z3
        by_cases c3 : op = 6
        · left
          rw [if_neg (fun z => z.1 c3)] at k
          refine ⟨c3, by decide, fun p hp => ?_⟩
          subst c3
          rw [eq.2.2.2.2.2.2.1] at k
          exact ⟨_, hT _, .ref f6, rfl, f6, rfl, _, _, _, Cal.fn c_join m6, hr.mono (by decide), spL4_app.mpr ⟨trivial, fun x H2 s2 hx => ⟨x, rfl, _, s2 _ _ upd_same, _, hx, len _ ln.2.2.2.2.2.2.1, fun p' hp' => k _ _ upd_same⟩⟩⟩
        · right
          refine ⟨c3, ?_⟩
          by_cases c4 : a = 1208921207928610747318272
          · rw [if_pos c4]
            rw [if_pos (show op ≠ 6 ∧ (a = Bx.EMP ∨ c = Bx.EMP) from ⟨c3, .inl c4⟩)] at k
            exact ⟨z3, fun p hp => k _ _ upd_same⟩
          · rw [if_neg c4]
            by_cases c5 : c = 1208921207928610747318272
            · rw [if_pos c5]
              rw [if_pos (show op ≠ 6 ∧ (a = Bx.EMP ∨ c = Bx.EMP) from ⟨c3, .inr c5⟩)] at k
              exact ⟨z3, fun p hp => k _ _ upd_same⟩
            · rw [if_neg c5]
              rw [if_neg (show ¬ (op ≠ 6 ∧ (a = Bx.EMP ∨ c = Bx.EMP)) from fun z => z.2.elim c4 c5)] at k
              have iv := ((Bx.iv_both ha hb c1).resolve_left (fun z => c4 z.1)).2.1
              have jy := ((Bx.iv_both hc hd c2).resolve_left (fun z => c5 z.1)).2.1
              refine ⟨by decide, fun p hp => ?_⟩
              rcases (show op = 0 ∨ op = 1 ∨ op = 2 ∨ op = 3 ∨ op = 4 ∨ op = 5 ∨ op = 7 by omega) with rfl | rfl | rfl | rfl | rfl | rfl | rfl
              · rw [eq.1] at k
                exact ⟨_, hT _, .ref f0, rfl, f0, rfl, _, _, _, Cal.fn c_add m0, hr.mono (by decide), spL4_app.mpr ⟨trivial, fun x H2 s2 hx => ⟨x, rfl, _, s2 _ _ upd_same, _, hx, len _ ln.1, fun p' hp' => k _ _ upd_same⟩⟩⟩
              · rw [eq.2.1] at k
                exact ⟨_, hT _, .ref f1, rfl, f1, rfl, _, _, _, Cal.fn c_sub m1, hr.mono (by decide), spL4_app.mpr ⟨⟨jy.lo.bits, jy.hi.bits⟩, fun x H2 s2 hx => ⟨x, rfl, _, s2 _ _ upd_same, _, hx, len _ ln.2.1, fun p' hp' => k _ _ upd_same⟩⟩⟩
              · rw [eq.2.2.1] at k
                exact ⟨_, hT _, .ref f2, rfl, f2, rfl, _, _, _, Cal.fn c_mul m2, hr.mono (by decide), spL4_app.mpr ⟨trivial, fun x H2 s2 hx => ⟨x, rfl, _, s2 _ _ upd_same, _, hx, len _ ln.2.2.1, fun p' hp' => k _ _ upd_same⟩⟩⟩
              · rw [eq.2.2.2.1] at k
                exact ⟨_, hT _, .ref f3, rfl, f3, rfl, _, _, _, Cal.fn c_div m3, hr.mono (by decide), spL4_app.mpr ⟨⟨iv, jy⟩, fun x H2 s2 hx => ⟨x, rfl, _, s2 _ _ upd_same, _, hx, len _ ln.2.2.2.1, fun p' hp' => k _ _ upd_same⟩⟩⟩
              · rw [eq.2.2.2.2.1] at k
                exact ⟨_, hT _, .ref f4, rfl, f4, rfl, _, _, _, Cal.fn c_least m4, hr.mono (by decide), spL4_app.mpr ⟨trivial, fun x H2 s2 hx => ⟨x, rfl, _, s2 _ _ upd_same, _, hx, len _ ln.2.2.2.2.1, fun p' hp' => k _ _ upd_same⟩⟩⟩
              · rw [eq.2.2.2.2.2.1] at k
                exact ⟨_, hT _, .ref f5, rfl, f5, rfl, _, _, _, Cal.fn c_greatest m5, hr.mono (by decide), spL4_app.mpr ⟨trivial, fun x H2 s2 hx => ⟨x, rfl, _, s2 _ _ upd_same, _, hx, len _ ln.2.2.2.2.2.1, fun p' hp' => k _ _ upd_same⟩⟩⟩
              · rw [eq.2.2.2.2.2.2.2] at k
                exact ⟨_, hT _, .ref f7, rfl, f7, rfl, _, _, _, Cal.fn c_meet m7, hr.mono (by decide), spL4_app.mpr ⟨trivial, fun x H2 s2 hx => ⟨x, rfl, _, s2 _ _ upd_same, _, hx, len _ ln.2.2.2.2.2.2.2, fun p' hp' => k _ _ upd_same⟩⟩⟩
end
theorem all_mk {P : Program} {w : World} {K : PySem.W.Frag} {h : Heap} {mg : Str → Option Value} {fa : Addr} (X : K.In h) (G : h.Ns mainGlobals mg) (hfa : mg "two" = some (.ref fa))
    {t_SIGN : Tok} (a_SIGN : PySem.W.nsIn K mainGlobals "SIGN" = some (some (.int (604462909807314587353088) t_SIGN)))
    {t_TOP : Tok} (a_TOP : PySem.W.nsIn K mainGlobals "TOP" = some (some (.int (9223372036854775808) t_TOP)))
    {t_BEYOND : Tok} (a_BEYOND : PySem.W.nsIn K mainGlobals "BEYOND" = some (some (.int (18446744073709551616) t_BEYOND)))
    {t_DIGITS : Tok} (a_DIGITS : PySem.W.nsIn K mainGlobals "DIGITS" = some (some (.int (64) t_DIGITS)))
    {t_LAST_EXPONENT : Tok} (a_LAST_EXPONENT : PySem.W.nsIn K mainGlobals "LAST_EXPONENT" = some (some (.int (32767) t_LAST_EXPONENT)))
    {t_OFFSET : Tok} (a_OFFSET : PySem.W.nsIn K mainGlobals "OFFSET" = some (some (.int (16446) t_OFFSET)))
    {t_PLUS_INFINITE : Tok} (a_PLUS_INFINITE : PySem.W.nsIn K mainGlobals "PLUS_INFINITE" = some (some (.int (604453686435277732577280) t_PLUS_INFINITE)))
    {t_MINUS_INFINITE : Tok} (a_MINUS_INFINITE : PySem.W.nsIn K mainGlobals "MINUS_INFINITE" = some (some (.int (1208916596242592319930368) t_MINUS_INFINITE)))
    {t_GREATEST : Tok} (a_GREATEST : PySem.W.nsIn K mainGlobals "GREATEST" = some (some (.int (604444463063240877801471) t_GREATEST)))
    {t_EMPTY : Tok} (a_EMPTY : PySem.W.nsIn K mainGlobals "EMPTY" = some (some (.int (1208921207928610747318272) t_EMPTY)))
    {t_INWARD : Tok} (a_INWARD : PySem.W.nsIn K mainGlobals "INWARD" = some (some (.int (0) t_INWARD)))
    {t_OUTWARD : Tok} (a_OUTWARD : PySem.W.nsIn K mainGlobals "OUTWARD" = some (some (.int (1) t_OUTWARD)))
    {t_NEAREST : Tok} (a_NEAREST : PySem.W.nsIn K mainGlobals "NEAREST" = some (some (.int (2) t_NEAREST)))
    {t_JOIN : Tok} (a_JOIN : PySem.W.nsIn K mainGlobals "JOIN" = some (some (.int (6) t_JOIN)))
    (b_len : PySem.W.nsIn K mainGlobals "len" = some none)
    (b_max : PySem.W.nsIn K mainGlobals "max" = some none)
    (b_min : PySem.W.nsIn K mainGlobals "min" = some none)
    {f_exponent_of : Addr} {od_exponent_of an_exponent_of : Option Addr} {sl_exponent_of : Array (Option Value)} {oc_exponent_of kV_exponent_of dc_exponent_of pm_exponent_of cd_exponent_of ct_exponent_of : Value} (a_exponent_of : PySem.W.nsIn K mainGlobals "exponent_of" = some (some (.ref f_exponent_of))) (l_exponent_of : K.lookup f_exponent_of = some ⟨oc_exponent_of, od_exponent_of, .func (PySem.W.fnOf "exponent_of" "exponent_of" (defArgs st_exponent_of) (defBody st_exponent_of) (defScope st_exponent_of) .none kV_exponent_of dc_exponent_of pm_exponent_of an_exponent_of cd_exponent_of ct_exponent_of), sl_exponent_of⟩) (q_exponent_of : PySem.W.codeIn K cd_exponent_of "exponent_of" = true) (k_exponent_of : PySem.W.keepIn K (.ref f_exponent_of) = true)
    {f_significand_of : Addr} {od_significand_of an_significand_of : Option Addr} {sl_significand_of : Array (Option Value)} {oc_significand_of kV_significand_of dc_significand_of pm_significand_of cd_significand_of ct_significand_of : Value} (a_significand_of : PySem.W.nsIn K mainGlobals "significand_of" = some (some (.ref f_significand_of))) (l_significand_of : K.lookup f_significand_of = some ⟨oc_significand_of, od_significand_of, .func (PySem.W.fnOf "significand_of" "significand_of" (defArgs st_significand_of) (defBody st_significand_of) (defScope st_significand_of) .none kV_significand_of dc_significand_of pm_significand_of an_significand_of cd_significand_of ct_significand_of), sl_significand_of⟩) (q_significand_of : PySem.W.codeIn K cd_significand_of "significand_of" = true) (k_significand_of : PySem.W.keepIn K (.ref f_significand_of) = true)
    {f_is_number : Addr} {od_is_number an_is_number : Option Addr} {sl_is_number : Array (Option Value)} {oc_is_number kV_is_number dc_is_number pm_is_number cd_is_number ct_is_number : Value} (a_is_number : PySem.W.nsIn K mainGlobals "is_number" = some (some (.ref f_is_number))) (l_is_number : K.lookup f_is_number = some ⟨oc_is_number, od_is_number, .func (PySem.W.fnOf "is_number" "is_number" (defArgs st_is_number) (defBody st_is_number) (defScope st_is_number) .none kV_is_number dc_is_number pm_is_number an_is_number cd_is_number ct_is_number), sl_is_number⟩) (q_is_number : PySem.W.codeIn K cd_is_number "is_number" = true) (k_is_number : PySem.W.keepIn K (.ref f_is_number) = true)
    {f_made_normal : Addr} {od_made_normal an_made_normal : Option Addr} {sl_made_normal : Array (Option Value)} {oc_made_normal kV_made_normal dc_made_normal pm_made_normal cd_made_normal ct_made_normal : Value} (a_made_normal : PySem.W.nsIn K mainGlobals "made_normal" = some (some (.ref f_made_normal))) (l_made_normal : K.lookup f_made_normal = some ⟨oc_made_normal, od_made_normal, .func (PySem.W.fnOf "made_normal" "made_normal" (defArgs st_made_normal) (defBody st_made_normal) (defScope st_made_normal) .none kV_made_normal dc_made_normal pm_made_normal an_made_normal cd_made_normal ct_made_normal), sl_made_normal⟩) (q_made_normal : PySem.W.codeIn K cd_made_normal "made_normal" = true) (k_made_normal : PySem.W.keepIn K (.ref f_made_normal) = true)
    {f_told : Addr} {od_told an_told : Option Addr} {sl_told : Array (Option Value)} {oc_told kV_told dc_told pm_told cd_told ct_told : Value} (a_told : PySem.W.nsIn K mainGlobals "told" = some (some (.ref f_told))) (l_told : K.lookup f_told = some ⟨oc_told, od_told, .func (PySem.W.fnOf "told" "told" (defArgs st_told) (defBody st_told) (defScope st_told) .none kV_told dc_told pm_told an_told cd_told ct_told), sl_told⟩) (q_told : PySem.W.codeIn K cd_told "told" = true) (k_told : PySem.W.keepIn K (.ref f_told) = true)
    {f_place : Addr} {od_place an_place : Option Addr} {sl_place : Array (Option Value)} {oc_place kV_place dc_place pm_place cd_place ct_place : Value} (a_place : PySem.W.nsIn K mainGlobals "place" = some (some (.ref f_place))) (l_place : K.lookup f_place = some ⟨oc_place, od_place, .func (PySem.W.fnOf "place" "place" (defArgs st_place) (defBody st_place) (defScope st_place) .none kV_place dc_place pm_place an_place cd_place ct_place), sl_place⟩) (q_place : PySem.W.codeIn K cd_place "place" = true) (k_place : PySem.W.keepIn K (.ref f_place) = true)
    {f_opposite : Addr} {od_opposite an_opposite : Option Addr} {sl_opposite : Array (Option Value)} {oc_opposite kV_opposite dc_opposite pm_opposite cd_opposite ct_opposite : Value} (a_opposite : PySem.W.nsIn K mainGlobals "opposite" = some (some (.ref f_opposite))) (l_opposite : K.lookup f_opposite = some ⟨oc_opposite, od_opposite, .func (PySem.W.fnOf "opposite" "opposite" (defArgs st_opposite) (defBody st_opposite) (defScope st_opposite) .none kV_opposite dc_opposite pm_opposite an_opposite cd_opposite ct_opposite), sl_opposite⟩) (q_opposite : PySem.W.codeIn K cd_opposite "opposite" = true) (k_opposite : PySem.W.keepIn K (.ref f_opposite) = true)
    {f_value_of : Addr} {od_value_of an_value_of : Option Addr} {sl_value_of : Array (Option Value)} {oc_value_of kV_value_of dc_value_of pm_value_of cd_value_of ct_value_of : Value} (a_value_of : PySem.W.nsIn K mainGlobals "value_of" = some (some (.ref f_value_of))) (l_value_of : K.lookup f_value_of = some ⟨oc_value_of, od_value_of, .func (PySem.W.fnOf "value_of" "value_of" (defArgs st_value_of) (defBody st_value_of) (defScope st_value_of) .none kV_value_of dc_value_of pm_value_of an_value_of cd_value_of ct_value_of), sl_value_of⟩) (q_value_of : PySem.W.codeIn K cd_value_of "value_of" = true) (k_value_of : PySem.W.keepIn K (.ref f_value_of) = true)
    {f_shortened : Addr} {od_shortened an_shortened : Option Addr} {sl_shortened : Array (Option Value)} {oc_shortened kV_shortened dc_shortened pm_shortened cd_shortened ct_shortened : Value} (a_shortened : PySem.W.nsIn K mainGlobals "shortened" = some (some (.ref f_shortened))) (l_shortened : K.lookup f_shortened = some ⟨oc_shortened, od_shortened, .func (PySem.W.fnOf "shortened" "shortened" (defArgs st_shortened) (defBody st_shortened) (defScope st_shortened) .none kV_shortened dc_shortened pm_shortened an_shortened cd_shortened ct_shortened), sl_shortened⟩) (q_shortened : PySem.W.codeIn K cd_shortened "shortened" = true) (k_shortened : PySem.W.keepIn K (.ref f_shortened) = true)
    {f_size_rounded : Addr} {od_size_rounded an_size_rounded : Option Addr} {sl_size_rounded : Array (Option Value)} {oc_size_rounded kV_size_rounded dc_size_rounded pm_size_rounded cd_size_rounded ct_size_rounded : Value} (a_size_rounded : PySem.W.nsIn K mainGlobals "size_rounded" = some (some (.ref f_size_rounded))) (l_size_rounded : K.lookup f_size_rounded = some ⟨oc_size_rounded, od_size_rounded, .func (PySem.W.fnOf "size_rounded" "size_rounded" (defArgs st_size_rounded) (defBody st_size_rounded) (defScope st_size_rounded) .none kV_size_rounded dc_size_rounded pm_size_rounded an_size_rounded cd_size_rounded ct_size_rounded), sl_size_rounded⟩) (q_size_rounded : PySem.W.codeIn K cd_size_rounded "size_rounded" = true) (k_size_rounded : PySem.W.keepIn K (.ref f_size_rounded) = true)
    {f_low_end : Addr} {od_low_end an_low_end : Option Addr} {sl_low_end : Array (Option Value)} {oc_low_end kV_low_end dc_low_end pm_low_end cd_low_end ct_low_end : Value} (a_low_end : PySem.W.nsIn K mainGlobals "low_end" = some (some (.ref f_low_end))) (l_low_end : K.lookup f_low_end = some ⟨oc_low_end, od_low_end, .func (PySem.W.fnOf "low_end" "low_end" (defArgs st_low_end) (defBody st_low_end) (defScope st_low_end) .none kV_low_end dc_low_end pm_low_end an_low_end cd_low_end ct_low_end), sl_low_end⟩) (q_low_end : PySem.W.codeIn K cd_low_end "low_end" = true) (k_low_end : PySem.W.keepIn K (.ref f_low_end) = true)
    {f_high_end : Addr} {od_high_end an_high_end : Option Addr} {sl_high_end : Array (Option Value)} {oc_high_end kV_high_end dc_high_end pm_high_end cd_high_end ct_high_end : Value} (a_high_end : PySem.W.nsIn K mainGlobals "high_end" = some (some (.ref f_high_end))) (l_high_end : K.lookup f_high_end = some ⟨oc_high_end, od_high_end, .func (PySem.W.fnOf "high_end" "high_end" (defArgs st_high_end) (defBody st_high_end) (defScope st_high_end) .none kV_high_end dc_high_end pm_high_end an_high_end cd_high_end ct_high_end), sl_high_end⟩) (q_high_end : PySem.W.codeIn K cd_high_end "high_end" = true) (k_high_end : PySem.W.keepIn K (.ref f_high_end) = true)
    {f_endless : Addr} {od_endless an_endless : Option Addr} {sl_endless : Array (Option Value)} {oc_endless kV_endless dc_endless pm_endless cd_endless ct_endless : Value} (a_endless : PySem.W.nsIn K mainGlobals "endless" = some (some (.ref f_endless))) (l_endless : K.lookup f_endless = some ⟨oc_endless, od_endless, .func (PySem.W.fnOf "endless" "endless" (defArgs st_endless) (defBody st_endless) (defScope st_endless) .none kV_endless dc_endless pm_endless an_endless cd_endless ct_endless), sl_endless⟩) (q_endless : PySem.W.codeIn K cd_endless "endless" = true) (k_endless : PySem.W.keepIn K (.ref f_endless) = true)
    {f_finer : Addr} {od_finer an_finer : Option Addr} {sl_finer : Array (Option Value)} {oc_finer kV_finer dc_finer pm_finer cd_finer ct_finer : Value} (a_finer : PySem.W.nsIn K mainGlobals "finer" = some (some (.ref f_finer))) (l_finer : K.lookup f_finer = some ⟨oc_finer, od_finer, .func (PySem.W.fnOf "finer" "finer" (defArgs st_finer) (defBody st_finer) (defScope st_finer) .none kV_finer dc_finer pm_finer an_finer cd_finer ct_finer), sl_finer⟩) (q_finer : PySem.W.codeIn K cd_finer "finer" = true) (k_finer : PySem.W.keepIn K (.ref f_finer) = true)
    {f_plus : Addr} {od_plus an_plus : Option Addr} {sl_plus : Array (Option Value)} {oc_plus kV_plus dc_plus pm_plus cd_plus ct_plus : Value} (a_plus : PySem.W.nsIn K mainGlobals "plus" = some (some (.ref f_plus))) (l_plus : K.lookup f_plus = some ⟨oc_plus, od_plus, .func (PySem.W.fnOf "plus" "plus" (defArgs st_plus) (defBody st_plus) (defScope st_plus) .none kV_plus dc_plus pm_plus an_plus cd_plus ct_plus), sl_plus⟩) (q_plus : PySem.W.codeIn K cd_plus "plus" = true) (k_plus : PySem.W.keepIn K (.ref f_plus) = true)
    {f_times : Addr} {od_times an_times : Option Addr} {sl_times : Array (Option Value)} {oc_times kV_times dc_times pm_times cd_times ct_times : Value} (a_times : PySem.W.nsIn K mainGlobals "times" = some (some (.ref f_times))) (l_times : K.lookup f_times = some ⟨oc_times, od_times, .func (PySem.W.fnOf "times" "times" (defArgs st_times) (defBody st_times) (defScope st_times) .none kV_times dc_times pm_times an_times cd_times ct_times), sl_times⟩) (q_times : PySem.W.codeIn K cd_times "times" = true) (k_times : PySem.W.keepIn K (.ref f_times) = true)
    {f_over : Addr} {od_over an_over : Option Addr} {sl_over : Array (Option Value)} {oc_over kV_over dc_over pm_over cd_over ct_over : Value} (a_over : PySem.W.nsIn K mainGlobals "over" = some (some (.ref f_over))) (l_over : K.lookup f_over = some ⟨oc_over, od_over, .func (PySem.W.fnOf "over" "over" (defArgs st_over) (defBody st_over) (defScope st_over) .none kV_over dc_over pm_over an_over cd_over ct_over), sl_over⟩) (q_over : PySem.W.codeIn K cd_over "over" = true) (k_over : PySem.W.keepIn K (.ref f_over) = true)
    {f_are_ends : Addr} {od_are_ends an_are_ends : Option Addr} {sl_are_ends : Array (Option Value)} {oc_are_ends kV_are_ends dc_are_ends pm_are_ends cd_are_ends ct_are_ends : Value} (a_are_ends : PySem.W.nsIn K mainGlobals "are_ends" = some (some (.ref f_are_ends))) (l_are_ends : K.lookup f_are_ends = some ⟨oc_are_ends, od_are_ends, .func (PySem.W.fnOf "are_ends" "are_ends" (defArgs st_are_ends) (defBody st_are_ends) (defScope st_are_ends) .none kV_are_ends dc_are_ends pm_are_ends an_are_ends cd_are_ends ct_are_ends), sl_are_ends⟩) (q_are_ends : PySem.W.codeIn K cd_are_ends "are_ends" = true) (k_are_ends : PySem.W.keepIn K (.ref f_are_ends) = true)
    {f_is_interval : Addr} {od_is_interval an_is_interval : Option Addr} {sl_is_interval : Array (Option Value)} {oc_is_interval kV_is_interval dc_is_interval pm_is_interval cd_is_interval ct_is_interval : Value} (a_is_interval : PySem.W.nsIn K mainGlobals "is_interval" = some (some (.ref f_is_interval))) (l_is_interval : K.lookup f_is_interval = some ⟨oc_is_interval, od_is_interval, .func (PySem.W.fnOf "is_interval" "is_interval" (defArgs st_is_interval) (defBody st_is_interval) (defScope st_is_interval) .none kV_is_interval dc_is_interval pm_is_interval an_is_interval cd_is_interval ct_is_interval), sl_is_interval⟩) (q_is_interval : PySem.W.codeIn K cd_is_interval "is_interval" = true) (k_is_interval : PySem.W.keepIn K (.ref f_is_interval) = true)
    {f_lesser : Addr} {od_lesser an_lesser : Option Addr} {sl_lesser : Array (Option Value)} {oc_lesser kV_lesser dc_lesser pm_lesser cd_lesser ct_lesser : Value} (a_lesser : PySem.W.nsIn K mainGlobals "lesser" = some (some (.ref f_lesser))) (l_lesser : K.lookup f_lesser = some ⟨oc_lesser, od_lesser, .func (PySem.W.fnOf "lesser" "lesser" (defArgs st_lesser) (defBody st_lesser) (defScope st_lesser) .none kV_lesser dc_lesser pm_lesser an_lesser cd_lesser ct_lesser), sl_lesser⟩) (q_lesser : PySem.W.codeIn K cd_lesser "lesser" = true) (k_lesser : PySem.W.keepIn K (.ref f_lesser) = true)
    {f_greater : Addr} {od_greater an_greater : Option Addr} {sl_greater : Array (Option Value)} {oc_greater kV_greater dc_greater pm_greater cd_greater ct_greater : Value} (a_greater : PySem.W.nsIn K mainGlobals "greater" = some (some (.ref f_greater))) (l_greater : K.lookup f_greater = some ⟨oc_greater, od_greater, .func (PySem.W.fnOf "greater" "greater" (defArgs st_greater) (defBody st_greater) (defScope st_greater) .none kV_greater dc_greater pm_greater an_greater cd_greater ct_greater), sl_greater⟩) (q_greater : PySem.W.codeIn K cd_greater "greater" = true) (k_greater : PySem.W.keepIn K (.ref f_greater) = true)
    {f_add : Addr} {od_add an_add : Option Addr} {sl_add : Array (Option Value)} {oc_add kV_add dc_add pm_add cd_add ct_add : Value} (a_add : PySem.W.nsIn K mainGlobals "add" = some (some (.ref f_add))) (l_add : K.lookup f_add = some ⟨oc_add, od_add, .func (PySem.W.fnOf "add" "add" (defArgs st_add) (defBody st_add) (defScope st_add) .none kV_add dc_add pm_add an_add cd_add ct_add), sl_add⟩) (q_add : PySem.W.codeIn K cd_add "add" = true) (k_add : PySem.W.keepIn K (.ref f_add) = true)
    {f_sub : Addr} {od_sub an_sub : Option Addr} {sl_sub : Array (Option Value)} {oc_sub kV_sub dc_sub pm_sub cd_sub ct_sub : Value} (a_sub : PySem.W.nsIn K mainGlobals "sub" = some (some (.ref f_sub))) (l_sub : K.lookup f_sub = some ⟨oc_sub, od_sub, .func (PySem.W.fnOf "sub" "sub" (defArgs st_sub) (defBody st_sub) (defScope st_sub) .none kV_sub dc_sub pm_sub an_sub cd_sub ct_sub), sl_sub⟩) (q_sub : PySem.W.codeIn K cd_sub "sub" = true) (k_sub : PySem.W.keepIn K (.ref f_sub) = true)
    {f_mul : Addr} {od_mul an_mul : Option Addr} {sl_mul : Array (Option Value)} {oc_mul kV_mul dc_mul pm_mul cd_mul ct_mul : Value} (a_mul : PySem.W.nsIn K mainGlobals "mul" = some (some (.ref f_mul))) (l_mul : K.lookup f_mul = some ⟨oc_mul, od_mul, .func (PySem.W.fnOf "mul" "mul" (defArgs st_mul) (defBody st_mul) (defScope st_mul) .none kV_mul dc_mul pm_mul an_mul cd_mul ct_mul), sl_mul⟩) (q_mul : PySem.W.codeIn K cd_mul "mul" = true) (k_mul : PySem.W.keepIn K (.ref f_mul) = true)
    {f_div_above_zero : Addr} {od_div_above_zero an_div_above_zero : Option Addr} {sl_div_above_zero : Array (Option Value)} {oc_div_above_zero kV_div_above_zero dc_div_above_zero pm_div_above_zero cd_div_above_zero ct_div_above_zero : Value} (a_div_above_zero : PySem.W.nsIn K mainGlobals "div_above_zero" = some (some (.ref f_div_above_zero))) (l_div_above_zero : K.lookup f_div_above_zero = some ⟨oc_div_above_zero, od_div_above_zero, .func (PySem.W.fnOf "div_above_zero" "div_above_zero" (defArgs st_div_above_zero) (defBody st_div_above_zero) (defScope st_div_above_zero) .none kV_div_above_zero dc_div_above_zero pm_div_above_zero an_div_above_zero cd_div_above_zero ct_div_above_zero), sl_div_above_zero⟩) (q_div_above_zero : PySem.W.codeIn K cd_div_above_zero "div_above_zero" = true) (k_div_above_zero : PySem.W.keepIn K (.ref f_div_above_zero) = true)
    {f_div_around_zero : Addr} {od_div_around_zero an_div_around_zero : Option Addr} {sl_div_around_zero : Array (Option Value)} {oc_div_around_zero kV_div_around_zero dc_div_around_zero pm_div_around_zero cd_div_around_zero ct_div_around_zero : Value} (a_div_around_zero : PySem.W.nsIn K mainGlobals "div_around_zero" = some (some (.ref f_div_around_zero))) (l_div_around_zero : K.lookup f_div_around_zero = some ⟨oc_div_around_zero, od_div_around_zero, .func (PySem.W.fnOf "div_around_zero" "div_around_zero" (defArgs st_div_around_zero) (defBody st_div_around_zero) (defScope st_div_around_zero) .none kV_div_around_zero dc_div_around_zero pm_div_around_zero an_div_around_zero cd_div_around_zero ct_div_around_zero), sl_div_around_zero⟩) (q_div_around_zero : PySem.W.codeIn K cd_div_around_zero "div_around_zero" = true) (k_div_around_zero : PySem.W.keepIn K (.ref f_div_around_zero) = true)
    {f_div : Addr} {od_div an_div : Option Addr} {sl_div : Array (Option Value)} {oc_div kV_div dc_div pm_div cd_div ct_div : Value} (a_div : PySem.W.nsIn K mainGlobals "div" = some (some (.ref f_div))) (l_div : K.lookup f_div = some ⟨oc_div, od_div, .func (PySem.W.fnOf "div" "div" (defArgs st_div) (defBody st_div) (defScope st_div) .none kV_div dc_div pm_div an_div cd_div ct_div), sl_div⟩) (q_div : PySem.W.codeIn K cd_div "div" = true) (k_div : PySem.W.keepIn K (.ref f_div) = true)
    {f_least : Addr} {od_least an_least : Option Addr} {sl_least : Array (Option Value)} {oc_least kV_least dc_least pm_least cd_least ct_least : Value} (a_least : PySem.W.nsIn K mainGlobals "least" = some (some (.ref f_least))) (l_least : K.lookup f_least = some ⟨oc_least, od_least, .func (PySem.W.fnOf "least" "least" (defArgs st_least) (defBody st_least) (defScope st_least) .none kV_least dc_least pm_least an_least cd_least ct_least), sl_least⟩) (q_least : PySem.W.codeIn K cd_least "least" = true) (k_least : PySem.W.keepIn K (.ref f_least) = true)
    {f_greatest : Addr} {od_greatest an_greatest : Option Addr} {sl_greatest : Array (Option Value)} {oc_greatest kV_greatest dc_greatest pm_greatest cd_greatest ct_greatest : Value} (a_greatest : PySem.W.nsIn K mainGlobals "greatest" = some (some (.ref f_greatest))) (l_greatest : K.lookup f_greatest = some ⟨oc_greatest, od_greatest, .func (PySem.W.fnOf "greatest" "greatest" (defArgs st_greatest) (defBody st_greatest) (defScope st_greatest) .none kV_greatest dc_greatest pm_greatest an_greatest cd_greatest ct_greatest), sl_greatest⟩) (q_greatest : PySem.W.codeIn K cd_greatest "greatest" = true) (k_greatest : PySem.W.keepIn K (.ref f_greatest) = true)
    {f_join : Addr} {od_join an_join : Option Addr} {sl_join : Array (Option Value)} {oc_join kV_join dc_join pm_join cd_join ct_join : Value} (a_join : PySem.W.nsIn K mainGlobals "join" = some (some (.ref f_join))) (l_join : K.lookup f_join = some ⟨oc_join, od_join, .func (PySem.W.fnOf "join" "join" (defArgs st_join) (defBody st_join) (defScope st_join) .none kV_join dc_join pm_join an_join cd_join ct_join), sl_join⟩) (q_join : PySem.W.codeIn K cd_join "join" = true) (k_join : PySem.W.keepIn K (.ref f_join) = true)
    {f_meet : Addr} {od_meet an_meet : Option Addr} {sl_meet : Array (Option Value)} {oc_meet kV_meet dc_meet pm_meet cd_meet ct_meet : Value} (a_meet : PySem.W.nsIn K mainGlobals "meet" = some (some (.ref f_meet))) (l_meet : K.lookup f_meet = some ⟨oc_meet, od_meet, .func (PySem.W.fnOf "meet" "meet" (defArgs st_meet) (defBody st_meet) (defScope st_meet) .none kV_meet dc_meet pm_meet an_meet cd_meet ct_meet), sl_meet⟩) (q_meet : PySem.W.codeIn K cd_meet "meet" = true) (k_meet : PySem.W.keepIn K (.ref f_meet) = true)
    {f_two : Addr} {od_two an_two : Option Addr} {sl_two : Array (Option Value)} {oc_two kV_two dc_two pm_two cd_two ct_two : Value} (a_two : PySem.W.nsIn K mainGlobals "two" = some (some (.ref f_two))) (l_two : K.lookup f_two = some ⟨oc_two, od_two, .func (PySem.W.fnOf "two" "two" (defArgs st_two) (defBody st_two) (defScope st_two) .none kV_two dc_two pm_two an_two cd_two ct_two), sl_two⟩) (q_two : PySem.W.codeIn K cd_two "two" = true) (k_two : PySem.W.keepIn K (.ref f_two) = true)
    {C f_I : Addr} {od_I an_I : Option Addr} {sl_I : Array (Option Value)} {oc_I kV_I dc_I pm_I cd_I ct_I : Value} (v_C : PySem.W.nsIn K mainGlobals "Value" = some (some (.ref C))) (v_i : PySem.W.findIn K (.ref C) "__init__" = some (some (.ref f_I))) (v_f : PySem.W.isFn K (.ref f_I) = true) (v_l : K.lookup f_I = some ⟨oc_I, od_I, .func (PySem.W.fnOf "__init__" "Value.__init__" (defArgs st_Value___init__) (defBody st_Value___init__) (defScope st_Value___init__) .none kV_I dc_I pm_I an_I cd_I ct_I), sl_I⟩) (v_q : PySem.W.codeIn K cd_I "Value.__init__" = true) (v_k : PySem.W.keepIn K (.ref f_I) = true) (v_g : PySem.W.plainGet K C Str.empty = true) (v_d : PySem.W.hasDictIn K C = true) (v_o : PySem.W.plainOver K C = true) (v_s : PySem.W.findIn K (.ref C) "__setattr__" = some (some (.builtin "object.__setattr__"))) (v_m : PySem.W.makesIn K C = true) (v_c : PySem.W.keepIn K (.ref C) = true) (v_1 : PySem.W.findIn K (.ref C) "whole" = some none) (v_2 : PySem.W.findIn K (.ref C) "power" = some none) (v_3 : PySem.W.findIn K (.ref C) "infinite" = some none)
    {T_TWO : Addr} {od_TWO : Option Addr} {nn_TWO : Nat} {sl_TWO : Array (Option Value)}  (u_TWO_a : PySem.W.nsIn K mainGlobals "TWO" = some (some (.ref T_TWO))) (u_TWO_l : K.lookup T_TWO = some ⟨.type "tuple", od_TWO, .seq #[.ref f_add, .ref f_sub, .ref f_mul, .ref f_div, .ref f_least, .ref f_greatest, .ref f_join, .ref f_meet] nn_TWO, sl_TWO⟩)
    : ∃ fd : FuncData, (∀ (s : Shared) (us : List Value), us.length = (["op", "low", "high", "other_low", "other_high"] : List Str).length → BindsTo s fd ⟨us, []⟩ ((["op", "low", "high", "other_low", "other_high"] : List Str).zip us)) ∧ ∀ base : Heap, K.In base → base.Ns mainGlobals mg → FnOk P w K mg base CX0 12 fa fd ["op", "low", "high", "other_low", "other_high"] (sp_two 0) := by
  have e := hfa.symm.trans (PySem.W.mg_of X G a_two)
  cases e
  have gSIGN : IntG mg "SIGN" (604462909807314587353088) := ⟨_, PySem.W.mg_of X G a_SIGN⟩
  have gTOP : IntG mg "TOP" (9223372036854775808) := ⟨_, PySem.W.mg_of X G a_TOP⟩
  have gBEYOND : IntG mg "BEYOND" (18446744073709551616) := ⟨_, PySem.W.mg_of X G a_BEYOND⟩
  have gDIGITS : IntG mg "DIGITS" (64) := ⟨_, PySem.W.mg_of X G a_DIGITS⟩
  have gLAST_EXPONENT : IntG mg "LAST_EXPONENT" (32767) := ⟨_, PySem.W.mg_of X G a_LAST_EXPONENT⟩
  have gOFFSET : IntG mg "OFFSET" (16446) := ⟨_, PySem.W.mg_of X G a_OFFSET⟩
  have gPLUS_INFINITE : IntG mg "PLUS_INFINITE" (604453686435277732577280) := ⟨_, PySem.W.mg_of X G a_PLUS_INFINITE⟩
  have gMINUS_INFINITE : IntG mg "MINUS_INFINITE" (1208916596242592319930368) := ⟨_, PySem.W.mg_of X G a_MINUS_INFINITE⟩
  have gGREATEST : IntG mg "GREATEST" (604444463063240877801471) := ⟨_, PySem.W.mg_of X G a_GREATEST⟩
  have gEMPTY : IntG mg "EMPTY" (1208921207928610747318272) := ⟨_, PySem.W.mg_of X G a_EMPTY⟩
  have gINWARD : IntG mg "INWARD" (0) := ⟨_, PySem.W.mg_of X G a_INWARD⟩
  have gOUTWARD : IntG mg "OUTWARD" (1) := ⟨_, PySem.W.mg_of X G a_OUTWARD⟩
  have gNEAREST : IntG mg "NEAREST" (2) := ⟨_, PySem.W.mg_of X G a_NEAREST⟩
  have gJOIN : IntG mg "JOIN" (6) := ⟨_, PySem.W.mg_of X G a_JOIN⟩
  have n_len : mg "len" = none := PySem.W.mg_none_of X G b_len
  have n_max : mg "max" = none := PySem.W.mg_none_of X G b_max
  have n_min : mg "min" = none := PySem.W.mg_none_of X G b_min
  have F_exponent_of := fun_mk (st := st_exponent_of) l_exponent_of q_exponent_of k_exponent_of
  have T_exponent_of : At K mg "exponent_of" st_exponent_of ["bits"] := ⟨_, _, F_exponent_of, PySem.W.mg_of X G a_exponent_of, F_exponent_of.binds (ps := ["bits"]) fun _ _ _ _ _ _ us hl => match us, hl with | [_], _ => rfl⟩
  have F_significand_of := fun_mk (st := st_significand_of) l_significand_of q_significand_of k_significand_of
  have T_significand_of : At K mg "significand_of" st_significand_of ["bits"] := ⟨_, _, F_significand_of, PySem.W.mg_of X G a_significand_of, F_significand_of.binds (ps := ["bits"]) fun _ _ _ _ _ _ us hl => match us, hl with | [_], _ => rfl⟩
  have F_is_number := fun_mk (st := st_is_number) l_is_number q_is_number k_is_number
  have T_is_number : At K mg "is_number" st_is_number ["bits"] := ⟨_, _, F_is_number, PySem.W.mg_of X G a_is_number, F_is_number.binds (ps := ["bits"]) fun _ _ _ _ _ _ us hl => match us, hl with | [_], _ => rfl⟩
  have F_made_normal := fun_mk (st := st_made_normal) l_made_normal q_made_normal k_made_normal
  have T_made_normal : At K mg "made_normal" st_made_normal ["bits"] := ⟨_, _, F_made_normal, PySem.W.mg_of X G a_made_normal, F_made_normal.binds (ps := ["bits"]) fun _ _ _ _ _ _ us hl => match us, hl with | [_], _ => rfl⟩
  have F_told := fun_mk (st := st_told) l_told q_told k_told
  have T_told : At K mg "told" st_told ["bits"] := ⟨_, _, F_told, PySem.W.mg_of X G a_told, F_told.binds (ps := ["bits"]) fun _ _ _ _ _ _ us hl => match us, hl with | [_], _ => rfl⟩
  have F_place := fun_mk (st := st_place) l_place q_place k_place
  have T_place : At K mg "place" st_place ["bits"] := ⟨_, _, F_place, PySem.W.mg_of X G a_place, F_place.binds (ps := ["bits"]) fun _ _ _ _ _ _ us hl => match us, hl with | [_], _ => rfl⟩
  have F_opposite := fun_mk (st := st_opposite) l_opposite q_opposite k_opposite
  have T_opposite : At K mg "opposite" st_opposite ["bits"] := ⟨_, _, F_opposite, PySem.W.mg_of X G a_opposite, F_opposite.binds (ps := ["bits"]) fun _ _ _ _ _ _ us hl => match us, hl with | [_], _ => rfl⟩
  have F_value_of := fun_mk (st := st_value_of) l_value_of q_value_of k_value_of
  have T_value_of : At K mg "value_of" st_value_of ["bits"] := ⟨_, _, F_value_of, PySem.W.mg_of X G a_value_of, F_value_of.binds (ps := ["bits"]) fun _ _ _ _ _ _ us hl => match us, hl with | [_], _ => rfl⟩
  have F_shortened := fun_mk (st := st_shortened) l_shortened q_shortened k_shortened
  have T_shortened : At K mg "shortened" st_shortened ["whole", "dropped", "rounding"] := ⟨_, _, F_shortened, PySem.W.mg_of X G a_shortened, F_shortened.binds (ps := ["whole", "dropped", "rounding"]) fun _ _ _ _ _ _ us hl => match us, hl with | [_, _, _], _ => rfl⟩
  have F_size_rounded := fun_mk (st := st_size_rounded) l_size_rounded q_size_rounded k_size_rounded
  have T_size_rounded : At K mg "size_rounded" st_size_rounded ["whole", "power", "rounding"] := ⟨_, _, F_size_rounded, PySem.W.mg_of X G a_size_rounded, F_size_rounded.binds (ps := ["whole", "power", "rounding"]) fun _ _ _ _ _ _ us hl => match us, hl with | [_, _, _], _ => rfl⟩
  have F_low_end := fun_mk (st := st_low_end) l_low_end q_low_end k_low_end
  have T_low_end : At K mg "low_end" st_low_end ["value"] := ⟨_, _, F_low_end, PySem.W.mg_of X G a_low_end, F_low_end.binds (ps := ["value"]) fun _ _ _ _ _ _ us hl => match us, hl with | [_], _ => rfl⟩
  have F_high_end := fun_mk (st := st_high_end) l_high_end q_high_end k_high_end
  have T_high_end : At K mg "high_end" st_high_end ["value"] := ⟨_, _, F_high_end, PySem.W.mg_of X G a_high_end, F_high_end.binds (ps := ["value"]) fun _ _ _ _ _ _ us hl => match us, hl with | [_], _ => rfl⟩
  have F_endless := fun_mk (st := st_endless) l_endless q_endless k_endless
  have T_endless : At K mg "endless" st_endless ["whole"] := ⟨_, _, F_endless, PySem.W.mg_of X G a_endless, F_endless.binds (ps := ["whole"]) fun _ _ _ _ _ _ us hl => match us, hl with | [_], _ => rfl⟩
  have F_finer := fun_mk (st := st_finer) l_finer q_finer k_finer
  have T_finer : At K mg "finer" st_finer ["whole", "power", "exact"] := ⟨_, _, F_finer, PySem.W.mg_of X G a_finer, F_finer.binds (ps := ["whole", "power", "exact"]) fun _ _ _ _ _ _ us hl => match us, hl with | [_, _, _], _ => rfl⟩
  have F_plus := fun_mk (st := st_plus) l_plus q_plus k_plus
  have T_plus : At K mg "plus" st_plus ["value", "other"] := ⟨_, _, F_plus, PySem.W.mg_of X G a_plus, F_plus.binds (ps := ["value", "other"]) fun _ _ _ _ _ _ us hl => match us, hl with | [_, _], _ => rfl⟩
  have F_times := fun_mk (st := st_times) l_times q_times k_times
  have T_times : At K mg "times" st_times ["value", "other"] := ⟨_, _, F_times, PySem.W.mg_of X G a_times, F_times.binds (ps := ["value", "other"]) fun _ _ _ _ _ _ us hl => match us, hl with | [_, _], _ => rfl⟩
  have F_over := fun_mk (st := st_over) l_over q_over k_over
  have T_over : At K mg "over" st_over ["value", "other"] := ⟨_, _, F_over, PySem.W.mg_of X G a_over, F_over.binds (ps := ["value", "other"]) fun _ _ _ _ _ _ us hl => match us, hl with | [_, _], _ => rfl⟩
  have F_are_ends := fun_mk (st := st_are_ends) l_are_ends q_are_ends k_are_ends
  have T_are_ends : At K mg "are_ends" st_are_ends ["low", "high"] := ⟨_, _, F_are_ends, PySem.W.mg_of X G a_are_ends, F_are_ends.binds (ps := ["low", "high"]) fun _ _ _ _ _ _ us hl => match us, hl with | [_, _], _ => rfl⟩
  have F_is_interval := fun_mk (st := st_is_interval) l_is_interval q_is_interval k_is_interval
  have T_is_interval : At K mg "is_interval" st_is_interval ["low", "high"] := ⟨_, _, F_is_interval, PySem.W.mg_of X G a_is_interval, F_is_interval.binds (ps := ["low", "high"]) fun _ _ _ _ _ _ us hl => match us, hl with | [_, _], _ => rfl⟩
  have F_lesser := fun_mk (st := st_lesser) l_lesser q_lesser k_lesser
  have T_lesser : At K mg "lesser" st_lesser ["number", "other"] := ⟨_, _, F_lesser, PySem.W.mg_of X G a_lesser, F_lesser.binds (ps := ["number", "other"]) fun _ _ _ _ _ _ us hl => match us, hl with | [_, _], _ => rfl⟩
  have F_greater := fun_mk (st := st_greater) l_greater q_greater k_greater
  have T_greater : At K mg "greater" st_greater ["number", "other"] := ⟨_, _, F_greater, PySem.W.mg_of X G a_greater, F_greater.binds (ps := ["number", "other"]) fun _ _ _ _ _ _ us hl => match us, hl with | [_, _], _ => rfl⟩
  have F_add := fun_mk (st := st_add) l_add q_add k_add
  have T_add : At K mg "add" st_add ["low", "high", "other_low", "other_high"] := ⟨_, _, F_add, PySem.W.mg_of X G a_add, F_add.binds (ps := ["low", "high", "other_low", "other_high"]) fun _ _ _ _ _ _ us hl => match us, hl with | [_, _, _, _], _ => rfl⟩
  have F_sub := fun_mk (st := st_sub) l_sub q_sub k_sub
  have T_sub : At K mg "sub" st_sub ["low", "high", "other_low", "other_high"] := ⟨_, _, F_sub, PySem.W.mg_of X G a_sub, F_sub.binds (ps := ["low", "high", "other_low", "other_high"]) fun _ _ _ _ _ _ us hl => match us, hl with | [_, _, _, _], _ => rfl⟩
  have F_mul := fun_mk (st := st_mul) l_mul q_mul k_mul
  have T_mul : At K mg "mul" st_mul ["low", "high", "other_low", "other_high"] := ⟨_, _, F_mul, PySem.W.mg_of X G a_mul, F_mul.binds (ps := ["low", "high", "other_low", "other_high"]) fun _ _ _ _ _ _ us hl => match us, hl with | [_, _, _, _], _ => rfl⟩
  have F_div_above_zero := fun_mk (st := st_div_above_zero) l_div_above_zero q_div_above_zero k_div_above_zero
  have T_div_above_zero : At K mg "div_above_zero" st_div_above_zero ["low", "high", "other_low", "other_high"] := ⟨_, _, F_div_above_zero, PySem.W.mg_of X G a_div_above_zero, F_div_above_zero.binds (ps := ["low", "high", "other_low", "other_high"]) fun _ _ _ _ _ _ us hl => match us, hl with | [_, _, _, _], _ => rfl⟩
  have F_div_around_zero := fun_mk (st := st_div_around_zero) l_div_around_zero q_div_around_zero k_div_around_zero
  have T_div_around_zero : At K mg "div_around_zero" st_div_around_zero ["low", "high"] := ⟨_, _, F_div_around_zero, PySem.W.mg_of X G a_div_around_zero, F_div_around_zero.binds (ps := ["low", "high"]) fun _ _ _ _ _ _ us hl => match us, hl with | [_, _], _ => rfl⟩
  have F_div := fun_mk (st := st_div) l_div q_div k_div
  have T_div : At K mg "div" st_div ["low", "high", "other_low", "other_high"] := ⟨_, _, F_div, PySem.W.mg_of X G a_div, F_div.binds (ps := ["low", "high", "other_low", "other_high"]) fun _ _ _ _ _ _ us hl => match us, hl with | [_, _, _, _], _ => rfl⟩
  have F_least := fun_mk (st := st_least) l_least q_least k_least
  have T_least : At K mg "least" st_least ["low", "high", "other_low", "other_high"] := ⟨_, _, F_least, PySem.W.mg_of X G a_least, F_least.binds (ps := ["low", "high", "other_low", "other_high"]) fun _ _ _ _ _ _ us hl => match us, hl with | [_, _, _, _], _ => rfl⟩
  have F_greatest := fun_mk (st := st_greatest) l_greatest q_greatest k_greatest
  have T_greatest : At K mg "greatest" st_greatest ["low", "high", "other_low", "other_high"] := ⟨_, _, F_greatest, PySem.W.mg_of X G a_greatest, F_greatest.binds (ps := ["low", "high", "other_low", "other_high"]) fun _ _ _ _ _ _ us hl => match us, hl with | [_, _, _, _], _ => rfl⟩
  have F_join := fun_mk (st := st_join) l_join q_join k_join
  have T_join : At K mg "join" st_join ["low", "high", "other_low", "other_high"] := ⟨_, _, F_join, PySem.W.mg_of X G a_join, F_join.binds (ps := ["low", "high", "other_low", "other_high"]) fun _ _ _ _ _ _ us hl => match us, hl with | [_, _, _, _], _ => rfl⟩
  have F_meet := fun_mk (st := st_meet) l_meet q_meet k_meet
  have T_meet : At K mg "meet" st_meet ["low", "high", "other_low", "other_high"] := ⟨_, _, F_meet, PySem.W.mg_of X G a_meet, F_meet.binds (ps := ["low", "high", "other_low", "other_high"]) fun _ _ _ _ _ _ us hl => match us, hl with | [_, _, _, _], _ => rfl⟩
  have F_two := fun_mk (st := st_two) l_two q_two k_two
  have VT : VTxt K C := ⟨⟨v_g, v_d, v_o, v_s⟩, v_1, v_2, v_3⟩
  have F_I := fun_mk (st := st_Value___init__) v_l v_q v_k
  have B_I := F_I.binds (ps := ["self", "whole", "power", "infinite"]) fun _ _ _ _ _ _ us hl => match us, hl with | [_, _, _, _], _ => rfl
  have hTWO : ∀ H : Hp, SqT K H T_TWO [.ref f_add, .ref f_sub, .ref f_mul, .ref f_div, .ref f_least, .ref f_greatest, .ref f_join, .ref f_meet] := fun H => .inr ⟨_, _, _, u_TWO_l, rfl, rfl, by show 8 ≤ sizeLine; decide, (.cons rfl (.cons rfl (.cons rfl (.cons rfl (.cons rfl (.cons rfl (.cons rfl (.cons rfl .nil))))))))⟩
  refine ⟨PySem.W.fnOf "two" "two" (defArgs st_two) (defBody st_two) (defScope st_two) .none kV_two dc_two pm_two an_two cd_two ct_two, fun s us hu => match us, hu with | [_, _, _, _, _], _ => .of_eq rfl, fun base _ _ => ?_⟩
  have mkV : MkV P w K mg base C 1 := ⟨f_I, _, ⟨v_m, v_i, v_f, v_c⟩, ok_init F_I VT, PySem.W.mg_of X G v_C, B_I⟩
  have c_exponent_of := ok_exponent_of (P := P) (w := w) (base := base) T_exponent_of gBEYOND gSIGN
  have c_significand_of := ok_significand_of (P := P) (w := w) (base := base) T_significand_of gBEYOND
  have c_is_number := ok_is_number (P := P) (w := w) (base := base) T_is_number c_exponent_of gLAST_EXPONENT gTOP c_significand_of
  have c_made_normal := ok_made_normal (P := P) (w := w) (base := base) T_made_normal gTOP gBEYOND c_exponent_of c_significand_of
  have c_told := ok_told (P := P) (w := w) (base := base) T_told gSIGN c_made_normal
  have c_place := ok_place (P := P) (w := w) (base := base) T_place c_made_normal gSIGN
  have c_opposite := ok_opposite (P := P) (w := w) (base := base) T_opposite c_told gSIGN
  have c_value_of := ok_value_of (P := P) (w := w) (base := base) T_value_of VT mkV n_max c_significand_of gSIGN c_exponent_of gOFFSET gLAST_EXPONENT
  have c_shortened := ok_shortened (P := P) (w := w) (base := base) T_shortened gOUTWARD gNEAREST
  have c_size_rounded := ok_size_rounded (P := P) (w := w) (base := base) T_size_rounded n_max c_shortened gBEYOND gTOP gLAST_EXPONENT gOFFSET gGREATEST gPLUS_INFINITE gDIGITS gINWARD
  have c_low_end := ok_low_end (P := P) (w := w) (base := base) T_low_end VT mkV gSIGN gPLUS_INFINITE gMINUS_INFINITE c_size_rounded gINWARD gOUTWARD
  have c_high_end := ok_high_end (P := P) (w := w) (base := base) T_high_end VT mkV c_opposite c_low_end
  have c_endless := ok_endless (P := P) (w := w) (base := base) T_endless VT mkV
  have c_finer := ok_finer (P := P) (w := w) (base := base) T_finer VT mkV
  have c_plus := ok_plus (P := P) (w := w) (base := base) T_plus VT mkV n_min
  have c_times := ok_times (P := P) (w := w) (base := base) T_times VT mkV c_endless
  have c_over := ok_over (P := P) (w := w) (base := base) T_over VT mkV gDIGITS c_finer c_endless
  have c_are_ends := ok_are_ends (P := P) (w := w) (base := base) T_are_ends gPLUS_INFINITE gMINUS_INFINITE c_place
  have c_is_interval := ok_is_interval (P := P) (w := w) (base := base) T_is_interval gEMPTY c_is_number c_are_ends
  have c_lesser := ok_lesser (P := P) (w := w) (base := base) T_lesser n_min c_place
  have c_greater := ok_greater (P := P) (w := w) (base := base) T_greater n_max c_place
  have c_add := ok_add (P := P) (w := w) (base := base) T_add VT mkV c_plus c_value_of c_low_end c_high_end
  have c_sub := ok_sub (P := P) (w := w) (base := base) T_sub VT mkV c_add c_opposite
  have c_mul := ok_mul (P := P) (w := w) (base := base) T_mul VT mkV n_min n_max c_times c_place c_value_of c_low_end c_high_end
  have c_div_above_zero := ok_div_above_zero (P := P) (w := w) (base := base) T_div_above_zero VT mkV c_over c_value_of c_low_end c_high_end c_place
  have c_div_around_zero := ok_div_around_zero (P := P) (w := w) (base := base) T_div_around_zero gMINUS_INFINITE gPLUS_INFINITE
  have c_div := ok_div (P := P) (w := w) (base := base) T_div VT mkV c_div_above_zero gEMPTY c_div_around_zero c_place c_opposite
  have c_least := ok_least (P := P) (w := w) (base := base) T_least c_lesser
  have c_greatest := ok_greatest (P := P) (w := w) (base := base) T_greatest c_greater
  have c_join := ok_join (P := P) (w := w) (base := base) T_join gEMPTY c_lesser c_greater
  have c_meet := ok_meet (P := P) (w := w) (base := base) T_meet c_greater c_lesser c_place gEMPTY
  have r := ok_two (P := P) (w := w) (base := base) F_two VT mkV n_len (PySem.W.mg_of X G u_TWO_a) gJOIN gEMPTY c_is_interval c_told hTWO (PySem.W.mg_of X G a_add) c_add (PySem.W.mg_of X G a_sub) c_sub (PySem.W.mg_of X G a_mul) c_mul (PySem.W.mg_of X G a_div) c_div (PySem.W.mg_of X G a_least) c_least (PySem.W.mg_of X G a_greatest) c_greatest (PySem.W.mg_of X G a_join) c_join (PySem.W.mg_of X G a_meet) c_meet
  exact r
end Tw
open PySem PySem.W PyProof.Rows
set_option maxRecDepth 100000 in
set_option maxHeartbeats 0 in
theorem PySem.Challenge.cw_betwixt_s03_two_holds : PySem.Challenge.rw_betwixt_s03_two.Holds := by
  w_on; k_headS; (case hw => exact ⟨[.int 0, .int 0, .int 0, .int 0, .int 0], by decide +kernel, by decide +kernel⟩)
  k_fillS
  refine L2.walk_specK (r := PySem.Challenge.rw_betwixt_s03_two) (k := 12) (CX := L2.CX0) (ps := ["op", "low", "high", "other_low", "other_high"]) (sp := fun _ => (Tw.sp_two 0)) (by decide +kernel) rfl rfl ⟨rfl, by decide, by decide⟩ (fun w h Y => PySem.W.kIn_of Y) ?F ?S (fun _ _ _ _ z => z)
  case F =>
    intro w mg fa h Y KX G hmg
    refine' Tw.all_mk KX G hmg ?a_SIGN ?a_TOP ?a_BEYOND ?a_DIGITS ?a_LAST_EXPONENT ?a_OFFSET ?a_PLUS_INFINITE ?a_MINUS_INFINITE ?a_GREATEST ?a_EMPTY ?a_INWARD ?a_OUTWARD ?a_NEAREST ?a_JOIN ?b_len ?b_max ?b_min ?a_exponent_of ?l_exponent_of ?q_exponent_of ?k_exponent_of ?a_significand_of ?l_significand_of ?q_significand_of ?k_significand_of ?a_is_number ?l_is_number ?q_is_number ?k_is_number ?a_made_normal ?l_made_normal ?q_made_normal ?k_made_normal ?a_told ?l_told ?q_told ?k_told ?a_place ?l_place ?q_place ?k_place ?a_opposite ?l_opposite ?q_opposite ?k_opposite ?a_value_of ?l_value_of ?q_value_of ?k_value_of ?a_shortened ?l_shortened ?q_shortened ?k_shortened ?a_size_rounded ?l_size_rounded ?q_size_rounded ?k_size_rounded ?a_low_end ?l_low_end ?q_low_end ?k_low_end ?a_high_end ?l_high_end ?q_high_end ?k_high_end ?a_endless ?l_endless ?q_endless ?k_endless ?a_finer ?l_finer ?q_finer ?k_finer ?a_plus ?l_plus ?q_plus ?k_plus ?a_times ?l_times ?q_times ?k_times ?a_over ?l_over ?q_over ?k_over ?a_are_ends ?l_are_ends ?q_are_ends ?k_are_ends ?a_is_interval ?l_is_interval ?q_is_interval ?k_is_interval ?a_lesser ?l_lesser ?q_lesser ?k_lesser ?a_greater ?l_greater ?q_greater ?k_greater ?a_add ?l_add ?q_add ?k_add ?a_sub ?l_sub ?q_sub ?k_sub ?a_mul ?l_mul ?q_mul ?k_mul ?a_div_above_zero ?l_div_above_zero ?q_div_above_zero ?k_div_above_zero ?a_div_around_zero ?l_div_around_zero ?q_div_around_zero ?k_div_around_zero ?a_div ?l_div ?q_div ?k_div ?a_least ?l_least ?q_least ?k_least ?a_greatest ?l_greatest ?q_greatest ?k_greatest ?a_join ?l_join ?q_join ?k_join ?a_meet ?l_meet ?q_meet ?k_meet ?a_two ?l_two ?q_two ?k_two ?v_C ?v_i ?v_f ?v_l ?v_q ?v_k ?v_g ?v_d ?v_o ?v_s ?v_m ?v_c ?v_1 ?v_2 ?v_3 ?u_TWO_a ?u_TWO_l
    (case a_SIGN => k_is)
    (case a_TOP => k_is)
    (case a_BEYOND => k_is)
    (case a_DIGITS => k_is)
    (case a_LAST_EXPONENT => k_is)
    (case a_OFFSET => k_is)
    (case a_PLUS_INFINITE => k_is)
    (case a_MINUS_INFINITE => k_is)
    (case a_GREATEST => k_is)
    (case a_EMPTY => k_is)
    (case a_INWARD => k_is)
    (case a_OUTWARD => k_is)
    (case a_NEAREST => k_is)
    (case a_JOIN => k_is)
    (case b_len => k_is)
    (case b_max => k_is)
    (case b_min => k_is)
    (case a_exponent_of => k_is)
    (case l_exponent_of => k_is)
    (case q_exponent_of => k_is)
    (case k_exponent_of => k_is)
    (case a_significand_of => k_is)
    (case l_significand_of => k_is)
    (case q_significand_of => k_is)
    (case k_significand_of => k_is)
    (case a_is_number => k_is)
    (case l_is_number => k_is)
    (case q_is_number => k_is)
    (case k_is_number => k_is)
    (case a_made_normal => k_is)
    (case l_made_normal => k_is)
    (case q_made_normal => k_is)
    (case k_made_normal => k_is)
    (case a_told => k_is)
    (case l_told => k_is)
    (case q_told => k_is)
    (case k_told => k_is)
    (case a_place => k_is)
    (case l_place => k_is)
    (case q_place => k_is)
    (case k_place => k_is)
    (case a_opposite => k_is)
    (case l_opposite => k_is)
    (case q_opposite => k_is)
    (case k_opposite => k_is)
    (case a_value_of => k_is)
    (case l_value_of => k_is)
    (case q_value_of => k_is)
    (case k_value_of => k_is)
    (case a_shortened => k_is)
    (case l_shortened => k_is)
    (case q_shortened => k_is)
    (case k_shortened => k_is)
    (case a_size_rounded => k_is)
    (case l_size_rounded => k_is)
    (case q_size_rounded => k_is)
    (case k_size_rounded => k_is)
    (case a_low_end => k_is)
    (case l_low_end => k_is)
    (case q_low_end => k_is)
    (case k_low_end => k_is)
    (case a_high_end => k_is)
    (case l_high_end => k_is)
    (case q_high_end => k_is)
    (case k_high_end => k_is)
    (case a_endless => k_is)
    (case l_endless => k_is)
    (case q_endless => k_is)
    (case k_endless => k_is)
    (case a_finer => k_is)
    (case l_finer => k_is)
    (case q_finer => k_is)
    (case k_finer => k_is)
    (case a_plus => k_is)
    (case l_plus => k_is)
    (case q_plus => k_is)
    (case k_plus => k_is)
    (case a_times => k_is)
    (case l_times => k_is)
    (case q_times => k_is)
    (case k_times => k_is)
    (case a_over => k_is)
    (case l_over => k_is)
    (case q_over => k_is)
    (case k_over => k_is)
    (case a_are_ends => k_is)
    (case l_are_ends => k_is)
    (case q_are_ends => k_is)
    (case k_are_ends => k_is)
    (case a_is_interval => k_is)
    (case l_is_interval => k_is)
    (case q_is_interval => k_is)
    (case k_is_interval => k_is)
    (case a_lesser => k_is)
    (case l_lesser => k_is)
    (case q_lesser => k_is)
    (case k_lesser => k_is)
    (case a_greater => k_is)
    (case l_greater => k_is)
    (case q_greater => k_is)
    (case k_greater => k_is)
    (case a_add => k_is)
    (case l_add => k_is)
    (case q_add => k_is)
    (case k_add => k_is)
    (case a_sub => k_is)
    (case l_sub => k_is)
    (case q_sub => k_is)
    (case k_sub => k_is)
    (case a_mul => k_is)
    (case l_mul => k_is)
    (case q_mul => k_is)
    (case k_mul => k_is)
    (case a_div_above_zero => k_is)
    (case l_div_above_zero => k_is)
    (case q_div_above_zero => k_is)
    (case k_div_above_zero => k_is)
    (case a_div_around_zero => k_is)
    (case l_div_around_zero => k_is)
    (case q_div_around_zero => k_is)
    (case k_div_around_zero => k_is)
    (case a_div => k_is)
    (case l_div => k_is)
    (case q_div => k_is)
    (case k_div => k_is)
    (case a_least => k_is)
    (case l_least => k_is)
    (case q_least => k_is)
    (case k_least => k_is)
    (case a_greatest => k_is)
    (case l_greatest => k_is)
    (case q_greatest => k_is)
    (case k_greatest => k_is)
    (case a_join => k_is)
    (case l_join => k_is)
    (case q_join => k_is)
    (case k_join => k_is)
    (case a_meet => k_is)
    (case l_meet => k_is)
    (case q_meet => k_is)
    (case k_meet => k_is)
    (case a_two => k_is)
    (case l_two => k_is)
    (case q_two => k_is)
    (case k_two => k_is)
    (case v_C => k_is)
    (case v_i => k_is)
    (case v_f => k_is)
    (case v_l => k_is)
    (case v_q => k_is)
    (case v_k => k_is)
    (case v_g => k_is)
    (case v_d => k_is)
    (case v_o => k_is)
    (case v_s => k_is)
    (case v_m => k_is)
    (case v_c => k_is)
    (case v_1 => k_is)
    (case v_2 => k_is)
    (case v_3 => k_is)
    (case u_TWO_a => k_is)
    (case u_TWO_l => k_is)
  case S =>
    intro K H xs a hO hwi hask hx
    obtain ⟨op, lo, hi, lo2, hi2, u⟩ := a
    have q : (Codec.inInt (0) 4294967295 op && (Codec.inInt 0 1208925819614629174706175 lo && (Codec.inInt 0 1208925819614629174706175 hi && (Codec.inInt 0 1208925819614629174706175 lo2 && (Codec.inInt 0 1208925819614629174706175 hi2 && true))))) = true := hwi
    simp only [Codec.inInt, Bool.and_eq_true, decide_eq_true_eq, Bool.and_true] at q
    have hx' : L2.DwAll K H xs [WData.int op, WData.int lo, WData.int hi, WData.int lo2, WData.int hi2] := hx
    cases hx' with
    | cons h0 hx' =>
    cases h0
    cases hx' with
    | cons h0 hx' =>
    cases h0
    cases hx' with
    | cons h0 hx' =>
    cases h0
    cases hx' with
    | cons h0 hx' =>
    cases h0
    cases hx' with
    | cons h0 hx' =>
    cases h0
    cases hx'
    refine ⟨op, lo, hi, lo2, hi2, rfl, q.1.1, ⟨q.2.1.1, q.2.1.2⟩, ⟨q.2.2.1.1, q.2.2.1.2⟩, ⟨q.2.2.2.1.1, q.2.2.2.1.2⟩, ⟨q.2.2.2.2.1, q.2.2.2.2.2⟩, fun H' p hp => ?_⟩
    show L2.Dw K H' (.ref p) (WData.list ((PyWrxtee.two op lo hi lo2 hi2).map WData.int))
    rw [Bx.two_E q.1.1 ⟨q.2.1.1, q.2.1.2⟩ ⟨q.2.2.1.1, q.2.2.1.2⟩ ⟨q.2.2.2.1.1, q.2.2.2.1.2⟩ ⟨q.2.2.2.2.1, q.2.2.2.2.2⟩]
    exact .lst (L2.SqL.of hp) (L2.dw_ints _)
#print axioms PySem.Challenge.cw_betwixt_s03_two_holds