import PyProof.Rows.All
import Wide.All
import OpenK.AllK
import Wide.FinOn
import Lean
import PyProof.EqAt
import PyProof.EqKinds
import PyProof.TupleCall
import PyProof.NeKinds
import KE.KRevIter
import PyProof.ListRange
import PyProof.EnumFor
import PyProof.EnumStmt
import PyProof.EnumMake
import PyProof.WalkInts
import PyProof.Rows.CallKwBuiltin
import KE.KMinKey
import KE.KRevSl
import PyProof.Rows.Range3
import OpenK.KOwn
import KE.KTryMore
import PyProof.IsiBase
import PyProof.ExcAttrAll.ValueError
import PyProof.NsDelKeeps
import PyProof.SumWalkG
import PyProof.Rows.SumGenD
import KE.KDictList
import PyProof.Rows.TupDisplay
import PySem.Challenge.RW_stairtable_k10_whole_the_same_table
-- CHANGE: your row's module here, as the last of these rows
set_option Elab.async false
set_option linter.all false
set_option maxRecDepth 100000
/-! THE HAND LAYER, for ints, bools, texts, own classes, LISTS and tuples (index, slices, in, append, pop ..), calls, loops. Paste it whole ahead of your own text; what your proof does not reach may be deleted. -/
namespace L2
open PySem PySem.Spec PyProof.Rows
/-- a key: an int or a str -/
abbrev Key := Sum Int Str
def keyIs : Key → Value → Bool
  | .inl k, v => Value.isInt k v
  | .inr x, v => Value.isStrOf x v
def keyH (w : World) : Key → Int
  | .inl k => hashInt k
  | .inr x => hashStr w x
theorem keyIs_shape : ∀ {k : Key} {v : Value}, keyIs k v = true → (∃ i t, k = Sum.inl i ∧ v = Value.int i t) ∨ (∃ x t, k = Sum.inr x ∧ v = Value.str x t)
  | .inl i, v, h => by
    obtain ⟨t, e⟩ := Value.isInt_shape (k := i) (v := v) h
    exact .inl ⟨i, t, rfl, e⟩
  | .inr x, v, h => by
    obtain ⟨t, e⟩ := Value.isStrOf_shape (x := x) (v := v) h
    exact .inr ⟨x, t, rfl, e⟩
theorem key_ll (a b : Int) : decide ((Sum.inl a : Key) = Sum.inl b) = (a == b) := by
  by_cases e : a = b
  · subst e; simp
  · have h : ¬ (Sum.inl a : Key) = Sum.inl b := fun q => e (Sum.inl.inj q)
    rw [decide_eq_false h]
    exact (beq_eq_false_iff_ne.mpr e).symm
theorem key_rr (a b : Str) : decide ((Sum.inr a : Key) = Sum.inr b) = decide (a = b) := by
  by_cases e : a = b
  · subst e; simp
  · have h : ¬ (Sum.inr a : Key) = Sum.inr b := fun q => e (Sum.inr.inj q)
    rw [decide_eq_false h, decide_eq_false e]
theorem key_lr (a : Int) (b : Str) : decide ((Sum.inl a : Key) = Sum.inr b) = false := decide_eq_false (fun q => nomatch q)
theorem key_rl (a : Str) (b : Int) : decide ((Sum.inr a : Key) = Sum.inl b) = false := decide_eq_false (fun q => nomatch q)
def mixKind (prog : Program) (w : World) : PySem.KeyKind prog w Key where
  is := keyIs
  hash := keyH w
  inj := fun v a b ha hb => by
    rcases keyIs_shape ha with ⟨i, t, rfl, rfl⟩ | ⟨x, t, rfl, rfl⟩
    · rcases keyIs_shape hb with ⟨j, u, rfl, e⟩ | ⟨y, u, rfl, e⟩
      · injection e with e1 _; rw [e1]
      · exact nomatch e
    · rcases keyIs_shape hb with ⟨j, u, rfl, e⟩ | ⟨y, u, rfl, e⟩
      · exact nomatch e
      · injection e with e1 _; rw [e1]
  byValue := fun k v h => by
    rcases keyIs_shape h with ⟨i, t, rfl, rfl⟩ | ⟨x, t, rfl, rfl⟩ <;> rfl
  pyHash := fun hv h => by
    rcases keyIs_shape hv with ⟨i, t, rfl, rfl⟩ | ⟨x, t, rfl, rfl⟩
    · exact wpAny_pyHash_int h
    · exact wpAny_pyHash_str h
  eqBool := fun hu hv h => by
    rcases keyIs_shape hu with ⟨i, t, rfl, rfl⟩ | ⟨x, t, rfl, rfl⟩
    · rcases keyIs_shape hv with ⟨j, u, rfl, rfl⟩ | ⟨y, u, rfl, rfl⟩
      · rw [key_ll] at h; exact wpAny_eqBool_int h
      · rw [key_lr] at h; exact SeqAt.EqAt.int_str i t y u _ _ _ _ h
    · rcases keyIs_shape hv with ⟨j, u, rfl, rfl⟩ | ⟨y, u, rfl, rfl⟩
      · rw [key_rl] at h; exact SeqAt.EqAt.str_int x t j u _ _ _ _ h
      · rw [key_rr] at h; exact wpAny_eqBool_str h
  «strs» := fun k x t v h => by
    rcases keyIs_shape h with ⟨i, u, rfl, e⟩ | ⟨y, u, rfl, e⟩
    · exact nomatch e
    · injection e with e1 _
      subst e1
      cases v <;> rfl
end L2
namespace L2
open PySem PySem.Spec PyProof.Rows
/-- a value, without the heap -/
inductive V where
  | non | bl (b : Bool) | int (i : Int) | str (x : Str) | byt (b : Array UInt8) | flt (b : UInt64) | ref (a : Addr) | ty (n : String)
  deriving DecidableEq
def RelV : V → Value → Prop
  | .non, u => u = Value.none
  | .bl b, u => u = Value.bool b
  | .int i, u => ∃ t, u = Value.int i t
  | .str x, u => ∃ t, u = Value.str x t
  | .byt b, u => ∃ t, u = Value.bytes b t
  | .flt b, u => ∃ t, u = Value.float b t
  | .ref a, u => u = Value.ref a
  | .ty n, u => u = Value.type n
abbrev Vals : List V → List Value → Prop := Paired RelV
theorem Vals.length {xs : List V} {us : List Value} (r : Vals xs us) : xs.length = us.length := Paired.length r
theorem Vals.get : ∀ {xs : List V} {us : List Value} {i : Nat} {x : V}, Vals xs us → xs[i]? = some x → ∃ u, us[i]? = some u ∧ RelV x u
  | _, _, _, _, .nil, e => by simp at e
  | _, _, 0, _, .cons r _, e => by simp at e; subst e; exact ⟨_, rfl, r⟩
  | _, _, i + 1, x, .cons _ t, e => by
    obtain ⟨u, h1, h2⟩ := Vals.get (i := i) (x := x) t (by simpa using e)
    exact ⟨u, by simpa using h1, h2⟩
theorem Vals.set {x : V} {u : Value} (r : RelV x u) : ∀ {xs : List V} {us : List Value} (i : Nat), Vals xs us → Vals (xs.set i x) (us.set i u)
  | _, _, _, .nil => .nil
  | _, _, 0, .cons _ t => .cons r t
  | _, _, i + 1, .cons q t => .cons q (Vals.set r i t)
theorem Vals.append : ∀ {xs ys : List V} {us ws : List Value}, Vals xs us → Vals ys ws → Vals (xs ++ ys) (us ++ ws)
  | _, _, _, _, .nil, s => s
  | _, _, _, _, .cons r t, s => .cons r (Vals.append t s)
theorem Vals.take : ∀ {xs : List V} {us : List Value} (n : Nat), Vals xs us → Vals (xs.take n) (us.take n)
  | _, _, 0, _ => .nil
  | _, _, _ + 1, .nil => .nil
  | _, _, n + 1, .cons r t => .cons r (Vals.take n t)
theorem Vals.drop : ∀ {xs : List V} {us : List Value} (n : Nat), Vals xs us → Vals (xs.drop n) (us.drop n)
  | _, _, 0, r => r
  | _, _, _ + 1, .nil => .nil
  | _, _, n + 1, .cons _ t => Vals.drop n t
def RelO : Option V → Option Value → Prop
  | some v, some u => RelV v u
  | none, none => True
  | _, _ => False
def KV {κ : Type} : List (κ × V) → List (κ × Value) → Prop := Paired fun (p : κ × V) (q : κ × Value) => p.1 = q.1 ∧ RelV p.2 q.2
/-- a key of a dict (00_mix): an int or a text -/
def kV : Key → V
  | .inl i => .int i
  | .inr x => .str x
/-- what stands at a tracked address -/
inductive HO where
  /-- a list -/
  | lst (xs : List V)
  /-- a tuple (never changes) -/
  | tup (xs : List V)
  /-- a dict whose keys are ints and texts; one whose keys are tuples of ints and texts (the empty one is both) -/
  | dK (kvs : List (Key × V)) | dT (kvs : List (List Key × V))
  /-- a set of ints: its members, its size -/
  | set (S : Int → Bool) (n : Nat)
  /-- an instance of the class at C, its dict at dx, its attributes -/
  | ins (C dx : Addr) (fs : List (Str × V))
  /-- the dict of the instance at x -/
  | own (x : Addr)
  /-- the dict of an exception -/
  | xd (fs : List (Str × V))
  /-- a bound method, f of x -/
  | met (f x : Addr)
  /-- a range object lo, lo + 1, .. below hi -/
  | rng (lo hi : Int)
  /-- a thing that is known to the object (the script; a dict while a loop walks it): read, never written while it is so -/
  | frz (o : Obj) (u : HO)
  /-- a code object's table -/
  | tbl (ps : Array Value)
  /-- any other thing, by what is true of its one object (a def of one's own: SetO a S n := HO.ext fun h => ..) -/
  | ext (φ : Heap → Prop)
abbrev Hp := Addr → Option HO
def upd (H : Hp) (a : Addr) (o : HO) : Hp := fun b => if b = a then some o else H b
theorem upd_same {H : Hp} {a : Addr} {o : HO} : upd H a o a = some o := by unfold upd; rw [if_pos rfl]
theorem upd_ne {H : Hp} {a b : Addr} {o : HO} (h : b ≠ a) : upd H a o b = H b := by unfold upd; rw [if_neg h]
theorem ne_of_none {H : Hp} {a b : Addr} {o : HO} (h : H a = some o) (h' : H b = none) : a ≠ b := by
  intro e; subst e; rw [h] at h'; cases h'
section
variable (P : Program) (w : World)
def ObjOk (H : Hp) (h : Heap) (a : Addr) : HO → Prop
  | .lst xs => xs.length ≤ sizeLine ∧ ∃ (its : List Value) (n : Nat), Vals xs its ∧ h.get? a = some { cls := .type "list", data := .seq its.toArray n }
  | .tup xs => xs.length ≤ sizeLine ∧ ∃ its : List Value, Vals xs its ∧ IsTup h a its.toArray
  | .dK kvs => kvs.length ≤ sizeLine ∧ (a == sysModules) = false ∧ ∃ vs, KV kvs vs ∧ h.DictOf (mixKind P w) a vs
  | .dT kvs => kvs.length ≤ sizeLine ∧ (a == sysModules) = false ∧ ∃ xs : List (List Key × Addr × Value),
      Paired (fun (p : List Key × V) (q : List Key × Addr × Value) => p.1 = q.1 ∧ H q.2.1 = some (.tup (p.1.map kV)) ∧ RelV p.2 q.2.2) kvs xs ∧
      ∃ o es ep, h.get? a = some o ∧ o.ExactDict ∧ o.data = .dict es ep ∧ es.toList = xs.map (entryOfKey (tupleKind (mixKind P w))) ∧ (xs.map (·.1)).Nodup
  | .set S n => h.SetOf (intKind P w) a S n
  | .ins C dx fs => H dx = some (.own a) ∧ fs.length ≤ 1000 ∧ dx ≠ a ∧ h.get? a = some (PySem.W.instObj C dx) ∧
      ∃ mA, h.Ns1 dx mA ∧ (∀ f, RelO (fs.lookup f) (mA f)) ∧ PySem.Within mA (fs.map (·.1))
  | .own _ => ∃ o, h.get? a = some o
  | .xd fs => ∃ mA, h.Ns1 a mA ∧ ∀ f, RelO (fs.lookup f) (mA f)
  | .rng lo hi => ∃ t u v, h.get? a = some { cls := .type "range", data := .fields #[.int lo t, .int hi u, .int 1 v] }
  | .frz o u => h.get? a = some o ∧ ObjOk H h a u
  | .tbl ps => h.get? a = some { cls := .none, data := .fields ps }
  | .met f x => h.get? a = some (PySem.W.methodObj (.ref f) (.ref x))
  | .ext φ => φ h ∧ (∃ o, h.get? a = some o) ∧ ∀ h1 h2 : Heap, φ h1 → (∀ o, h1.get? a = some o → h2.get? a = some o) → φ h2
/-- the abstract heap is held -/
def HOk (H : Hp) (h : Heap) : Prop := ∀ a o, H a = some o → ObjOk P w H h a o
end
section
variable {P : Program} {w : World} {H H' : Hp} {h h' : Heap} {a : Addr} {o : HO}
theorem ObjOk.lt (x : ObjOk P w H h a o) : a < h.objs.size := by
  cases o with
  | lst xs => obtain ⟨_, _, _, _, e⟩ := x; exact Heap.lt_size e
  | tup xs => obtain ⟨_, _, _, p⟩ := x; exact p.lt
  | dK kvs => obtain ⟨_, _, _, _, o, _, _, e, _⟩ := x; exact Heap.lt_size e
  | dT kvs => obtain ⟨_, _, _, _, o, _, _, e, _⟩ := x; exact Heap.lt_size e
  | set S n => obtain ⟨o, _, _, _, e, _⟩ := x; exact Heap.lt_size e
  | ins C dx fs => obtain ⟨_, _, _, e, _⟩ := x; exact Heap.lt_size e
  | own y => obtain ⟨_, e⟩ := x; exact Heap.lt_size e
  | xd fs => obtain ⟨_, ⟨_, _, _, e, _⟩, _⟩ := x; exact Heap.lt_size e
  | rng lo hi => obtain ⟨_, _, _, e⟩ := x; exact Heap.lt_size e
  | frz ob u => obtain ⟨e, _⟩ := x; exact Heap.lt_size e
  | tbl ps => exact Heap.lt_size (show h.get? a = some _ from x)
  | met f y => exact Heap.lt_size (show h.get? a = some _ from x)
  | ext φ => obtain ⟨_, ⟨_, e⟩, _⟩ := x; exact Heap.lt_size e
theorem Paired.mapP {α β : Type} {F G : α → β → Prop} : ∀ {l₁ : List α} {l₂ : List β}, Paired F l₁ l₂ → (∀ a b, F a b → G a b) → Paired G l₁ l₂
  | _, _, .nil, _ => .nil
  | _, _, .cons r t, f => .cons (f _ _ r) (Paired.mapP t f)
/-- what an object's description leans on: its own object, its own dict, the tuples -/
theorem ObjOk.stay (x : ObjOk P w H h a o) (k : ∀ b u, (b = a ∨ H b = some (.own a)) → h.get? b = some u → h'.get? b = some u)
    (ho : ∀ b, H b = some (.own a) → H' b = some (.own a)) (ht : ∀ b xs, H b = some (.tup xs) → H' b = some (.tup xs)) : ObjOk P w H' h' a o := by
  induction o with
  | lst xs => obtain ⟨z, its, n, r, e⟩ := x; exact ⟨z, its, n, r, k _ _ (.inl rfl) e⟩
  | tup xs => obtain ⟨z, its, r, ob, e, c⟩ := x; exact ⟨z, its, r, ob, k _ _ (.inl rfl) e, c⟩
  | dK kvs => obtain ⟨z, y, vs, r, ob, es, ep, e, c⟩ := x; exact ⟨z, y, vs, r, ob, es, ep, k _ _ (.inl rfl) e, c⟩
  | dT kvs =>
    obtain ⟨z, y, xs, r, ob, es, ep, e, c⟩ := x
    exact ⟨z, y, xs, Paired.mapP r fun p q z => ⟨z.1, ht _ _ z.2.1, z.2.2⟩, ob, es, ep, k _ _ (.inl rfl) e, c⟩
  | set S n => obtain ⟨ob, es, ep, t, e, c⟩ := x; exact ⟨ob, es, ep, t, k _ _ (.inl rfl) e, c⟩
  | ins C dx fs =>
    obtain ⟨d, z, ne, e, mA, ⟨od, es, ep, e2, c⟩, r⟩ := x
    exact ⟨ho _ d, z, ne, k _ _ (.inl rfl) e, mA, ⟨od, es, ep, k _ _ (.inr d) e2, c⟩, r⟩
  | own y => obtain ⟨ob, e⟩ := x; exact ⟨ob, k _ _ (.inl rfl) e⟩
  | xd fs => obtain ⟨mA, ⟨od, es, ep, e, c⟩, r⟩ := x; exact ⟨mA, ⟨od, es, ep, k _ _ (.inl rfl) e, c⟩, r⟩
  | rng lo hi => obtain ⟨t, u, v, e⟩ := x; exact ⟨t, u, v, k _ _ (.inl rfl) e⟩
  | frz ob u ih => obtain ⟨e, q⟩ := x; exact ⟨k _ _ (.inl rfl) e, ih q⟩
  | tbl ps =>
    have e : h.get? a = some { cls := .none, data := .fields ps } := x
    show h'.get? a = some { cls := .none, data := .fields ps }
    exact k a _ (.inl rfl) e
  | met f y =>
    have e : h.get? a = some (PySem.W.methodObj (.ref f) (.ref y)) := x
    show h'.get? a = some (PySem.W.methodObj (.ref f) (.ref y))
    exact k a _ (.inl rfl) e
  | ext φ => obtain ⟨p, ⟨o, e⟩, st⟩ := x; exact ⟨st _ _ p fun o q => k _ _ (.inl rfl) q, ⟨o, k _ _ (.inl rfl) e⟩, st⟩
theorem HOk.lt (x : HOk P w H h) (e : H a = some o) : a < h.objs.size := (x a o e).lt
theorem HOk.fresh (x : HOk P w H h) (e : h.objs.size ≤ a) : H a = none := by
  cases q : H a with
  | none => rfl
  | some u => exact absurd (Nat.lt_of_lt_of_le (x.lt q) e) (Nat.lt_irrefl _)
/-- every object of the heap is kept -/
theorem HOk.kept (x : HOk P w H h) (k : ∀ b u, h.get? b = some u → h'.get? b = some u) : HOk P w H h' := fun a o e =>
  (x a o e).stay (fun b u _ q => k b u q) (fun _ q => q) fun _ _ q => q
/-- a new object is laid and tracked -/
theorem HOk.laid (x : HOk P w H h) (k : ∀ b u, h.get? b = some u → h'.get? b = some u) (hp : h.objs.size ≤ a) (new : ObjOk P w (upd H a o) h' a o) : HOk P w (upd H a o) h' := fun b u e => by
  have hn := x.fresh hp
  by_cases hb : b = a
  · subst hb; rw [upd_same] at e; cases e; exact new
  · rw [upd_ne hb] at e
    exact (x b u e).stay (fun c v _ q => k c v q) (fun c q => by rw [upd_ne (ne_of_none q hn)]; exact q) fun c xs q => by rw [upd_ne (ne_of_none q hn)]; exact q
end
/-- what may be read as u: it is u, or a known u -/
def Rd (H : Hp) (a : Addr) (u : HO) : Prop := H a = some u ∨ ∃ o, H a = some (.frz o u)
theorem Rd.ok {P : Program} {w : World} {H : Hp} {h : Heap} {a : Addr} {u : HO} (r : Rd H a u) (x : HOk P w H h) : ObjOk P w H h a u := by
  rcases r with r | ⟨o, r⟩
  · exact x a u r
  · obtain ⟨_, q⟩ := x a _ r
    exact q
/-- what may be written -/
def Mut : Option HO → Prop
  | some (.lst _) => True
  | some (.dK _) => True
  | some (.dT _) => True
  | some (.set _ _) => True
  | some (.ins _ _ _) => True
  | some (.ext _) => True
  | _ => False
section
variable {P : Program} {w : World} {H : Hp} {h h' : Heap} {x e : Addr} {o' : HO}
/-- the object at e is changed: x itself, or the dict of the instance x -/
theorem HOk.write (ok : HOk P w H h) (mu : Mut (H x)) (he : e = x ∨ H e = some (.own x)) (k : ∀ b u, b ≠ e → h.get? b = some u → h'.get? b = some u) (heo : ∃ u, h'.get? e = some u)
    (new : ObjOk P w (upd H x o') h' x o') : HOk P w (upd H x o') h' := fun b u q => by
  have nown : ∀ c y, H c = some (.own y) → c ≠ x := fun c y r z => by subst z; rw [r] at mu; exact mu
  have ntup : ∀ c xs, H c = some (.tup xs) → c ≠ x := fun c xs r z => by subst z; rw [r] at mu; exact mu
  by_cases hb : b = x
  · subst hb; rw [upd_same] at q; cases q; exact new
  · rw [upd_ne hb] at q
    by_cases hbe : b = e
    · have q' : H b = some (.own x) := by
        rcases he with z | z
        · exact absurd (hbe.trans z) hb
        · rw [hbe]; exact z
      rw [q] at q'; cases q'
      obtain ⟨v, hv⟩ := heo
      exact ⟨v, by rw [hbe]; exact hv⟩
    · refine (ok b u q).stay (fun c v hc r => k c v ?_ r) (fun c r => by rw [upd_ne (nown c b r)]; exact r) fun c xs r => by rw [upd_ne (ntup c xs r)]; exact r
      rcases hc with rfl | hc
      · exact hbe
      · rintro rfl
        rcases he with z | z
        · exact nown c b hc z
        · rw [hc] at z; cases z; exact hb rfl
end
/-! ### kept unless tracked; of the frames at fs (the callers') the slots may change (an exception that passes writes there); of the records at ex (iterators) nothing is said -/
structure Un (fs ex : List Addr) (H H' : Hp) (h h' : Heap) : Prop where
  keep : ∀ b o, h.get? b = some o → H b = none → b ∉ fs → b ∉ ex → h'.get? b = some o
  slot : ∀ b o, h.get? b = some o → H b = none → b ∈ fs → b ∉ ex → ∃ sl, h'.get? b = some { o with slots := sl }
  free : ∀ b o, h.get? b = some o → H b = none → b ∉ ex → H' b = none
  there : ∀ b o, h.get? b = some o → b ∉ ex → ∃ o', h'.get? b = some o'
  tups : ∀ b xs, H b = some (.tup xs) → H' b = some (.tup xs)
  frzs : ∀ b o u, H b = some (.frz o u) → H' b = some (.frz o u)
  tbls : ∀ b ps, H b = some (.tbl ps) → ∃ more, H' b = some (.tbl (ps ++ more))
section
variable {fs fs' ex ex' : List Addr} {H H1 H2 : Hp} {h h1 h2 h' : Heap} {a x e : Addr} {o : HO}
theorem Un.any (u : Un fs ex H H1 h h1) {b : Addr} {ob : Obj} (q : h.get? b = some ob) (n : H b = none) (hx : b ∉ ex) : ∃ sl, h1.get? b = some { ob with slots := sl } := by
  by_cases hb : b ∈ fs
  · exact u.slot b ob q n hb hx
  · exact ⟨ob.slots, u.keep b ob q n hb hx⟩
theorem Un.kept (k : ∀ b u, h.get? b = some u → h'.get? b = some u) : Un fs ex H H h h' :=
  ⟨fun b ob q _ _ _ => k b ob q, fun b ob q _ _ _ => ⟨ob.slots, k b ob q⟩, fun _ _ _ n _ => n, fun b ob q _ => ⟨ob, k b ob q⟩, fun _ _ q => q, fun _ _ _ q => q, fun _ ps q => ⟨#[], by rw [q]; simp⟩⟩
theorem Un.refl : Un fs ex H H h h := Un.kept fun _ _ q => q
theorem Un.laid (k : ∀ b u, h.get? b = some u → h'.get? b = some u) (hp : h.objs.size ≤ a) (hn : H a = none) : Un fs ex H (upd H a o) h h' where
  keep := fun b u q _ _ _ => k b u q
  slot := fun b u q _ _ _ => ⟨u.slots, k b u q⟩
  free := fun b u q n _ => by rw [upd_ne (Nat.ne_of_lt (Nat.lt_of_lt_of_le (Heap.lt_size q) hp))]; exact n
  there := fun b u q _ => ⟨u, k b u q⟩
  tups := fun b xs q => by rw [upd_ne (ne_of_none q hn)]; exact q
  frzs := fun b u xs q => by rw [upd_ne (ne_of_none q hn)]; exact q
  tbls := fun b ps q => ⟨#[], by rw [upd_ne (ne_of_none q hn), q]; simp⟩
theorem Un.write (mu : Mut (H x)) (he : e = x ∨ H e = some (.own x)) (k : ∀ b u, b ≠ e → h.get? b = some u → h'.get? b = some u) (heo : ∃ u, h'.get? e = some u) : Un fs ex H (upd H x o) h h' := by
  have hx : ∀ b, H b = none → b ≠ x := fun b n z => by subst z; rw [n] at mu; exact mu
  have hb : ∀ b, H b = none → b ≠ e := fun b n z => by
    subst z
    rcases he with r | r
    · exact hx b n r
    · rw [n] at r; cases r
  have hm : ∀ b u, H b = some u → ¬ Mut (some u) → b ≠ x := fun b u q nm z => by subst z; rw [q] at mu; exact nm mu
  refine ⟨fun b u q n _ _ => k b u (hb b n) q, fun b u q n _ _ => ⟨u.slots, k b u (hb b n) q⟩, fun b u q n _ => by rw [upd_ne (hx b n)]; exact n, fun b u q _ => ?_,
    fun b xs q => by rw [upd_ne (hm b _ q fun z => z)]; exact q, fun b u xs q => by rw [upd_ne (hm b _ q fun z => z)]; exact q, fun b ps q => ⟨#[], by rw [upd_ne (hm b _ q fun z => z), q]; simp⟩⟩
  by_cases hbe : b = e
  · subst hbe; exact heo
  · exact ⟨u, k b u hbe q⟩
end
/-! ### the heap without what is tracked -/
def trk (h : Heap) (H : Hp) : List Addr := (List.range h.objs.size).filter fun a => (H a).isSome
def hidT (h : Heap) (H : Hp) : Heap := PySem.W.hideAll h (trk h H)
theorem hidT_size (h : Heap) (H : Hp) : (hidT h H).objs.size = h.objs.size := PySem.W.hideAll_size _ _
theorem hidT_get {h : Heap} {H : Hp} {b : Addr} {o : Obj} (e : h.get? b = some o) (n : H b = none) : (hidT h H).get? b = some o :=
  PySem.W.hideAll_get _ e fun hm => by
    have q : (H b).isSome = true := (List.mem_filter.mp hm).2
    rw [n] at q; simp at q
theorem of_hidT {h : Heap} {H : Hp} {b : Addr} {o : Obj} (e : (hidT h H).get? b = some o) : h.get? b = some o ∧ H b = none := by
  have e' : h.get? b = some o := PySem.W.of_hideAll (trk h H) e
  refine ⟨e', ?_⟩
  cases q : H b with
  | none => rfl
  | some x =>
    have hm : b ∈ trk h H := List.mem_filter.mpr ⟨List.mem_range.mpr (Heap.lt_size e'), by simp [q]⟩
    have z : (hidT h H).get? b = none := PySem.W.hideAll_none (trk h H) hm
    rw [z] at e; cases e
/-! ### OpenK's ledger, filled with every new object but one -/
end L2
namespace L2
open PySem PySem.Spec PyProof.Rows
/-- the module's facts, over the base: the heap at the law's entry without what is tracked there -/
structure Mod (K : PySem.W.Frag) (mg : Str → Option Value) (base : Heap) : Prop where
  kin : K.In base
  glob : base.Ns mainGlobals mg
  blt : ∃ mb, base.Ns builtinsNs mb ∧ ∀ x : Str, x ≠ "__name__" → mb x = bootBuiltins x
  nolimit : base.NoLimit
/-- the context: a def's body (or a comprehension's block) running. base: fixed through the whole law; s₀, H₀: the entry; outer: the frames whose slots others may change (a def's callers); stack: all frames that run;
   ex: iterators that were made ahead of the entry and are walked here (a comprehension's); fn: the names whose cells were made at the entry (a def: all; a comprehension's block: its own); calm: not within an except suite; pn: pins that every state bears; xe: what is wanted of an exception that leaves the code -/
structure Cx where
  prog : Program
  w : World
  K : PySem.W.Frag
  mg : Str → Option Value
  base : Heap
  A : Around
  N : List Str
  s₀ : Shared
  H₀ : Hp
  env : Env
  outer : List Env
  stack : List Env
  ex : List Addr
  fn : Str → Bool
  calm : Bool
  pn : List (Addr × Obj)
  xe : Value → Shared → Prop
/-- the callers' frames -/
def frs (l : List Env) : List Addr := l.filterMap (·.frame)
abbrev Cx.fs (X : Cx) : List Addr := frs X.outer
def Vis (sc : Scope) (x : Str) : Prop := sc.names.lookup x = some .local ∨ sc.names.lookup x = some .cell ∨ sc.names.lookup x = some .free
def Loc (sc : Scope) (x : Str) : Prop := sc.names.lookup x = some .local ∨ sc.names.lookup x = some .cell
def Look (env : Env) (h : Heap) (m : Str → Option Value) (x : Str) (u : Value) : Prop :=
  (env.kindOf x = some .local ∧ m x = some u) ∨ ((env.kindOf x = some .cell ∨ env.kindOf x = some .free) ∧ ∃ c, env.cells.lookup x = some c ∧ h.IsCell c (some u))
structure Cx.Ok (X : Cx) : Prop where
  mod : Mod X.K X.mg X.base
  kind : X.env.scope.kind = .function
  glob : X.env.globals = mainGlobals
  blt : X.env.builtins = builtinsNs
  above : X.s₀.heap.objs.size ≤ X.env.locals
  inj : ∀ x y c, X.env.cells.lookup x = some c → X.env.cells.lookup y = some c → x = y
  has : ∀ x, (X.env.kindOf x = some .cell ∨ X.env.kindOf x = some .free) → ∃ c, X.env.cells.lookup x = some c
  cab : ∀ x c, X.fn x = true → X.env.cells.lookup x = some c → X.s₀.heap.objs.size ≤ c
  hd : X.calm = true → X.A.handled = none
  frames : X.A.frames = some X.stack
  stk : X.stack = X.outer ∨ (X.stack = X.env :: X.outer ∧ X.env.frame = some X.env.locals)
  exf : ∀ b ∈ X.ex, b ≠ X.env.locals ∧ ∀ x c, X.env.cells.lookup x = some c → c ≠ b
  bs : ∀ b o, X.base.get? b = some o → X.s₀.heap.get? b = some o ∧ X.H₀ b = none
  bsz : X.base.objs.size ≤ X.s₀.heap.objs.size
  noex : ∀ b o, X.base.get? b = some o → b ∉ X.ex
  exfs : ∀ b ∈ X.ex, b ∉ X.fs
  funs : X.s₀.heap.FunFrames X.base X.outer
  frf : ∀ b ∈ X.fs, X.H₀ b = none
structure Inv (X : Cx) (pins : List (Addr × Obj)) (σ : List (Option V)) (H : Hp) (s : Shared) : Prop where
  ok : X.Ok
  os : s.os = X.s₀.os
  bare : AllBare s.gens
  base : Un X.fs X.ex X.H₀ H X.s₀.heap s.heap
  loc : ∃ m, s.heap.Ns X.env.locals m ∧ ∀ (i : Nat) (x : Str) (v : V), X.N[i]? = some x → σ[i]? = some (some v) → Vis X.env.scope x → ∃ u, RelV v u ∧ Look X.env s.heap m x u
  cell : ∀ x c, X.env.cells.lookup x = some c → ∃ v, s.heap.IsCell c v
  free : H X.env.locals = none
  freeC : ∀ x c, X.env.cells.lookup x = some c → H c = none
  pin : ∀ p ∈ X.pn ++ pins, s.heap.get? p.1 = some p.2 ∧ H p.1 = none ∧ p.1 ≠ X.env.locals ∧ p.1 ∉ X.fs ∧ ∀ v, p.2.data ≠ .cell v
  hok : HOk X.prog X.w H s.heap
  len : σ.length = X.N.length
section
variable {X : Cx} {pins : List (Addr × Obj)} {σ : List (Option V)} {H H' : Hp} {s : Shared} {h' : Heap}
theorem Cx.Ok.nofr (ok : X.Ok) {b : Addr} {o : Obj} (e : X.base.get? b = some o) : b ∉ X.fs := fun hb => by
  have := (ok.funs.mem hb).1
  rw [e] at this; cases this
theorem Inv.bs (I : Inv X pins σ H s) : ∀ b o, X.base.get? b = some o → s.heap.get? b = some o ∧ H b = none := fun b o e =>
  ⟨I.base.keep b o (I.ok.bs b o e).1 (I.ok.bs b o e).2 (I.ok.nofr e) (I.ok.noex b o e), I.base.free b o (I.ok.bs b o e).1 (I.ok.bs b o e).2 (I.ok.noex b o e)⟩
theorem Inv.bk (I : Inv X pins σ H s) : ∀ b o, X.base.get? b = some o → s.heap.get? b = some o := fun b o e => (I.bs b o e).1
theorem Inv.mod (I : Inv X pins σ H s) : Mod X.K X.mg X.base := I.ok.mod
theorem Inv.kIn (I : Inv X pins σ H s) : X.K.In s.heap := I.ok.mod.kin.keeps I.bk
theorem Inv.lt (I : Inv X pins σ H s) : X.env.locals < s.heap.objs.size := let ⟨_, hn, _⟩ := I.loc; hn.lt
theorem Inv.sz (I : Inv X pins σ H s) : X.s₀.heap.objs.size ≤ s.heap.objs.size := Nat.le_trans I.ok.above (Nat.le_of_lt I.lt)
theorem Inv.nofs (I : Inv X pins σ H s) {a : Addr} (h : s.heap.objs.size ≤ a) : a ∉ X.fs := fun hb => by
  obtain ⟨_, o, ho, _⟩ := I.ok.funs.mem hb
  exact absurd (Nat.lt_of_lt_of_le (Heap.lt_size ho) (Nat.le_trans I.sz h)) (Nat.lt_irrefl _)
theorem Inv.cne (I : Inv X pins σ H s) : ∀ x c, X.env.cells.lookup x = some c → c ≠ X.env.locals := fun x c e z => by
  obtain ⟨v, o, ho, hd⟩ := I.cell x c e
  obtain ⟨m, ⟨o', es, ep, ho', hd', _⟩, _⟩ := I.loc
  rw [z, ho'] at ho; cases ho; rw [hd'] at hd; cases hd
theorem Inv.funs (I : Inv X pins σ H s) : s.heap.FunFrames X.base X.outer := by
  have all : ∀ (l : List Env), (∀ b ∈ frs l, b ∈ X.fs) → X.s₀.heap.FunFrames X.base l → s.heap.FunFrames X.base l := by
    intro l
    induction l with
    | nil => intro _ _; trivial
    | cons env r ih =>
      intro hs hl
      obtain ⟨hk, ⟨L, o, hf, hn, ho, hd⟩, hr⟩ := hl
      have hL : L ∈ X.fs := hs L (by unfold frs; rw [List.filterMap_cons, hf]; exact List.mem_cons_self)
      obtain ⟨sl, e⟩ := I.base.slot L o ho (I.ok.frf L hL) hL fun z => I.ok.exfs L z hL
      exact ⟨hk, ⟨L, _, hf, hn, e, hd⟩, ih (fun b hb => hs b (by unfold frs; rw [List.filterMap_cons, hf]; exact List.mem_cons_of_mem _ hb)) hr⟩
  exact all X.outer (fun _ hb => hb) I.ok.funs
/-- the frames that run, for a call -/
theorem Inv.stack (I : Inv X pins σ H s) : s.heap.FunFrames X.base X.stack := by
  rcases I.ok.stk with e | ⟨e, hf⟩
  · rw [e]; exact I.funs
  · rw [e]
    obtain ⟨m, hn, _⟩ := I.loc
    refine .cons (by rw [I.ok.kind]; decide) hf hn ?_ I.funs
    exact Heap.get?_none_of_le (Nat.le_trans I.ok.bsz I.ok.above)
theorem Inv.stkSub (I : Inv X pins σ H s) : ∀ b ∈ frs X.stack, b ∈ X.env.locals :: X.fs := fun b hb => by
  rcases I.ok.stk with e | ⟨e, hf⟩
  · rw [e] at hb; exact List.mem_cons_of_mem _ hb
  · rw [e] at hb
    unfold frs at hb
    rw [List.filterMap_cons, hf] at hb
    exact hb
theorem Inv.stkFree (I : Inv X pins σ H s) : ∀ b ∈ frs X.stack, H b = none := fun b hb => by
  rcases List.mem_cons.mp (I.stkSub b hb) with e | hb
  · rw [e]; exact I.free
  · obtain ⟨_, o, ho, _⟩ := I.ok.funs.mem hb
    exact I.base.free b o ho (I.ok.frf b hb) fun z => I.ok.exfs b z hb
/-- THE STEP: the untracked objects but the frame and the records at ch are kept (the callers' frames up to slots), the frame's map is kept, the new abstract heap is held -/
theorem Inv.step {g' : Array GenState} {t' : Nat} {d' : Drawn} {ch : List Addr} (I : Inv X pins σ H s)
    (hch : ∀ b ∈ ch, (b ∈ X.ex ∨ X.s₀.heap.objs.size ≤ b) ∧ b ≠ X.env.locals ∧ (∀ x c, X.env.cells.lookup x = some c → c ≠ b) ∧ ∀ p ∈ X.pn ++ pins, p.1 ≠ b)
    (keep : ∀ b o, b ≠ X.env.locals → b ∉ X.fs → b ∉ ch → s.heap.get? b = some o → H b = none → h'.get? b = some o)
    (slot : ∀ b o, b ≠ X.env.locals → b ∈ X.fs → b ∉ ch → s.heap.get? b = some o → H b = none → ∃ sl, h'.get? b = some { o with slots := sl }) (free : ∀ b o, b ∉ ch → s.heap.get? b = some o → H b = none → H' b = none)
    (there : ∀ b o, b ∉ ch → s.heap.get? b = some o → ∃ o', h'.get? b = some o')
    (tups : ∀ b xs, H b = some (.tup xs) → H' b = some (.tup xs)) (frzs : ∀ b o u, H b = some (.frz o u) → H' b = some (.frz o u)) (tbls : ∀ b ps, H b = some (.tbl ps) → ∃ more, H' b = some (.tbl (ps ++ more)))
    (ns : ∀ m, s.heap.Ns X.env.locals m → h'.Ns X.env.locals m) (hok : HOk X.prog X.w H' h') (hg : AllBare g') :
    Inv X pins σ H' { s with heap := h', gens := g', drawn := d', toks := t' } := by
  have neL : ∀ b o, X.s₀.heap.get? b = some o → b ≠ X.env.locals := fun b o e => Nat.ne_of_lt (Nat.lt_of_lt_of_le (Heap.lt_size e) I.ok.above)
  have neC : ∀ b o, X.s₀.heap.get? b = some o → b ∉ X.ex → b ∉ ch := fun b o e hx hb => by
    rcases (hch b hb).1 with z | z
    · exact hx z
    · exact absurd (Nat.lt_of_lt_of_le (Heap.lt_size e) z) (Nat.lt_irrefl _)
  have cellK : ∀ x c, X.env.cells.lookup x = some c → ∀ v, s.heap.IsCell c v → h'.IsCell c v := fun x c e v ⟨o, ho, hd⟩ => by
    have nch : c ∉ ch := fun z => (hch c z).2.2.1 x c e rfl
    by_cases hc : c ∈ X.fs
    · obtain ⟨sl, q⟩ := slot c o (I.cne x c e) hc nch ho (I.freeC x c e)
      exact ⟨_, q, hd⟩
    · exact ⟨o, keep c o (I.cne x c e) hc nch ho (I.freeC x c e), hd⟩
  refine ⟨I.ok, I.os, hg, ⟨fun b o e n hb hx => ?_, fun b o e n hb hx => ?_, fun b o e n hx => ?_, fun b o e hx => ?_, fun b xs e => tups b xs (I.base.tups b xs e), fun b o xs e => frzs b o xs (I.base.frzs b o xs e), fun b ps e => ?_⟩, ?_, fun x c e => ?_, ?_, fun x c e => ?_, fun p hp => ?_, hok, I.len⟩
  · exact keep b o (neL b o e) hb (neC b o e hx) (I.base.keep b o e n hb hx) (I.base.free b o e n hx)
  · obtain ⟨sl, e1⟩ := I.base.slot b o e n hb hx
    obtain ⟨sl', e2⟩ := slot b _ (neL b o e) hb (neC b o e hx) e1 (I.base.free b o e n hx)
    exact ⟨sl', e2⟩
  · obtain ⟨o', e1⟩ := I.base.there b o e hx
    exact free b o' (neC b o e hx) e1 (I.base.free b o e n hx)
  · obtain ⟨o', e1⟩ := I.base.there b o e hx
    exact there b o' (neC b o e hx) e1
  · obtain ⟨m1, e1⟩ := I.base.tbls b ps e
    obtain ⟨m2, e2⟩ := tbls b _ e1
    exact ⟨m1 ++ m2, by rw [e2, Array.append_assoc]⟩
  · obtain ⟨m, hn, hl⟩ := I.loc
    refine ⟨m, ns m hn, fun i x v e1 e2 e3 => ?_⟩
    obtain ⟨u, r, l⟩ := hl i x v e1 e2 e3
    refine ⟨u, r, ?_⟩
    rcases l with l | ⟨k, c, e, z⟩
    · exact .inl l
    · exact .inr ⟨k, c, e, cellK x c e _ z⟩
  · obtain ⟨v, z⟩ := I.cell x c e
    exact ⟨v, cellK x c e v z⟩
  · obtain ⟨m, ⟨o, _, _, ho, _⟩, _⟩ := I.loc
    exact free _ o (fun z => (hch _ z).2.1 rfl) ho I.free
  · obtain ⟨v, o, ho, hd⟩ := I.cell x c e
    exact free c o (fun z => (hch c z).2.2.1 x c e rfl) ho (I.freeC x c e)
  · obtain ⟨e, n, ne, nf, d⟩ := I.pin p hp
    have nch : p.1 ∉ ch := fun z => (hch p.1 z).2.2.2 p hp rfl
    exact ⟨keep p.1 p.2 ne nf nch e n, free p.1 p.2 nch e n, ne, nf, d⟩
/-- .. where the frame's own object is kept too -/
theorem Inv.un {t' : Nat} (I : Inv X pins σ H s) (u : Un X.fs [] H H' s.heap h') (hok : HOk X.prog X.w H' h') : Inv X pins σ H' { s with heap := h', toks := t' } := by
  obtain ⟨m, ⟨o, es, ep, ho, r⟩, _⟩ := id I.loc
  obtain ⟨sl, hL⟩ := u.any ho I.free (by simp)
  exact I.step (g' := s.gens) (d' := s.drawn) (ch := []) (fun _ z => nomatch z) (fun b o _ hb _ e n => u.keep b o e n hb (by simp)) (fun b o _ hb _ e n => u.slot b o e n hb (by simp)) (fun b o _ e n => u.free b o e n (by simp)) (fun b o _ e => u.there b o e (by simp)) u.tups u.frzs u.tbls (fun m' hm => by
    obtain ⟨o', es', ep', ho', r'⟩ := hm
    rw [ho] at ho'; cases ho'
    exact ⟨_, es', ep', hL, r'⟩) hok I.bare
/-- behind a call (or a comprehension's block): the slots of this frame may have changed too, the records at ch may have turned -/
theorem Inv.call {g' : Array GenState} {t' : Nat} {d' : Drawn} {ch : List Addr} (I : Inv X pins σ H s) (u : Un (frs X.stack) ch H H' s.heap h') (hok : HOk X.prog X.w H' h') (hg : AllBare g')
    (hch : ∀ b ∈ ch, (b ∈ X.ex ∨ X.s₀.heap.objs.size ≤ b) ∧ b ≠ X.env.locals ∧ (∀ x c, X.env.cells.lookup x = some c → c ≠ b) ∧ ∀ p ∈ X.pn ++ pins, p.1 ≠ b) :
    Inv X pins σ H' { s with heap := h', gens := g', drawn := d', toks := t' } := by
  obtain ⟨m, ⟨o, es, ep, ho, r⟩, _⟩ := id I.loc
  obtain ⟨sl, hL⟩ := u.any ho I.free fun z => (hch _ z).2.1 rfl
  exact I.step (ch := ch) hch (fun b o hL hb hc e n => u.keep b o e n (fun z => (List.mem_cons.mp (I.stkSub b z)).elim hL hb) hc) (fun b o _ _ hc e n => u.any e n hc) (fun b o hc e n => u.free b o e n hc) (fun b o hc e => u.there b o e hc) u.tups u.frzs u.tbls (fun m' hm => by
    obtain ⟨o', es', ep', ho', r'⟩ := hm
    rw [ho] at ho'; cases ho'
    exact ⟨_, es', ep', hL, r'⟩) hok hg
/-- an untracked record of ours (an iterator) has turned -/
theorem Inv.turned {t' : Nat} {it : Addr} (I : Inv X pins σ H s) (k : ∀ b o, b ≠ it → s.heap.get? b = some o → h'.get? b = some o) (hn : H it = none) (hL : it ≠ X.env.locals)
    (h1 : it ∈ X.ex ∨ X.s₀.heap.objs.size ≤ it) (h2 : ∀ x c, X.env.cells.lookup x = some c → c ≠ it) (h3 : ∀ p ∈ X.pn ++ pins, p.1 ≠ it) : Inv X pins σ H { s with heap := h', toks := t' } := by
  have nit : ∀ b u, H b = some u → b ≠ it := fun b u e z => by rw [z, hn] at e; cases e
  refine I.step (g' := s.gens) (d' := s.drawn) (ch := [it]) (fun b hb => ?_) (fun b o _ _ hc e _ => k b o (fun z => hc (by simp [z])) e) (fun b o _ _ hc e _ => ⟨o.slots, k b o (fun z => hc (by simp [z])) e⟩) (fun _ _ _ _ n => n)
    (fun b o hc e => ⟨o, k b o (fun z => hc (by simp [z])) e⟩) (fun _ _ e => e) (fun _ _ _ e => e) (fun b ps e => ⟨#[], by rw [e]; simp⟩) (fun m hm => ?_) (fun b u e => ?_) I.bare
  · have e : b = it := by simpa using hb
    subst e
    exact ⟨h1, hL, h2, h3⟩
  · obtain ⟨o, es, ep, ho, r⟩ := hm
    exact ⟨o, es, ep, k _ o (Ne.symm hL) ho, r⟩
  · refine (I.hok b u e).stay (fun c v hc q => k c v ?_ q) (fun _ q => q) fun _ _ q => q
    rcases hc with z | z
    · rw [z]; exact nit b u e
    · exact nit c _ z
theorem Inv.tok (I : Inv X pins σ H s) (t : Nat) : Inv X pins σ H { s with toks := t } := I.un (h' := s.heap) (t' := t) Un.refl I.hok
/-- all objects kept -/
theorem Inv.kept {t' : Nat} (I : Inv X pins σ H s) (k : ∀ b u, s.heap.get? b = some u → h'.get? b = some u) : Inv X pins σ H { s with heap := h', toks := t' } := I.un (Un.kept k) (I.hok.kept k)
/-- a new object laid and tracked -/
theorem Inv.laid {a : Addr} {o : HO} {t' : Nat} (I : Inv X pins σ H s) (k : ∀ b u, s.heap.get? b = some u → h'.get? b = some u) (hp : s.heap.objs.size ≤ a) (new : ObjOk X.prog X.w (upd H a o) h' a o) :
    Inv X pins σ (upd H a o) { s with heap := h', toks := t' } := I.un (Un.laid k hp (I.hok.fresh hp)) (I.hok.laid k hp new)
/-- an object written -/
theorem Inv.write {x e : Addr} {o : HO} {t' : Nat} (I : Inv X pins σ H s) (mu : Mut (H x)) (he : e = x ∨ H e = some (.own x)) (k : ∀ b u, b ≠ e → s.heap.get? b = some u → h'.get? b = some u) (heo : ∃ u, h'.get? e = some u)
    (new : ObjOk X.prog X.w (upd H x o) h' x o) : Inv X pins σ (upd H x o) { s with heap := h', toks := t' } := I.un (Un.write mu he k heo) (I.hok.write mu he k heo new)
theorem Inv.pins_of {pins' : List (Addr × Obj)} (I : Inv X pins σ H s) (h : ∀ p ∈ pins', s.heap.get? p.1 = some p.2 ∧ H p.1 = none ∧ p.1 ≠ X.env.locals ∧ p.1 ∉ X.fs ∧ ∀ v, p.2.data ≠ .cell v) : Inv X pins' σ H s :=
  ⟨I.ok, I.os, I.bare, I.base, I.loc, I.cell, I.free, I.freeC, fun p hp => (List.mem_append.mp hp).elim (fun z => I.pin p (List.mem_append_left _ z)) (h p), I.hok, I.len⟩
theorem nodup_ix {N : List Str} (hN : N.Nodup) {i j : Nat} {x : Str} (a : N[i]? = some x) (b : N[j]? = some x) : i = j := by
  obtain ⟨h1, e1⟩ := List.getElem?_eq_some_iff.mp a
  obtain ⟨h2, e2⟩ := List.getElem?_eq_some_iff.mp b
  exact (List.getElem_inj hN).mp (e1.trans e2.symm)
/-- a name is stored; what changed -/
theorem store_ok2 {M : Model} {A : Around} {E : Value → Shared → Prop} {i : Nat} {x : Str} {v : V} {u : Value} {Q : Unit → Shared → Prop} (I : Inv X pins σ H s) (hN : X.N.Nodup) (hi : X.N[i]? = some x) (hx : Loc X.env.scope x) (r : RelV v u)
    (h : ∀ s', Inv X pins (σ.set i (some v)) H s' → (∃ a, Heap.SameBut a s.heap s'.heap ∧ (a = X.env.locals ∨ X.env.cells.lookup x = some a)) → Q () s') (hf : X.fn x = true ∨ X.env.scope.names.lookup x = some .local := by first | exact .inl rfl | exact .inr rfl | assumption) : wpAny M A (storeName X.env x u) Q E s := by
  obtain ⟨m, hn, hl⟩ := id I.loc
  have hcls : (X.env.scope.kind == .class || (X.env.scope.kind == .module && X.env.locals != X.env.globals)) = false := by rw [I.ok.kind]; rfl
  have hiσ : i < σ.length := by rw [I.len]; exact (List.getElem?_eq_some_iff.mp hi).1
  have cne := I.cne
  have tracked : ∀ {a : Addr} {h' : Heap}, (∃ o, s.heap.get? a = some o ∧ H a = none) → Heap.SameBut a s.heap h' → HOk X.prog X.w H h' := fun {a h'} ha hs b ob e => by
    obtain ⟨_, _, hfree⟩ := ha
    refine (I.hok b ob e).stay (fun c w' hc q => (hs.2 c ?_).trans q) (fun _ q => q) fun _ _ q => q
    rintro rfl
    rcases hc with rfl | hc
    · rw [hfree] at e; cases e
    · rw [hfree] at hc; cases hc
  rcases hx with hk | hk
  · refine wpAny_storeName_local hk hn (fun h' hn' hs => ?_) hcls
    obtain ⟨oL, _, _, hoL, _⟩ := id hn
    refine h _ ⟨I.ok, I.os, I.bare, ⟨fun b o e n hb hx => ?_, fun b o e n hb hx => ?_, I.base.free, fun b o e hx => ?_, I.base.tups, I.base.frzs, I.base.tbls⟩, ⟨_, hn', fun j y v' e1 e2 e3 => ?_⟩, fun y c e => ?_, I.free, I.freeC, fun p hp => ?_, tracked ⟨oL, hoL, I.free⟩ hs, by simpa using I.len⟩ ⟨_, hs, .inl rfl⟩
    · exact (hs.2 b (Nat.ne_of_lt (Nat.lt_of_lt_of_le (Heap.lt_size e) I.ok.above))).trans (I.base.keep b o e n hb hx)
    · obtain ⟨sl, e1⟩ := I.base.slot b o e n hb hx
      exact ⟨sl, (hs.2 b (Nat.ne_of_lt (Nat.lt_of_lt_of_le (Heap.lt_size e) I.ok.above))).trans e1⟩
    · obtain ⟨o', e1⟩ := I.base.there b o e hx
      exact ⟨o', (hs.2 b (Nat.ne_of_lt (Nat.lt_of_lt_of_le (Heap.lt_size e) I.ok.above))).trans e1⟩
    · by_cases hj : j = i
      · subst hj
        rw [hi] at e1; cases e1
        rw [List.getElem?_set_self hiσ] at e2
        cases e2
        exact ⟨u, r, .inl ⟨hk, by simp⟩⟩
      · rw [List.getElem?_set_ne (Ne.symm hj)] at e2
        obtain ⟨u', r', q⟩ := hl j y v' e1 e2 e3
        refine ⟨u', r', ?_⟩
        rcases q with ⟨k, e⟩ | ⟨k, c, e, z⟩
        · refine .inl ⟨k, ?_⟩
          have : y ≠ x := fun e => hj (nodup_ix hN e1 (e ▸ hi))
          simp [this, e]
        · exact .inr ⟨k, c, e, z.sameBut hs (cne y c e)⟩
    · obtain ⟨w', z⟩ := I.cell y c e
      exact ⟨w', z.sameBut hs (cne y c e)⟩
    · obtain ⟨e, n, ne, nf, d⟩ := I.pin p hp
      exact ⟨(hs.2 p.1 ne).trans e, n, ne, nf, d⟩
  · have hfn : X.fn x = true := by
      rcases hf with z | z
      · exact z
      · rw [z] at hk; cases hk
    obtain ⟨c, hc⟩ := I.ok.has x (.inl hk)
    obtain ⟨w', z⟩ := I.cell x c hc
    refine wpAny_storeName_cell I.ok.kind hk hc z (fun h' hc' hs => ?_)
    obtain ⟨oc, hoc, hocd⟩ := id z
    refine h { s with heap := h' } ⟨I.ok, I.os, I.bare, ⟨fun b o e n hb hx => ?_, fun b o e n hb hx => ?_, I.base.free, fun b o e hx => ?_, I.base.tups, I.base.frzs, I.base.tbls⟩, ⟨m, hn.sameBut hs (Ne.symm (cne x c hc)), fun j y v' e1 e2 e3 => ?_⟩, fun y c' e => ?_, I.free, I.freeC, fun p hp => ?_, tracked ⟨oc, hoc, I.freeC x c hc⟩ hs, by simpa using I.len⟩ ⟨c, hs, .inr hc⟩
    · exact (hs.2 b (Nat.ne_of_lt (Nat.lt_of_lt_of_le (Heap.lt_size e) (I.ok.cab x c hfn hc)))).trans (I.base.keep b o e n hb hx)
    · obtain ⟨sl, e1⟩ := I.base.slot b o e n hb hx
      exact ⟨sl, (hs.2 b (Nat.ne_of_lt (Nat.lt_of_lt_of_le (Heap.lt_size e) (I.ok.cab x c hfn hc)))).trans e1⟩
    · obtain ⟨o', e1⟩ := I.base.there b o e hx
      exact ⟨o', (hs.2 b (Nat.ne_of_lt (Nat.lt_of_lt_of_le (Heap.lt_size e) (I.ok.cab x c hfn hc)))).trans e1⟩
    · by_cases hj : j = i
      · subst hj
        rw [hi] at e1; cases e1
        rw [List.getElem?_set_self hiσ] at e2
        cases e2
        exact ⟨u, r, .inr ⟨.inl hk, c, hc, hc'⟩⟩
      · rw [List.getElem?_set_ne (Ne.symm hj)] at e2
        obtain ⟨u', r', q⟩ := hl j y v' e1 e2 e3
        refine ⟨u', r', ?_⟩
        rcases q with q | ⟨k, c', e, z'⟩
        · exact .inl q
        · refine .inr ⟨k, c', e, z'.sameBut hs ?_⟩
          rintro rfl
          exact hj (nodup_ix hN e1 (I.ok.inj _ _ _ e hc ▸ hi))
    · by_cases hcc : c' = c
      · subst hcc; exact ⟨_, hc'⟩
      · obtain ⟨w2, z2⟩ := I.cell y c' e
        exact ⟨w2, z2.sameBut hs hcc⟩
    · obtain ⟨e, n, ne, nf, d⟩ := I.pin p hp
      refine ⟨(hs.2 p.1 ?_).trans e, n, ne, nf, d⟩
      intro q
      rw [q, hoc] at e
      have q' : oc = p.2 := Option.some.inj e
      exact d w' (by rw [← q']; exact hocd)
theorem store_ok {M : Model} {A : Around} {E : Value → Shared → Prop} {i : Nat} {x : Str} {v : V} {u : Value} {Q : Unit → Shared → Prop} (I : Inv X pins σ H s) (hN : X.N.Nodup) (hi : X.N[i]? = some x) (hx : Loc X.env.scope x) (r : RelV v u)
    (h : ∀ s', Inv X pins (σ.set i (some v)) H s' → Q () s') (hf : X.fn x = true ∨ X.env.scope.names.lookup x = some .local := by first | exact .inl rfl | exact .inr rfl | assumption) : wpAny M A (storeName X.env x u) Q E s :=
  store_ok2 I hN hi hx r (fun s' I' _ => h s' I') hf
end
/-! ### the judgements -/
/-- an exception: its class, its own dict's address (where it has one), the abstract heap behind it -/
abbrev XK := Value → Option Addr → Hp → Prop
abbrev St := List (Option V)
abbrev VK := V → Hp → Prop
/-- an expression's reading; a test's; an argument list's -/
abbrev TE := St → Hp → VK → Prop
abbrev TT := St → Hp → (Bool → Hp → Prop) → Prop
abbrev TA := St → Hp → (List V → Hp → Prop) → Prop
/-- what is wanted behind a statement -/
structure Ends where
  nx : St → Hp → Prop
  rt : VK
  bk : St → Hp → Prop := fun _ _ => False
  ct : St → Hp → Prop := fun _ _ => False
abbrev TS := Ends → St → Hp → Prop
def EP (X : Cx) (pins : List (Addr × Obj)) (σ : St) (Q : VK) (u : Value) (s' : Shared) : Prop := ∃ v H', Inv X pins σ H' s' ∧ RelV v u ∧ Q v H'
def TP (X : Cx) (pins : List (Addr × Obj)) (σ : St) (Q : Bool → Hp → Prop) (b : Bool) (s' : Shared) : Prop := ∃ H', Inv X pins σ H' s' ∧ Q b H'
def AP (X : Cx) (pins : List (Addr × Obj)) (σ : St) (Q : List V → Hp → Prop) (us : List Value) (s' : Shared) : Prop := ∃ vs H', Inv X pins σ H' s' ∧ Vals vs us ∧ Q vs H'
def SP (X : Cx) (pins : List (Addr × Obj)) (D : Ends) (f : Flow) (s' : Shared) : Prop :=
  match f with
  | .next => ∃ σ' H', Inv X pins σ' H' s' ∧ D.nx σ' H'
  | .brk => ∃ σ' H', Inv X pins σ' H' s' ∧ D.bk σ' H'
  | .cont => ∃ σ' H', Inv X pins σ' H' s' ∧ D.ct σ' H'
  | .ret u => ∃ v σ' H', Inv X pins σ' H' s' ∧ RelV v u ∧ D.rt v H'
def PE (X : Cx) (e : Expr) (t : TE) : Prop :=
  ∀ (pins : List (Addr × Obj)) (s : Shared) (σ : St) (H : Hp) (Q : VK), Inv X pins σ H s → t σ H Q → wpAny (model X.prog X.w) X.A (eval e X.env) (EP X pins σ Q) X.xe s
def PT (X : Cx) (e : Expr) (t : TT) : Prop :=
  ∀ (pins : List (Addr × Obj)) (s : Shared) (σ : St) (H : Hp) (Q : Bool → Hp → Prop), Inv X pins σ H s → t σ H Q → wpAny (model X.prog X.w) X.A (isTrue e X.env (eval e X.env)) (TP X pins σ Q) X.xe s
/-- a test whatever its 'whole' is (and, or) -/
def PW (X : Cx) (e : Expr) (t : TT) : Prop :=
  ∀ (whole : Sem Value) (pins : List (Addr × Obj)) (s : Shared) (σ : St) (H : Hp) (Q : Bool → Hp → Prop), Inv X pins σ H s → t σ H Q → wpAny (model X.prog X.w) X.A (isTrue e X.env whole) (TP X pins σ Q) X.xe s
theorem PW.pt {X : Cx} {e : Expr} {t : TT} (h : PW X e t) : PT X e t := h _
/-- an argument list (no star), from the left -/
def PA (X : Cx) (es : List Expr) (t : TA) : Prop :=
  ∀ (pos : Pos) (pins : List (Addr × Obj)) (s : Shared) (σ : St) (H : Hp) (Q : List V → Hp → Prop), Inv X pins σ H s → t σ H Q → wpAny (model X.prog X.w) X.A (spliced (backTo pos (starEach es X.env))) (AP X pins σ Q) X.xe s
def PS (X : Cx) (st : Stmt) (t : TS) : Prop :=
  ∀ (pins : List (Addr × Obj)) (s : Shared) (σ : St) (H : Hp) (D : Ends), Inv X pins σ H s → t D σ H → wpAny (model X.prog X.w) X.A (exec st X.env) (SP X pins D) X.xe s
def PSs (X : Cx) (st : List Stmt) (t : TS) : Prop :=
  ∀ (pins : List (Addr × Obj)) (s : Shared) (σ : St) (H : Hp) (D : Ends), Inv X pins σ H s → t D σ H → wpAny (model X.prog X.w) X.A (execs st X.env) (SP X pins D) X.xe s
/-- weaken the end -/
theorem thn {α : Type} {t : Sem α} {Q Q' : α → Shared → Prop} {M : Model} {A : Around} {E : Value → Shared → Prop} {s : Shared} (h : wpAny M A t Q E s) (hQ : ∀ a s, Q a s → Q' a s) : wpAny M A t Q' E s := wpAny_mono h hQ fun _ _ x => x
end L2
namespace L2
open PySem PySem.Spec PyProof.Rows
section
variable {X : Cx}
/-! ### names and constants -/
def tVar (i : Nat) : TE := fun σ H Q => ∃ v, σ[i]? = some (some v) ∧ Q v H
def tC (v : V) : TE := fun _ H Q => Q v H
theorem pe_var {i : Nat} {x : Str} {pos : Pos} (hN : X.N[i]? = some x) (hv : Vis X.env.scope x) (hd : (x == ("__debug__" : Str)) = false := by decide) (hcd : (x == ("__classdict__" : Str)) = false := by decide) : PE X (.Name x pos) (tVar i) := by
  intro pins s σ H Q I h
  obtain ⟨v, e, h⟩ := h
  obtain ⟨m, hn, hl⟩ := I.loc
  obtain ⟨u, r, l⟩ := hl i x v hN e hv
  have fin : EP X pins σ Q u s := ⟨v, H, I, r, h⟩
  rcases l with ⟨hk, hm⟩ | ⟨hk, c, hc, hcell⟩
  · exact wpAny_Name (wpAny_loadName_local I.ok.kind hk hn hm fin) hd
  · rcases hk with hk | hk
    · exact wpAny_Name (wpAny_loadName_cell I.ok.kind hk hc hcell fin) hd
    · exact wpAny_Name (wpAny_loadName_free I.ok.kind hk hc hcell fin hcd) hd
theorem pe_int {i j pos} : PE X (.Constant (.int i) j pos) (tC (.int i)) := fun _ _ _ H _ I h => wpAny_Constant_int ⟨.int i, H, I.tok _, ⟨_, rfl⟩, h⟩
theorem pe_bl {b j pos} : PE X (.Constant (.bool b) j pos) (tC (.bl b)) := fun _ _ _ H _ I h => Constant_bool ⟨.bl b, H, I, rfl, h⟩
/-- a global name of the def -/
def Gl (X : Cx) (x : Str) : Prop := X.env.kindOf x = some .globalImplicit
theorem ld_glob {E : Value → Shared → Prop} {pins : List (Addr × Obj)} {s : Shared} {σ : St} {H : Hp} {x : Str} {u : Value} {pos : Pos} {Q : Value → Shared → Prop} (I : Inv X pins σ H s) (hg : Gl X x) (hm : X.mg x = some u) (h : Q u s)
    (hd : (x == ("__debug__" : Str)) = false := by decide) : wpAny (model X.prog X.w) X.A (eval (.Name x pos) X.env) Q E s :=
  Calls.Name_function_global I.ok.kind hg (Calls.loadGlobal_global (by rw [I.ok.glob]; exact I.mod.glob.keeps I.bk) hm h) hd
theorem ld_blt {E : Value → Shared → Prop} {pins : List (Addr × Obj)} {s : Shared} {σ : St} {H : Hp} {x : Str} {u : Value} {pos : Pos} {Q : Value → Shared → Prop} (I : Inv X pins σ H s) (hg : Gl X x) (hm : X.mg x = none) (hv : bootBuiltins x = some u) (h : Q u s)
    (hn : x ≠ "__name__" := by decide) (hd : (x == ("__debug__" : Str)) = false := by decide) : wpAny (model X.prog X.w) X.A (eval (.Name x pos) X.env) Q E s := by
  obtain ⟨mb, h1, h2⟩ := I.mod.blt
  exact Calls.Name_function_global I.ok.kind hg (Calls.loadGlobal_builtin (by rw [I.ok.glob]; exact I.mod.glob.keeps I.bk) hm (by rw [I.ok.blt]; exact h1.keeps I.bk) ((h2 x hn).trans hv) h) hd
theorem pe_bltn {x : Str} {v : V} {u : Value} {pos : Pos} (hg : Gl X x) (hm : X.mg x = none) (hv : bootBuiltins x = some u) (r : RelV v u) (hn : x ≠ "__name__" := by decide) (hd : (x == ("__debug__" : Str)) = false := by decide) : PE X (.Name x pos) (tC v) :=
  fun _ _ _ H _ I h => ld_blt I hg hm hv ⟨v, H, I, r, h⟩ hn hd
/-! ### arithmetic -/
variable {a b : Expr} {ta tb : TE} {pos : Pos}
/-! ### comparisons -/
/-- a comparison as a value, as a test -/
def tB (t : TE) : TT := fun σ H Q => t σ H fun x H1 => ∃ c, x = .bl c ∧ Q c H1
/-- an expression whose value is a bool, as a test -/
theorem pt_val {e : Expr} {t : TE} (h : PE X e t) (he : ∀ whole, isTrue e X.env whole = (do let v ← whole; standAt e.pos; holding [v] (truthy v)) := by intro _; rfl) : PT X e (tB t) := by
  intro pins s σ H Q I hw
  refine isTrue_plain (thn (h pins s σ H _ I hw) fun v s1 ⟨x, H1, I1, r1, q1⟩ => ?_) (he _)
  obtain ⟨d, rfl, q⟩ := q1
  cases r1
  exact wpAny_truthy_bool ⟨H1, I1, q⟩
/-! ### and, or, not -/
variable {tA tB' : TT} {rest : List Expr}
def tAnd (t u : TT) : TT := fun σ H Q => t σ H fun c H1 => if c = true then u σ H1 Q else Q false H1
def tOr (t u : TT) : TT := fun σ H Q => t σ H fun c H1 => if c = true then Q true H1 else u σ H1 Q
def tNot (t : TT) : TT := fun σ H Q => t σ H fun c H1 => Q (!c) H1
theorem pw_and1 (ha : PT X a tA) : PW X (.BoolOp .And [a] pos) tA := by
  intro wh pins s σ H Q I h
  refine isTrue_and (thn (ha pins s σ H Q I h) fun c s1 e => ?_)
  cases c with
  | true => exact isTrue_and_nil e
  | false => exact e
theorem pw_or1 (ha : PT X a tA) : PW X (.BoolOp .Or [a] pos) tA := by
  intro wh pins s σ H Q I h
  refine isTrue_or (thn (ha pins s σ H Q I h) fun c s1 e => ?_)
  cases c with
  | false => exact isTrue_or_nil e
  | true => exact e
theorem pw_and (ha : PT X a tA) (hb : PW X (.BoolOp .And (b :: rest) pos) tB') : PW X (.BoolOp .And (a :: b :: rest) pos) (tAnd tA tB') := by
  intro wh pins s σ H Q I h
  refine isTrue_and (thn (ha pins s σ H _ I h) fun c s1 ⟨H1, I1, q1⟩ => ?_)
  cases c with
  | true => exact hb wh pins s1 σ H1 Q I1 q1
  | false => exact ⟨H1, I1, q1⟩
theorem pw_or (ha : PT X a tA) (hb : PW X (.BoolOp .Or (b :: rest) pos) tB') : PW X (.BoolOp .Or (a :: b :: rest) pos) (tOr tA tB') := by
  intro wh pins s σ H Q I h
  refine isTrue_or (thn (ha pins s σ H _ I h) fun c s1 ⟨H1, I1, q1⟩ => ?_)
  cases c with
  | true => exact ⟨H1, I1, q1⟩
  | false => exact hb wh pins s1 σ H1 Q I1 q1
theorem pt_not (ha : PT X a tA) : PT X (.UnaryOp .Not a pos) (tNot tA) := by
  intro pins s σ H Q I h
  exact isTrue_not (ha pins s σ H (fun c H1 => Q (!c) H1) I h)
/-- .. as values (bools) -/
def tAndV (ta tb : TE) : TE := fun σ H Q => ta σ H fun x H1 => ∃ c, x = .bl c ∧ if c = true then tb σ H1 Q else Q (.bl false) H1
def tNotV (ta : TE) : TE := fun σ H Q => ta σ H fun x H1 => ∃ c, x = .bl c ∧ Q (.bl (!c)) H1
theorem pe_one {op} {t : TE} (h : PE X a t) : PE X (.BoolOp op [a] pos) t := fun pins s σ H Q I hw => BoolOp_one (h pins s σ H Q I hw)
theorem pe_and (ha : PE X a ta) (hb : PE X (.BoolOp .And (b :: rest) pos) tb) : PE X (.BoolOp .And (a :: b :: rest) pos) (tAndV ta tb) := by
  intro pins s σ H Q I h
  refine BoolOp_and (thn (ha pins s σ H _ I h) fun v s1 ⟨x, H1, I1, r1, q1⟩ => ?_)
  obtain ⟨c, rfl, q1⟩ := q1
  cases r1
  refine wpAny_truthy_bool ?_
  cases c with
  | true => exact hb pins s1 σ H1 Q I1 q1
  | false => exact ⟨.bl false, H1, I1, rfl, q1⟩
theorem pe_not (ha : PE X a ta) : PE X (.UnaryOp .Not a pos) (tNotV ta) := by
  intro pins s σ H Q I h
  refine UnaryOp_ (thn (ha pins s σ H _ I h) fun v s1 ⟨x, H1, I1, r1, q1⟩ => ?_)
  obtain ⟨c, rfl, q1⟩ := q1
  cases r1
  exact not_of (wpAny_truthy_bool ⟨.bl (!c), H1, I1, rfl, q1⟩)
end
end L2
namespace L2
open PySem PySem.Spec PyProof.Rows
/-! ### a list, a tuple that is read: tracked, frozen, or an object of the module -/
def SqL (K : PySem.W.Frag) (H : Hp) (a : Addr) (xs : List V) : Prop :=
  Rd H a (.lst xs) ∨
    ∃ (o : Obj) (its : Array Value) (n : Nat), K.lookup a = some o ∧ o.cls = .type "list" ∧ o.dict = none ∧ o.data = .seq its n ∧ its.size ≤ sizeLine ∧ Vals xs its.toList
def SqT (K : PySem.W.Frag) (H : Hp) (a : Addr) (xs : List V) : Prop :=
  Rd H a (.tup xs) ∨
    ∃ (o : Obj) (its : Array Value) (n : Nat), K.lookup a = some o ∧ o.cls = .type "tuple" ∧ o.data = .seq its n ∧ its.size ≤ sizeLine ∧ Vals xs its.toList
def absV : Value → Option V
  | .none => some .non
  | .bool b => some (.bl b)
  | .int i _ => some (.int i)
  | .str x _ => some (.str x)
  | .bytes b _ => some (.byt b)
  | .float b _ => some (.flt b)
  | .ref a => some (.ref a)
  | .type n => some (.ty n)
  | _ => none
theorem RelV.abs {x : V} {u : Value} (r : RelV x u) : absV u = some x := by
  cases x with
  | non => cases r; rfl
  | bl _ => cases r; rfl
  | int _ => obtain ⟨t, rfl⟩ := r; rfl
  | str _ => obtain ⟨t, rfl⟩ := r; rfl
  | byt _ => obtain ⟨t, rfl⟩ := r; rfl
  | flt _ => obtain ⟨t, rfl⟩ := r; rfl
  | ref _ => cases r; rfl
  | ty _ => cases r; rfl
theorem RelV.inj {x y : V} {u : Value} (r : RelV x u) (q : RelV y u) : x = y := Option.some.inj (r.abs.symm.trans q.abs)
theorem Vals.inj : ∀ {xs ys : List V} {us : List Value}, Vals xs us → Vals ys us → xs = ys
  | _, _, _, .nil, .nil => rfl
  | _, _, _, .cons r t, .cons r' t' => by rw [r.inj r', Vals.inj t t']
section
variable {X : Cx} {pins : List (Addr × Obj)} {σ : St} {H : Hp} {s : Shared} {a : Addr} {xs ys : List V}
theorem SqL.of {K : PySem.W.Frag} (h : H a = some (.lst xs)) : SqL K H a xs := .inl (.inl h)
theorem SqT.of {K : PySem.W.Frag} (h : H a = some (.tup xs)) : SqT K H a xs := .inl (.inl h)
theorem Inv.list (I : Inv X pins σ H s) (h : SqL X.K H a xs) : ∃ its : List Value, Vals xs its ∧ PlainL s.heap a its.toArray ∧ xs.length ≤ sizeLine := by
  rcases h with h | ⟨o, its, n, hk, hc, hd, hs, hz, r⟩
  · obtain ⟨z, its, n, r, e⟩ := h.ok I.hok
    exact ⟨its, r, ⟨_, n, e, rfl, rfl, rfl⟩, z⟩
  · refine ⟨its.toList, r, ⟨o, n, I.kIn a o hk, hc, hd, by simpa using hs⟩, ?_⟩
    have e := r.length
    simp only [Array.length_toList] at e
    omega
theorem Inv.tuple (I : Inv X pins σ H s) (h : SqT X.K H a xs) : ∃ its : List Value, Vals xs its ∧ IsTup s.heap a its.toArray ∧ xs.length ≤ sizeLine := by
  rcases h with h | ⟨o, its, n, hk, hc, hs, hz, r⟩
  · obtain ⟨z, its, r, p⟩ := h.ok I.hok
    exact ⟨its, r, p, z⟩
  · refine ⟨its.toList, r, ⟨o, I.kIn a o hk, hc, n, by simpa using hs⟩, ?_⟩
    have e := r.length
    simp only [Array.length_toList] at e
    omega
theorem Inv.list_inj (I : Inv X pins σ H s) (h : SqL X.K H a xs) (h' : SqL X.K H a ys) : xs = ys := by
  obtain ⟨its, r, ⟨o, n, e, _, _, d⟩, _⟩ := I.list h
  obtain ⟨its', r', ⟨o', n', e', _, _, d'⟩, _⟩ := I.list h'
  rw [e] at e'; cases e'
  rw [d] at d'
  injection d' with d1 _
  have : its = its' := by simpa using congrArg Array.toList d1
  subst this
  exact r.inj r'
theorem Inv.tuple_inj (I : Inv X pins σ H s) (h : SqT X.K H a xs) (h' : SqT X.K H a ys) : xs = ys := by
  obtain ⟨its, r, ⟨o, e, _, n, d⟩, _⟩ := I.tuple h
  obtain ⟨its', r', ⟨o', e', _, n', d'⟩, _⟩ := I.tuple h'
  rw [e] at e'; cases e'
  rw [d] at d'
  injection d' with d1 _
  have : its = its' := by simpa using congrArg Array.toList d1
  subst this
  exact r.inj r'
end
/-! ### another wish about exceptions -/
abbrev Cx.wish (X : Cx) (E : Value → Shared → Prop) : Cx := { X with xe := E }
/-- no exception leaves -/
abbrev Cx.nox (X : Cx) : Cx := X.wish fun _ _ => False
theorem Cx.Ok.wish {X : Cx} (ok : X.Ok) (E : Value → Shared → Prop) : (X.wish E).Ok :=
  ⟨ok.mod, ok.kind, ok.glob, ok.blt, ok.above, ok.inj, ok.has, ok.cab, ok.hd, ok.frames, ok.stk, ok.exf, ok.bs, ok.bsz, ok.noex, ok.exfs, ok.funs, ok.frf⟩
theorem Cx.Ok.unwish {X : Cx} {E : Value → Shared → Prop} (ok : (X.wish E).Ok) : X.Ok :=
  ⟨ok.mod, ok.kind, ok.glob, ok.blt, ok.above, ok.inj, ok.has, ok.cab, ok.hd, ok.frames, ok.stk, ok.exf, ok.bs, ok.bsz, ok.noex, ok.exfs, ok.funs, ok.frf⟩
section
variable {X : Cx} {pins : List (Addr × Obj)} {σ : St} {H : Hp} {s : Shared} {E : Value → Shared → Prop}
theorem Inv.wish (I : Inv X pins σ H s) (E : Value → Shared → Prop) : Inv (X.wish E) pins σ H s := ⟨I.ok.wish E, I.os, I.bare, I.base, I.loc, I.cell, I.free, I.freeC, I.pin, I.hok, I.len⟩
theorem Inv.unwish (I : Inv (X.wish E) pins σ H s) : Inv X pins σ H s := ⟨I.ok.unwish, I.os, I.bare, I.base, I.loc, I.cell, I.free, I.freeC, I.pin, I.hok, I.len⟩
theorem SP.unwish {D : Ends} {f : Flow} {s' : Shared} (h : SP (X.wish E) pins D f s') : SP X pins D f s' := by
  cases f with
  | next => obtain ⟨σ', H', I, q⟩ := h; exact ⟨σ', H', I.unwish, q⟩
  | brk => obtain ⟨σ', H', I, q⟩ := h; exact ⟨σ', H', I.unwish, q⟩
  | cont => obtain ⟨σ', H', I, q⟩ := h; exact ⟨σ', H', I.unwish, q⟩
  | ret u => obtain ⟨v, σ', H', I, r, q⟩ := h; exact ⟨v, σ', H', I.unwish, r, q⟩
theorem PSs.nox {st : List Stmt} {t : TS} (h : PSs X.nox st t) : PSs X st t := fun pins s σ H D I hw =>
  wpAny_mono (h pins s σ H D (I.wish _) hw) (fun _ _ q => q.unwish) fun _ _ z => False.elim z
end
/-! ### blocks and small statements -/
section
variable {X : Cx} {st : Stmt} {rest : List Stmt} {t u : TS} {e : Expr} {te : TE} {pos : Pos}
def tNext : TS := fun D σ H => D.nx σ H
def tSeq (t u : TS) : TS := fun D σ H => t { D with nx := u D } σ H
theorem pss_nil : PSs X [] tNext := fun _ _ σ H _ I h => wpAny_execs_nil ⟨σ, H, I, h⟩
theorem pss_cons (h1 : PS X st t) (h2 : PSs X rest u) : PSs X (st :: rest) (tSeq t u) := by
  intro pins s σ H D I h
  refine wpAny_execs_cons (thn (h1 pins s σ H { D with nx := u D } I h) fun f s1 q => ?_)
  cases f with
  | next =>
    obtain ⟨σ', H', I', q⟩ := q
    exact h2 pins s1 σ' H' D I' q
  | ret v => exact q
  | brk => exact q
  | cont => exact q
theorem pss_one (h1 : PS X st t) : PSs X [st] t := by
  intro pins s σ H D I h
  refine wpAny_execs_cons (thn (h1 pins s σ H D I h) fun f s1 q => ?_)
  cases f with
  | next => exact wpAny_execs_nil q
  | ret v => exact q
  | brk => exact q
  | cont => exact q
/-- in a def's body nothing is shown -/
theorem Inv.quiet {pins : List (Addr × Obj)} {σ : St} {H : Hp} {s : Shared} (I : Inv X pins σ H s) : interactive X.env = false := by simp [interactive, I.ok.kind]
/-- an expression whose value is dropped -/
def tDrop (te : TE) : TS := fun D σ H => te σ H fun _ H1 => D.nx σ H1
theorem ps_expr (he : PE X e te) (hs : swapsWith e none pos.line X.env = pure false := by rfl) : PS X (.Expr e pos) (tDrop te) := by
  intro pins s σ H D I h
  exact wpAny_Expr_any (thn (he pins s σ H _ I h) fun v s1 ⟨x, H1, I1, r1, q1⟩ => ⟨σ, H1, I1, q1⟩) I.quiet hs
def tRet (te : TE) : TS := fun D σ H => te σ H D.rt
theorem ps_ret (he : PE X e te) : PS X (.Return (some e) pos) (tRet te) := by
  intro pins s σ H D I h
  exact wpAny_Return_some (thn (he pins s σ H _ I h) fun v s1 ⟨x, H1, I1, r1, q1⟩ => ⟨x, σ, H1, I1, r1, q1⟩)
def tIfS (c : TT) (t u : TS) : TS := fun D σ H => c σ H fun b H1 => if b = true then t D σ H1 else u D σ H1
theorem ps_if {c : Expr} {a b : List Stmt} {tc : TT} (hc : PT X c tc) (ha : PSs X a t) (hb : PSs X b u) : PS X (.If c a b pos) (tIfS tc t u) := by
  intro pins s σ H D I h
  refine wpAny_If (thn (hc pins s σ H _ I h) fun d s1 ⟨H1, I1, q1⟩ => ?_)
  cases d with
  | true => exact ha pins s1 σ H1 D I1 q1
  | false => exact hb pins s1 σ H1 D I1 q1
end
/-! ### targets -/
abbrev TG := V → St → Hp → (St → Hp → Prop) → Prop
abbrev TGs := List V → St → Hp → (St → Hp → Prop) → Prop
def PG (X : Cx) (target : Expr) (t : TG) : Prop :=
  ∀ (pins : List (Addr × Obj)) (s : Shared) (σ : St) (H : Hp) (v : V) (u : Value) (Q : St → Hp → Prop), Inv X pins σ H s → RelV v u → t v σ H Q →
    wpAny (model X.prog X.w) X.A (assign target X.env u) (fun _ s' => ∃ σ' H', Inv X pins σ' H' s' ∧ Q σ' H') X.xe s
/-- several targets, one after another -/
def PGs (X : Cx) (ts : List Expr) (t : TGs) : Prop :=
  ∀ (pins : List (Addr × Obj)) (s : Shared) (σ : St) (H : Hp) (vs : List V) (us : List Value) (Q : St → Hp → Prop), Inv X pins σ H s → Vals vs us → t vs σ H Q →
    wpAny (model X.prog X.w) X.A (assignInOrder ((assignEach ts X.env).map (·.2)) us) (fun _ s' => ∃ σ' H', Inv X pins σ' H' s' ∧ Q σ' H') X.xe s
/-- o[i] = v, by values -/
abbrev TSet := V → V → V → Hp → (Hp → Prop) → Prop
def PSet (X : Cx) (t : TSet) : Prop :=
  ∀ (pins : List (Addr × Obj)) (s : Shared) (σ : St) (H : Hp) (o i v : V) (ov iv u : Value) (Q : Hp → Prop), Inv X pins σ H s → RelV o ov → RelV i iv → RelV v u → t o i v H Q →
    wpAny (model X.prog X.w) X.A (setItem ov iv u) (fun _ s' => ∃ H', Inv X pins σ H' s' ∧ Q H') X.xe s
/-- a op= b, by values -/
abbrev TIp := V → V → Hp → VK → Prop
def PIp (X : Cx) (op : Operator) (t : TIp) : Prop :=
  ∀ (pins : List (Addr × Obj)) (s : Shared) (σ : St) (H : Hp) (x y : V) (v u : Value) (Q : VK), Inv X pins σ H s → RelV x v → RelV y u → t x y H Q →
    wpAny (model X.prog X.w) X.A (inplaceOp op v u) (EP X pins σ Q) X.xe s
section
variable {X : Cx} {pos : Pos}
def gName (i : Nat) : TG := fun v σ H Q => Q (σ.set i (some v)) H
theorem pg_name {i : Nat} {x : Str} (hN : X.N.Nodup) (hi : X.N[i]? = some x) (hx : Loc X.env.scope x) (hf : X.fn x = true ∨ X.env.scope.names.lookup x = some .local := by first | exact .inl rfl | exact .inr rfl | assumption) : PG X (.Name x pos) (gName i) := by
  intro pins s σ H v u Q I r h
  exact wpAny_assign_Name (store_ok I hN hi hx r (fun s' I' => ⟨_, H, I', h⟩) hf)
def gNil : TGs := fun vs σ H Q => vs = [] ∧ Q σ H
def gCons (t : TG) (u : TGs) : TGs := fun vs σ H Q => ∃ v r, vs = v :: r ∧ t v σ H fun σ' H' => u r σ' H' Q
theorem pgs_nil : PGs X [] gNil := by
  intro pins s σ H vs us Q I r h
  obtain ⟨e, h⟩ := h
  subst e
  cases r
  exact assignInOrder_nil ⟨σ, H, I, h⟩
theorem pgs_cons {e : Expr} {es : List Expr} {t : TG} {u : TGs} (h1 : PG X e t) (h2 : PGs X es u)
    (hs : (assignEach (e :: es) X.env).map (·.2) = assign e X.env :: (assignEach es X.env).map (·.2) := by rfl) : PGs X (e :: es) (gCons t u) := by
  intro pins s σ H vs us Q I r h
  obtain ⟨v, vr, e1, h⟩ := h
  subst e1
  cases r with
  | cons r rr =>
    rw [hs]
    refine assignInOrder_cons (thn (h1 pins s σ H _ _ _ I r h) fun _ s1 ⟨σ1, H1, I1, q1⟩ => ?_)
    exact h2 pins s1 σ1 H1 _ _ Q I1 rr q1
/-- (a, b, ..) = a tuple of that length -/
def gTup (K : PySem.W.Frag) (n : Nat) (t : TGs) : TG := fun v σ H Q => ∃ a xs, v = .ref a ∧ SqT K H a xs ∧ xs.length = n ∧ t xs σ H Q
theorem pg_tup {es : List Expr} {k : Nat} {t : TGs} {n : Nat} (hc : X.calm = true) (h : PGs X es t)
    (hn : (assignEach es X.env).length = n := by rfl) (hst : (assignEach es X.env).findIdx? (·.1) = none := by rfl) : PG X (.Tuple es k pos) (gTup X.K n t) := by
  intro pins s σ H v u Q I r hw
  obtain ⟨a, xs, e1, hq, hl, hw⟩ := hw
  subst e1
  cases r
  obtain ⟨its, rv, ht, hz⟩ := I.tuple hq
  refine assign_Tuple_tuple (I.ok.hd hc) ht (by simp [hn, ← hl, rv.length]) hst fun h' hx => ?_
  have I1 : Inv X pins σ H { s with heap := h' } := I.kept (t' := s.toks) fun b o e => hx b o (Nat.ne_of_lt (Heap.lt_size e)) e
  exact h pins _ σ H xs _ Q I1 (by simpa using rv) hw
/-- o[i] = .. -/
def gSub (to ti : TE) (t : TSet) : TG := fun v σ H Q => to σ H fun o H1 => ti σ H1 fun i H2 => t o i v H2 fun H3 => Q σ H3
theorem pg_sub {o i : Expr} {to ti : TE} {t : TSet} (ho : PE X o to) (hi : PE X i ti) (hs : PSet X t)
    (ha : ∀ v, assign (.Subscript o i pos) X.env v = (do
      let ov ← holding [v] (eval o X.env)
      let iv ← holding [v, ov] (eval i X.env)
      standAt pos
      holding [v, ov, iv] (setItem ov iv v)
      release [v, ov, iv] []) := by intro _; rfl) : PG X (.Subscript o i pos) (gSub to ti t) := by
  intro pins s σ H v u Q I r h
  rw [ha]
  refine wpAny_bind (wpAny_holding (thn (ho pins s σ H _ I h) fun ov s1 ⟨x, H1, I1, r1, q1⟩ => ?_))
  refine wpAny_bind (wpAny_holding (thn (hi pins s1 σ H1 _ I1 q1) fun iv s2 ⟨y, H2, I2, r2, q2⟩ => ?_))
  refine wpAny_bind (wpAny_standAt (wpAny_bind (wpAny_holding (thn (hs pins s2 σ H2 x y v ov iv u _ I2 r1 r2 r q2) fun _ s3 ⟨H3, I3, q3⟩ => ?_))))
  exact wpAny_release ⟨σ, H3, I3, q3⟩
/-- target = value -/
def tAsg (te : TE) (g : TG) : TS := fun D σ H => te σ H fun x H1 => g x σ H1 D.nx
theorem ps_asg {tg e : Expr} {te : TE} {g : TG} (he : PE X e te) (hg : PG X tg g) (hs : swapsWithSole [tg] e pos.line X.env = pure false := by rfl) (hw : swappedStores [tg] e X.env = pure none := by rfl)
    (h1 : (assignEach [tg] X.env).map (·.2) = [assign tg X.env] := by rfl) : PS X (.Assign [tg] e pos) (tAsg te g) := by
  intro pins s σ H D I h
  refine wpAny_Assign_stores (thn (he pins s σ H _ I h) fun v s1 ⟨x, H1, I1, r1, q1⟩ => ?_) hs hw
  rw [h1]
  exact thn (hg pins s1 σ H1 x v _ I1 r1 q1) fun _ s2 q => q
/-- name = value -/
theorem ps_set {i : Nat} {x : Str} {e : Expr} {te : TE} {pos' : Pos} (hN : X.N.Nodup) (hi : X.N[i]? = some x) (hx : Loc X.env.scope x) (he : PE X e te) (hs : swapsWith e (some (.Name x pos')) pos.line X.env = pure false := by rfl) (hf : X.fn x = true ∨ X.env.scope.names.lookup x = some .local := by first | exact .inl rfl | exact .inr rfl | assumption) :
    PS X (.Assign [.Name x pos'] e pos) (tAsg te (gName i)) := by
  intro pins s σ H D I h
  refine wpAny_Assign_Name (thn (he pins s σ H _ I h) fun v s1 ⟨y, H1, I1, r1, q1⟩ => ?_) hs
  exact store_ok I1 hN hi hx r1 (fun s2 I2 => ⟨_, H1, I2, q1⟩) hf
/-- name op= e -/
def tAug (i : Nat) (te : TE) (ti : TIp) : TS := fun D σ H => ∃ x, σ[i]? = some (some x) ∧ te σ H fun y H1 => ti x y H1 fun z H2 => D.nx (σ.set i (some z)) H2
theorem ps_aug {i : Nat} {x : Str} {e : Expr} {te : TE} {op : Operator} {ti : TIp} {pos' : Pos} (hN : X.N.Nodup) (hi : X.N[i]? = some x) (hx : Loc X.env.scope x) (he : PE X e te) (ho : PIp X op ti) (hf : X.fn x = true ∨ X.env.scope.names.lookup x = some .local := by first | exact .inl rfl | exact .inr rfl | assumption) :
    PS X (.AugAssign (.Name x pos') op e pos) (tAug i te ti) := by
  intro pins s σ H D I h
  obtain ⟨v, e1, h⟩ := h
  obtain ⟨m, hn, hl⟩ := I.loc
  have vis : Vis X.env.scope x := by rcases hx with k | k; exact .inl k; exact .inr (.inl k)
  obtain ⟨u, r, l⟩ := hl i x v hi e1 vis
  refine wpAny_AugAssign_Name ?_
  have go : wpAny (model X.prog X.w) X.A (eval e X.env) (fun w s₂ => wpAny (model X.prog X.w) X.A (inplaceOp op u w) (fun r s₃ => wpAny (model X.prog X.w) X.A (storeName X.env x r) (fun _ => SP X pins D .next) X.xe s₃) X.xe s₂) X.xe s := by
    refine thn (he pins s σ H _ I h) fun w s1 ⟨y, H1, I1, r1, q1⟩ => ?_
    refine thn (ho pins s1 σ H1 v y u w _ I1 r r1 q1) fun z s2 ⟨zv, H2, I2, r2, q2⟩ => ?_
    exact store_ok I2 hN hi hx r2 (fun s3 I3 => ⟨_, H2, I3, q2⟩) hf
  rcases l with ⟨hk, hm⟩ | ⟨hk, c, hc, hcell⟩
  · exact wpAny_loadName_local I.ok.kind hk hn hm go
  · rcases hk with hk | hk
    · exact wpAny_loadName_cell I.ok.kind hk hc hcell go
    · rcases hx with k | k
      · have : X.env.scope.names.lookup x = some .free := hk
        rw [k] at this; cases this
      · have : X.env.scope.names.lookup x = some .free := hk
        rw [k] at this; cases this
/-- ints -/
def ipI (f : Int → Int → Int) : TIp := fun x y H Q => ∃ i j, x = .int i ∧ y = .int j ∧ Q (.int (f i j)) H
theorem ip_add : PIp X .Add (ipI fun i j => i + j) := by
  intro pins s σ H x y v u Q I r1 r2 h
  obtain ⟨i, j, e1, e2, q⟩ := h
  subst e1; subst e2
  obtain ⟨t, rfl⟩ := r1
  obtain ⟨t', rfl⟩ := r2
  exact iadd_int ⟨.int _, H, I.tok _, ⟨_, rfl⟩, q⟩
end
/-! ### while -/
section
variable {X : Cx} {pos : Pos}
/-- the invariant W with its measure -/
def tWhile (c : TT) (tb : TS) : TS := fun D σ H => ∃ W : Nat → St → Hp → Prop, (∃ m, W m σ H) ∧ ∀ m σ H, W m σ H →
  c σ H fun b H1 => if b = true then ∃ N : St → Hp → Prop, (∀ σ' H', N σ' H' → ∃ m', m' < m ∧ W m' σ' H') ∧ tb { D with nx := N, ct := N, bk := D.nx } σ H1 else D.nx σ H1
theorem ps_while {c : Expr} {body : List Stmt} {tc : TT} {tb : TS} (hp : PassesOwn (model X.prog X.w) X.A X.env X.xe) (hc : PT X c tc) (hb : PSs X body tb) : PS X (.While c body [] pos) (tWhile tc tb) := by
  intro pins s σ H D I h
  obtain ⟨W, ⟨m0, w0⟩, turn⟩ := h
  refine wpAny_While (codeAny_whileLoop (fun n s' => ∃ σ' H', Inv X pins σ' H' s' ∧ W n σ' H') ?_ m0 ⟨σ, H, I, w0⟩)
  rintro n s1 ⟨σ1, H1, I1, w1⟩
  refine wpAny_passesOwn hp (thn (hc pins s1 σ1 H1 _ I1 (turn n σ1 H1 w1)) fun b s2 ⟨H2, I2, q2⟩ => ?_)
  cases b with
  | true =>
    obtain ⟨N, hN, q2⟩ := q2
    rw [if_pos rfl]
    refine wpAny_passesOwn hp (thn (hb pins s2 σ1 H2 _ I2 q2) fun f s3 q3 => ?_)
    cases f with
    | next =>
      obtain ⟨σ3, H3, I3, n3⟩ := q3
      obtain ⟨m', hm, w3⟩ := hN σ3 H3 n3
      exact ⟨m', hm, σ3, H3, I3, w3⟩
    | cont =>
      obtain ⟨σ3, H3, I3, n3⟩ := q3
      obtain ⟨m', hm, w3⟩ := hN σ3 H3 n3
      exact ⟨m', hm, σ3, H3, I3, w3⟩
    | brk => exact q3
    | ret v => exact q3
  | false =>
    rw [if_neg Bool.false_ne_true]
    exact wpAny_execs_nil ⟨σ1, H2, I2, q2⟩
end
/-! ### what a loop or a comprehension walks -/
/-- at turn i: it yields x (the heap may grow), or it stops -/
structure It where
  go : Nat → Hp → Prop
  yld : Nat → Hp → V → Hp → Prop
  stop : Nat → Hp → Prop
/-- the iterator's own objects may turn: they are not the frame's, not pinned, younger than the entry (or a comprehension's own) -/
def FpOk (X : Cx) (pins : List (Addr × Obj)) (H : Hp) (b : Addr) : Prop :=
  H b = none ∧ b ≠ X.env.locals ∧ b ∉ X.fs ∧ (b ∈ X.ex ∨ X.s₀.heap.objs.size ≤ b) ∧ (∀ x c, X.env.cells.lookup x = some c → c ≠ b) ∧ ∀ p ∈ X.pn ++ pins, p.1 ≠ b
theorem Inv.fpOk {X : Cx} {pins : List (Addr × Obj)} {σ : St} {H H' : Hp} {s : Shared} {b : Addr} (I : Inv X pins σ H s) (hb : s.heap.objs.size ≤ b) (hn : H' b = none) : FpOk X pins H' b := by
  refine ⟨hn, Nat.ne_of_gt (Nat.lt_of_lt_of_le I.lt hb), I.nofs hb, .inr (Nat.le_trans I.sz hb), fun x c e z => ?_, fun p hp z => ?_⟩
  · obtain ⟨v, q⟩ := I.cell x c e
    exact absurd (Nat.lt_of_lt_of_le q.lt (by rw [z]; exact hb)) (Nat.lt_irrefl _)
  · exact absurd (Nat.lt_of_lt_of_le (Heap.lt_size (I.pin p hp).1) (by rw [z]; exact hb)) (Nat.lt_irrefl _)
structure Turn (P : Program) (w : World) (K : PySem.W.Frag) (tg : Expr) (J : It) (fp : List Addr) (it : Addr) (tn : Nat → Heap → Prop) : Prop where
  mem : it ∈ fp
  obj : ∀ i h, tn i h → ∀ b ∈ fp, ∃ o, h.get? b = some o ∧ ∀ v, o.data ≠ .cell v
  keep : ∀ i h h', tn i h → (∀ b ∈ fp, ∀ o, h.get? b = some o → h'.get? b = some o) → tn i h'
  item : ∀ (X : Cx), X.prog = P → X.w = w → X.K = K → X.calm = true → ∀ (i : Nat) (pins : List (Addr × Obj)) (s : Shared) (σ : St) (H : Hp) (E : Value → Shared → Prop), Inv X pins σ H s → (∀ b ∈ fp, FpOk X pins H b) → tn i s.heap → J.go i H →
    wpAny (model P w) X.A (pyNext (.ref it)) (fun r s1 => ∃ u, r = some u ∧
      wpAny (model P w) X.A (letOwnedTupleGo tg (.ref it) u) (fun _ s2 => ∃ x H', Inv X pins σ H' s2 ∧ RelV x u ∧ J.yld i H x H' ∧ tn (i + 1) s2.heap ∧ ∀ b ∈ fp, H' b = none) E s1) E s
  done : ∀ (X : Cx), X.prog = P → X.w = w → X.K = K → X.calm = true → ∀ (i : Nat) (pins : List (Addr × Obj)) (s : Shared) (σ : St) (H : Hp) (E : Value → Shared → Prop), Inv X pins σ H s → (∀ b ∈ fp, FpOk X pins H b) → tn i s.heap → J.stop i H →
    wpAny (model P w) X.A (pyNext (.ref it)) (fun r s1 => r = none ∧ Inv X pins σ H s1) E s
  self : ∀ (A : Around) (i : Nat) (s : Shared) (Q : Value → Shared → Prop) (E : Value → Shared → Prop), tn i s.heap → Q (.ref it) s → wpAny (model P w) A (pyIter (.ref it)) Q E s
abbrev TI := St → Hp → (It → Hp → Prop) → Prop
/-- an iterator has come -/
def PIE (X : Cx) (pins : List (Addr × Obj)) (σ : St) (tg : Expr) (R : It → Hp → Prop) (itv : Value) (s2 : Shared) : Prop :=
  ∃ (it : Addr) (fp : List Addr) (tn : Nat → Heap → Prop) (J : It) (H' : Hp), itv = .ref it ∧ Inv X pins σ H' s2 ∧ Turn X.prog X.w X.K tg J fp it tn ∧ tn 0 s2.heap ∧ (∀ b ∈ fp, FpOk X pins H' b) ∧ R J H'
def PI (X : Cx) (tg iter : Expr) (wi : TI) : Prop :=
  ∀ (pins : List (Addr × Obj)) (s : Shared) (σ : St) (H : Hp) (R : It → Hp → Prop), Inv X pins σ H s → wi σ H R →
    wpAny (model X.prog X.w) X.A (eval iter X.env) (fun v s1 => wpAny (model X.prog X.w) X.A (pyIter v) (PIE X pins σ tg R) X.xe s1) X.xe s
/-- the step ahead of the store is nothing for an iterator that keeps no tuple -/
theorem go_of {M : Model} {A : Around} {E : Value → Shared → Prop} {s : Shared} {tg : Expr} {it : Addr} {u : Value} {o : Obj} {n : String} {vs : Array Value} {Q : Unit → Shared → Prop} (ho : s.heap.get? it = some o) (hc : o.cls = .type n) (hd : o.data = .fields vs)
    (hn : ["enumerate", "zip", "dict_itemiterator", "dict_reverseitemiterator", "odict_iterator", "itertools.zip_longest", "itertools.pairwise"].contains n = false) (hQ : Q () s) : wpAny M A (letOwnedTupleGo tg (.ref it) u) Q E s := by
  unfold letOwnedTupleGo
  cases tg <;> first
    | exact wpAny_pure hQ
    | (cases u <;> first
        | exact wpAny_pure hQ
        | (refine wpAny_bind (wpAny_load ho ?_)
           rw [hc, hd]
           show wpAny M A (if (["enumerate", "zip", "dict_itemiterator", "dict_reverseitemiterator", "odict_iterator", "itertools.zip_longest", "itertools.pairwise"].contains n && vs[0]? == some (rawInt _)) = true then _ else _) Q E s
           rw [if_neg (by intro h; rw [hn, Bool.false_and] at h; cases h)]
           exact wpAny_pure hQ))
/-- the list at a, as it stands at each turn (a loop may append to it) -/
def Itl (K : PySem.W.Frag) (a : Addr) : It :=
  ⟨fun i H => ∃ xs x, SqL K H a xs ∧ xs[i]? = some x, fun i H x H' => H' = H ∧ ∀ xs, SqL K H a xs → xs[i]? = some x, fun i H => ∃ xs, SqL K H a xs ∧ xs.length ≤ i⟩
/-- lo, lo + 1, .. (n of them) -/
def Itr (lo : Int) (n : Nat) : It := ⟨fun i _ => i < n, fun i H x H' => H' = H ∧ x = .int (lo + i), fun i _ => n ≤ i⟩
theorem turn_list {P : Program} {w : World} {K : PySem.W.Frag} {tg : Expr} (a it : Addr) : Turn P w K tg (Itl K a) [it] it (fun i h => h.IsListIter it a i) where
  mem := by simp
  obj := fun i h st b hb => by
    have e : b = it := by simpa using hb
    subst e
    obtain ⟨o, e, c, d⟩ := st
    exact ⟨o, e, fun v z => by rw [d] at z; cases z⟩
  keep := fun i h h' st k => st.at fun o e => k it (by simp) o e
  item := by
    intro X hP hw hK hc i pins s σ H E I hf st hg
    subst hP hw hK
    obtain ⟨xs, x, hq, hx⟩ := hg
    obtain ⟨its, rv, p, hz⟩ := I.list hq
    obtain ⟨u, hu, ru⟩ := rv.get hx
    obtain ⟨f0, f1, f2, f3, f4, f5⟩ := hf it (by simp)
    refine wpAny_pyNext_list_item st p.isList (x := u) (by simpa using hu) fun h' st' sb => ?_
    have I1 : Inv X pins σ H { s with heap := h' } := I.turned (t' := s.toks) (fun b o hb e => (sb.2 b hb).trans e) f0 f1 f3 f4 f5
    obtain ⟨o, e, c, d⟩ := id st'
    exact ⟨u, rfl, go_of (s := { s with heap := h' }) e c d (by decide) ⟨x, H, I1, ru, ⟨rfl, fun ys hy => by rw [I.list_inj hy hq]; exact hx⟩, st', fun b hb => (hf b hb).1⟩⟩
  done := by
    intro X hP hw hK hc i pins s σ H E I hf st hg
    subst hP hw hK
    obtain ⟨xs, hq, hx⟩ := hg
    obtain ⟨its, rv, p, hz⟩ := I.list hq
    obtain ⟨f0, f1, f2, f3, f4, f5⟩ := hf it (by simp)
    have hl := rv.length
    exact wpAny_pyNext_list_end (I.ok.hd hc) st p.isList (by simp; omega) fun h' eb => ⟨rfl, I.turned (t' := s.toks) (fun b o hb e => eb b o hb e) f0 f1 f3 f4 f5⟩
  self := fun _ _ _ _ _ st h => wpAny_pyIter_listiter st h
theorem turn_range {P : Program} {w : World} {K : PySem.W.Frag} {tg : Expr} (it : Addr) (lo : Int) (n : Nat) : Turn P w K tg (Itr lo n) [it] it (fun i h => IsRangeIter h it (lo + (i : Nat) * 1) ((n : Int) - (i : Nat)) 1) where
  mem := by simp
  obj := fun i h st b hb => by
    have e : b = it := by simpa using hb
    subst e
    exact ⟨_, st, fun v z => by
      have z' : Data.fields _ = Data.cell v := z
      cases z'⟩
  keep := fun i h h' st k => k it (by simp) _ st
  item := by
    intro X hP hw hK hc i pins s σ H E I hf st hg
    subst hP hw hK
    obtain ⟨f0, f1, f2, f3, f4, f5⟩ := hf it (by simp)
    have W := Walks.range (prog := X.prog) (w := X.w) (I.ok.hd hc) it lo 1 n
    refine W.item i s _ _ hg st fun v h' tk hv st' kk => ?_
    obtain ⟨t, rfl⟩ := hv
    have I1 : Inv X pins σ H { s with heap := h', toks := tk } := I.turned (fun b o hb e => kk b o (by simpa using hb) e) f0 f1 f3 f4 f5
    refine ⟨_, rfl, go_of (s := { s with heap := h', toks := tk }) (n := "range_iterator") st' rfl rfl (by decide) ⟨.int (lo + i), H, I1, ⟨t, ?_⟩, ⟨rfl, rfl⟩, st', fun b hb => (hf b hb).1⟩⟩
    rw [Int.mul_one]
  done := by
    intro X hP hw hK hc i pins s σ H E I hf st hg
    subst hP hw hK
    obtain ⟨f0, f1, f2, f3, f4, f5⟩ := hf it (by simp)
    exact wpAny_pyNext_range_end (I.ok.hd hc) st (by have : n ≤ i := hg; omega) fun h' eb => ⟨rfl, I.turned (t' := s.toks) (fun b o hb e => eb b o hb e) f0 f1 f3 f4 f5⟩
  self := fun _ _ _ _ _ st h => wpAny_pyIter_rangeiter st h
end L2
namespace L2
open PySem PySem.Spec PyProof.Rows
section
variable {X : Cx} {tg : Expr}
def iList (K : PySem.W.Frag) (tl : TE) : TI := fun σ H R => tl σ H fun x H1 => ∃ a, x = .ref a ∧ (∃ xs, SqL K H1 a xs) ∧ R (Itl K a) H1
theorem pi_list {l : Expr} {tl : TE} (hl : PE X l tl) : PI X tg l (iList X.K tl) := by
  intro pins s σ H R I h
  refine thn (hl pins s σ H _ I h) fun v s1 ⟨x, H1, I1, r1, q1⟩ => ?_
  obtain ⟨a, e, ⟨xs, hq⟩, q⟩ := q1
  subst e
  cases r1
  obtain ⟨its, rv, p, hz⟩ := I1.list hq
  refine wpAny_pyIter_list p.isList ?_
  refine ⟨s1.heap.objs.size, [s1.heap.objs.size], _, _, H1, rfl, I1.kept (t' := s1.toks) fun b o e => Heap.get?_push_of_some _ e, turn_list a _, ⟨_, Heap.get?_push_size _ rfl, rfl, rfl⟩, fun b hb => ?_, q⟩
  have e : b = s1.heap.objs.size := by simpa using hb
  subst e
  exact I1.fpOk (Nat.le_refl _) (I1.hok.fresh (Nat.le_refl _))
/-- a range object just made, walked -/
theorem range_it {pins : List (Addr × Obj)} {σ : St} {H : Hp} {s : Shared} {R : It → Hp → Prop} {E : Value → Shared → Prop} {lo hi : Int} {t u v : Tok} {tk : Nat} (I : Inv X pins σ H s) (h1 : -(2 ^ 62) ≤ lo) (h2 : lo < 2 ^ 62) (h3 : -(2 ^ 62) ≤ hi) (h4 : hi < 2 ^ 62)
    (q : R (Itr lo (hi - lo).toNat) H) : wpAny (model X.prog X.w) X.A (pyIter (.ref s.heap.objs.size)) (PIE X pins σ tg R) E { s with heap := s.heap.push { cls := .type "range", data := .fields #[.int lo t, .int hi u, .int 1 v] }, toks := tk } := by
  refine wpAny_pyIter_range (IsRange.new ..) (small_one h1 h2 h3 h4) ?_
  have I1 : Inv X pins σ H { s with heap := s.heap.push { cls := .type "range", data := .fields #[.int lo t, .int hi u, .int 1 v] }, toks := tk } := I.kept fun b o e => Heap.get?_push_of_some _ e
  refine ⟨(s.heap.push { cls := .type "range", data := .fields #[.int lo t, .int hi u, .int 1 v] }).objs.size, [(s.heap.push { cls := .type "range", data := .fields #[.int lo t, .int hi u, .int 1 v] }).objs.size], _, _, H, rfl,
    I1.kept (t' := tk) fun b o e => Heap.get?_push_of_some _ e, turn_range _ lo (hi - lo).toNat, ?_, fun b hb => ?_, q⟩
  · have e1 : lo + ((0 : Nat) : Int) * 1 = lo := by simp
    have e2 : (((hi - lo).toNat : Nat) : Int) - ((0 : Nat) : Int) = Builtin.Range.rangeSize lo hi 1 := by rw [rangeSize_one]; split <;> omega
    show IsRangeIter _ _ (lo + ((0 : Nat) : Int) * 1) ((((hi - lo).toNat : Nat) : Int) - ((0 : Nat) : Int)) 1
    rw [e1, e2]
    exact Heap.get?_push_size _ rfl
  · have e : b = (s.heap.push { cls := .type "range", data := .fields #[.int lo t, .int hi u, .int 1 v] }).objs.size := by simpa using hb
    subst e
    exact I1.fpOk (Nat.le_refl _) (I1.hok.fresh (Nat.le_refl _))
def iRng1 (ta : TA) : TI := fun σ H R => ta σ H fun vs H1 => ∃ j : Int, vs = [.int j] ∧ -(2 ^ 62) ≤ j ∧ j < 2 ^ 62 ∧ R (Itr 0 j.toNat) H1
theorem pi_range1 {a : Expr} {ta : TA} {p pos : Pos} (hg : Gl X "range") (hm : X.mg "range" = none) (ha : PA X [a] ta) (hs : starEach [a] X.env = [(false, eval a X.env)] := by rfl) : PI X tg (.Call (.Name "range" p) [a] [] pos) (iRng1 ta) := by
  intro pins s σ H R I h
  refine Call_ (ld_blt I hg hm boot_range (PyProof.Rows.callWith_type1 (thn (ha pos pins s σ H _ I h) fun us s1 ⟨vs, H1, I1, r1, q1⟩ => ?_) hs rfl))
  obtain ⟨j, e, q1, q2, q⟩ := q1
  subst e
  cases r1 with
  | cons r rr =>
    cases rr
    obtain ⟨t, rfl⟩ := r
    exact call_range_1 (range_it I1 (by omega) (by omega) q1 q2 (by simpa using q))
/-! ### for -/
/-- W: the invariant by the turn and a measure; N: what the body is to reach -/
def tFor (wi : TI) (g : TG) (tb : TS) : TS := fun D σ H => wi σ H fun J H1 => ∃ W : Nat → Nat → St → Hp → Prop, (∃ m, W 0 m σ H1) ∧ ∀ i m σ H, W i m σ H →
  (J.stop i H ∧ D.nx σ H) ∨ (J.go i H ∧ ∃ N : St → Hp → Prop, (∀ σ' H', N σ' H' → ∃ m', m' < m ∧ W (i + 1) m' σ' H') ∧ ∀ x H', J.yld i H x H' → g x σ H' fun σ2 H2 => tb { D with nx := N, ct := N, bk := D.nx } σ2 H2)
/-- the records at fp as they stand -/
def pinsAt (fp : List Addr) (h : Heap) : List (Addr × Obj) := fp.filterMap fun b => (h.get? b).map fun o => (b, o)
theorem mem_pinsAt {fp : List Addr} {h : Heap} {b : Addr} {o : Obj} (hb : b ∈ fp) (e : h.get? b = some o) : (b, o) ∈ pinsAt fp h := List.mem_filterMap.mpr ⟨b, hb, by rw [e]; rfl⟩
theorem of_pinsAt {fp : List Addr} {h : Heap} {p : Addr × Obj} (hp : p ∈ pinsAt fp h) : p.1 ∈ fp ∧ h.get? p.1 = some p.2 := by
  obtain ⟨b, hb, e⟩ := List.mem_filterMap.mp hp
  cases q : h.get? b with
  | none => rw [q] at e; cases e
  | some o =>
    rw [q] at e
    have e' : (b, o) = p := Option.some.inj e
    subst e'
    exact ⟨hb, q⟩
theorem Inv.pinned {pins : List (Addr × Obj)} {σ : St} {H : Hp} {s : Shared} {fp : List Addr} (I : Inv X pins σ H s) (hf : ∀ b ∈ fp, FpOk X pins H b) (ho : ∀ b ∈ fp, ∃ o, s.heap.get? b = some o ∧ ∀ v, o.data ≠ .cell v) : Inv X (pins ++ pinsAt fp s.heap) σ H s :=
  I.pins_of fun p hp => (List.mem_append.mp hp).elim (fun z => I.pin p (List.mem_append_right _ z)) fun z => by
    obtain ⟨hb, e⟩ := of_pinsAt z
    obtain ⟨f0, f1, f2, _⟩ := hf p.1 hb
    obtain ⟨o, e', d⟩ := ho p.1 hb
    rw [e] at e'; cases e'
    exact ⟨e, f0, f1, f2, d⟩
theorem Inv.unpinned {pins pl : List (Addr × Obj)} {σ : St} {H : Hp} {s : Shared} (I : Inv X (pins ++ pl) σ H s) : Inv X pins σ H s := I.pins_of fun p hp => I.pin p (List.mem_append_right _ (List.mem_append_left _ hp))
theorem ps_for {iter : Expr} {body : List Stmt} {wi : TI} {g : TG} {tb : TS} {pos : Pos} (hp : PassesOwn (model X.prog X.w) X.A X.env X.xe) (hc : X.calm = true) (hi : PI X tg iter wi) (hg : PG X tg g) (hb : PSs X body tb)
    (hs : ∀ x, foldedSetIterable iter X.env x = pure x := by intro _; rfl) : PS X (.For tg iter body [] pos) (tFor wi g tb) := by
  intro pins s σ H D I h
  refine wpAny_For (thn (hi pins s σ H _ I h) fun v s1 h1 => thn h1 fun itv s2 h2 => ?_) hs
  obtain ⟨it, fp, tn, J, H2, e, I2, T, st2, f2, W, ⟨m0, w0⟩, turn⟩ := h2
  subst e
  -- what stays true of the iterator's objects through the loop
  have stat : ∀ {H' : Hp}, (∀ b ∈ fp, H' b = none) → ∀ b ∈ fp, FpOk X pins H' b := fun hn b hb => ⟨hn b hb, (f2 b hb).2⟩
  refine codeAny_forLoop_any (fun n s' => ∃ i σ' H', Inv X pins σ' H' s' ∧ tn i s'.heap ∧ (∀ b ∈ fp, H' b = none) ∧ W i n σ' H') ?_ m0 ⟨0, σ, H2, I2, st2, fun b hb => (f2 b hb).1, w0⟩
  rintro n s3 ⟨i, σ3, H3, I3, st3, fr3, w3⟩
  rcases turn i n σ3 H3 w3 with ⟨stop, qn⟩ | ⟨go, N, hN, step⟩
  · refine wpAny_passesOwn hp (thn (T.done X rfl rfl rfl hc i pins s3 σ3 H3 X.xe I3 (stat fr3) st3 stop) fun r s4 ⟨hr, I4⟩ => ?_)
    subst hr
    exact wpAny_execs_nil ⟨σ3, H3, I4, qn⟩
  · refine wpAny_passesOwn hp (thn (T.item X rfl rfl rfl hc i pins s3 σ3 H3 X.xe I3 (stat fr3) st3 go) fun r s4 ⟨u, hr, h4⟩ => ?_)
    subst hr
    refine wpAny_passesOwn hp (thn h4 fun _ s5 ⟨x, H5, I5, r5, y5, st5, fr5⟩ => ?_)
    have I5' := I5.pinned (stat fr5) (T.obj _ _ st5)
    refine wpAny_passesOwn hp (thn (hg _ s5 σ3 H5 x u _ I5' r5 (step x H5 y5)) fun _ s6 ⟨σ6, H6, I6, q6⟩ => ?_)
    refine wpAny_passesOwn hp (thn (hb _ s6 σ6 H6 _ I6 q6) fun f s7 q7 => ?_)
    have again : ∀ {σ7 : St} {H7 : Hp}, Inv X (pins ++ pinsAt fp s5.heap) σ7 H7 s7 → N σ7 H7 → ∃ m, m < n ∧ ∃ i σ' H', Inv X pins σ' H' s7 ∧ tn i s7.heap ∧ (∀ b ∈ fp, H' b = none) ∧ W i m σ' H' := fun {σ7 H7} I7 n7 => by
      obtain ⟨m', hm, w7⟩ := hN σ7 H7 n7
      refine ⟨m', hm, i + 1, σ7, H7, I7.unpinned, T.keep _ _ _ st5 fun b hb o e => (I7.pin (b, o) (List.mem_append_right _ (List.mem_append_right _ (mem_pinsAt hb e)))).1, fun b hb => ?_, w7⟩
      obtain ⟨o, e, d⟩ := T.obj _ _ st5 b hb
      exact (I7.pin (b, o) (List.mem_append_right _ (List.mem_append_right _ (mem_pinsAt hb e)))).2.1
    cases f with
    | next => obtain ⟨σ7, H7, I7, n7⟩ := q7; exact again I7 n7
    | cont => obtain ⟨σ7, H7, I7, n7⟩ := q7; exact again I7 n7
    | brk => obtain ⟨σ7, H7, I7, q7⟩ := q7; exact ⟨σ7, H7, I7.unpinned, q7⟩
    | ret v => obtain ⟨x7, σ7, H7, I7, r7, q7⟩ := q7; exact ⟨x7, σ7, H7, I7.unpinned, r7, q7⟩
end
/-! ### the forms one uses -/
/-- over a list that the body leaves as it is -/
theorem for_list {K : PySem.W.Frag} {a : Addr} {xs : List V} {g : TG} {tb : TS} {D : Ends} {σ : St} {H : Hp} (Pv : Nat → St → Hp → Prop) (h0 : Pv 0 σ H) (hl : ∀ i σ H, i ≤ xs.length → Pv i σ H → SqL K H a xs)
    (hs : ∀ i x σ H, xs[i]? = some x → Pv i σ H → g x σ H fun σ2 H2 => tb { D with nx := Pv (i + 1), ct := Pv (i + 1), bk := D.nx } σ2 H2) (hd : ∀ σ H, Pv xs.length σ H → D.nx σ H) :
    ∃ W : Nat → Nat → St → Hp → Prop, (∃ m, W 0 m σ H) ∧ ∀ i m σ H, W i m σ H →
      ((Itl K a).stop i H ∧ D.nx σ H) ∨ ((Itl K a).go i H ∧ ∃ N : St → Hp → Prop, (∀ σ' H', N σ' H' → ∃ m', m' < m ∧ W (i + 1) m' σ' H') ∧ ∀ x H', (Itl K a).yld i H x H' → g x σ H' fun σ2 H2 => tb { D with nx := N, ct := N, bk := D.nx } σ2 H2) := by
  refine ⟨fun i m σ H => m = xs.length - i ∧ i ≤ xs.length ∧ Pv i σ H, ⟨xs.length, by simp, Nat.zero_le _, h0⟩, ?_⟩
  rintro i m σ H ⟨rfl, hi, p⟩
  have q := hl i σ H hi p
  by_cases hlt : i < xs.length
  · refine .inr ⟨⟨xs, xs[i], q, by simp [hlt]⟩, Pv (i + 1), fun σ' H' p' => ⟨xs.length - (i + 1), by omega, rfl, hlt, p'⟩, fun x H' y => ?_⟩
    obtain ⟨e, y⟩ := y
    subst e
    exact hs i x σ _ (y xs q) p
  · have e : i = xs.length := by omega
    subst e
    exact .inl ⟨⟨xs, q, Nat.le_refl _⟩, hd σ H p⟩
theorem for_range {lo : Int} {n : Nat} {g : TG} {tb : TS} {D : Ends} {σ : St} {H : Hp} (Pv : Nat → St → Hp → Prop) (h0 : Pv 0 σ H)
    (hs : ∀ i σ H, i < n → Pv i σ H → g (.int (lo + i)) σ H fun σ2 H2 => tb { D with nx := Pv (i + 1), ct := Pv (i + 1), bk := D.nx } σ2 H2) (hd : ∀ σ H, Pv n σ H → D.nx σ H) :
    ∃ W : Nat → Nat → St → Hp → Prop, (∃ m, W 0 m σ H) ∧ ∀ i m σ H, W i m σ H →
      ((Itr lo n).stop i H ∧ D.nx σ H) ∨ ((Itr lo n).go i H ∧ ∃ N : St → Hp → Prop, (∀ σ' H', N σ' H' → ∃ m', m' < m ∧ W (i + 1) m' σ' H') ∧ ∀ x H', (Itr lo n).yld i H x H' → g x σ H' fun σ2 H2 => tb { D with nx := N, ct := N, bk := D.nx } σ2 H2) := by
  refine ⟨fun i m σ H => m = n - i ∧ i ≤ n ∧ Pv i σ H, ⟨n, by simp, Nat.zero_le _, h0⟩, ?_⟩
  rintro i m σ H ⟨rfl, hi, p⟩
  by_cases hlt : i < n
  · refine .inr ⟨hlt, Pv (i + 1), fun σ' H' p' => ⟨n - (i + 1), by omega, rfl, hlt, p'⟩, fun x H' y => ?_⟩
    obtain ⟨e, y⟩ := y
    subst e y
    exact hs i σ _ hlt p
  · have e : i = n := by omega
    subst e
    exact .inl ⟨Nat.le_refl _, hd σ H p⟩
end L2
namespace L2
open PySem PySem.Spec PyProof.Rows
abbrev R2 := V → V → Hp → VK → Prop
/-- a two-place operation on values: f is binaryOp op, inplaceOp op or compareOp op -/
def OpR (X : Cx) (f : Value → Value → Sem Value) (r : R2) : Prop :=
  ∀ (pins : List (Addr × Obj)) (s : Shared) (σ : St) (H : Hp) (x y : V) (v u : Value) (Q : VK), Inv X pins σ H s → RelV x v → RelV y u → r x y H Q →
    wpAny (model X.prog X.w) X.A (f v u) (EP X pins σ Q) X.xe s
/-- a call of a value that is known (a builtin, a type) with values -/
def CallR (X : Cx) (f : Value) (r : List V → Hp → VK → Prop) : Prop :=
  ∀ (pins : List (Addr × Obj)) (s : Shared) (σ : St) (H : Hp) (xs : List V) (us : List Value) (Q : VK), Inv X pins σ H s → Vals xs us → r xs H Q →
    wpAny (model X.prog X.w) X.A (call f us) (EP X pins σ Q) X.xe s
def tOp (r : R2) (ta tb : TE) : TE := fun σ H Q => ta σ H fun x H1 => tb σ H1 fun y H2 => r x y H2 Q
/-- ints in, under C, and a value out -/
def rI (C : Int → Int → Prop) (g : Int → Int → V) : R2 := fun x y H Q => ∃ i j, x = .int i ∧ y = .int j ∧ C i j ∧ Q (g i j) H
def rI0 (g : Int → Int → V) : R2 := fun x y H Q => ∃ i j, x = .int i ∧ y = .int j ∧ Q (g i j) H
section
variable {X : Cx} {a b c : Expr} {ta tb tc : TE} {pos : Pos}
theorem binT (ha : PE X a ta) (hb : PE X b tb) {pins : List (Addr × Obj)} {s : Shared} {σ : St} {H : Hp} {R : V → V → Hp → Prop} (I : Inv X pins σ H s)
    (h : ta σ H fun x H1 => tb σ H1 fun y H2 => R x y H2) {Q : Value → Shared → Prop} {f : Value → Value → Sem Value}
    (hf : ∀ v u s2 x y H2, Inv X pins σ H2 s2 → RelV x v → RelV y u → R x y H2 → wpAny (model X.prog X.w) X.A (f v u) Q X.xe s2) :
    wpAny (model X.prog X.w) X.A (eval a X.env) (fun v s₁ => wpAny (model X.prog X.w) X.A (eval b X.env) (fun u s₂ => wpAny (model X.prog X.w) X.A (f v u) Q X.xe s₂) X.xe s₁) X.xe s := by
  refine thn (ha pins s σ H _ I h) fun v s1 ⟨x, H1, I1, r1, q1⟩ => ?_
  refine thn (hb pins s1 σ H1 _ I1 q1) fun u s2 ⟨y, H2, I2, r2, q2⟩ => ?_
  exact hf v u s2 x y H2 I2 r1 r2 q2
theorem pe_op {op : Operator} {r : R2} (ho : OpR X (binaryOp op) r) (ha : PE X a ta) (hb : PE X b tb) : PE X (.BinOp a op b pos) (tOp r ta tb) := by
  intro pins s σ H Q I h
  exact wpAny_BinOp (binT ha hb I h fun v u s2 x y H2 I2 rx ry q => ho pins s2 σ H2 x y v u Q I2 rx ry q)
/-! ### ints -/
theorem opI {f : Value → Value → Sem Value} {C : Int → Int → Prop} {g : Int → Int → Int}
    (rule : ∀ (i j : Int) (t u : Tok) (s : Shared) (Q : Value → Shared → Prop) (E : Value → Shared → Prop), C i j → Q (.int (g i j) s.toks) { s with toks := s.toks + 1 } → wpAny (model X.prog X.w) X.A (f (.int i t) (.int j u)) Q E s) :
    OpR X f (rI C fun i j => .int (g i j)) := by
  intro pins s σ H x y v u Q I rx ry h
  obtain ⟨i, j, rfl, rfl, hc, q⟩ := h
  obtain ⟨t, rfl⟩ := rx
  obtain ⟨t', rfl⟩ := ry
  exact rule i j t t' s _ _ hc ⟨.int (g i j), H, I.tok _, ⟨_, rfl⟩, q⟩
theorem opI0 {f : Value → Value → Sem Value} {g : Int → Int → Int}
    (rule : ∀ (i j : Int) (t u : Tok) (s : Shared) (Q : Value → Shared → Prop) (E : Value → Shared → Prop), Q (.int (g i j) s.toks) { s with toks := s.toks + 1 } → wpAny (model X.prog X.w) X.A (f (.int i t) (.int j u)) Q E s) :
    OpR X f (rI0 fun i j => .int (g i j)) := by
  intro pins s σ H x y v u Q I rx ry h
  obtain ⟨i, j, rfl, rfl, q⟩ := h
  obtain ⟨t, rfl⟩ := rx
  obtain ⟨t', rfl⟩ := ry
  exact rule i j t t' s _ _ ⟨.int (g i j), H, I.tok _, ⟨_, rfl⟩, q⟩
theorem opB0 {f : Value → Value → Sem Value} {g : Int → Int → Bool}
    (rule : ∀ (i j : Int) (t u : Tok) (s : Shared) (Q : Value → Shared → Prop) (E : Value → Shared → Prop), Q (.bool (g i j)) s → wpAny (model X.prog X.w) X.A (f (.int i t) (.int j u)) Q E s) :
    OpR X f (rI0 fun i j => .bl (g i j)) := by
  intro pins s σ H x y v u Q I rx ry h
  obtain ⟨i, j, rfl, rfl, q⟩ := h
  obtain ⟨t, rfl⟩ := rx
  obtain ⟨t', rfl⟩ := ry
  exact rule i j t t' s _ _ ⟨.bl (g i j), H, I, rfl, q⟩
def CDiv (i j : Int) : Prop := 0 < j ∧ j < 1073741824
def CMul (i j : Int) : Prop := (-(2 ^ 64) < i ∧ i < 2 ^ 64) ∨ (-(2 ^ 64) < j ∧ j < 2 ^ 64)
theorem CMul.ok {i j : Int} (h : CMul i j) : IntMulOk i j := by
  rcases h with ⟨h1, h2⟩ | ⟨h1, h2⟩
  · exact .of_left (intBits_le_64 h1 h2)
  · exact .of_right (intBits_le_64 h1 h2)
theorem op_add : OpR X (binaryOp .Add) (rI0 fun i j => .int (i + j)) := opI0 fun _ _ _ _ _ _ _ q => add_int q
theorem op_sub : OpR X (binaryOp .Sub) (rI0 fun i j => .int (i - j)) := opI0 fun _ _ _ _ _ _ _ q => sub_int q
theorem op_mul : OpR X (binaryOp .Mult) (rI CMul fun i j => .int (i * j)) := opI fun _ _ _ _ _ _ _ hc q => mul_int q hc.ok
/-- // by a positive divisor -/
theorem op_fdiv : OpR X (binaryOp .FloorDiv) (rI CDiv fun i j => .int (i / j)) := opI fun i j _ _ _ _ _ hc q => by
  have h1 : (0 : Int) < j := hc.1
  have h2 : j < 1073741824 := hc.2
  exact floordiv_int (by omega) (by rw [Int.fdiv_eq_ediv_of_nonneg i (by omega)]; exact q) (.inl (PyProof.noPylong_small (by omega)))
/-- % by a positive divisor of any size -/
theorem op_mod : OpR X (binaryOp .Mod) (rI (fun _ j => 0 < j) fun i j => .int (i % j)) := opI fun i j _ _ _ _ _ hc q => by
  have h1 : (0 : Int) < j := hc
  exact mod_int' (by omega) (by rw [Int.fmod_eq_emod_of_nonneg i (by omega)]; exact q)
/-! ### bools among ints: n += (a < b) -/
end
/-! ### comparisons -/
/-- the scalars that == tells apart as data does -/
def scal : V → V → Bool
  | .non, .non => true | .non, .int _ => true | .int _, .non => true | .non, .bl _ => true | .bl _, .non => true | .non, .str _ => true | .str _, .non => true
  | .int _, .int _ => true | .bl _, .bl _ => true | .str _, .str _ => true | .byt _, .byt _ => true
  | .int _, .str _ => true | .str _, .int _ => true | .bl _, .str _ => true | .str _, .bl _ => true
  | _, _ => false
def rEq : R2 := fun x y H Q => scal x y = true ∧ Q (.bl (decide (x = y))) H
theorem dec_int {i j : Int} : decide (V.int i = V.int j) = (i == j) := by
  rw [Bool.eq_iff_iff]
  simp
theorem dec_bl {i j : Bool} : decide (V.bl i = V.bl j) = (i == j) := by
  rw [Bool.eq_iff_iff]
  simp
theorem dec_str {i j : Str} : decide (V.str i = V.str j) = (i == j) := by
  rw [Bool.eq_iff_iff]
  simp
theorem dec_byt {i j : Array UInt8} : decide (V.byt i = V.byt j) = (i.toList == j.toList) := by
  rw [Bool.eq_iff_iff]
  cases i
  cases j
  simp
section
variable {X : Cx} {a b c : Expr} {ta tb tc : TE} {pos : Pos}
theorem fin_bl {pins : List (Addr × Obj)} {σ : St} {H : Hp} {s : Shared} {Q : VK} {k k' : Bool} (I : Inv X pins σ H s) (q : Q (.bl k) H) (e : k = k') : EP X pins σ Q (.bool k') s := by
  subst e
  exact ⟨.bl k, H, I, rfl, q⟩
theorem op_eq : OpR X (compareOp .Eq) rEq := by
  intro pins s σ H x y v u Q I rx ry h
  obtain ⟨hs, q⟩ := h
  cases x with
  | non =>
    cases rx
    cases y with
    | non => cases ry; exact PySem.EqNone.eq_none_none (fin_bl I q (by simp))
    | bl j => cases ry; exact PySem.EqNone.eq_none_bool (fin_bl I q (by simp))
    | int j => obtain ⟨t', rfl⟩ := ry; exact PySem.EqNone.eq_none_int (fin_bl I q (by simp))
    | str j => obtain ⟨t', rfl⟩ := ry; exact PySem.EqNone.eq_none_str (fin_bl I q (by simp))
    | _ => exact absurd (show false = true from hs) Bool.false_ne_true
  | bl i =>
    cases rx
    cases y with
    | non => cases ry; exact PySem.EqNone.eq_bool_none (fin_bl I q (by simp))
    | bl j => cases ry; exact eq_bool (fin_bl I q dec_bl)
    | str j => obtain ⟨t', rfl⟩ := ry; exact PySem.EqMixed.eq_bool_str (fin_bl I q (by simp))
    | _ => exact absurd (show false = true from hs) Bool.false_ne_true
  | int i =>
    obtain ⟨t, rfl⟩ := rx
    cases y with
    | non => cases ry; exact PySem.EqNone.eq_int_none (fin_bl I q (by simp))
    | int j => obtain ⟨t', rfl⟩ := ry; exact eq_int (fin_bl I q dec_int)
    | str j => obtain ⟨t', rfl⟩ := ry; exact PySem.EqMixed.eq_int_str (fin_bl I q (by simp))
    | _ => exact absurd (show false = true from hs) Bool.false_ne_true
  | str i =>
    obtain ⟨t, rfl⟩ := rx
    cases y with
    | non => cases ry; exact PySem.EqNone.eq_str_none (fin_bl I q (by simp))
    | bl j => cases ry; exact PySem.EqMixed.eq_str_bool (fin_bl I q (by simp))
    | int j => obtain ⟨t', rfl⟩ := ry; exact PySem.EqMixed.eq_str_int (fin_bl I q (by simp))
    | str j => obtain ⟨t', rfl⟩ := ry; exact eq_str (fin_bl I q dec_str)
    | _ => exact absurd (show false = true from hs) Bool.false_ne_true
  | byt i =>
    obtain ⟨t, rfl⟩ := rx
    cases y with
    | byt j => obtain ⟨t', rfl⟩ := ry; exact PySem.W.eq_bytes (fin_bl I q dec_byt)
    | _ => exact absurd (show false = true from hs) Bool.false_ne_true
  | _ => cases y <;> exact absurd (show false = true from hs) Bool.false_ne_true
theorem op_lt : OpR X (compareOp .Lt) (rI0 fun i j => .bl (decide (i < j))) := opB0 fun _ _ _ _ _ _ _ q => lt_int q
theorem op_le : OpR X (compareOp .LtE) (rI0 fun i j => .bl (decide (i ≤ j))) := opB0 fun _ _ _ _ _ _ _ q => le_int q
theorem op_gt : OpR X (compareOp .Gt) (rI0 fun i j => .bl (decide (j < i))) := opB0 fun _ _ _ _ _ _ _ q => gt_int q
theorem nomark (b : Expr) {op : CmpOp} (h : op ≠ .In := by decide) (h2 : op ≠ .NotIn := by decide) : behindInMarks op b = false := by
  have e1 : (op == CmpOp.In) = false := by cases op <;> first | rfl | exact absurd rfl h
  have e2 : (op == CmpOp.NotIn) = false := by cases op <;> first | rfl | exact absurd rfl h2
  cases b <;> simp [behindInMarks, e1, e2]
/-- a comparison as a value; hm: nomark b, or (for in, not in) by with_unfolding_all rfl -/
theorem pe_cmpR {op : CmpOp} {r : R2} (ho : OpR X (compareOp op) r) (ha : PE X a ta) (hb : PE X b tb) (hm : behindInMarks op b = false) : PE X (.Compare a [op] [b] pos) (tOp r ta tb) := by
  intro pins s σ H Q I h
  exact wpAny_Compare1 (binT ha hb I h fun v u s2 x y H2 I2 rx ry q => ho pins s2 σ H2 x y v u Q I2 rx ry q) hm
/-- a reading of a value as a test -/
def tTest (t : TE) : TT := fun σ H Q => t σ H fun x H' => ∃ k, x = .bl k ∧ Q k H'
theorem pt_cmpR {op : CmpOp} {r : R2} (ho : OpR X (compareOp op) r) (ha : PE X a ta) (hb : PE X b tb) (hm : behindInMarks op b = false) : PT X (.Compare a [op] [b] pos) (tTest (tOp r ta tb)) := by
  intro pins s σ H Q I h
  refine wpAny_isTrue_Compare1 (thn (ha pins s σ H _ I h) fun v s1 ⟨x, H1, I1, r1, q1⟩ => thn (hb pins s1 σ H1 _ I1 q1) fun u s2 ⟨y, H2, I2, r2, q2⟩ =>
    thn (ho pins s2 σ H2 x y v u _ I2 r1 r2 q2) fun c s3 ⟨z, H3, I3, r3, k, e, q3⟩ => ?_) hm
  subst e
  cases r3
  exact wpAny_truthy_bool ⟨H3, I3, q3⟩
/-! ### truth -/
theorem line63 : (sizeLine : Nat) < 2 ^ 63 := by rw [sizeLine_eq]; decide
/-! ### strs and bytes -/
/-! ### scalar builtins, by CallR -/
theorem vals1 {x : V} {us : List Value} (r : Vals [x] us) : ∃ u, us = [u] ∧ RelV x u := by
  cases r with
  | cons r1 r2 => cases r2; exact ⟨_, rfl, r1⟩
theorem vals2 {x y : V} {us : List Value} (r : Vals [x, y] us) : ∃ u w', us = [u, w'] ∧ RelV x u ∧ RelV y w' := by
  cases r with
  | cons r1 r2 =>
    cases r2 with
    | cons r3 r4 => cases r4; exact ⟨_, _, rfl, r1, r3⟩
theorem call_max2 (hc : X.calm = true) : CallR X (.builtin "max") (fun xs H Q => ∃ i j, xs = [.int i, .int j] ∧ Q (.int (if j > i then j else i)) H) := by
  intro pins s σ H xs us Q I r h
  obtain ⟨i, j, rfl, q⟩ := h
  obtain ⟨u, w', rfl, ⟨t, rfl⟩, ⟨t', rfl⟩⟩ := vals2 r
  refine max_two_ints (I.ok.hd hc) fun h' tk k => ⟨_, H, I.kept k, ?_, q⟩
  by_cases hj : j > i
  · rw [if_pos hj, if_pos hj]; exact ⟨_, rfl⟩
  · rw [if_neg hj, if_neg hj]; exact ⟨_, rfl⟩
theorem call_min2 (hc : X.calm = true) : CallR X (.builtin "min") (fun xs H Q => ∃ i j, xs = [.int i, .int j] ∧ Q (.int (if j < i then j else i)) H) := by
  intro pins s σ H xs us Q I r h
  obtain ⟨i, j, rfl, q⟩ := h
  obtain ⟨u, w', rfl, ⟨t, rfl⟩, ⟨t', rfl⟩⟩ := vals2 r
  refine min_two_ints (I.ok.hd hc) fun h' tk k => ⟨_, H, I.kept k, ?_, q⟩
  by_cases hj : j < i
  · rw [if_pos hj, if_pos hj]; exact ⟨_, rfl⟩
  · rw [if_neg hj, if_neg hj]; exact ⟨_, rfl⟩
end
end L2
namespace L2
open PySem PySem.Spec PyProof.Rows
/-! ### an instance, its attributes a map -/
structure ObjM (h : Heap) (x dx C : Addr) (mA : Str → Option Value) : Prop where
  obj : h.get? x = some (PySem.W.instObj C dx)
  ns : h.Ns1 dx mA
  ne : dx ≠ x
theorem lookIn_ns {h : Heap} {dx : Addr} {mA : Str → Option Value} (n : h.Ns1 dx mA) : ∃ od, h.get? dx = some od ∧ ∀ name, PySem.W.lookIn name od = some (mA name) := by
  obtain ⟨o, es, ep, ho, hd, hk, _, hm⟩ := n
  refine ⟨o, ho, fun name => ?_⟩
  have e := hm name
  unfold nsFind findBy at e
  rw [← Array.find?_toList] at e
  unfold PySem.W.lookIn
  rw [hd]
  dsimp only
  split
  · rename_i y q
    rw [q] at e
    exact congrArg some e
  · rename_i q
    rw [q] at e
    have a : es.toList.any (·.refKey) = false := by
      rw [List.any_eq_false]
      intro y hy
      obtain ⟨z, t, hkey⟩ := hk y (Array.mem_toList_iff.mp hy)
      simp [DictEntry.refKey, hkey]
    have a' : ¬ es.toList.any (·.refKey) = true := by rw [a]; exact Bool.false_ne_true
    rw [if_neg a']
    exact congrArg some e
theorem ObjM.look {h : Heap} {x dx C : Addr} {mA : Str → Option Value} (I : ObjM h x dx C mA) : ∃ od, PySem.W.InstAt h x (PySem.W.instObj C dx) C (some od) ∧ ∀ name, PySem.W.lookIn name od = some (mA name) :=
  let ⟨od, ho, hl⟩ := lookIn_ns I.ns
  ⟨od, ⟨I.obj, rfl, rfl, ho⟩, hl⟩
section
variable {prog : Program} {w : World} {A : Around} {E : Value → Shared → Prop} {s : Shared} {K : PySem.W.Frag} {x dx C f : Addr} {mA : Str → Option Value} {name : Str} {v : Value}
end
/-! ### the attributes as a list of pairs -/
section
variable {P : Program} {w : World} {H H' : Hp} {h h' : Heap} {a C dx : Addr} {fs fs' : List (Str × V)}
theorem ins_get (hok : HOk P w H h) (e : H a = some (.ins C dx fs)) : ∃ mA, ObjM h a dx C mA ∧ (∀ f, RelO (fs.lookup f) (mA f)) ∧ PySem.Within mA (fs.map (·.1)) ∧ fs.length ≤ 1000 ∧ H dx = some (.own a) := by
  obtain ⟨d, z, ne, ob, mA, n, r, q⟩ := (show ObjOk P w H h a (.ins C dx fs) from hok a _ e)
  exact ⟨mA, ⟨ob, n, ne⟩, r, q, z, d⟩
end
/-! ### what of the text a class must have -/
structure Cls (K : PySem.W.Frag) (C : Addr) : Prop where
  pg : PySem.W.plainGet K C Str.empty = true
  hd : PySem.W.hasDictIn K C = true
  po : PySem.W.plainOver K C = true
  sa : PySem.W.findIn K (.ref C) "__setattr__" = some (some (.builtin "object.__setattr__"))
theorem Cls.get {K : PySem.W.Frag} {C : Addr} (c : Cls K C) (f : Str) : PySem.W.plainGet K C f = true := c.pg
section
variable {X : Cx} {pins : List (Addr × Obj)} {σ : St} {H : Hp} {s : Shared} {a C dx : Addr} {fs : List (Str × V)} {f : Str} {v : V} {A : Around} {E : Value → Shared → Prop}
end
/-! ### readings and rules -/
section
variable {X : Cx} {o e value : Expr} {f : Str} {pos pos' tpos : Pos} {ta tv : TE}
end
/-! ### isinstance -/
section
variable {X : Cx} {pins : List (Addr × Obj)} {σ : St} {H : Hp} {s : Shared} {A : Around} {E : Value → Shared → Prop} {Q : Value → Shared → Prop} {c : Value} {b : Bool}
/-- the type of a value, as the fragment's deciders take it; for an instance its class -/
inductive TyOf (K : PySem.W.Frag) (H : Hp) : V → Value → Prop where
  | non : TyOf K H .non (.type "NoneType")
  | bl (x : Bool) : TyOf K H (.bl x) (.type "bool")
  | int (i : Int) : TyOf K H (.int i) (.type "int")
  | str (x : Str) : TyOf K H (.str x) (.type "str")
  | flt (x : UInt64) : TyOf K H (.flt x) (.type "float")
  | lst {a : Addr} {xs : List V} (e : H a = some (.lst xs)) : TyOf K H (.ref a) (.type "list")
  | frz {a : Addr} {o : Obj} {xs : List V} (e : H a = some (.frz o (.lst xs))) : TyOf K H (.ref a) (.type "list")
  | tup {a : Addr} {xs : List V} (e : H a = some (.tup xs)) : TyOf K H (.ref a) (.type "tuple")
  | dK {a : Addr} {kvs : List (Key × V)} (e : H a = some (.dK kvs)) : TyOf K H (.ref a) (.type "dict")
  | dT {a : Addr} {kvs : List (List Key × V)} (e : H a = some (.dT kvs)) : TyOf K H (.ref a) (.type "dict")
  | ins {a C dx : Addr} {fs : List (Str × V)} (e : H a = some (.ins C dx fs)) (cl : Cls K C) (ha : PySem.W.findIn K (.ref C) "__class__" = some (some (.builtin "object.__class__")))
      (hn : PySem.W.specialIn K (.builtin "object.__class__") "__get__" = some (some (.builtin "getset_descriptor.__get__"))) (htk : PySem.W.takesIn K (.builtin "object.__class__") = some true)
      (hm : PySem.W.mroIn K C (.type "object") = some true) : TyOf K H (.ref a) (.ref C)
/-- isinstance(x, c) for one class c, a built-in or an own one: kitOne's answer -/
theorem isinst_ok {x : V} {u t : Value} (I : Inv X pins σ H s) (rx : RelV x u) (ty : TyOf X.K H x t) (e : PySem.W.kitOne X.K t c = some b) (h : ∀ tk, Q (.bool b) { s with toks := tk }) :
    wpAny (model X.prog X.w) A (call (.builtin "isinstance") [u, c]) Q E s := by
  cases ty with
  | non => cases (show u = Value.none from rx); exact PySem.W.kia_one PySem.W.kitx_none I.kIn True.intro e (fun z => nomatch z) h
  | bl y => cases (show u = Value.bool y from rx); exact PySem.W.kia_one PySem.W.kitx_bool I.kIn True.intro e (fun z => nomatch z) h
  | int i => obtain ⟨t, q⟩ := (show ∃ t, u = Value.int i t from rx); cases q; exact PySem.W.kia_one PySem.W.kitx_int I.kIn True.intro e (fun z => nomatch z) h
  | str y => obtain ⟨t, q⟩ := (show ∃ t, u = Value.str y t from rx); cases q; exact PySem.W.kia_one PySem.W.kitx_str I.kIn True.intro e (fun z => nomatch z) h
  | flt y => obtain ⟨t, q⟩ := (show ∃ t, u = Value.float y t from rx); cases q; exact PySem.W.kia_one PySem.W.kitx_float I.kIn True.intro e (fun z => nomatch z) h
  | @lst a xs ea =>
    cases (show u = Value.ref a from rx)
    obtain ⟨_, _, n, _, h1⟩ := (show ObjOk X.prog X.w H s.heap a (.lst xs) from I.hok a _ ea)
    exact PySem.W.kia_one PySem.W.kitx_list I.kIn ⟨_, h1, rfl⟩ e (fun z => nomatch z) h
  | @frz a ob xs ea =>
    cases (show u = Value.ref a from rx)
    obtain ⟨_, _, _, n, _, h1⟩ := (show ObjOk X.prog X.w H s.heap a (.frz ob (.lst xs)) from I.hok a _ ea)
    exact PySem.W.kia_one PySem.W.kitx_list I.kIn ⟨_, h1, rfl⟩ e (fun z => nomatch z) h
  | @tup a xs ea =>
    cases (show u = Value.ref a from rx)
    obtain ⟨_, _, _, p⟩ := (show ObjOk X.prog X.w H s.heap a (.tup xs) from I.hok a _ ea)
    obtain ⟨o, h1, h2, _⟩ := p
    exact PySem.W.kia_one PySem.W.kitx_tuple I.kIn ⟨o, h1, h2⟩ e (fun z => nomatch z) h
  | @dK a kvs ea =>
    cases (show u = Value.ref a from rx)
    obtain ⟨_, _, vs, _, p⟩ := (show ObjOk X.prog X.w H s.heap a (.dK kvs) from I.hok a _ ea)
    obtain ⟨o, es, ep, h1, h2, _⟩ := p
    exact PySem.W.kia_one PySem.W.kitx_dict I.kIn ⟨o, h1, h2.1⟩ e (fun z => nomatch z) h
  | @dT a kvs ea =>
    cases (show u = Value.ref a from rx)
    obtain ⟨_, _, xs, _, o, es, ep, h1, h2, _⟩ := (show ObjOk X.prog X.w H s.heap a (.dT kvs) from I.hok a _ ea)
    exact PySem.W.kia_one PySem.W.kitx_dict I.kIn ⟨o, h1, h2.1⟩ e (fun z => nomatch z) h
  | @ins a C dx fs ea cl ha hn htk hm =>
    cases (show u = Value.ref a from rx)
    obtain ⟨mA, O, _⟩ := ins_get I.hok ea
    obtain ⟨od, J, _⟩ := O.look
    exact PySem.W.kia_one (PySem.W.kitx_own (cl.get _) cl.hd ha hn htk hm) I.kIn J e (fun z => nomatch z) h
end
end L2
namespace L2
open PySem PySem.Spec PyProof.Rows
/-! ### room -/
structure Room (k : Nat) (A : Around) : Prop where
  hd : A.handled = none
  dp : A.depth + 3 * k + 5 < recursionLimit
  un : A.units + 16 * k + 200 < cLine
theorem Room.mono {j k : Nat} {A : Around} (r : Room k A) (h : j ≤ k) : Room j A := ⟨r.hd, by have := r.dp; omega, by have := r.un; omega⟩
theorem Room.deeper {k : Nat} {A : Around} (r : Room (k + 1) A) (env : Env) : Room k (A.deeper env) :=
  ⟨r.hd, by have := r.dp; show A.depth + 1 + 3 * k + 5 < _; omega, by have := r.un; show A.units + 3 + 16 * k + 200 < _; omega⟩
theorem Room.depth {k : Nat} {A : Around} (r : Room k A) : A.depth < recursionLimit := by have := r.dp; omega
theorem Room.units {k : Nat} {A : Around} (r : Room k A) : A.units + 64 < cLine := by have := r.un; omega
/-! ### argument lists and displays -/
def tNil : TA := fun _ H Q => Q [] H
def tCons (ta : TE) (tr : TA) : TA := fun σ H Q => ta σ H fun x H1 => tr σ H1 fun xs H2 => Q (x :: xs) H2
section
variable {X : Cx} {e : Expr} {es : List Expr} {te : TE} {t : TA} {pos : Pos}
theorem pa_nil : PA X [] tNil := fun _ _ _ _ H Q I h => Calls.spliced_nil ⟨[], H, I, .nil, h⟩
theorem pa_cons (ha : PE X e te) (hr : PA X es t) (hs : starEach (e :: es) X.env = (false, eval e X.env) :: starEach es X.env := by rfl) : PA X (e :: es) (tCons te t) := by
  intro pos pins s σ H Q I h
  rw [hs]
  show wpAny _ _ (spliced ((false, eval e X.env) :: backTo pos (starEach es X.env))) _ _ s
  refine Calls.spliced_cons (thn (ha pins s σ H _ I h) fun u s1 ⟨x, H1, I1, r1, q1⟩ => ?_)
  exact thn (hr pos pins s1 σ H1 _ I1 q1) fun us s2 ⟨xs, H2, I2, r2, q2⟩ => ⟨x :: xs, H2, I2, .cons r1 r2, q2⟩
/-- a tuple, a list of written items -/
def tTup (t : TA) : TE := fun σ H Q => t σ H fun xs H1 => xs.length ≤ sizeLine ∧ ∀ p, H1 p = none → Q (.ref p) (upd H1 p (.tup xs))
def tLst (t : TA) : TE := fun σ H Q => t σ H fun xs H1 => xs.length ≤ sizeLine ∧ ∀ p, H1 p = none → Q (.ref p) (upd H1 p (.lst xs))
theorem pe_tup {x1} (h : PA X es t) : PE X (.Tuple es x1 pos) (tTup t) := by
  intro pins s σ H Q I hq
  refine wpAny_Tuple_spliced (thn (h pos pins s σ H _ I hq) fun us s1 ⟨xs, H1, I1, r, z, q⟩ => ⟨by rw [← r.length]; exact z, ?_⟩)
  have hf : H1 s1.heap.objs.size = none := I1.hok.fresh (Nat.le_refl _)
  refine ⟨.ref s1.heap.objs.size, upd H1 s1.heap.objs.size (.tup xs), I1.laid (t' := s1.toks) (fun b u e => Heap.get?_push_of_some _ e) (Nat.le_refl _) ?_, rfl, q _ hf⟩
  exact ⟨z, us, r, ⟨_, Heap.get?_push_size _ rfl, rfl, _, rfl⟩⟩
theorem pe_lst (h : PA X es t) : PE X (.List es pos) (tLst t) := by
  intro pins s σ H Q I hq
  refine wpAny_List_spliced (thn (h pos pins s σ H _ I hq) fun us s1 ⟨xs, H1, I1, r, z, q⟩ => ⟨by rw [← r.length]; exact z, ?_⟩)
  have hf : H1 s1.heap.objs.size = none := I1.hok.fresh (Nat.le_refl _)
  refine ⟨.ref s1.heap.objs.size, upd H1 s1.heap.objs.size (.lst xs), I1.laid (t' := s1.toks) (fun b u e => Heap.get?_push_of_some _ e) (Nat.le_refl _) ?_, rfl, q _ hf⟩
  exact ⟨z, us, 0, r, Heap.get?_push_size _ rfl⟩
end
/-! ### what a def promises -/
/-- a def's promise: the bound arguments in the parameters' order, the heap, the wanted end, the wanted exception -/
abbrev Sp := List V → Hp → VK → XK → Prop
/-- how an exception lies behind a call (file 08 gives it): the callers' frames, abstract heap and state ahead of the call, the wish, the exception, the state -/
abbrev CXT := List Env → Hp → Shared → XK → Value → Shared → Prop
/-- the state at a call -/
structure Env0 (P : Program) (w : World) (K : PySem.W.Frag) (mg : Str → Option Value) (base : Heap) (A : Around) (outer : List Env) (s : Shared) (H : Hp) : Prop where
  frames : A.frames = some outer
  mod : Mod K mg base
  bs : ∀ b o, base.get? b = some o → s.heap.get? b = some o ∧ H b = none
  bsz : base.objs.size ≤ s.heap.objs.size
  funs : s.heap.FunFrames base outer
  frf : ∀ b ∈ frs outer, H b = none
  hok : HOk P w H s.heap
  bare : AllBare s.gens
/-- a call's end -/
def CE (outer : List Env) (P : Program) (w : World) (H : Hp) (s : Shared) (Q : VK) (u : Value) (s' : Shared) : Prop :=
  ∃ v H', s'.os = s.os ∧ AllBare s'.gens ∧ Un (frs outer) [] H H' s.heap s'.heap ∧ HOk P w H' s'.heap ∧ RelV v u ∧ Q v H'
def CR (CX : CXT) (outer : List Env) (P : Program) (w : World) (H : Hp) (s : Shared) (Q : VK) (E : XK) (r : Result) (s' : Shared) : Prop :=
  match r with
  | .ok (.ret u) => CE outer P w H s Q u s'
  | .ok _ => False
  | .error e => CX outer H s E e s'
structure FnOk (P : Program) (w : World) (K : PySem.W.Frag) (mg : Str → Option Value) (base : Heap) (CX : CXT) (k : Nat) (f : Addr) (fd : FuncData) (ps : List Str) (sp : Sp) : Prop where
  len : ∀ vs H Q E, sp vs H Q E → vs.length = ps.length
  run : ∀ (A : Around) (outer : List Env) (s : Shared) (H : Hp) (args : Args) (us : List Value) (vs : List V) (Q : VK) (E : XK), Room k A → Env0 P w K mg base A outer s H → BindsTo s fd args (ps.zip us) → Vals vs us → sp vs H Q E →
    codeAny (model P w) A (.call (.ref f) args) (CR CX outer P w H s Q E) s
section
variable {X : Cx} {pins : List (Addr × Obj)} {σ : St} {H : Hp} {s s' : Shared}
/-- from a body: what a callee wants -/
theorem Inv.env0 (I : Inv X pins σ H s) : Env0 X.prog X.w X.K X.mg X.base X.A X.stack s H :=
  ⟨I.ok.frames, I.ok.mod, I.bs, Nat.le_trans I.ok.bsz I.sz, I.stack, I.stkFree, I.hok, I.bare⟩
/-- behind a call -/
theorem Inv.after {Q : VK} {u : Value} (I : Inv X pins σ H s) (h : CE X.stack X.prog X.w H s Q u s') : EP X pins σ Q u s' := by
  obtain ⟨v, H', os, bare, un, hok, r, q⟩ := h
  obtain ⟨hh, g, d, t, os'⟩ := s'
  obtain rfl : os' = s.os := os
  exact ⟨v, H', I.call (h' := hh) (g' := g) (d' := d) (t' := t) (ch := []) un hok bare (fun b z => absurd z (by simp)), r, q⟩
end
/-! ### calls -/
/-- f(..): the written arguments, then the defaults dvs; E: what is wanted of an exception -/
def tCall (sp : Sp) (dvs : List V) (E : XK) (t : TA) : TE := fun σ H Q => t σ H fun vs H1 => sp (vs ++ dvs) H1 Q E
/-- how the parameters are bound: us the positional arguments, kw the keywords' values by name, ds the defaults that fill up -/
def Binds (K : PySem.W.Frag) (fd : FuncData) (ps : List Str) (ds : List Value) : Prop :=
  ∀ (s : Shared) (us : List Value), K.In s.heap → (us ++ ds).length = ps.length → BindsTo s fd ⟨us, []⟩ (ps.zip (us ++ ds))
/-- every parameter is given -/
theorem Binds.all {K : PySem.W.Frag} {fd : FuncData} {ps : List Str} (h : ∀ us : List Value, us.length = ps.length → bindArgs fd ⟨us, []⟩ = pure (ps.zip us)) : Binds K fd ps [] := fun s us _ hl => by
  rw [List.append_nil] at hl ⊢
  exact .of_eq (h us hl)
/-- an exception of a callee reaches what this body wants of exceptions -/
def Passes (CX : CXT) (X : Cx) (E : XK) : Prop := ∀ (pins : List (Addr × Obj)) (σ : St) (H : Hp) (s : Shared) (e : Value) (s' : Shared), Inv X pins σ H s → CX X.stack H s E e s' → X.xe e s'
section
variable {X : Cx} {CX : CXT} {k : Nat} {f C : Addr} {fd : FuncData} {ps : List Str} {sp : Sp} {dvs : List V} {ds : List Value} {E : XK} {x m : Str} {p pos apos : Pos} {e o : Expr} {es : List Expr} {ta : TE} {t : TA}
/-- the callee runs -/
theorem run_fn {pins : List (Addr × Obj)} {σ : St} {H : Hp} {s : Shared} {Q : VK} {us : List Value} {vs : List V} (F : FnOk X.prog X.w X.K X.mg X.base CX k f fd ps sp) (hr : Room k X.A) (hb : Binds X.K fd ps ds) (hd : Vals dvs ds) (hx : Passes CX X E)
    (I : Inv X pins σ H s) (r : Vals vs us) (h : sp (vs ++ dvs) H Q E) : wpAny (model X.prog X.w) X.A (call (.ref f) us) (EP X pins σ Q) X.xe s := by
  have r2 : Vals (vs ++ dvs) (us ++ ds) := r.append hd
  have hl : (us ++ ds).length = ps.length := by rw [← r2.length]; exact F.len _ _ _ _ h
  refine wpAny_call (codeAny_mono (F.run X.A X.stack s H ⟨us, []⟩ (us ++ ds) (vs ++ dvs) Q E hr I.env0 (hb s us I.kIn hl) r2 h) fun r s' hq => ?_)
  cases r with
  | error e => exact hx pins σ H s e s' I hq
  | ok fl =>
    cases fl with
    | ret u => exact I.after hq
    | next => exact False.elim hq
    | brk => exact False.elim hq
    | cont => exact False.elim hq
theorem pe_call (F : FnOk X.prog X.w X.K X.mg X.base CX k f fd ps sp) (hr : Room k X.A) (hg : Gl X x) (hm : X.mg x = some (.ref f)) (hk : PySem.W.keepIn X.K (.ref f) = true) (hb : Binds X.K fd ps ds) (hd : Vals dvs ds) (hx : Passes CX X E)
    (ha : PA X (e :: es) t) (hdb : (x == ("__debug__" : Str)) = false := by decide) (he : starEach (e :: es) X.env = (false, eval e X.env) :: starEach es X.env := by rfl) (hpl : (backTo pos (starEach es X.env)).any (·.1) = false := by rfl) :
    PE X (.Call (.Name x p) (e :: es) [] pos) (tCall sp dvs E t) := by
  intro pins s σ H Q I h
  refine wpAny_Call_Name_kw (ld_glob I hg hm ?_ hdb)
  refine PySem.W.callWith_K (h₀ := X.base) I.ok.mod.kin hk (thn (ha pos pins s σ H _ I h) fun us s1 ⟨vs, H1, I1, r, q⟩ => ⟨I1.kIn, ?_⟩) he hpl
  exact run_fn F hr hb hd hx I1 r q
end
/-! ### keywords -/
section
variable {X : Cx} {CX : CXT} {k : Nat} {f C : Addr} {fd : FuncData} {ps ks : List Str} {sp : Sp} {E : XK} {x m : Str} {p pos apos kpos : Pos} {e o : Expr} {es : List Expr} {kws : List Keyword} {te ta : TE} {t tk : TA} {nm : Option Str}
variable {g : List Value → List Value → List Value} {gV : List V → List V → List V}
end
/-! ### a def's body keeps its promise -/
/-- names: the parameters first -/
structure FnScope (N P : List Str) (sc : Scope) : Prop where
  kind : sc.kind = .function
  co : sc.isCoroutine = false
  gen : sc.isGenerator = false
  nd : N.Nodup
  pre : N.take P.length = P
  par : ∀ x ∈ P, sc.names.lookup x = some .local ∨ sc.names.lookup x = some .cell
  nofree : ∀ y ∈ sc.names, y.2 ≠ .free
theorem bindL_out {kindOf : Str → Option NameKind} {x : Str} : ∀ {binds : List (Str × Value)} {m : Str → Option Value}, (∀ v, (x, v) ∉ binds) → bindL kindOf binds m x = m x
  | [], _, _ => rfl
  | (n, v) :: r, m, h => by
    unfold bindL
    rw [bindL_out fun w hw => h w (List.mem_cons_of_mem _ hw)]
    split
    · have : x ≠ n := by rintro rfl; exact h v List.mem_cons_self
      simp [this]
    · rfl
theorem bindC_out {kindOf : Str → Option NameKind} {x : Str} : ∀ {binds : List (Str × Value)} {m : Str → Option Value}, (∀ v, (x, v) ∉ binds) → bindC kindOf binds m x = m x
  | [], _, _ => rfl
  | (n, v) :: r, m, h => by
    unfold bindC
    rw [bindC_out fun w hw => h w (List.mem_cons_of_mem _ hw)]
    split
    · rfl
    · have : x ≠ n := by rintro rfl; exact h v List.mem_cons_self
      simp [this]
theorem bindL_get {kindOf : Str → Option NameKind} {x : Str} {v : Value} : ∀ {P : List Str} {vs : List Value} {i : Nat} {m : Str → Option Value}, P.Nodup → P[i]? = some x → vs[i]? = some v → kindOf x = some .local →
    bindL kindOf (P.zip vs) m x = some v
  | [], _, _, _, _, h, _, _ => by simp at h
  | _ :: _, [], _, _, _, _, h, _ => by simp at h
  | p :: P, w :: vs, 0, m, nd, h1, h2, hk => by
    simp at h1 h2; subst h1; subst h2
    show bindL kindOf ((p, w) :: P.zip vs) m p = _
    unfold bindL
    rw [bindL_out fun v hv => (List.nodup_cons.mp nd).1 (List.of_mem_zip hv).1, if_pos hk]
    simp
  | p :: P, w :: vs, i + 1, m, nd, h1, h2, hk => by
    show bindL kindOf ((p, w) :: P.zip vs) m x = _
    unfold bindL
    exact bindL_get (i := i) (List.nodup_cons.mp nd).2 (by simpa using h1) (by simpa using h2) hk
theorem bindC_get {kindOf : Str → Option NameKind} {x : Str} {v : Value} : ∀ {P : List Str} {vs : List Value} {i : Nat} {m : Str → Option Value}, P.Nodup → P[i]? = some x → vs[i]? = some v → kindOf x ≠ some .local →
    bindC kindOf (P.zip vs) m x = some v
  | [], _, _, _, _, h, _, _ => by simp at h
  | _ :: _, [], _, _, _, _, h, _ => by simp at h
  | p :: P, w :: vs, 0, m, nd, h1, h2, hk => by
    simp at h1 h2; subst h1; subst h2
    show bindC kindOf ((p, w) :: P.zip vs) m p = _
    unfold bindC
    rw [bindC_out fun v hv => (List.nodup_cons.mp nd).1 (List.of_mem_zip hv).1, if_neg hk]
    simp
  | p :: P, w :: vs, i + 1, m, nd, h1, h2, hk => by
    show bindC kindOf ((p, w) :: P.zip vs) m x = _
    unfold bindC
    exact bindC_get (i := i) (List.nodup_cons.mp nd).2 (by simpa using h1) (by simpa using h2) hk
/-- the names' values at the entry -/
def start (N : List Str) (vs : List V) : St := vs.map some ++ List.replicate (N.length - vs.length) none
/-- the context of a def's body, at its entry; an exception leaves the frame, then lies as CX says -/
def cxOf (CX : CXT) (P : Program) (w : World) (K : PySem.W.Frag) (mg : Str → Option Value) (base : Heap) (N : List Str) (qual : Str) (scope : Scope) (f : Addr) (cd : Value) (A : Around) (outer : List Env) (s : Shared) (H : Hp) (E : XK) : Cx where
  prog := P
  w := w
  K := K
  mg := mg
  base := base
  A := A.deeper (envOfC qual scope s.heap.objs.size f cd)
  N := N
  s₀ := s
  H₀ := H
  env := envOfC qual scope s.heap.objs.size f cd
  outer := outer
  stack := envOfC qual scope s.heap.objs.size f cd :: outer
  ex := []
  calm := true
  fn := fun _ => true
  pn := []
  xe := fun e s' => wpAny (model P w) (A.deeper (envOfC qual scope s.heap.objs.size f cd)) (leaving (envOfC qual scope s.heap.objs.size f cd) e) (fun _ s'' => CX outer H s E e s'') (fun e' s'' => CX outer H s E e' s'') s'
theorem cell_has {sc : Scope} {n : Nat} {x : Str} (h : sc.names.lookup x = some .cell) : ∃ c, (cellsFrom n sc.names []).lookup x = some c := by
  have q := PySem.W.cellsFrom_some sc.names n [] (.inl h)
  exact Option.isSome_iff_exists.mp q
theorem inv_start {CX : CXT} {P : Program} {w : World} {K : PySem.W.Frag} {mg : Str → Option Value} {base : Heap} {N ps : List Str} {qual : Str} {scope : Scope} {f : Addr} {cd : Value} {A : Around} {outer : List Env} {s s1 : Shared} {H : Hp} {E : XK} {us : List Value} {vs : List V}
    (S : FnScope N ps scope) (hd : A.handled = none) (e0 : Env0 P w K mg base A outer s H) (hl : vs.length = ps.length) (r : Vals vs us)
    (x : InCallC s s.heap.objs.size (bindL (envOfC qual scope s.heap.objs.size f cd).kindOf (ps.zip us) fun _ => none) (cellsFrom (s.heap.objs.size + 1) scope.names []) (bindC (envOfC qual scope s.heap.objs.size f cd).kindOf (ps.zip us) fun _ => none) s1) :
    Inv (cxOf CX P w K mg base N qual scope f cd A outer s H E) [] (start N vs) H s1 := by
  have hpl : ps.length ≤ N.length := by have := congrArg List.length S.pre; rw [List.length_take] at this; omega
  obtain ⟨h1, tk, rfl, hk⟩ := x.done
  have noA : ∀ b : Addr, b ∉ (cxOf CX P w K mg base N qual scope f cd A outer s H E).ex := fun b z => absurd (show b ∈ ([] : List Addr) from z) (by simp)
  refine ⟨⟨e0.mod, S.kind, rfl, rfl, Nat.le_refl _, fun y z c h1 h2 => ?_, fun y hy => ?_, fun y c _ h => ?_, fun _ => hd, Around.frames_deeper e0.frames, .inr ⟨rfl, rfl⟩, fun b z => absurd z (noA b), e0.bs, e0.bsz, fun b _ _ => noA b, fun b z => absurd z (noA b), e0.funs, e0.frf⟩,
    rfl, e0.bare, Un.kept hk, ⟨_, x.toInCall.ns, fun i y v h1 h2 h3 => ?_⟩, fun y c h => ⟨_, x.cell y c h⟩, e0.hok.fresh (Nat.le_refl _), fun y c h => ?_, fun p hp => absurd (show p ∈ ([] : List (Addr × Obj)) from hp) (by simp), e0.hok.kept hk, ?_⟩
  · exact name_of_addr x.apart (PySem.mem_of_lookup h1) (PySem.mem_of_lookup h2)
  · have hy : scope.names.lookup y = some .cell ∨ scope.names.lookup y = some .free := hy
    rcases hy with hy | hy
    · exact cell_has hy
    · exact absurd rfl (S.nofree _ (PySem.mem_of_lookup hy))
  · exact Nat.le_of_lt (x.above y c (PySem.mem_of_lookup h))
  · have hi : i < vs.length := by
      unfold start at h2
      by_cases hi : i < vs.length
      · exact hi
      · rw [List.getElem?_append_right (by simpa using hi)] at h2
        rw [List.getElem?_replicate] at h2
        split at h2 <;> cases h2
    have ha : vs[i]? = some v := by
      unfold start at h2
      rw [List.getElem?_append_left (by simpa using hi), List.getElem?_map] at h2
      cases e : vs[i]? with
      | none => rw [e] at h2; cases h2
      | some a => rw [e] at h2; cases h2; rfl
    obtain ⟨u, hu, rv⟩ := r.get ha
    have hp : ps[i]? = some y := by
      rw [← S.pre, List.getElem?_take_of_lt (by omega)]; exact h1
    have ndP : ps.Nodup := by rw [← S.pre]; exact S.nd.sublist (List.take_sublist _ _)
    refine ⟨u, rv, ?_⟩
    rcases S.par y (List.mem_of_getElem? hp) with k | k
    · exact .inl ⟨k, bindL_get ndP hp hu k⟩
    · obtain ⟨c, e⟩ := cell_has (n := s.heap.objs.size + 1) k
      refine .inr ⟨.inl k, c, e, ?_⟩
      have q := x.cell y c e
      rw [bindC_get ndP hp hu (by show scope.names.lookup y ≠ _; rw [k]; decide)] at q
      exact q
  · exact e0.hok.fresh (Nat.le_of_lt (x.above y c (PySem.mem_of_lookup h)))
  · unfold start
    show _ = N.length
    rw [List.length_append, List.length_map, List.length_replicate]
    omega
/-- THE RULE: a def (or a method) of the text, by its body. The body's reading t is chosen for each entry; it is run at the parameters' values -/
theorem fn_of {CX : CXT} {P : Program} {w : World} {K : PySem.W.Frag} {mg : Str → Option Value} {base : Heap} {k : Nat} {f : Addr} {name qual : Str} {params : Arguments} {body : List Stmt} {scope : Scope} {dV kV doc pm cdv ct oc : Value} {an od : Option Addr}
    {osl : Array (Option Value)} {N ps : List Str} {sp : Sp} (lk : K.lookup f = some ⟨oc, od, .func (PySem.W.fnOf name qual params body scope dV kV doc pm an cdv ct), osl⟩) (hcd : PySem.W.codeIn K cdv qual = true) (S : FnScope N ps scope)
    (len : ∀ vs H Q E, sp vs H Q E → vs.length = ps.length)
    (hbody : ∀ (A : Around) (outer : List Env) (s : Shared) (H : Hp) (vs : List V) (Q : VK) (E : XK), Room k (A.deeper (envOfC qual scope s.heap.objs.size f cdv)) → sp vs H Q E →
      ∃ t, PSs (cxOf CX P w K mg base N qual scope f cdv A outer s H E) body t ∧ t { nx := fun _ H' => Q .non H', rt := Q } (start N vs) H) :
    FnOk P w K mg base CX (k + 1) f (PySem.W.fnOf name qual params body scope dV kV doc pm an cdv ct) ps sp := by
  refine ⟨len, fun A outer s H args us vs Q E hr e0 hb r hsp => ?_⟩
  have hl := len _ _ _ _ hsp
  have KX : K.In s.heap := e0.mod.kin.keeps fun b o e => (e0.bs b o e).1
  have lim : s.heap.NoLimit := e0.mod.nolimit.keeps fun b o e => (e0.bs b o e).1
  have hkind : ∀ y ∈ ps.zip us, scope.names.lookup y.1 = some .local ∨ (scope.names.lookup y.1 = some .cell ∧ ((cellsFrom (s.heap.objs.size + 1) scope.names []).lookup y.1).isSome = true) := fun ⟨n, v⟩ hy => by
    rcases S.par n (List.of_mem_zip hy).1 with q | q
    · exact .inl q
    · exact .inr ⟨q, PySem.W.cellsFrom_some _ _ _ (.inl q)⟩
  refine codeAny_call_function hr.depth (KX _ _ lk) rfl S.co S.gen rfl (PySem.W.codeRec_of KX hcd) (hb _ _ _ _ ?_)
  refine wpAny_newFunctionEnv_cells S.kind hkind fun env he s1 x => ?_
  subst he
  refine ⟨lim.keeps x.toInCall.keep, codeAny_func ?_⟩
  obtain ⟨t, ht, hq⟩ := hbody A outer s H vs Q E (hr.deeper _) hsp
  have I : Inv (cxOf CX P w K mg base N qual scope f cdv A outer s H E) [] (start N vs) H s1 := inv_start S hr.hd e0 hl r x
  refine wpAny_mono (ht [] s1 (start N vs) H _ I hq) (fun fl s' hs => ?_) fun e s' hs => hs
  have fin : ∀ {σ' : St} {H' : Hp} {v : V} {u : Value}, Inv (cxOf CX P w K mg base N qual scope f cdv A outer s H E) [] σ' H' s' → RelV v u → Q v H' → CE outer P w H s Q u s' :=
    fun {σ' H' v u} J rv q => ⟨v, H', J.os, J.bare, J.base, J.hok, rv, q⟩
  cases fl with
  | ret u =>
    obtain ⟨v, σ', H', J, rv, q⟩ := hs
    exact fin J rv q
  | next =>
    obtain ⟨σ', H', J, q⟩ := hs
    exact fin (v := V.non) (u := Value.none) J rfl q
  | brk =>
    obtain ⟨_, _, _, q⟩ := hs
    exact False.elim q
  | cont =>
    obtain ⟨_, _, _, q⟩ := hs
    exact False.elim q
end L2
namespace L2
open PySem PySem.Spec PyProof.Rows
section
variable {X : Cx} {x : Str} {p pos : Pos} {e : Expr} {es : List Expr} {t : TA} {id T : String} {r : List V → Hp → VK → Prop}
def tCB (r : List V → Hp → VK → Prop) (t : TA) : TE := fun σ H Q => t σ H fun vs H1 => r vs H1 Q
/-- f(e, ..), f a built-in function -/
theorem pe_callB (hc : CallR X (.builtin id) r) (hg : Gl X x) (hm : X.mg x = none) (hv : bootBuiltins x = some (.builtin id)) (ha : PA X (e :: es) t) (hn : x ≠ "__name__" := by decide) (hdb : (x == ("__debug__" : Str)) = false := by decide)
    (he : starEach (e :: es) X.env = (false, eval e X.env) :: starEach es X.env := by rfl) (hpl : (backTo pos (starEach es X.env)).any (·.1) = false := by rfl) : PE X (.Call (.Name x p) (e :: es) [] pos) (tCB r t) := by
  intro pins s σ H Q I h
  refine wpAny_Call_Name_kw (ld_blt I hg hm hv ?_ hn hdb)
  exact PyProof.Rows.callWith_builtin1 (thn (ha pos pins s σ H _ I h) fun us s1 ⟨vs, H1, I1, r1, q1⟩ => hc pins s1 σ H1 vs us Q I1 r1 q1) he hpl
/-- T(e, ..), T a built-in type -/
theorem pe_callTy (hc : CallR X (.type T) r) (hg : Gl X x) (hm : X.mg x = none) (hv : bootBuiltins x = some (.type T)) (ha : PA X (e :: es) t) (hn : x ≠ "__name__" := by decide) (hdb : (x == ("__debug__" : Str)) = false := by decide)
    (he : starEach (e :: es) X.env = (false, eval e X.env) :: starEach es X.env := by rfl) (hpl : (backTo pos (starEach es X.env)).any (·.1) = false := by rfl) : PE X (.Call (.Name x p) (e :: es) [] pos) (tCB r t) := by
  intro pins s σ H Q I h
  refine wpAny_Call_Name_kw (ld_blt I hg hm hv ?_ hn hdb)
  exact PyProof.Rows.callWith_type1 (thn (ha pos pins s σ H _ I h) fun us s1 ⟨vs, H1, I1, r1, q1⟩ => hc pins s1 σ H1 vs us Q I1 r1 q1) he hpl
end
end L2
namespace HT
open PySem PyProof.Rows
section
open PySem.SeqAt
open PySem.AutoSeq1 (wpAny_loadPart')
open PySem.MeetsSeq PySem.MeetsSeq2 PySem.MeetsSeq3
end
section
variable {prog : Program} {w : World} {A : Around} {E : Value → Shared → Prop} {s : Shared}
/-! ### t[a:b], not the whole -/
/-- a slice's bound as a place among n (d where it is left out) -/
def sIx (n d : Nat) : Option Int → Nat
  | none => d
  | some v => if v < 0 then (v + (n : Int)).toNat else min v.toNat n
theorem sIx_none (n d : Nat) : sIx n d none = d := rfl
theorem sIx_nat (n d k : Nat) : sIx n d (some (k : Int)) = min k n := by
  show (if (k : Int) < 0 then ((k : Int) + (n : Int)).toNat else min (k : Int).toNat n) = min k n
  rw [if_neg (by omega), Int.toNat_natCast]
end
end HT
namespace L2
open PySem PySem.Spec PyProof.Rows
/-! ### the parts of a slice -/
abbrev TO := St → Hp → (Option Int → Hp → Prop) → Prop
/-- a slice's part (left out, or an int) -/
def PO (X : Cx) (e : Option Expr) (t : TO) : Prop :=
  ∀ (pins : List (Addr × Obj)) (s : Shared) (σ : St) (H : Hp) (Q : Option Int → Hp → Prop), Inv X pins σ H s → t σ H Q →
    wpAny (model X.prog X.w) X.A (evalPart e X.env) (fun u s' => ∃ o H', Inv X pins σ H' s' ∧ IsPart u o ∧ Q o H') X.xe s
def tNoPart : TO := fun _ H Q => Q none H
def tPart (t : TE) : TO := fun σ H Q => t σ H fun x H1 => ∃ i, x = .int i ∧ Q (some i) H1
section
variable {X : Cx} {e : Expr} {te : TE} {lo hi : Option Expr} {tl th : TO} {pos p2 : Pos}
theorem po_none : PO X none tNoPart := by
  intro pins s σ H Q I h
  rw [evalPart_none]
  exact wpAny_pure ⟨none, H, I, .none, h⟩
theorem po_some (h : PE X e te) : PO X (some e) (tPart te) := by
  intro pins s σ H Q I hw
  rw [evalPart_some]
  refine thn (h pins s σ H _ I hw) fun u s1 ⟨x, H1, I1, r1, q1⟩ => ?_
  obtain ⟨i, rfl, q⟩ := q1
  obtain ⟨t, rfl⟩ := r1
  exact ⟨some i, H1, I1, .int i t, q⟩
/-- what a slice of a value is, by values: the slice object stands at sl -/
def SlR (X : Cx) (r : V → Option Int → Option Int → Hp → VK → Prop) : Prop :=
  ∀ (pins : List (Addr × Obj)) (s : Shared) (σ : St) (H : Hp) (x : V) (v vl vu : Value) (lo hi : Option Int) (sl : Addr) (Q : VK), Inv X pins σ H s → RelV x v → s.heap.IsSliceOf sl vl vu .none → IsPart vl lo → IsPart vu hi → r x lo hi H Q →
    ∃ T id, typeLookup (.type T) "__getitem__" = pure (some (.builtin id)) ∧ s.TypeIs v T ∧ wpAny (model X.prog X.w) X.A (getItem v (.ref sl)) (EP X pins σ Q) X.xe s
def tSl (r : V → Option Int → Option Int → Hp → VK → Prop) (te : TE) (tl th : TO) : TE := fun σ H Q => te σ H fun x H1 => tl σ H1 fun l H2 => th σ H2 fun u H3 => r x l u H3 Q
/-- a[lo:hi], any a -/
theorem pe_slice {r : V → Option Int → Option Int → Hp → VK → Prop} (hr : SlR X r) (he : PE X e te) (hl : PO X lo tl) (hu : PO X hi th) : PE X (.Subscript e (.Slice lo hi none p2) pos) (tSl r te tl th) := by
  intro pins s σ H Q I h
  refine Subscript_ (thn (he pins s σ H _ I h) fun v s1 ⟨x, H1, I1, r1, q1⟩ => ?_)
  refine wpAny_Slice (thn (hl pins s1 σ H1 _ I1 q1) fun vl s2 ⟨l, H2, I2, pl, q2⟩ => thn (hu pins s2 σ H2 _ I2 q2) fun vu s3 ⟨u, H3, I3, pu, q3⟩ => ?_)
  rw [evalPart_none]
  refine wpAny_pure ?_
  have I4 : Inv X pins σ H3 { s3 with heap := s3.heap.push { cls := .type "slice", data := .fields #[vl, vu, .none] } } := I3.kept (t' := s3.toks) fun b ob q => Heap.get?_push_of_some _ q
  obtain ⟨T, id, hT, ht, hg⟩ := hr pins { s3 with heap := s3.heap.push { cls := .type "slice", data := .fields #[vl, vu, .none] } } σ H3 x v vl vu l u s3.heap.objs.size Q I4 r1 (Heap.IsSliceOf.new ..) pl pu q3
  show wpAny (model X.prog X.w) X.A (subscriptTail e (.Slice lo hi none p2) v (.ref s3.heap.objs.size)) (EP X pins σ Q) X.xe { s3 with heap := s3.heap.push { cls := .type "slice", data := .fields #[vl, vu, .none] } }
  exact tail_any (ops := [.ref s3.heap.objs.size, v]) ht hT hg (by with_unfolding_all rfl)
/-- the items of xs[lo:hi] -/
def cutV (xs : List V) (lo hi : Option Int) : List V := (xs.drop (HT.sIx xs.length 0 lo)).take (HT.sIx xs.length xs.length hi - HT.sIx xs.length 0 lo)
theorem cutV_length (xs : List V) (lo hi : Option Int) : (cutV xs lo hi).length ≤ xs.length := by
  unfold cutV
  rw [List.length_take, List.length_drop]
  omega
/-! ### t < u, t + u -/
end
end L2
namespace L2
open PySem PySem.Spec PyProof.Rows
/-! ### places -/
/-- the place that an index of any sign means -/
def ixN (n : Nat) (i : Int) : Option Nat := if 0 ≤ i then (if i < n then some i.toNat else none) else if -(n : Int) ≤ i then some (i + n).toNat else none
def atI {α : Type} (xs : List α) (i : Int) : Option α := (ixN xs.length i).bind fun j => xs[j]?
theorem ixN_seq {n : Nat} {i : Int} {j : Nat} (h : ixN n i = some j) : seqIndex? i n = some j ∧ j < n ∧ -(n : Int) ≤ i ∧ i < n := by
  unfold ixN at h
  by_cases h0 : 0 ≤ i
  · rw [if_pos h0] at h
    by_cases h1 : i < n
    · rw [if_pos h1] at h
      have e : i.toNat = j := Option.some.inj h
      exact ⟨by rw [seqIndex_of h0 h1, e], by omega, by omega, h1⟩
    · rw [if_neg h1] at h; cases h
  · rw [if_neg h0] at h
    by_cases h1 : -(n : Int) ≤ i
    · rw [if_pos h1] at h
      have e : (i + n).toNat = j := Option.some.inj h
      exact ⟨by rw [seqIndex_neg (by omega) h1, e], by omega, h1, by omega⟩
    · rw [if_neg h1] at h; cases h
theorem atI_get {α : Type} {xs : List α} {i : Int} {v : α} (h : atI xs i = some v) : ∃ j, seqIndex? i xs.length = some j ∧ xs[j]? = some v ∧ j < xs.length ∧ -(xs.length : Int) ≤ i ∧ i < xs.length := by
  unfold atI at h
  cases e : ixN xs.length i with
  | none => rw [e] at h; cases h
  | some j =>
    rw [e] at h
    obtain ⟨h1, h2, h3, h4⟩ := ixN_seq e
    exact ⟨j, h1, h, h2, h3, h4⟩
theorem atI_nat {α : Type} {xs : List α} {j : Nat} {v : α} (h : xs[j]? = some v) : atI xs (j : Int) = some v := by
  have hj : j < xs.length := (List.getElem?_eq_some_iff.mp h).1
  have e : ixN xs.length (j : Int) = some j := by
    unfold ixN
    rw [if_pos (by omega), if_pos (by omega)]; simp
  unfold atI; rw [e]; exact h
/-! ### what may be subscripted -/
/-- what stands as an index of a plain subscript -/
def PlainIx (b : Expr) : Prop := ∀ o i, subscripted b false o i = operate [o, i] (getItem o i)
/-- a subscript by values -/
def IxR (X : Cx) (r : R2) : Prop :=
  ∀ (value slice : Expr) (pins : List (Addr × Obj)) (s : Shared) (σ : St) (H : Hp) (x y : V) (v u : Value) (Q : VK), Inv X pins σ H s → RelV x v → RelV y u → r x y H Q →
    subscripted slice false v u = operate [v, u] (getItem v u) → wpAny (model X.prog X.w) X.A (subscriptTail value slice v u) (EP X pins σ Q) X.xe s
/-- a call of a builtin's method by values: the receiver, the arguments -/
def MtR (X : Cx) (id : String) (r : V → List V → Hp → VK → Prop) : Prop :=
  ∀ (pins : List (Addr × Obj)) (s : Shared) (σ : St) (H : Hp) (x : V) (xs : List V) (v : Value) (us : List Value) (Q : VK), Inv X pins σ H s → RelV x v → Vals xs us → r x xs H Q →
    wpAny (model X.prog X.w) X.A (call (.builtin id) (v :: us)) (EP X pins σ Q) X.xe s
section
variable {X : Cx} {a b : Expr} {ta tb : TE} {pos : Pos}
/-- a[b] -/
theorem pe_ix {r : R2} (hr : IxR X r) (ha : PE X a ta) (hb : PE X b tb) (hs : PlainIx b) : PE X (.Subscript a b pos) (tOp r ta tb) := by
  intro pins s σ H Q I h
  exact Subscript_ (binT ha hb I h fun v u s2 x y H2 I2 rx ry q => hr a b pins s2 σ H2 x y v u Q I2 rx ry q (hs _ _))
def rIxL (K : PySem.W.Frag) : R2 := fun x y H Q => ∃ p xs i v, x = .ref p ∧ y = .int i ∧ SqL K H p xs ∧ atI xs i = some v ∧ Q v H
def rIxT (K : PySem.W.Frag) : R2 := fun x y H Q => ∃ p xs i v, x = .ref p ∧ y = .int i ∧ SqT K H p xs ∧ atI xs i = some v ∧ Q v H
theorem ix_list : IxR X (rIxL X.K) := by
  intro value slice pins s σ H x y v u Q I rx ry h hs
  obtain ⟨p, xs, i, z, rfl, rfl, hq, he, q⟩ := h
  cases rx
  obtain ⟨t, rfl⟩ := ry
  obtain ⟨its, r, pl, hz⟩ := I.list hq
  obtain ⟨j, h1, h2, h3, h4, h5⟩ := atI_get he
  obtain ⟨w, ew, rw'⟩ := r.get h2
  have hl := r.length
  have hn := line63
  have fin : EP X pins σ Q w s := ⟨z, H, I, rw', q⟩
  by_cases h0 : 0 ≤ i
  · have hj : i.toNat = j := by
      rw [seqIndex_of h0 h5] at h1
      exact Option.some.inj h1
    exact item_listR pl.isList h0 (by omega) (by rw [hj]; simpa using ew) fin hs
  · have hj : (i + (its.toArray.size : Int)).toNat = j := by
      rw [seqIndex_neg (by omega) h4] at h1
      rw [List.size_toArray, ← hl]
      exact Option.some.inj h1
    exact subscriptTail_builtinR (x := w) pl.isList.typeIs slot_list_getitem.lookup
      (wpAny_getItem_list_neg (Q := fun r s' => r = w ∧ EP X pins σ Q r s') pl.isList (by omega) (by rw [List.size_toArray] <;> omega) (by omega) (by rw [hj]; simpa using ew) ⟨rfl, fin⟩) hs
theorem ix_tup : IxR X (rIxT X.K) := by
  intro value slice pins s σ H x y v u Q I rx ry h hs
  obtain ⟨p, xs, i, z, rfl, rfl, hq, he, q⟩ := h
  cases rx
  obtain ⟨t, rfl⟩ := ry
  obtain ⟨its, r, pl, hz⟩ := I.tuple hq
  obtain ⟨j, h1, h2, h3, h4, h5⟩ := atI_get he
  obtain ⟨w, ew, rw'⟩ := r.get h2
  have hl := r.length
  have hn := line63
  have fin : EP X pins σ Q w s := ⟨z, H, I, rw', q⟩
  exact subscriptTail_builtinR (x := w) pl.typeIs slot_tuple_getitem.lookup
    (getItem_tuple (j := j) (Q := fun r s' => r = w ∧ EP X pins σ Q r s') pl (by omega) (by omega) (by rw [List.size_toArray, ← hl]; exact h1) (by simpa using ew) ⟨rfl, fin⟩) hs
/-! ### xs[i] = v, any sign -/
/-- the list's object behind a store -/
theorem mapSeq_set (its : List Value) (n j : Nat) (u : Value) : Obj.mapSeq (·.setIfInBounds j u) { cls := .type "list", data := .seq its.toArray n } = { cls := .type "list", data := .seq (its.set j u).toArray n } := by
  simp [Obj.mapSeq]
theorem Inv.lst {pins : List (Addr × Obj)} {σ : St} {H : Hp} {s : Shared} {p : Addr} {xs : List V} (I : Inv X pins σ H s) (h : H p = some (.lst xs)) :
    ∃ (its : List Value) (n : Nat), Vals xs its ∧ s.heap.get? p = some { cls := .type "list", data := .seq its.toArray n } ∧ xs.length ≤ sizeLine := by
  obtain ⟨z, its, n, r, e⟩ := I.hok p _ h
  exact ⟨its, n, r, e, z⟩
/-- the list at p is written by an update of its object -/
theorem Inv.lstUpd {pins : List (Addr × Obj)} {σ : St} {H : Hp} {s : Shared} {p : Addr} {xs ys : List V} {its its' : List Value} {n n' : Nat} {f : Obj → Obj} (I : Inv X pins σ H s) (h : H p = some (.lst xs))
    (ho : s.heap.get? p = some { cls := .type "list", data := .seq its.toArray n }) (hf : f { cls := .type "list", data := .seq its.toArray n } = { cls := .type "list", data := .seq its'.toArray n' }) (r : Vals ys its') (hz : ys.length ≤ sizeLine) (t : Nat) :
    Inv X pins σ (upd H p (.lst ys)) { s with heap := s.heap.update p f, toks := t } := by
  have e : (s.heap.update p f).get? p = some { cls := .type "list", data := .seq its'.toArray n' } := by
    rw [Heap.get?_update_self f ho (by rw [hf] <;> rfl), hf]
  refine I.write (x := p) (e := p) (by rw [h]; trivial) (.inl rfl) (fun b u hb q => (Heap.get?_update_other _ _ (Ne.symm hb)).trans q) ⟨_, e⟩ ?_
  exact ⟨hz, its', n', r, e⟩
def rSetL : V → V → V → Hp → (Hp → Prop) → Prop := fun o i v H Q => ∃ p xs k j, o = .ref p ∧ i = .int k ∧ H p = some (.lst xs) ∧ ixN xs.length k = some j ∧ Q (upd H p (.lst (xs.set j v)))
theorem set_list : PSet X rSetL := by
  intro pins s σ H o i v ov iv u Q I ro ri rv h
  obtain ⟨p, xs, k, j, rfl, rfl, hp, hj, q⟩ := h
  cases ro
  obtain ⟨t, rfl⟩ := ri
  obtain ⟨its, n, r, ho, hz⟩ := I.lst hp
  obtain ⟨h1, h2, h3, h4⟩ := ixN_seq hj
  have hl := r.length
  have hn := line63
  have I' : Inv X pins σ (upd H p (.lst (xs.set j v))) { s with heap := s.heap.update p (Obj.mapSeq (·.setIfInBounds j u)) } :=
    I.lstUpd hp ho (mapSeq_set its n j u) (r.set rv j) (by rw [List.length_set]; exact hz) s.toks
  by_cases h0 : 0 ≤ k
  · have hk : k.toNat = j := by
      rw [seqIndex_of h0 h4] at h1
      exact Option.some.inj h1
    exact PySem.W.ki_setAt ho h0 (by omega) (by rw [List.size_toArray, ← hl]; exact h4) (by rw [hk]; exact ⟨_, I', q⟩)
  · have hk : (k + (its.toArray.size : Int)).toNat = j := by
      rw [seqIndex_neg (by omega) h3] at h1
      rw [List.size_toArray, ← hl]
      exact Option.some.inj h1
    exact PySem.W.ki_setBack ho (by omega) (by rw [List.size_toArray, ← hl]; exact h3) (by omega) (by rw [hk]; exact ⟨_, I', q⟩)
/-! ### slices -/
theorem slice_bounds (lo hi : Option Int) (n : Nat) : (sliceBounds lo hi none n).1 = ((HT.sIx n 0 lo : Nat) : Int) ∧ (sliceBounds lo hi none n).2.1 = ((HT.sIx n n hi : Nat) : Int) ∧ (sliceBounds lo hi none n).2.2 = 1 := by
  refine ⟨?_, ?_, rfl⟩
  · cases lo with
    | none => simp [sliceBounds, HT.sIx]
    | some i =>
      simp only [sliceBounds, HT.sIx, Option.getD_none, show (1 : Int) > 0 by decide, if_true]
      by_cases h : i < 0
      · simp only [h, if_true] <;> omega
      · simp only [h, if_false] <;> omega
  · cases hi with
    | none => simp [sliceBounds, HT.sIx]
    | some i =>
      simp only [sliceBounds, HT.sIx, Option.getD_none, show (1 : Int) > 0 by decide, if_true]
      by_cases h : i < 0
      · simp only [h, if_true] <;> omega
      · simp only [h, if_false] <;> omega
theorem slicePick_cut (its : List Value) (lo hi : Option Int) : slicePick its.toArray lo hi none = ((its.drop (HT.sIx its.length 0 lo)).take (HT.sIx its.length its.length hi - HT.sIx its.length 0 lo)).toArray := by
  obtain ⟨h1, h2, h3⟩ := slice_bounds lo hi its.toArray.size
  unfold slicePick
  rw [h1, h2, h3]
  simp only [sliceRange_one, pick_run, List.size_toArray] <;> rfl
/-- xs[lo:hi] of a list: a new list -/
def rSlL (K : PySem.W.Frag) : V → Option Int → Option Int → Hp → VK → Prop := fun x lo hi H Q => ∃ a xs, x = .ref a ∧ SqL K H a xs ∧ ∀ p, H p = none → Q (.ref p) (upd H p (.lst (cutV xs lo hi)))
theorem sl_list : SlR X (rSlL X.K) := by
  intro pins s σ H x v vl vu lo hi sl Q I rx hs pl pu h
  obtain ⟨a, xs, rfl, hx, q⟩ := h
  cases rx
  obtain ⟨its, r, ht, hz⟩ := I.list hx
  have hlen := r.length
  refine ⟨"list", _, slot_list_getitem.lookup, ht.isList.typeIs, ?_⟩
  refine wpAny_getItem_list_slice ht.isList hs pl pu .none (by simp) ?_ (by rw [List.size_toArray] <;> omega)
  rw [slicePick_cut, ← hlen]
  refine ⟨.ref s.heap.objs.size, _, I.laid (t' := s.toks) (o := .lst (cutV xs lo hi)) (fun b ob q => Heap.get?_push_of_some _ q) (Nat.le_refl _) ?_, rfl, q _ (I.hok.fresh (Nat.le_refl _))⟩
  exact ⟨Nat.le_trans (cutV_length xs lo hi) hz, _, 0, (r.drop (HT.sIx xs.length 0 lo)).take (HT.sIx xs.length xs.length hi - HT.sIx xs.length 0 lo), Heap.get?_push_size _ rfl⟩
/-! ### in, not in: flat items -/
def flatV : V → Bool
  | .non => true
  | .bl _ => true
  | .int _ => true
  | .str _ => true
  | _ => false
/-- == of flat values -/
def eqV : V → V → Bool
  | .non, .non => true
  | .bl a, .bl b => a == b
  | .bl a, .int b => (if a then 1 else 0) == b
  | .int a, .bl b => a == (if b then 1 else 0)
  | .int a, .int b => a == b
  | .str a, .str b => a == b
  | _, _ => false
theorem eqAt_V {A : Around} {s : Shared} {y x : V} {u v : Value} (ry : RelV y u) (rx : RelV x v) (fy : flatV y = true) (fx : flatV x = true) : SeqAt.EqAt A s u v (eqV y x) := by
  cases y with
  | non =>
    cases ry
    cases x with
    | non => cases rx; exact SeqAt.EqAt.same _
    | bl b => cases rx; exact SeqAt.EqAt.none_bool b
    | int b => obtain ⟨t, rfl⟩ := rx; exact SeqAt.EqAt.none_int b t
    | str b => obtain ⟨t, rfl⟩ := rx; exact SeqAt.EqAt.none_str b t
    | _ => exact absurd (show false = true from fx) Bool.false_ne_true
  | bl a =>
    cases ry
    cases x with
    | non => cases rx; exact SeqAt.EqAt.bool_none a
    | bl b => cases rx; exact SeqAt.EqAt.bool_bool a b
    | int b => obtain ⟨t, rfl⟩ := rx; exact SeqAt.EqAt.bool_int a b t
    | str b => obtain ⟨t, rfl⟩ := rx; exact SeqAt.EqAt.bool_str a b t
    | _ => exact absurd (show false = true from fx) Bool.false_ne_true
  | int a =>
    obtain ⟨t', rfl⟩ := ry
    cases x with
    | non => cases rx; exact SeqAt.EqAt.int_none a t'
    | bl b => cases rx; exact SeqAt.EqAt.int_bool a t' b
    | int b => obtain ⟨t, rfl⟩ := rx; exact SeqAt.EqAt.int_int a t' b t
    | str b => obtain ⟨t, rfl⟩ := rx; exact SeqAt.EqAt.int_str a t' b t
    | _ => exact absurd (show false = true from fx) Bool.false_ne_true
  | str a =>
    obtain ⟨t', rfl⟩ := ry
    cases x with
    | non => cases rx; exact SeqAt.EqAt.str_none a t'
    | bl b => cases rx; exact SeqAt.EqAt.str_bool a t' b
    | int b => obtain ⟨t, rfl⟩ := rx; exact SeqAt.EqAt.str_int a t' b t
    | str b => obtain ⟨t, rfl⟩ := rx; exact SeqAt.EqAt.str_str a t' b t
    | _ => exact absurd (show false = true from fx) Bool.false_ne_true
  | _ => exact absurd (show false = true from fy) Bool.false_ne_true
/-! ### len, list(x), tuple(x) of any list or tuple that is read -/
theorem call_len_seq : CallR X (.builtin "len") (fun xs H Q => ∃ p ys, xs = [.ref p] ∧ (SqL X.K H p ys ∨ SqT X.K H p ys) ∧ Q (.int ys.length) H) := by
  intro pins s σ H xs us Q I r h
  obtain ⟨p, ys, rfl, hq, q⟩ := h
  obtain ⟨u, rfl, rx⟩ := vals1 r
  cases rx
  have hn := line63
  rcases hq with hq | hq
  · obtain ⟨its, r', pl, hz⟩ := I.list hq
    have hlen := r'.length
    exact Calls.call_len_list pl.isList (by simp only [List.size_toArray] <;> omega) ⟨.int ys.length, H, I.tok _, ⟨s.toks + 1, by rw [List.size_toArray, hlen]⟩, q⟩
  · obtain ⟨its, r', pl, hz⟩ := I.tuple hq
    have hlen := r'.length
    exact len_tuple pl (by simp only [List.size_toArray] <;> omega) ⟨.int ys.length, H, I.tok _, ⟨s.toks + 1, by rw [List.size_toArray, hlen]⟩, q⟩
theorem call_list_of : CallR X (.type "list") (fun xs H Q => ∃ p ys, xs = [.ref p] ∧ (SqL X.K H p ys ∨ SqT X.K H p ys) ∧ ∀ l, H l = none → Q (.ref l) (upd H l (.lst ys))) := by
  intro pins s σ H xs us Q I r h
  obtain ⟨p, ys, rfl, hq, q⟩ := h
  obtain ⟨u, rfl, rx⟩ := vals1 r
  cases rx
  have fin : ∀ (its : List Value), Vals ys its → ys.length ≤ sizeLine → ∀ (h' : Heap) (c' : Nat), (∀ b o', s.heap.get? b = some o' → h'.get? b = some o') →
      h'.get? s.heap.objs.size = some { cls := .type "list", dict := none, data := .seq its.toArray c', slots := #[] } → EP X pins σ Q (.ref s.heap.objs.size) { s with heap := h' } := fun its r' hz h' c' kp e =>
    ⟨.ref s.heap.objs.size, _, I.laid (t' := s.toks) kp (Nat.le_refl _) (show ObjOk X.prog X.w _ h' _ (.lst ys) from ⟨hz, its, c', r', e⟩), rfl, q _ (I.hok.fresh (Nat.le_refl _))⟩
  rcases hq with hq | hq
  · obtain ⟨its, r', pl, hz⟩ := I.list hq
    have hlen := r'.length
    obtain ⟨o, ho, hc, n, hd⟩ := pl.isList
    exact call_list_seq p (.inl rfl) ho hc hd (fun h' c' kp e => fin its r' hz h' c' kp e) (by simp only [List.size_toArray] <;> omega)
  · obtain ⟨its, r', pl, hz⟩ := I.tuple hq
    have hlen := r'.length
    obtain ⟨o, ho, hc, n, hd⟩ := pl
    exact call_list_seq p (.inr rfl) ho hc hd (fun h' c' kp e => fin its r' hz h' c' kp e) (by simp only [List.size_toArray] <;> omega)
/-! ### the call of a builtin's method: o.m(..) -/
/-- the value is of that builtin type -/
def tyV (K : PySem.W.Frag) (T : String) (x : V) (H : Hp) : Prop := match x with
  | .str _ => T = "str"
  | .int _ => T = "int"
  | .ref p => (T = "list" ∧ ∃ xs, SqL K H p xs) ∨ (T = "tuple" ∧ ∃ o, K.lookup p = some o ∧ o.cls = .type "tuple" ∧ o.dict = none) ∨
      (T = "dict" ∧ ((∃ kvs, H p = some (.dK kvs)) ∨ ∃ kvs, H p = some (.dT kvs))) ∨ (T = "set" ∧ ∃ S n, H p = some (.set S n))
  | _ => False
theorem tyV_is {pins : List (Addr × Obj)} {σ : St} {H : Hp} {s : Shared} {T : String} {x : V} {v : Value} (I : Inv X pins σ H s) (r : RelV x v) (ty : tyV X.K T x H) :
    s.TypeIs v T ∧ ∀ a, v = .ref a → ∃ ob, s.heap.get? a = some ob ∧ ob.dict = none := by
  cases x with
  | str z =>
    obtain ⟨t, rfl⟩ := r
    cases (show T = "str" from ty)
    exact ⟨typeIs_str s z t, fun _ e => nomatch e⟩
  | int i =>
    obtain ⟨t, rfl⟩ := r
    cases (show T = "int" from ty)
    exact ⟨typeIs_int s i t, fun _ e => nomatch e⟩
  | ref p =>
    cases r
    rcases ty with ⟨rfl, xs, hq⟩ | ⟨rfl, o, hk, hc, hd⟩ | ⟨rfl, hk⟩ | ⟨rfl, S, n, hk⟩
    · obtain ⟨its, _, pl, _⟩ := I.list hq
      refine ⟨pl.isList.typeIs, fun a e => ?_⟩
      cases e
      obtain ⟨o, n, e, c, hd, _⟩ := pl
      exact ⟨o, e, hd⟩
    · refine ⟨⟨o, I.kIn p o hk, hc⟩, fun a e => ?_⟩
      cases e
      exact ⟨o, I.kIn _ o hk, hd⟩
    · have z : ∃ o, s.heap.get? p = some o ∧ o.ExactDict := by
        rcases hk with ⟨kvs, hk⟩ | ⟨kvs, hk⟩
        · obtain ⟨_, _, _, _, o, _, _, e, ex, _⟩ := I.hok p _ hk
          exact ⟨o, e, ex⟩
        · obtain ⟨_, _, _, _, o, _, _, e, ex, _⟩ := I.hok p _ hk
          exact ⟨o, e, ex⟩
      obtain ⟨o, e, ex⟩ := z
      refine ⟨⟨o, e, ex.1⟩, fun a e2 => ?_⟩
      cases e2
      exact ⟨o, e, ex.2.1⟩
    · obtain ⟨o, _, _, _, e, ex, _⟩ := I.hok p _ hk
      refine ⟨⟨o, e, ex.1⟩, fun a e2 => ?_⟩
      cases e2
      exact ⟨o, e, ex.2.1⟩
  | _ => exact False.elim ty
def tBM (K : PySem.W.Frag) (T : String) (r : V → List V → Hp → VK → Prop) (to : TE) (t : TA) : TE := fun σ H Q => to σ H fun x H1 => tyV K T x H1 ∧ t σ H1 fun xs H2 => r x xs H2 Q
variable {o e : Expr} {es : List Expr} {to : TE} {t : TA} {name : Str} {apos cpos : Pos} {T id : String} {r : V → List V → Hp → VK → Prop}
theorem pe_bm (pa : PlainAttrs T) (slot : Slot T name id) (hty : typeOf (.builtin id) = pure (.type "method_descriptor")) (hm : MtR X id r) (ho : PE X o to) (ha : PA X (e :: es) t)
    (hbase : attributeBase o name X.env (eval o X.env) = eval o X.env := by rfl)
    (hfew : ((backTo cpos (starEach (e :: es) X.env)).all (fun x => !x.1) && (backToKw cpos (keywordEach [] X.env)).all (fun x => x.1.isSome)
      && decide ((e :: es).length + ([] : List Keyword).length + (if ([] : List Keyword).isEmpty then 0 else 1) < 30)) = true := by rfl)
    (hline : (apos.endLine == cpos.line) = true := by rfl) (hs : starEach (e :: es) X.env = (false, eval e X.env) :: starEach es X.env := by rfl) (hplain : (backTo cpos (starEach es X.env)).any (·.1) = false := by rfl) :
    PE X (.Call (.Attribute o name apos) (e :: es) [] cpos) (tBM X.K T r to t) := by
  intro pins s σ H Q I h
  refine wpAny_Call_method_late hbase hfew hline rfl (thn (ho pins s σ H _ I h) fun v s1 ⟨x, H1, I1, r1, ty, q1⟩ => ?_)
  obtain ⟨h1, h2⟩ := tyV_is I1 r1 ty
  refine ⟨T, id, pa, slot, hty, h1, h2, ?_⟩
  have hA := ha cpos pins s1 σ H1 _ I1 q1
  rw [hs] at hA ⊢
  refine Calls.callWith_builtin (by show (false || (backTo cpos (starEach es X.env)).any (·.1)) = false; rw [hplain] <;> rfl) (Calls.evalArgs_plain ?_)
  exact thn hA fun us s2 ⟨vs, H2, I2, r2, q2⟩ => hm pins s2 σ H2 x vs v us Q I2 r1 r2 q2
/- xs.append(e), list.index on a module's tuple .. are MtR facts of 06m -/
end
end L2
namespace L2
open PySem PySem.Spec PyProof.Rows
def MtM (X : Cx) (id : String) (r : V → List V → Hp → VK → Prop) : Prop :=
  ∀ (pins : List (Addr × Obj)) (s : Shared) (σ : St) (H : Hp) (x : V) (xs : List V) (v : Value) (us : List Value) (Q : VK), Inv X pins σ H s → RelV x v → Vals xs us → r x xs H Q →
    wpAny (model X.prog X.w) X.A (call (.builtin id) (v :: us)) (EP X pins σ Q) X.xe s
/-! ### lists of values -/
theorem Vals.one : ∀ {x : V} {us : List Value}, Vals [x] us → ∃ u, us = [u] ∧ RelV x u
  | _, _, .cons r .nil => ⟨_, rfl, r⟩
theorem Vals.two : ∀ {x y : V} {us : List Value}, Vals [x, y] us → ∃ u v, us = [u, v] ∧ RelV x u ∧ RelV y v
  | _, _, _, .cons r (.cons q .nil) => ⟨_, _, rfl, r, q⟩
theorem Vals.eraseIdx : ∀ {xs : List V} {us : List Value} (i : Nat), Vals xs us → Vals (xs.eraseIdx i) (us.eraseIdx i)
  | _, _, _, .nil => .nil
  | _, _, 0, .cons _ t => t
  | _, _, i + 1, .cons r t => .cons r (Vals.eraseIdx i t)
theorem len_erase {α : Type} : ∀ (l : List α) (i : Nat), (l.eraseIdx i).length ≤ l.length
  | [], _ => Nat.le_refl _
  | _ :: _, 0 => Nat.le_succ _
  | _ :: r, i + 1 => Nat.succ_le_succ (len_erase r i)
section
variable {X : Cx} {pins : List (Addr × Obj)} {σ : St} {H : Hp} {s : Shared} {l b : Addr} {xs ys zs : List V}
/-! ### the two steps: a tracked list is rewritten, a new list is laid -/
theorem Inv.lset {its its' : List Value} {n : Nat} {f : Array Value → Array Value} {t' : Nat} (I : Inv X pins σ H s) (hH : H l = some (.lst xs))
    (e : s.heap.get? l = some { cls := .type "list", data := .seq its.toArray n }) (hf : f its.toArray = its'.toArray) (hv : Vals ys its') (hz : ys.length ≤ sizeLine) :
    Inv X pins σ (upd H l (.lst ys)) { s with heap := s.heap.update l (Obj.mapSeq f), toks := t' } := by
  have q := PySem.IsL.update e f
  rw [hf] at q
  refine I.write (x := l) (e := l) (by rw [hH]; exact trivial) (.inl rfl) (fun b' u hb hu => (Heap.get?_update_other s.heap (Obj.mapSeq f) (Ne.symm hb)).trans hu) ⟨_, q⟩ ?_
  exact ⟨hz, its', _, hv, q⟩
theorem Inv.lnew {its : List Value} {t' : Nat} (I : Inv X pins σ H s) (hv : Vals ys its) (hz : ys.length ≤ sizeLine) :
    Inv X pins σ (upd H s.heap.objs.size (.lst ys)) { s with heap := s.heap.push { cls := .type "list", data := .seq its.toArray }, toks := t' } :=
  I.laid (fun _ _ q => Heap.get?_push_of_some _ q) (Nat.le_refl _) ⟨hz, its, 0, hv, Heap.get?_push_size _ rfl⟩
theorem Inv.fresh (I : Inv X pins σ H s) : H s.heap.objs.size = none := I.hok.fresh (Nat.le_refl _)
theorem Inv.lstM (I : Inv X pins σ H s) (hH : H l = some (.lst xs)) : xs.length ≤ sizeLine ∧ ∃ (its : List Value) (n : Nat), Vals xs its ∧ xs.length = its.length ∧ s.heap.get? l = some { cls := .type "list", data := .seq its.toArray n } := by
  obtain ⟨z, its, n, r, e⟩ := I.hok l _ hH
  exact ⟨z, its, n, r, r.length, e⟩
end
section
variable {X : Cx}
/-! ### methods -/
def rAppend : V → List V → Hp → VK → Prop := fun x vs H Q => ∃ l xs y, x = .ref l ∧ vs = [y] ∧ H l = some (.lst xs) ∧ xs.length < sizeLine ∧ Q .non (upd H l (.lst (xs ++ [y])))
theorem mt_append : MtM X "list.append" rAppend := by
  intro pins s σ H x vs v us Q I rx rv h
  obtain ⟨l, xs, y, rfl, rfl, hH, hz, q⟩ := h
  cases rx
  obtain ⟨u, rfl, ru⟩ := rv.one
  obtain ⟨z, its, n, r, hl, e⟩ := I.lstM hH
  refine call_meets F.slot_list_append ⟨_, e, rfl⟩ F.entry_list_append (F.args_list_append_2 _ _) (PySem.list_append l its.toArray n u (by rw [List.size_toArray]; omega)) ⟨e, ?_⟩
  refine ⟨.non, _, I.lset (its' := its ++ [u]) hH e (by simp) (r.append (.cons ru .nil)) ?_, rfl, q⟩
  rw [List.length_append, List.length_singleton]
  omega
def rPopAt : V → List V → Hp → VK → Prop := fun x vs H Q => ∃ l xs i k y, x = .ref l ∧ vs = [.int i] ∧ H l = some (.lst xs) ∧ -(2 ^ 63) ≤ i ∧ i < 2 ^ 63 ∧ seqIndex? i xs.length = some k ∧ xs[k]? = some y ∧ Q y (upd H l (.lst (xs.eraseIdx k)))
theorem mt_popAt : MtM X "list.pop" rPopAt := by
  intro pins s σ H x vs v us Q I rx rv h
  obtain ⟨l, xs, i, k, y, rfl, rfl, hH, h1, h2, hk, hy, q⟩ := h
  cases rx
  obtain ⟨u, rfl, ru⟩ := rv.one
  obtain ⟨t, rfl⟩ := ru
  obtain ⟨z, its, n, r, hl, e⟩ := I.lstM hH
  obtain ⟨w, hw, rw'⟩ := r.get hy
  refine call_meets F.slot_list_pop ⟨_, e, rfl⟩ F.entry_list_pop (F.args_list_pop_2 _ _)
    (MeetsSeq.list_pop_at l its.toArray n i t k w (fitsIndex_both h1 h2) (by rw [List.size_toArray, ← hl]; exact hk) (by rw [← Array.getElem?_toList]; exact hw) (by rw [List.size_toArray]; omega)) ⟨e, ?_⟩
  refine ⟨y, _, I.lset (its' := its.eraseIdx k) hH e ?_ (r.eraseIdx k) ?_, rw', q⟩
  · show its.toArray.eraseIdxIfInBounds k = (its.eraseIdx k).toArray
    rw [List.eraseIdxIfInBounds_toArray]
  · have := len_erase xs k
    omega
/-! ### list + list, list += list, list * int -/
def rCat : R2 := fun x y H Q => ∃ l b xs zs, x = .ref l ∧ y = .ref b ∧ H l = some (.lst xs) ∧ H b = some (.lst zs) ∧ xs.length + zs.length ≤ sizeLine ∧ ∀ p, H p = none → Q (.ref p) (upd H p (.lst (xs ++ zs)))
theorem op_cat : OpR X (binaryOp .Add) rCat := by
  intro pins s σ H x y v u Q I rx ry h
  obtain ⟨l, b, xs, zs, rfl, rfl, hH, hB, hz, q⟩ := h
  cases rx
  cases ry
  obtain ⟨z, its, n, r, hl, e⟩ := I.lstM hH
  obtain ⟨z2, its2, n2, r2, hl2, e2⟩ := I.lstM hB
  refine PySem.P.add_list e e2 ?_ (by rw [List.size_toArray, List.size_toArray]; omega)
  have ea : its.toArray ++ its2.toArray = (its ++ its2).toArray := by simp
  rw [ea]
  exact ⟨.ref _, _, I.lnew (t' := s.toks) (r.append r2) (by rw [List.length_append]; omega), rfl, q _ I.fresh⟩
/-! ### del xs[i] -/
end
/-! ### xs[a:b] = ys -/
section
variable {prog : Program} {w : World} {A : Around} {E : Value → Shared → Prop} {s : Shared}
end
section
variable {X : Cx}
end
end L2
namespace Att
open PySem PySem.W PySem.Calls PyProof.Rows
/-! ### the script -/
theorem ints_of_wellAll {P : Params} {h : Heap} : ∀ (ns : List Int) (vs : List Value), WellAll P h vs (ns.map WData.int) → IntsAre vs ns := by
  intro ns
  induction ns with
  | nil =>
    intro vs w
    rw [List.map_nil] at w
    cases w
    exact .nil
  | cons n ns ih =>
    intro vs w
    rw [List.map_cons] at w
    cases w with
    | cons a b =>
      cases a
      exact .cons _ _ (ih _ b)
theorem script_of {l : OpenLaw} {n : Nat} (hn : l.most = some n) {P : Params} {h : Heap} {args : List WData} {vals : List Value}
    (hpre : l.row.toRowW.claim.pre args = true) (hwl : WellAll P h vals args) :
    ∃ a vs ns, vals = [Value.ref a] ∧ args = [WData.list (ns.map WData.int)] ∧ h.get? a = some { cls := .type "list", data := .seq vs.toArray } ∧ IntsAre vs ns ∧ ns.length ≤ n := by
  have hsh : WShape.hasAll [] args [.list .int] = true := (pre_splitW hpre).1
  have hc : l.pre.holds [] { args := args } = true := (pre_splitW hpre).2
  obtain ⟨d, r, rfl, h1, h2⟩ := hasAllW_cons hsh
  obtain rfl := hasAllW_nil h2
  obtain ⟨xs, rfl, h3⟩ := hasW_list h1
  obtain ⟨ns, rfl⟩ := items_int h3
  have hlen : ns.length ≤ n := by
    unfold OpenLaw.pre at hc
    have h4 : (WTm.not (.lt (.lit (.int (n : Int))) (.len (.arg 0)))).holds [] { args := [.list (ns.map .int)] } = true := by
      have h4 := (holds_andW hc).1
      rw [hn] at h4
      exact h4
    have h5 := condW_of h4 (w_not (w_lt w_lit (w_len_list (w_arg rfl))))
    rw [List.length_map] at h5
    refine Nat.le_of_not_lt fun q => ?_
    have q' : (n : Int) < ((ns.length : Nat) : Int) := by omega
    first
      | (rw [decide_eq_true q'] at h5; exact absurd h5 (by decide))
      | (simp at h5; omega)
  cases hwl with
  | cons w1 w2 =>
    cases w2
    cases w1 with
    | list ho hall => exact ⟨_, _, ns, rfl, rfl, ho, ints_of_wellAll ns _ hall, hlen⟩
theorem post_true (l : OpenLaw) (args : List WData) : l.row.toRowW.claim.post args (.bool true) args = true :=
  postW_of (r := l.row.toRowW) (X := (true == true))
    (show WShape.has [] (.bool true) .bool = true by first | rfl | decide | simp [WShape.has, WShape.arms, WShape.armsAll])
    (show (WTm.eq .res (.lit (.bool true))).value [] { args := args, res := some (.bool true), after := args } = some (.bool (true == true)) from w_eq_bool (w_res rfl) w_lit) rfl
/-! ### the attachment: holds_open's last premise (the goal 'hc' behind k_head) from a wpAny of the law's body -/
/-- the same from a codeAny of the CALL (for a layer whose function contracts speak of calls) -/
theorem attach_call {l : OpenLaw} {n : Nat} {q : Program} {loose : List Str} {XP : (Str → Option Value) → Heap → Prop} {YP : World → Heap → Prop} {d : DefRec}
    (hn : l.most = some n) (hdf : d.params.defaults = [])
    (call : ∀ (w : World) (s₀ s₁ : Shared) (mg mb : Str → Option Value) (fa : Addr) (o : Obj) (pm cd doc : Value) (a : Addr) (vs : List Value) (ns : List Int),
      Ground q loose [] XP w s₀ mg mb s₁.heap → YP w s₁.heap →
      s₁.heap.get? fa = some o → o.data = .func (docDef d.name d.params d.body d.scope pm cd doc) → s₁.heap.CodeRec cd d.name → mg d.name = some (.ref fa) →
      s₁.heap.get? a = some { cls := .type "list", data := .seq vs.toArray } → IntsAre vs ns → ns.length ≤ n → s₁.gens = #[] →
      codeAny (model l.prog w) callerA (.call (.ref fa) ⟨[.ref a], []⟩) (fun r s' => r = .ok (.ret (.bool true)) ∧ OldK s₁.heap s'.heap ∧ s'.os = s₁.os ∧ AllBare s'.gens) s₁) :
    WalkO q loose XP YP l.row.toRowW d [] (fun f vs => PySem.call f vs) := by
  intro w s₀ s₁ mg mb G Y fa o pm cd doc dV kV ho hd hcd hD hmg hg args vals as hpre hlay hrd hwl hlo
  obtain rfl : dV = .none := Dflts.none hD hdf
  obtain rfl : kV = .none := Dflts.noKw hD
  obtain ⟨a, vs, ns, rfl, rfl, hobj, hints, hlen⟩ := script_of hn hpre hwl
  refine enter_call (codeAny_mono (call w s₀ s₁ mg mb fa o pm cd doc a vs ns G Y ho (fd_plain hd) hcd hmg hobj hints hlen hg) fun r s' hq => ?_)
  obtain ⟨rfl, h2, h3, h4⟩ := hq
  exact ⟨.inl ⟨.bool true, .bool true, [], rfl, fun _ => rfl, .bool true, post_true l _, fun _ => ⟨List.Pairwise.nil, fun _ hm => (nomatch hm)⟩⟩, h2, h3, h4⟩
/-! ### rules over ANY heap (no ledger) from facts about the written part K: the library's own take a ledger (News) for what they write -/
section
variable {prog : Program} {w : World} {A : Around} {E : Value → Shared → Prop} {s : Shared} {K : Frag}
/-! the whole heap as the ledger: makes every rule that writes through a ledger a rule over any heap -/
end
end Att
namespace L2
open PySem PySem.Spec PyProof.Rows
theorem vals_ints : ∀ {vs : List Value} {ns : List Int}, IntsAre vs ns → Vals (ns.map V.int) vs
  | _, _, .nil => .nil
  | _, _, .cons n t h => .cons ⟨t, rfl⟩ (vals_ints h)
/-- nothing is tracked but the script, known to the object (or it is an object of the module) -/
def Only (H : Hp) : Prop := ∀ b, H b = none ∨ ∃ o xs, H b = some (.frz o (.lst xs))
/-- THE HEAD: the law's promise, at the heap behind the top. F, the promise of the law's def, may use that base is part of the heap (so K.In base, base.Ns mainGlobals mg stand in Mod) -/
theorem law_call {P : Program} {w : World} {K : PySem.W.Frag} {mg mb : Str → Option Value} {CX : CXT} {k : Nat} {fa a : Addr} {fd : FuncData} {x : Str} {sp : Sp} {s₁ : Shared} {vs : List Value} {ns : List Int}
    (KX : K.In s₁.heap) (hns : s₁.heap.Ns mainGlobals mg) (hb : s₁.heap.Ns builtinsNs mb) (hbb : ∀ x : Str, x ≠ "__name__" → mb x = bootBuiltins x) (hlim : s₁.heap.NoLimit) (hg : s₁.gens = #[])
    (ha : s₁.heap.get? a = some { cls := .type "list", data := .seq vs.toArray }) (hi : IntsAre vs ns) (hl : ns.length ≤ sizeLine) (hr : Room k callerA)
    (F : ∀ base : Heap, K.In base → base.Ns mainGlobals mg → FnOk P w K mg base CX k fa fd [x] sp) (hbind : ∀ (s : Shared) (u : Value), BindsTo s fd ⟨[u], []⟩ [(x, u)])
    (hsp : ∀ H : Hp, Only H → SqL K H a (ns.map V.int) → sp [.ref a] H (fun v _ => v = .bl true) fun _ _ _ => False)
    (hCX : ∀ H e s', CX [] H s₁ (fun _ _ _ => False) e s' → False) :
    codeAny (model P w) callerA (.call (.ref fa) ⟨[.ref a], []⟩) (fun r s' => r = .ok (.ret (.bool true)) ∧ OldK s₁.heap s'.heap ∧ s'.os = s₁.os ∧ AllBare s'.gens) s₁ := by
  have rv := vals_ints hi
  have lenV := hi.length
  -- from an abstract heap in which nothing but the script may be tracked
  have core : ∀ H : Hp, Only H → SqL K H a (ns.map V.int) → HOk P w H s₁.heap → (∀ b, H b ≠ none → b = a) → (H a ≠ none → K.lookup a = none) →
      codeAny (model P w) callerA (.call (.ref fa) ⟨[.ref a], []⟩) (fun r s' => r = .ok (.ret (.bool true)) ∧ OldK s₁.heap s'.heap ∧ s'.os = s₁.os ∧ AllBare s'.gens) s₁ := by
    intro H hO hS hok hA hK
    have base_of : ∀ {b : Addr} {o : Obj}, s₁.heap.get? b = some o → H b = none → (hidT s₁.heap H).get? b = some o := fun e n => hidT_get e n
    have noA : ∀ {b : Addr} {o : Obj} {es : Array DictEntry} {ep : Nat}, s₁.heap.get? b = some o → o.data = .dict es ep → H b = none := fun {b o es ep} e d => by
      cases q : H b with
      | none => rfl
      | some u =>
        have e' : b = a := hA b (by rw [q]; simp)
        subst e'
        rw [ha] at e; cases e
        have d' : Data.seq vs.toArray _ = Data.dict es ep := d
        cases d'
    have nsK : ∀ {b : Addr} {m : Str → Option Value}, s₁.heap.Ns b m → (hidT s₁.heap H).Ns b m := fun {b m} ⟨o, es, ep, e, d, r⟩ => ⟨o, es, ep, base_of e (noA e d), d, r⟩
    have hKb : K.In (hidT s₁.heap H) := fun b o e => base_of (KX b o e) (by
      cases q : H b with
      | none => rfl
      | some u =>
        have e' : b = a := hA b (by rw [q]; simp)
        subst e'
        rw [hK (by rw [q]; simp)] at e; cases e)
    have hM : Mod K mg (hidT s₁.heap H) := ⟨hKb, nsK hns, ⟨mb, nsK hb, hbb⟩, let ⟨mc, h1, h2⟩ := hlim; ⟨mc, nsK h1, h2⟩⟩
    have e0 : Env0 P w K mg (hidT s₁.heap H) callerA [] s₁ H := ⟨rfl, hM, fun b o e => of_hidT e, Nat.le_of_eq (hidT_size _ _), trivial, fun b hb => absurd (show b ∈ ([] : List Addr) from hb) (by simp), hok, .of_eq hg⟩
    refine codeAny_mono ((F _ hKb (nsK hns)).run callerA [] s₁ H ⟨[.ref a], []⟩ [.ref a] [.ref a] _ _ hr e0 (hbind s₁ (.ref a)) (.cons rfl .nil) (hsp H hO hS)) fun r s' h => ?_
    cases r with
    | error e => exact (hCX H e s' h).elim
    | ok fl =>
      cases fl with
      | next => exact False.elim h
      | brk => exact False.elim h
      | cont => exact False.elim h
      | ret u =>
        obtain ⟨v, H', os, bare, un, hok', r', q⟩ := h
        have q' : v = .bl true := q
        subst q'
        obtain rfl : u = Value.bool true := r'
        refine ⟨rfl, OldK.of_keep fun b o e => ?_, os, bare⟩
        cases q : H b with
        | none => exact un.keep b o e q (by intro z; exact absurd (show b ∈ ([] : List Addr) from z) (by simp)) (by simp)
        | some u =>
          rcases hO b with z | ⟨ob, xs, z⟩
          · rw [q] at z; cases z
          · have z2 := un.frzs b ob _ z
            obtain ⟨e1, _⟩ := hok b _ z
            obtain ⟨e2, _⟩ := hok' b _ z2
            rw [e] at e1; cases e1
            exact e2
  cases hk : K.lookup a with
  | some o =>
    -- the script is one of the module's own objects
    have e := KX a o hk
    rw [ha] at e
    cases e
    refine core (fun _ => none) (fun _ => .inl rfl) (.inr ⟨_, vs.toArray, _, hk, rfl, rfl, rfl, by rw [List.size_toArray, lenV]; exact hl, by simpa using rv⟩) (fun b u z => by have z' : (none : Option HO) = some u := z; cases z') (fun b z => absurd rfl z) fun z => absurd rfl z
  | none =>
    refine core (fun b => if b = a then some (.frz { cls := .type "list", data := .seq vs.toArray } (.lst (ns.map V.int))) else none) (fun b => ?_) (.inl (.inr ⟨{ cls := .type "list", data := .seq vs.toArray }, if_pos rfl⟩)) (fun b u z => ?_) (fun b z => ?_) fun _ => hk
    · by_cases hb : b = a
      · exact .inr ⟨_, _, if_pos hb⟩
      · exact .inl (if_neg hb)
    · by_cases hb : b = a
      · have z' := (if_pos hb).symm.trans z
        cases z'
        subst hb
        exact ⟨ha, by rw [List.length_map]; exact hl, vs, _, rv, ha⟩
      · have z' := (if_neg hb).symm.trans z
        cases z'
    · by_cases hb : b = a
      · exact hb
      · exact absurd (if_neg hb) z
end L2
namespace L2
open PySem PySem.Spec PyProof.Rows
/-- the goal that k_head leaves (case hc), from the law's promise. F gives the function object fd (K's own) once, then the promise over every base -/
theorem walk_of {l : PySem.W.OpenLaw} {n k : Nat} {q : Program} {loose : List Str} {XP : (Str → Option Value) → Heap → Prop} {YP : World → Heap → Prop} {d : DefRec} {K : Params → PySem.W.Frag} {CX : World → CXT} {sp : World → Sp} {x : Str}
    (hn : l.most = some n) (hn2 : n ≤ sizeLine) (hdf : d.params.defaults = []) (hr : Room k callerA)
    (hY : ∀ (w : World) (h : Heap), YP w h → (K w.params).In h)
    (F : ∀ (w : World) (mg : Str → Option Value) (fa : Addr) (h : Heap), (K w.params).In h → h.Ns mainGlobals mg → mg d.name = some (.ref fa) →
      ∃ fd : FuncData, (∀ (s : Shared) (u : Value), BindsTo s fd ⟨[u], []⟩ [(x, u)]) ∧
        ∀ base : Heap, (K w.params).In base → base.Ns mainGlobals mg → FnOk l.prog w (K w.params) mg base (CX w) k fa fd [x] (sp w))
    (hsp : ∀ (w : World) (H : Hp) (a : Addr) (ns : List Int), ns.length ≤ n → Only H → SqL (K w.params) H a (ns.map V.int) → sp w [.ref a] H (fun v _ => v = .bl true) fun _ _ _ => False)
    (hCX : ∀ (w : World) (H : Hp) (s : Shared) (e : Value) (s' : Shared), CX w [] H s (fun _ _ _ => False) e s' → False) :
    PySem.W.WalkO q loose XP YP l.row.toRowW d [] (fun f vs => PySem.call f vs) := by
  refine Att.attach_call hn hdf fun w s₀ s₁ mg mb fa o pm cd doc a vs ns G Y ho hd hcd hmg hobj hints hlen hg => ?_
  have KX := hY w _ Y
  obtain ⟨fd, hb, hF⟩ := F w mg fa _ KX G.T.g hmg
  exact law_call KX G.T.g G.T.b G.T.builtins G.T.nolimit hg hobj hints (Nat.le_trans hlen hn2) hr hF hb (fun H hO hS => hsp w H a ns hlen hO hS) fun H e s' => hCX w H s₁ e s'
end L2
/- THE LAST THEOREM (shape; LID, My.* are yours):
   My.Adr: a structure of the addresses that your layer names (classes, functions); My.Txt K t: a structure (Prop) of the equations over K;
   My.txt_mk : {K} {implicit addresses ..} (e1 : nsIn K mainGlobals "law" = some (some (.ref f))) (e2 : K.lookup f = some ⟨oc, od, .func (fnOf "law" "law" params body scope dV kV doc pm an cdv ct), sl⟩) (e3 : codeIn K cdv "law" = true) .. : ∃ t, My.Txt K t
set_option maxRecDepth 100000 in
set_option maxHeartbeats 0 in
theorem PySem.Challenge.cw_LID_holds : PySem.Challenge.rw_LID.Holds := by
  w_on; o_law; k_head; (case hw => w_witness2)
  k_fill
  refine L2.walk_of (l := PySem.Challenge.rw_LID) (n := 63) (k := 40) (x := "script") (CX := fun w => ..) (sp := fun _ => My.sp_law) rfl (by decide) rfl ⟨rfl, by decide, by decide⟩ (fun w h Y => PySem.W.kIn_of Y) ?F ?S ?C
  case F =>
    intro w mg fa h KX G hmg
    have T : ∃ t, My.Txt (L2.KOf KX) t := by
      dsimp only [L2.KOf]                          -- K must stand as «<heap const> w.params» for k_is
      refine' My.txt_mk ?e1 ?e2 ?e3 ..
      (case e1 => PySem.W.k_is)                    -- in the order: a name -> its address -> its object -> its parts
      (case e2 => PySem.W.k_is)
      ..
    obtain ⟨t, T⟩ := T
    have e0 := hmg.symm.trans (PySem.W.mg_of KX G T.law)
    cases e0                                       -- fa is the law's own address
    exact ⟨_, fun s u => .of_eq rfl, fun base kb nb => My.law_fn T kb nb⟩     -- if «.of_eq rfl» comes too early: refine' ⟨_, ?b, fun base kb nb => My.law_fn T kb nb⟩; exact fun s u => .of_eq rfl
  case S => exact fun w H a ns hl hO hS => ..
  case C => exact ..
(the tactic k_is has no namespace: write k_is) -/
/-! SHORT WORDS over the layer: a def of the text, its body, what a loop and a test want. -/
namespace L2
open PySem PySem.Spec PyProof.Rows
/-! ### the text by places -/
def defArgs (s : Stmt) : Arguments := match s with
  | .FunctionDef _ a _ _ _ _ _ _ _ _ => a
  | _ => { posonlyargs := [], args := [], vararg := none, kwonlyargs := [], kw_defaults := [], kwarg := none, defaults := [] }
def defBody (s : Stmt) : List Stmt := match s with
  | .FunctionDef _ _ b _ _ _ _ _ _ _ => b
  | _ => []
def defScope (s : Stmt) : Scope := match s with
  | .FunctionDef _ _ _ _ _ _ sc _ _ _ => sc
  | _ => { kind := .function, names := [], isGenerator := false, isCoroutine := false }
/-! ### no exception leaves a def -/
abbrev CX0 : CXT := fun _ _ _ _ _ _ => False
abbrev E0 : XK := fun _ _ _ => False
theorem pass0 {X : Cx} : Passes CX0 X E0 := fun _ _ _ _ _ _ _ h => h.elim
/-! ### a def (or method) of the text as it stands behind the top -/
structure Fun (K : PySem.W.Frag) (x qual : Str) (st : Stmt) (f : Addr) (fd : FuncData) : Prop where
  ex : ∃ (oc : Value) (od : Option Addr) (kV doc pm : Value) (an : Option Addr) (cdv ct : Value) (osl : Array (Option Value)),
    fd = PySem.W.fnOf x qual (defArgs st) (defBody st) (defScope st) .none kV doc pm an cdv ct ∧ K.lookup f = some ⟨oc, od, .func fd, osl⟩ ∧ PySem.W.codeIn K cdv qual = true
  kp : PySem.W.keepIn K (.ref f) = true
section
variable {P : Program} {w : World} {K : PySem.W.Frag} {mg : Str → Option Value} {base : Heap}
/-- THE RULE for a def: its body as a term of rules, and the reading of that term -/
theorem Fun.ok {x qual : Str} {st : Stmt} {f : Addr} {fd : FuncData} {N ps : List Str} {k : Nat} {sp : Sp} (F : Fun K x qual st f fd) (S : FnScope N ps (defScope st)) (len : ∀ vs H Q E, sp vs H Q E → vs.length = ps.length)
    (hbody : ∀ (cdv : Value) (A : Around) (outer : List Env) (s : Shared) (H : Hp) (vs : List V) (Q : VK) (E : XK), Room k (A.deeper (envOfC qual (defScope st) s.heap.objs.size f cdv)) → sp vs H Q E →
      ∃ t, PSs (cxOf CX0 P w K mg base N qual (defScope st) f cdv A outer s H E).nox (defBody st) t ∧ t { nx := fun _ H' => Q .non H', rt := Q } (start N vs) H) : FnOk P w K mg base CX0 (k + 1) f fd ps sp := by
  obtain ⟨oc, od, kV, doc, pm, an, cdv, ct, osl, rfl, lk, hcd⟩ := F.ex
  refine fn_of lk hcd S len fun A outer s H vs Q E hr hsp => ?_
  obtain ⟨t, h, q⟩ := hbody cdv A outer s H vs Q E hr hsp
  exact ⟨t, h.nox, q⟩
/-- how its arguments bind (no defaults): h is «fun _ _ _ _ _ _ us hl => match us, hl with | [_, _], _ => rfl», one _ a parameter -/
theorem Fun.binds {x qual : Str} {st : Stmt} {f : Addr} {fd : FuncData} {ps : List Str} (F : Fun K x qual st f fd)
    (h : ∀ (kV doc pm : Value) (an : Option Addr) (cdv ct : Value) (us : List Value), us.length = ps.length → bindArgs (PySem.W.fnOf x qual (defArgs st) (defBody st) (defScope st) .none kV doc pm an cdv ct) ⟨us, []⟩ = pure (ps.zip us)) : Binds K fd ps [] := by
  obtain ⟨oc, od, kV, doc, pm, an, cdv, ct, osl, rfl, lk, hcd⟩ := F.ex
  exact .all (h kV doc pm an cdv ct)
theorem fun_mk {x qual : Str} {st : Stmt} {f : Addr} {oc : Value} {od an : Option Addr} {osl : Array (Option Value)} {kV doc pm cdv ct : Value} (l : K.lookup f = some ⟨oc, od, .func (PySem.W.fnOf x qual (defArgs st) (defBody st) (defScope st) .none kV doc pm an cdv ct), osl⟩)
    (c : PySem.W.codeIn K cdv qual = true) (k : PySem.W.keepIn K (.ref f) = true) : Fun K x qual st f (PySem.W.fnOf x qual (defArgs st) (defBody st) (defScope st) .none kV doc pm an cdv ct) := ⟨⟨oc, od, kV, doc, pm, an, cdv, ct, osl, rfl, l, c⟩, k⟩
end
theorem small1000 {n : Nat} (h : n ≤ 1000) : n < sizeLine := Nat.lt_of_le_of_lt h (by decide)
/-! ### expressions in short: the name that stands in the i-th slot -/
section
variable {X : Cx}
theorem pv (i : Nat) {x : Str} {pos : Pos} (hN : X.N[i]? = some x := by rfl) (hv : Vis X.env.scope x := by first | exact Or.inl rfl | exact Or.inr (Or.inl rfl) | exact Or.inr (Or.inr rfl)) (hd : (x == ("__debug__" : Str)) = false := by decide)
    (hcd : (x == ("__classdict__" : Str)) = false := by decide) : PE X (.Name x pos) (tVar i) := pe_var hN hv hd hcd
end
/-! ### tests -/
theorem iteF {A B : Prop} (h : B) : if false = true then A else B := by
  rw [if_neg Bool.false_ne_true]
  exact h
theorem iteT {A B : Prop} (h : A) : if true = true then A else B := by
  rw [if_pos rfl]
  exact h
theorem ite2 {c A B : Prop} [Decidable c] (h1 : c → A) (h2 : ¬ c → B) : if c then A else B := by
  by_cases h : c
  · rw [if_pos h]
    exact h1 h
  · rw [if_neg h]
    exact h2 h
/-! ### heaps -/
/-- all that was tracked is as it was -/
def Same (H H' : Hp) : Prop := ∀ b o, H b = some o → H' b = some o
theorem Same.refl (H : Hp) : Same H H := fun _ _ h => h
theorem Same.trans {H H1 H2 : Hp} (a : Same H H1) (b : Same H1 H2) : Same H H2 := fun c o h => b c o (a c o h)
theorem Same.free {H H' : Hp} (e : Same H H') {l : Addr} (h : H' l = Option.none) : H l = Option.none := by
  cases q : H l with
  | none => rfl
  | some o =>
    rw [e l o q] at h
    cases h
theorem Same.seq {K : PySem.W.Frag} {H H' : Hp} {a : Addr} {xs : List V} (e : Same H H') (h : SqL K H a xs) : SqL K H' a xs := by
  rcases h with (h | ⟨o, h⟩) | h
  · exact .inl (.inl (e _ _ h))
  · exact .inl (.inr ⟨o, e _ _ h⟩)
  · exact .inr h
end L2
set_option maxRecDepth 10000
namespace RS
/-! ### rows -/
def Row (r : List Int) : Prop := ∀ (i j : Nat) (x y : Int), i ≤ j → r[i]? = some x → r[j]? = some y → x ≤ y
def cnt (r : List Int) (x : Int) : Nat := (r.filter fun y => decide (y ≤ x)).length
theorem cnt_le (r : List Int) (x : Int) : cnt r x ≤ r.length := List.length_filter_le _ _
theorem Row.tail {a : Int} {r : List Int} (h : Row (a :: r)) : Row r := fun i j x y hij hi hj => h (i + 1) (j + 1) x y (by omega) (by simpa using hi) (by simpa using hj)
theorem Row.head {a : Int} {r : List Int} (h : Row (a :: r)) {j : Nat} {y : Int} (hj : r[j]? = some y) : a ≤ y := h 0 (j + 1) a y (by omega) rfl (by simpa using hj)
theorem row_nil : Row [] := fun i j x y _ hi _ => by simp at hi
theorem row_cons {a : Int} {r : List Int} (h : Row r) (ha : ∀ y, y ∈ r → a ≤ y) : Row (a :: r) := fun i j x y hij hi hj => by
  cases i with
  | zero =>
    cases j with
    | zero => simp at hi hj; omega
    | succ j =>
      simp at hi hj
      subst hi
      exact ha y (List.mem_of_getElem? hj)
  | succ i =>
    cases j with
    | zero => omega
    | succ j => exact h i j x y (by omega) (by simpa using hi) (by simpa using hj)
theorem cnt_cons_le {a x : Int} (r : List Int) (h : a ≤ x) : cnt (a :: r) x = cnt r x + 1 := by simp [cnt, h]
theorem cnt_cons_gt {a x : Int} (r : List Int) (h : x < a) : cnt (a :: r) x = cnt r x := by
  have : ¬ a ≤ x := by omega
  simp [cnt, this]
theorem cnt_zero {x : Int} : ∀ {r : List Int}, (∀ y ∈ r, x < y) → cnt r x = 0
  | [], _ => rfl
  | a :: r, h => by rw [cnt_cons_gt r (h a List.mem_cons_self)]; exact cnt_zero fun y hy => h y (List.mem_cons_of_mem _ hy)
theorem cnt_lo : ∀ {r : List Int} {x : Int}, Row r → ∀ {i : Nat} {v : Int}, i < cnt r x → r[i]? = some v → v ≤ x
  | [], x, _, i, v, _, h => by simp at h
  | a :: r, x, hr, i, v, hi, h => by
    by_cases ha : a ≤ x
    · cases i with
      | zero => simp at h; omega
      | succ i =>
        rw [cnt_cons_le r ha] at hi
        exact cnt_lo hr.tail (i := i) (by omega) (by simpa using h)
    · have z : cnt (a :: r) x = 0 := cnt_zero fun y hy => by
        rcases List.mem_cons.mp hy with e | hy
        · subst e; omega
        · obtain ⟨j, hj, e⟩ := List.getElem_of_mem hy
          have := hr.head (j := j) (y := y) (by rw [List.getElem?_eq_getElem hj, e])
          omega
      omega
theorem cnt_hi : ∀ {r : List Int} {x : Int}, Row r → ∀ {i : Nat} {v : Int}, cnt r x ≤ i → r[i]? = some v → x < v
  | [], x, _, i, v, _, h => by simp at h
  | a :: r, x, hr, i, v, hi, h => by
    by_cases ha : a ≤ x
    · rw [cnt_cons_le r ha] at hi
      cases i with
      | zero => omega
      | succ i => exact cnt_hi hr.tail (i := i) (by omega) (by simpa using h)
    · cases i with
      | zero => simp at h; omega
      | succ i =>
        have := hr.head (j := i) (y := v) (by simpa using h)
        omega
/-! ### tables -/
def Above (r s : List Int) : Prop := s.length ≤ r.length ∧ ∀ (j : Nat) (x y : Int), r[j]? = some x → s[j]? = some y → x < y
def Dom (r : List Int) : List (List Int) → Prop
  | [] => True
  | s :: _ => Above r s
def Tab : List (List Int) → Prop
  | [] => True
  | r :: T => r ≠ [] ∧ Row r ∧ Dom r T ∧ Tab T
/-- bumping -/
def ins : List (List Int) → Int → List (List Int)
  | [], x => [[x]]
  | r :: T, x => if cnt r x < r.length then r.set (cnt r x) x :: ins T (r.getD (cnt r x) 0) else (r ++ [x]) :: T
/-- the line that grows -/
def gline : List (List Int) → Int → Nat
  | [], _ => 0
  | r :: T, x => if cnt r x < r.length then gline T (r.getD (cnt r x) 0) + 1 else 0
theorem ins_nil (x : Int) : ins [] x = [[x]] := rfl
theorem ins_bump {r : List Int} {T : List (List Int)} {x : Int} (h : cnt r x < r.length) : ins (r :: T) x = r.set (cnt r x) x :: ins T (r.getD (cnt r x) 0) := by rw [ins, if_pos h]
theorem ins_end {r : List Int} {T : List (List Int)} {x : Int} (h : ¬ cnt r x < r.length) : ins (r :: T) x = (r ++ [x]) :: T := by rw [ins, if_neg h]
theorem getD_some {r : List Int} {i : Nat} (h : i < r.length) : r[i]? = some (r.getD i 0) := by
  rw [List.getD_eq_getElem?_getD, List.getElem?_eq_getElem h]; rfl
theorem row_set {r : List Int} {x : Int} (hr : Row r) (h : cnt r x < r.length) : Row (r.set (cnt r x) x) := fun i j u v hij hi hj => by
  rw [List.getElem?_set] at hi hj
  by_cases h1 : cnt r x = i
  · rw [if_pos h1] at hi
    by_cases h2 : cnt r x = j
    · rw [if_pos h2] at hj
      rw [if_pos (by omega)] at hi hj
      cases hi; cases hj; omega
    · rw [if_neg h2] at hj
      rw [if_pos (by omega)] at hi
      cases hi
      have := cnt_hi hr (x := x) (i := j) (by omega) hj
      omega
  · rw [if_neg h1] at hi
    by_cases h2 : cnt r x = j
    · rw [if_pos h2] at hj
      rw [if_pos (by omega)] at hj
      cases hj
      exact cnt_lo hr (x := x) (i := i) (by omega) hi
    · rw [if_neg h2] at hj
      exact hr i j u v hij hi hj
theorem row_snoc {r : List Int} {x : Int} (hr : Row r) (h : ¬ cnt r x < r.length) : Row (r ++ [x]) := fun i j u v hij hi hj => by
  have hc : cnt r x = r.length := by have := cnt_le r x; omega
  rw [List.getElem?_append] at hi hj
  by_cases h1 : j < r.length
  · rw [if_pos h1] at hj
    rw [if_pos (by omega)] at hi
    exact hr i j u v hij hi hj
  · rw [if_neg h1] at hj
    have ej : j - r.length = 0 := by
      cases e : j - r.length with
      | zero => rfl
      | succ n => rw [e] at hj; simp at hj
    rw [ej] at hj
    simp at hj
    subst hj
    by_cases h2 : i < r.length
    · rw [if_pos h2] at hi
      exact cnt_lo hr (by omega) hi
    · rw [if_neg h2] at hi
      have ei : i - r.length = 0 := by omega
      rw [ei] at hi
      simp at hi
      omega
/-- what lies below a bumped line -/
theorem above_bump {r s : List Int} {x : Int} (hr : Row r) (hs : Row s) (ha : Above r s) (h : cnt r x < r.length) :
    cnt s (r.getD (cnt r x) 0) ≤ cnt r x ∧ x < r.getD (cnt r x) 0 := by
  have hy := getD_some h
  have hxy := cnt_hi hr (Nat.le_refl _) hy
  refine ⟨?_, hxy⟩
  rcases Nat.lt_or_ge (cnt r x) (cnt s (r.getD (cnt r x) 0)) with q | q
  · have hlt : cnt r x < s.length := by have := cnt_le s (r.getD (cnt r x) 0); omega
    have h1 := cnt_lo hs q (List.getElem?_eq_getElem hlt)
    have h2 := ha.2 _ _ _ hy (List.getElem?_eq_getElem hlt)
    omega
  · exact q
theorem tab_ins : ∀ {T : List (List Int)} {x : Int}, Tab T → Tab (ins T x)
  | [], x, _ => ⟨by simp, row_cons row_nil (by simp), trivial, trivial⟩
  | r :: T, x, ⟨hne, hr, hd, hT⟩ => by
    by_cases h : cnt r x < r.length
    · rw [ins_bump h]
      refine ⟨by intro e; exact hne (by simpa using e), row_set hr h, ?_, tab_ins hT⟩
      have hy := getD_some h
      cases T with
      | nil =>
        refine ⟨by simp; omega, fun j u v hu hv => ?_⟩
        cases j with
        | succ j => simp at hv
        | zero =>
          have hv' : r.getD (cnt r x) 0 = v := by simpa using hv
          subst hv'
          have hxy := cnt_hi hr (Nat.le_refl _) hy
          rw [List.getElem?_set] at hu
          by_cases h1 : cnt r x = 0
          · rw [if_pos h1, if_pos (by omega)] at hu
            cases hu; omega
          · rw [if_neg h1] at hu
            have := cnt_lo hr (x := x) (i := 0) (by omega) hu
            omega
      | cons s T =>
        have hs := hT.2.1
        obtain ⟨hq, hxy⟩ := above_bump hr hs hd h
        have hlen := hd.1
        have step : ∀ (s' : List Int), (∀ (j : Nat) (v : Int), s'[j]? = some v → s[j]? = some v ∨ (j = cnt s (r.getD (cnt r x) 0) ∧ v = r.getD (cnt r x) 0)) → s'.length ≤ r.length → Above (r.set (cnt r x) x) s' := by
          intro s' hs' hl
          refine ⟨by simpa using hl, fun j u v hu hv => ?_⟩
          rw [List.getElem?_set] at hu
          rcases hs' j v hv with q | ⟨q1, q2⟩
          · by_cases h1 : cnt r x = j
            · rw [if_pos h1, if_pos (by omega)] at hu
              cases hu
              subst h1
              have := hd.2 _ _ _ hy q
              omega
            · rw [if_neg h1] at hu
              exact hd.2 _ _ _ hu q
          · subst q2
            by_cases h1 : cnt r x = j
            · rw [if_pos h1, if_pos (by omega)] at hu
              cases hu; omega
            · rw [if_neg h1] at hu
              have := cnt_lo hr (x := x) (i := j) (by omega) hu
              omega
        by_cases h2 : cnt s (r.getD (cnt r x) 0) < s.length
        · rw [ins_bump h2]
          refine step _ (fun j v hv => ?_) (by simpa using hlen)
          rw [List.getElem?_set] at hv
          by_cases h3 : cnt s (r.getD (cnt r x) 0) = j
          · rw [if_pos h3, if_pos (by omega)] at hv
            cases hv
            exact .inr ⟨h3.symm, rfl⟩
          · rw [if_neg h3] at hv
            exact .inl hv
        · rw [ins_end h2]
          have hc : cnt s (r.getD (cnt r x) 0) = s.length := by have := cnt_le s (r.getD (cnt r x) 0); omega
          refine step _ (fun j v hv => ?_) (by simp; omega)
          rw [List.getElem?_append] at hv
          by_cases h3 : j < s.length
          · rw [if_pos h3] at hv; exact .inl hv
          · rw [if_neg h3] at hv
            have ej : j - s.length = 0 := by
              cases e : j - s.length with
              | zero => rfl
              | succ n => rw [e] at hv; simp at hv
            rw [ej] at hv
            simp at hv
            exact .inr ⟨by omega, hv.symm⟩
    · rw [ins_end h]
      refine ⟨by simp, row_snoc hr h, ?_, hT⟩
      cases T with
      | nil => trivial
      | cons s T =>
        refine ⟨by have := hd.1; simp; omega, fun j u v hu hv => ?_⟩
        have hj : j < s.length := (List.getElem?_eq_some_iff.mp hv).1
        have := hd.1
        rw [List.getElem?_append_left (by omega)] at hu
        exact hd.2 _ _ _ hu hv
/-! ### a row of numbers becomes a table -/
def tabl (w : List Int) : List (List Int) := w.foldl ins []
theorem tab_fold : ∀ {w : List Int} {T : List (List Int)}, Tab T → Tab (w.foldl ins T)
  | [], _, h => h
  | _ :: w, _, h => tab_fold (w := w) (tab_ins h)
theorem tab_tabl (w : List Int) : Tab (tabl w) := tab_fold (w := w) (T := []) trivial
/-- the line that grew got one longer, the others stay as long -/
theorem ins_len : ∀ (T : List (List Int)) (x : Int), (ins T x).map List.length = if gline T x < T.length then (T.map List.length).set (gline T x) ((T.getD (gline T x) []).length + 1) else T.map List.length ++ [1]
  | [], x => rfl
  | r :: T, x => by
    by_cases h : cnt r x < r.length
    · have ih := ins_len T (r.getD (cnt r x) 0)
      rw [ins_bump h, List.map_cons, ih, gline, if_pos h]
      by_cases h2 : gline T (r.getD (cnt r x) 0) < T.length
      · rw [if_pos h2, if_pos (by simpa using h2)]
        simp
      · rw [if_neg h2, if_neg (by simpa using h2)]
        simp
    · rw [ins_end h, gline, if_neg h]
      simp
end RS
set_option maxRecDepth 10000
namespace RS
/-! ### reading out -/
def word : List (List Int) → List Int
  | [] => []
  | r :: T => word T ++ r
end RS
set_option maxRecDepth 10000
namespace RS
/-! ### one line as a machine: letters in, bumped letters out -/
def stp (r : List Int) (x : Int) : List Int × Option Int := if cnt r x < r.length then (r.set (cnt r x) x, some (r.getD (cnt r x) 0)) else (r ++ [x], none)
def tr : List Int → List Int → List Int × List Int
  | r, [] => (r, [])
  | r, x :: w => ((tr (stp r x).1 w).1, (stp r x).2.toList ++ (tr (stp r x).1 w).2)
theorem foldl_tr : ∀ (w r : List Int) (T : List (List Int)), w.foldl ins (r :: T) = (tr r w).1 :: (tr r w).2.foldl ins T
  | [], r, T => rfl
  | x :: w, r, T => by
    rw [List.foldl_cons]
    by_cases h : cnt r x < r.length
    · rw [ins_bump h, foldl_tr w]
      simp [tr, stp, h]
    · rw [ins_end h, foldl_tr w]
      simp [tr, stp, h]
theorem tr_append : ∀ (u v r : List Int), tr r (u ++ v) = ((tr (tr r u).1 v).1, (tr r u).2 ++ (tr (tr r u).1 v).2)
  | [], v, r => by simp [tr]
  | x :: u, v, r => by
    rw [List.cons_append, tr, tr_append u v, tr]
    simp
theorem tabl_tr (w : List Int) (h : w ≠ []) : tabl w = (tr [] w).1 :: tabl (tr [] w).2 := by
  cases w with
  | nil => exact absurd rfl h
  | cons x w =>
    unfold tabl
    rw [List.foldl_cons, ins_nil, foldl_tr]
    simp [tr, stp, cnt]
/-! ### lines without equal numbers, as sets -/
def SRow (r : List Int) : Prop := r.Pairwise (· < ·)
def IsSucc (r : List Int) (x : Int) : Option Int → Prop
  | none => ∀ v ∈ r, ¬ x < v
  | some y => y ∈ r ∧ x < y ∧ ∀ v ∈ r, x < v → y ≤ v
theorem IsSucc.uniq {r : List Int} {x : Int} {o o' : Option Int} (h : IsSucc r x o) (h' : IsSucc r x o') : o = o' := by
  cases o with
  | none => cases o' with
    | none => rfl
    | some y => exact absurd h'.2.1 (h y h'.1)
  | some y => cases o' with
    | none => exact absurd h.2.1 (h' y h.1)
    | some z =>
      have h1 := h.2.2 z h'.1 h'.2.1
      have h2 := h'.2.2 y h.1 h.2.1
      congr 1; omega
theorem IsSucc.congr {r r' : List Int} {x : Int} {o : Option Int} (h : IsSucc r x o) (e : ∀ v, x < v → (v ∈ r ↔ v ∈ r')) : IsSucc r' x o := by
  cases o with
  | none => exact fun v hv q => h v ((e v q).mpr hv) q
  | some y => exact ⟨(e y h.2.1).mp h.1, h.2.1, fun v hv q => h.2.2 v ((e v q).mpr hv) q⟩
structure St (r : List Int) (x : Int) (r' : List Int) (o : Option Int) : Prop where
  mem : ∀ y, y ∈ r' ↔ y = x ∨ (y ∈ r ∧ o ≠ some y)
  suc : IsSucc r x o
theorem SRow.row {r : List Int} (h : SRow r) : Row r := fun i j x y hij hi hj => by
  rcases Nat.lt_or_ge i j with z | z
  · have hj' := (List.getElem?_eq_some_iff.mp hj).1
    have := List.pairwise_iff_getElem.mp h i j (by omega) hj' z
    rw [List.getElem?_eq_getElem (by omega)] at hi
    rw [List.getElem?_eq_getElem hj'] at hj
    cases hi; cases hj; omega
  · have e : i = j := by omega
    subst e
    rw [hi] at hj; cases hj; omega
theorem srow_eq : ∀ {r r' : List Int}, SRow r → SRow r' → (∀ y, y ∈ r ↔ y ∈ r') → r = r'
  | [], [], _, _, _ => rfl
  | [], y :: _, _, _, h => absurd ((h y).mpr List.mem_cons_self) (by simp)
  | x :: _, [], _, _, h => absurd ((h x).mp List.mem_cons_self) (by simp)
  | x :: r, y :: r', h1, h2, h => by
    obtain ⟨a1, a2⟩ := List.pairwise_cons.mp h1
    obtain ⟨b1, b2⟩ := List.pairwise_cons.mp h2
    have exy : x = y := by
      rcases List.mem_cons.mp ((h x).mp List.mem_cons_self) with e | e
      · exact e
      · rcases List.mem_cons.mp ((h y).mpr List.mem_cons_self) with e' | e'
        · exact e'.symm
        · have := b1 x e; have := a1 y e'; omega
    subst exy
    congr 1
    refine srow_eq a2 b2 fun z => ⟨fun hz => ?_, fun hz => ?_⟩
    · rcases List.mem_cons.mp ((h z).mp (List.mem_cons_of_mem _ hz)) with e | e
      · have := a1 z hz; omega
      · exact e
    · rcases List.mem_cons.mp ((h z).mpr (List.mem_cons_of_mem _ hz)) with e | e
      · have := b1 z hz; omega
      · exact e
theorem mem_get {r : List Int} {y : Int} (h : y ∈ r) : ∃ i : Nat, r[i]? = some y := by
  obtain ⟨i, hi, e⟩ := List.getElem_of_mem h
  exact ⟨i, by rw [List.getElem?_eq_getElem hi, e]⟩
theorem srow_of {r : List Int} (h : ∀ (i j : Nat) (x y : Int), i < j → r[i]? = some x → r[j]? = some y → x < y) : SRow r :=
  List.pairwise_iff_getElem.mpr fun i j hi hj hij => h i j _ _ hij (List.getElem?_eq_getElem hi) (List.getElem?_eq_getElem hj)
theorem SRow.lt {r : List Int} (h : SRow r) {i j : Nat} {x y : Int} (hij : i < j) (hi : r[i]? = some x) (hj : r[j]? = some y) : x < y := by
  have hj' := (List.getElem?_eq_some_iff.mp hj).1
  have := List.pairwise_iff_getElem.mp h i j (by omega) hj' hij
  rw [List.getElem?_eq_getElem (by omega)] at hi
  rw [List.getElem?_eq_getElem hj'] at hj
  cases hi; cases hj; exact this
theorem st_stp {r : List Int} {x : Int} (h : SRow r) (hx : x ∉ r) : St r x (stp r x).1 (stp r x).2 ∧ SRow (stp r x).1 := by
  have hr := h.row
  unfold stp
  by_cases hc : cnt r x < r.length
  · rw [if_pos hc]
    have hy := getD_some hc
    have hxy := cnt_hi hr (Nat.le_refl _) hy
    refine ⟨⟨fun v => ?_, List.mem_of_getElem? hy, hxy, fun v hv q => ?_⟩, srow_of fun i j u v hij hi hj => ?_⟩
    · simp only
      constructor
      · intro hv
        obtain ⟨i, e⟩ := mem_get hv
        rw [List.getElem?_set] at e
        by_cases h1 : cnt r x = i
        · rw [if_pos h1, if_pos (by omega)] at e; cases e; exact .inl rfl
        · rw [if_neg h1] at e
          refine .inr ⟨List.mem_of_getElem? e, fun z => ?_⟩
          cases z
          rcases Nat.lt_or_ge i (cnt r x) with q | q
          · have := h.lt q e hy; omega
          · have := h.lt (show cnt r x < i by omega) hy e; omega
      · rintro (e | ⟨hv, hn⟩)
        · subst e; exact List.mem_set hc v
        · obtain ⟨i, e⟩ := mem_get hv
          have h1 : cnt r x ≠ i := fun z => by subst z; rw [hy] at e; exact hn e
          refine List.mem_of_getElem? (i := i) ?_
          rw [List.getElem?_set, if_neg h1]; exact e
    · obtain ⟨i, e⟩ := mem_get hv
      rcases Nat.lt_or_ge i (cnt r x) with z | z
      · have := cnt_lo hr z e; omega
      · exact hr _ _ _ _ z hy e
    · rw [List.getElem?_set] at hi hj
      by_cases h1 : cnt r x = i
      · rw [if_pos h1, if_pos (by omega)] at hi
        cases hi
        rw [if_neg (by omega)] at hj
        exact cnt_hi hr (x := x) (i := j) (by omega) hj
      · rw [if_neg h1] at hi
        by_cases h2 : cnt r x = j
        · rw [if_pos h2, if_pos (by omega)] at hj
          cases hj
          have h3 := cnt_lo hr (x := x) (i := i) (by omega) hi
          have h4 : u ≠ x := fun z => hx (z ▸ List.mem_of_getElem? hi)
          omega
        · rw [if_neg h2] at hj
          exact h.lt hij hi hj
  · rw [if_neg hc]
    have hcl : cnt r x = r.length := by have := cnt_le r x; omega
    have hall : ∀ v ∈ r, v < x := fun v hv => by
      obtain ⟨i, e⟩ := mem_get hv
      have hi := (List.getElem?_eq_some_iff.mp e).1
      have h3 := cnt_lo hr (x := x) (i := i) (by omega) e
      have h4 : v ≠ x := fun z => hx (z ▸ hv)
      omega
    refine ⟨⟨fun v => ?_, fun v hv q => by have := hall v hv; omega⟩, ?_⟩
    · simp [or_comm]
    · exact List.pairwise_append.mpr ⟨h, by simp, fun u hu v hv => by simp at hv; subst hv; exact hall u hu⟩
/-! ### two letters change about: the lines stay, the letters that come out change about in the same way -/
def Kn3 (o o' : List Int) : Prop := o = o' ∨ ∃ a b c : Int, a < b ∧ b < c ∧ ((o = [b, a, c] ∧ o' = [b, c, a]) ∨ (o = [b, c, a] ∧ o' = [b, a, c]) ∨ (o = [a, c, b] ∧ o' = [c, a, b]) ∨ (o = [c, a, b] ∧ o' = [a, c, b]))
theorem Kn3.symm {o o' : List Int} (h : Kn3 o o') : Kn3 o' o := by
  rcases h with e | ⟨a, b, c, h1, h2, h | h | h | h⟩
  · exact .inl e.symm
  · exact .inr ⟨a, b, c, h1, h2, .inr (.inl ⟨h.2, h.1⟩)⟩
  · exact .inr ⟨a, b, c, h1, h2, .inl ⟨h.2, h.1⟩⟩
  · exact .inr ⟨a, b, c, h1, h2, .inr (.inr (.inr ⟨h.2, h.1⟩))⟩
  · exact .inr ⟨a, b, c, h1, h2, .inr (.inr (.inl ⟨h.2, h.1⟩))⟩
theorem kn_one {r r1 r2 r3 q2 q3 : List Int} {a b c : Int} {t y z z' y' : Option Int} (hab : a < b) (hbc : b < c) (s1 : St r b r1 t) (s2 : St r1 a r2 y) (s3 : St r2 c r3 z) (p2 : St r1 c q2 z') (p3 : St q2 a q3 y') :
    (∀ v, v ∈ r3 ↔ v ∈ q3) ∧ Kn3 (t.toList ++ (y.toList ++ z.toList)) (t.toList ++ (z'.toList ++ y'.toList)) := by
  have hb1 : b ∈ r1 := (s1.mem b).mpr (.inl rfl)
  obtain ⟨y0, rfl⟩ : ∃ y0, y = some y0 := by
    cases y with
    | none => exact absurd hab (s2.suc b hb1)
    | some y0 => exact ⟨y0, rfl⟩
  obtain ⟨hy1, hy2, hy3⟩ := s2.suc
  have hyb : y0 ≤ b := hy3 b hb1 hab
  have hz : z = z' := by
    refine IsSucc.uniq (s3.suc.congr fun v hv => ?_) p2.suc
    rw [s2.mem v]
    constructor
    · rintro (e | e)
      · omega
      · exact e.1
    · intro e
      exact .inr ⟨e, fun q => by cases q; omega⟩
  subst hz
  have hzc : ∀ v, z = some v → c < v := fun v e => by subst e; exact p2.suc.2.1
  have hy : y' = some y0 := by
    refine IsSucc.uniq p3.suc ⟨(p2.mem y0).mpr (.inr ⟨hy1, fun e => by have := hzc _ e; omega⟩), hy2, fun v hv q => ?_⟩
    rcases (p2.mem v).mp hv with e | ⟨e, _⟩
    · omega
    · exact hy3 v e q
  subst hy
  refine ⟨fun v => ?_, ?_⟩
  · rw [s3.mem, s2.mem, p3.mem, p2.mem]
    have e1 : z ≠ some a := fun e => by have := hzc _ e; omega
    have e2 : (some y0 : Option Int) ≠ some c := fun e => by cases e; omega
    constructor
    · rintro (e | ⟨e | e, f⟩)
      · subst e; exact .inr ⟨.inl rfl, e2⟩
      · exact .inl e
      · exact .inr ⟨.inr ⟨e.1, f⟩, e.2⟩
    · rintro (e | ⟨e | e, f⟩)
      · subst e; exact .inr ⟨.inl rfl, e1⟩
      · exact .inl e
      · exact .inr ⟨.inr ⟨e.1, f⟩, e.2⟩
  · cases z with
    | none => exact .inl rfl
    | some z0 =>
      have hz1 := p2.suc.1
      have hz2 := p2.suc.2.1
      rcases (s1.mem z0).mp hz1 with e | ⟨e, f⟩
      · omega
      · cases t with
        | none => exact absurd (show b < z0 by omega) (s1.suc z0 e)
        | some t0 =>
          have h1 := s1.suc.2.2 z0 e (by omega)
          have h2 : t0 ≠ z0 := fun q => f (by rw [q])
          have h3 := s1.suc.2.1
          exact .inr ⟨y0, t0, z0, by omega, by omega, .inl ⟨rfl, rfl⟩⟩
theorem kn_two {r r1 r2 r3 q1 q2 q3 : List Int} {a b c : Int} {u v x u' v' x' : Option Int} (hab : a < b) (hbc : b < c) (hcr : c ∉ r) (s1 : St r a r1 u) (s2 : St r1 c r2 v) (s3 : St r2 b r3 x) (p1 : St r c q1 v') (p2 : St q1 a q2 u') (p3 : St q2 b q3 x') :
    (∀ y, y ∈ r3 ↔ y ∈ q3) ∧ Kn3 (u.toList ++ (v.toList ++ x.toList)) (v'.toList ++ (u'.toList ++ x'.toList)) := by
  have hvc : ∀ w, v = some w → c < w := fun w e => by subst e; exact s2.suc.2.1
  by_cases hu : ∃ u0, u = some u0 ∧ u0 < c
  · obtain ⟨u0, rfl, huc⟩ := hu
    obtain ⟨g1, g2, g3⟩ := s1.suc
    have hv : v = v' := by
      refine IsSucc.uniq (s2.suc.congr fun w hw => ?_) p1.suc
      rw [s1.mem]
      constructor
      · rintro (e | e)
        · omega
        · exact e.1
      · intro e
        exact .inr ⟨e, fun q => by cases q; omega⟩
    subst hv
    have hu' : u' = some u0 := by
      refine IsSucc.uniq p2.suc ⟨(p1.mem u0).mpr (.inr ⟨g1, fun e => by have := hvc _ e; omega⟩), g2, fun w hw q => ?_⟩
      rcases (p1.mem w).mp hw with e | ⟨e, _⟩
      · omega
      · exact g3 w e q
    subst hu'
    have m2 : ∀ w, w ∈ r2 ↔ w ∈ q2 := fun w => by
      rw [s2.mem, s1.mem, p2.mem, p1.mem]
      have e1 : v ≠ some a := fun e => by have := hvc _ e; omega
      have e2 : (some u0 : Option Int) ≠ some c := fun e => by cases e; omega
      constructor
      · rintro (e | ⟨e | e, f⟩)
        · subst e; exact .inr ⟨.inl rfl, e2⟩
        · exact .inl e
        · exact .inr ⟨.inr ⟨e.1, f⟩, e.2⟩
      · rintro (e | ⟨e | e, f⟩)
        · subst e; exact .inr ⟨.inl rfl, e1⟩
        · exact .inl e
        · exact .inr ⟨.inr ⟨e.1, f⟩, e.2⟩
    have hx : x = x' := IsSucc.uniq (s3.suc.congr fun w _ => m2 w) p3.suc
    subst hx
    refine ⟨fun w => by rw [s3.mem, p3.mem, m2 w], ?_⟩
    have hc2 : c ∈ r2 := (s2.mem c).mpr (.inl rfl)
    cases x with
    | none => exact absurd hbc (s3.suc c hc2)
    | some x0 =>
      obtain ⟨k1, k2, k3⟩ := s3.suc
      have hxc : x0 ≤ c := k3 c hc2 hbc
      have hux : u0 < x0 := by
        rcases (s2.mem x0).mp k1 with e | ⟨e, _⟩
        · omega
        · rcases (s1.mem x0).mp e with e | ⟨e, f⟩
          · omega
          · have h1 := g3 x0 e (by omega)
            have h2 : u0 ≠ x0 := fun q => f (by rw [q])
            omega
      cases v with
      | none => exact .inl rfl
      | some v0 =>
        have := hvc _ rfl
        exact .inr ⟨u0, x0, v0, hux, by omega, .inr (.inr (.inl ⟨rfl, rfl⟩))⟩
  · have hgap : ∀ w ∈ r, a < w → c < w := fun w hw q => by
      have hne : w ≠ c := fun e => hcr (e ▸ hw)
      rcases Int.lt_or_le w c with z | z
      · exfalso
        cases u with
        | none => exact s1.suc w hw q
        | some u0 => exact hu ⟨u0, rfl, by have := s1.suc.2.2 w hw q; omega⟩
      · omega
    have huc : IsSucc r c u := by
      cases u with
      | none => exact fun w hw q => s1.suc w hw (by omega)
      | some u0 => exact ⟨s1.suc.1, hgap _ s1.suc.1 s1.suc.2.1, fun w hw q => s1.suc.2.2 w hw (by omega)⟩
    have hv' : v' = u := IsSucc.uniq p1.suc huc
    subst hv'
    have hx : x = some c := by
      refine IsSucc.uniq s3.suc ⟨(s2.mem c).mpr (.inl rfl), hbc, fun w hw q => ?_⟩
      rcases (s2.mem w).mp hw with e | ⟨e, _⟩
      · omega
      · rcases (s1.mem w).mp e with e | ⟨e, _⟩
        · omega
        · have := hgap w e (by omega); omega
    subst hx
    have hu' : u' = some c := by
      refine IsSucc.uniq p2.suc ⟨(p1.mem c).mpr (.inl rfl), by omega, fun w hw q => ?_⟩
      rcases (p1.mem w).mp hw with e | ⟨e, _⟩
      · omega
      · have := hgap w e q; omega
    subst hu'
    have hx' : x' = v := by
      have q : IsSucc q2 b v := by
        have hm : ∀ w, b < w → (w ∈ q2 ↔ w ∈ r1 ∧ c < w) := fun w hw => by
          rw [p2.mem, p1.mem, s1.mem]
          constructor
          · rintro (e | ⟨e | e, f⟩)
            · omega
            · exact absurd (by rw [e]) f
            · exact ⟨.inr e, hgap w e.1 (by omega)⟩
          · rintro ⟨e | e, f⟩
            · omega
            · exact .inr ⟨.inr e, fun z => by cases z; omega⟩
        cases v with
        | none => exact fun w hw q => s2.suc w ((hm w q).mp hw).1 ((hm w q).mp hw).2
        | some v0 => exact ⟨(hm v0 (by have := hvc _ rfl; omega)).mpr ⟨s2.suc.1, s2.suc.2.1⟩, by have := hvc _ rfl; omega, fun w hw q => s2.suc.2.2 w ((hm w q).mp hw).1 ((hm w q).mp hw).2⟩
      exact IsSucc.uniq p3.suc q
    subst hx'
    refine ⟨fun w => ?_, ?_⟩
    · rw [s3.mem, s2.mem, s1.mem, p3.mem, p2.mem, p1.mem]
      have e1 : x' ≠ some a := fun e => by have := hvc _ e; omega
      constructor
      · rintro (e | ⟨e | ⟨e | e, f⟩, g⟩)
        · exact .inl e
        · exact absurd (by rw [e]) g
        · subst e; exact .inr ⟨.inl rfl, e1⟩
        · exact .inr ⟨.inr ⟨.inr e, g⟩, f⟩
      · rintro (e | ⟨e | ⟨e | e, f⟩, g⟩)
        · exact .inl e
        · subst e; exact .inr ⟨.inr ⟨.inl rfl, e1⟩, fun z => by cases z; omega⟩
        · exact absurd (by rw [e]) f
        · exact .inr ⟨.inr ⟨.inr e, g⟩, f⟩
    · cases x' with
      | none => cases v' <;> exact .inl rfl
      | some v0 =>
        have hv0 := hvc _ rfl
        rcases (s1.mem v0).mp s2.suc.1 with e | ⟨e, f⟩
        · omega
        · cases v' with
          | none => exact absurd (show a < v0 by omega) (s1.suc v0 e)
          | some u0 =>
            have h1 := s1.suc.2.2 v0 e (by omega)
            have h2 : u0 ≠ v0 := fun q => f (by rw [q])
            have h3 := huc.2.1
            exact .inr ⟨c, u0, v0, h3, by omega, .inr (.inl ⟨rfl, rfl⟩)⟩
end RS
set_option maxRecDepth 10000
namespace RS
theorem tr_three (r : List Int) (x y z : Int) : tr r [x, y, z] = ((stp (stp (stp r x).1 y).1 z).1, (stp r x).2.toList ++ ((stp (stp r x).1 y).2.toList ++ (stp (stp (stp r x).1 y).1 z).2.toList)) := by
  simp [tr]
theorem stp_mem {r : List Int} {x : Int} (h : SRow r) (hx : x ∉ r) {y : Int} (hy : y ∈ (stp r x).1) : y = x ∨ y ∈ r := by
  rcases ((st_stp h hx).1.mem y).mp hy with e | e
  · exact .inl e
  · exact .inr e.1
theorem kn_tr {r o o' : List Int} (h : SRow r) (ho : ∀ y ∈ o, y ∉ r) (nd : o.Nodup) (k : Kn3 o o') : (tr r o).1 = (tr r o').1 ∧ Kn3 (tr r o).2 (tr r o').2 := by
  have one : ∀ a b c : Int, a < b → b < c → a ∉ r → b ∉ r → c ∉ r → (tr r [b, a, c]).1 = (tr r [b, c, a]).1 ∧ Kn3 (tr r [b, a, c]).2 (tr r [b, c, a]).2 := by
    intro a b c hab hbc ha hb hc
    obtain ⟨s1, w1⟩ := st_stp h hb
    have na : a ∉ (stp r b).1 := fun q => (stp_mem h hb q).elim (fun e => by omega) ha
    have nc : c ∉ (stp r b).1 := fun q => (stp_mem h hb q).elim (fun e => by omega) hc
    obtain ⟨s2, w2⟩ := st_stp w1 na
    have nc2 : c ∉ (stp (stp r b).1 a).1 := fun q => (stp_mem w1 na q).elim (fun e => by omega) nc
    obtain ⟨s3, w3⟩ := st_stp w2 nc2
    obtain ⟨p2, v2⟩ := st_stp w1 nc
    have na2 : a ∉ (stp (stp r b).1 c).1 := fun q => (stp_mem w1 nc q).elim (fun e => by omega) na
    obtain ⟨p3, v3⟩ := st_stp v2 na2
    obtain ⟨m, k⟩ := kn_one hab hbc s1 s2 s3 p2 p3
    rw [tr_three, tr_three]
    exact ⟨srow_eq w3 v3 m, k⟩
  have two : ∀ a b c : Int, a < b → b < c → a ∉ r → b ∉ r → c ∉ r → (tr r [a, c, b]).1 = (tr r [c, a, b]).1 ∧ Kn3 (tr r [a, c, b]).2 (tr r [c, a, b]).2 := by
    intro a b c hab hbc ha hb hc
    obtain ⟨s1, w1⟩ := st_stp h ha
    have nc : c ∉ (stp r a).1 := fun q => (stp_mem h ha q).elim (fun e => by omega) hc
    obtain ⟨s2, w2⟩ := st_stp w1 nc
    have nb : b ∉ (stp r a).1 := fun q => (stp_mem h ha q).elim (fun e => by omega) hb
    have nb2 : b ∉ (stp (stp r a).1 c).1 := fun q => (stp_mem w1 nc q).elim (fun e => by omega) nb
    obtain ⟨s3, w3⟩ := st_stp w2 nb2
    obtain ⟨p1, v1⟩ := st_stp h hc
    have na : a ∉ (stp r c).1 := fun q => (stp_mem h hc q).elim (fun e => by omega) ha
    obtain ⟨p2, v2⟩ := st_stp v1 na
    have mb : b ∉ (stp r c).1 := fun q => (stp_mem h hc q).elim (fun e => by omega) hb
    have mb2 : b ∉ (stp (stp r c).1 a).1 := fun q => (stp_mem v1 na q).elim (fun e => by omega) mb
    obtain ⟨p3, v3⟩ := st_stp v2 mb2
    obtain ⟨m, k⟩ := kn_two hab hbc hc s1 s2 s3 p1 p2 p3
    rw [tr_three, tr_three]
    exact ⟨srow_eq w3 v3 m, k⟩
  rcases k with e | ⟨a, b, c, hab, hbc, ⟨e1, e2⟩ | ⟨e1, e2⟩ | ⟨e1, e2⟩ | ⟨e1, e2⟩⟩
  · subst e; exact ⟨rfl, .inl rfl⟩
  · subst e1 e2
    exact one a b c hab hbc (ho _ (by simp)) (ho _ (by simp)) (ho _ (by simp))
  · subst e1 e2
    have := one a b c hab hbc (ho _ (by simp)) (ho _ (by simp)) (ho _ (by simp))
    exact ⟨this.1.symm, this.2.symm⟩
  · subst e1 e2
    exact two a b c hab hbc (ho _ (by simp)) (ho _ (by simp)) (ho _ (by simp))
  · subst e1 e2
    have := two a b c hab hbc (ho _ (by simp)) (ho _ (by simp)) (ho _ (by simp))
    exact ⟨this.1.symm, this.2.symm⟩
/-! ### what stands in the line and what came out are the letters -/
theorem stp_perm (r : List Int) (x : Int) : ((stp r x).1 ++ (stp r x).2.toList).Perm (x :: r) := by
  unfold stp
  by_cases h : cnt r x < r.length
  · rw [if_pos h]
    simp only [Option.toList_some]
    have e : r = r.take (cnt r x) ++ r.getD (cnt r x) 0 :: r.drop (cnt r x + 1) := by
      conv => lhs; rw [← List.take_append_drop (cnt r x) r]
      rw [List.drop_eq_getElem_cons h]
      congr 2
      have := getD_some h
      rw [List.getElem?_eq_getElem h] at this
      exact Option.some.inj this
    have e2 : r.set (cnt r x) x = r.take (cnt r x) ++ x :: r.drop (cnt r x + 1) := by
      rw [List.set_eq_take_append_cons_drop, if_pos h]
    rw [e2]
    generalize r.getD (cnt r x) 0 = y at e
    generalize r.take (cnt r x) = p at *
    generalize r.drop (cnt r x + 1) = q at *
    rw [e]
    have h1 : (p ++ x :: q ++ [y]).Perm (x :: (p ++ q ++ [y])) := by simpa using (List.perm_middle (l₁ := p) (a := x) (l₂ := q ++ [y]))
    have h2 : (p ++ q ++ [y]).Perm (p ++ y :: q) := by
      rw [List.append_assoc]
      exact List.Perm.append_left p (List.perm_append_singleton y q)
    exact h1.trans (h2.cons x)
  · rw [if_neg h]
    simpa using List.perm_append_singleton x r
theorem tr_perm : ∀ (w r : List Int), ((tr r w).1 ++ (tr r w).2).Perm (w ++ r)
  | [], r => by simp [tr]
  | x :: w, r => by
    have ih := tr_perm w (stp r x).1
    have h1 := stp_perm r x
    rw [tr]
    show ((tr (stp r x).1 w).1 ++ ((stp r x).2.toList ++ (tr (stp r x).1 w).2)).Perm (x :: w ++ r)
    have h2 : ((tr (stp r x).1 w).1 ++ ((stp r x).2.toList ++ (tr (stp r x).1 w).2)).Perm ((stp r x).2.toList ++ ((tr (stp r x).1 w).1 ++ (tr (stp r x).1 w).2)) := by
      rw [← List.append_assoc, ← List.append_assoc]
      exact List.Perm.append_right _ List.perm_append_comm
    refine h2.trans ((List.Perm.append_left _ ih).trans ?_)
    have h3 : ((stp r x).2.toList ++ (w ++ (stp r x).1)).Perm (w ++ ((stp r x).1 ++ (stp r x).2.toList)) := by
      rw [← List.append_assoc w]
      exact List.perm_append_comm
    refine h3.trans ((List.Perm.append_left _ h1).trans ?_)
    simp
theorem tr_srow : ∀ (w r : List Int), SRow r → (w ++ r).Nodup → SRow (tr r w).1
  | [], r, h, _ => h
  | x :: w, r, h, nd => by
    rw [tr]
    have hx : x ∉ r := fun z => by
      have := List.nodup_cons.mp nd
      exact this.1 (List.mem_append_right _ z)
    refine tr_srow w _ (st_stp h hx).2 ?_
    have hp := stp_perm r x
    have h1 : (w ++ ((stp r x).1 ++ (stp r x).2.toList)).Perm (x :: w ++ r) := (List.Perm.append_left w hp).trans (by simp)
    have h2 : (w ++ ((stp r x).1 ++ (stp r x).2.toList)).Nodup := h1.nodup_iff.mpr nd
    rw [← List.append_assoc] at h2
    exact (List.nodup_append.mp h2).1
/-! ### rows of numbers that are alike -/
inductive Kn : List Int → List Int → Prop
  | mk (u v : List Int) {o o' : List Int} : Kn3 o o' → Kn (u ++ (o ++ v)) (u ++ (o' ++ v))
theorem Kn3.perm {o o' : List Int} (h : Kn3 o o') : o.Perm o' := by
  rcases h with e | ⟨a, b, c, _, _, ⟨e1, e2⟩ | ⟨e1, e2⟩ | ⟨e1, e2⟩ | ⟨e1, e2⟩⟩
  · subst e; exact .refl _
  · subst e1 e2; exact (List.Perm.swap c a []).cons b
  · subst e1 e2; exact (List.Perm.swap a c []).cons b
  · subst e1 e2; exact List.Perm.swap c a [b]
  · subst e1 e2; exact List.Perm.swap a c [b]
theorem Kn.perm {w w' : List Int} (h : Kn w w') : w.Perm w' := by
  obtain ⟨u, v, k⟩ := h
  exact (k.perm.append_right v).append_left u
theorem kn_tabl : ∀ (n : Nat) {w w' : List Int}, w.length ≤ n → w.Nodup → Kn w w' → tabl w = tabl w'
  | 0, w, w', hl, _, h => by
    have e : w = [] := List.length_eq_zero_iff.mp (by omega)
    have p := h.perm
    subst e
    have e' : w' = [] := p.nil_eq.symm
    rw [e']
  | n + 1, w, w', hl, nd, h => by
    by_cases hw : w = []
    · have p := h.perm
      subst hw
      have e' : w' = [] := p.nil_eq.symm
      rw [e']
    · have hw' : w' ≠ [] := fun e => by
        have p := h.perm
        subst e
        exact hw p.eq_nil
      rw [tabl_tr w hw, tabl_tr w' hw']
      have hp := tr_perm w []
      rw [List.append_nil] at hp
      obtain ⟨u, v, k⟩ := h
      have ndo := nd
      obtain ⟨ndu, ndov, dis⟩ := List.nodup_append.mp nd
      have nil : SRow [] := List.Pairwise.nil
      have hu : SRow (tr [] u).1 := tr_srow u [] nil (by simpa using ndu)
      have pu := tr_perm u []
      rw [List.append_nil] at pu
      have memu : ∀ y, y ∈ (tr [] u).1 → y ∈ u := fun y hy => pu.mem_iff.mp (List.mem_append_left _ hy)
      obtain ⟨ndO, ndV, disO⟩ := List.nodup_append.mp ndov
      obtain ⟨e1, k2⟩ := kn_tr hu (fun y hy z => dis y (memu y z) y (List.mem_append_left _ hy) rfl) ndO k
      rename_i o o'
      have t1 : tr [] (u ++ (o ++ v)) = ((tr (tr (tr [] u).1 o).1 v).1, (tr [] u).2 ++ ((tr (tr [] u).1 o).2 ++ (tr (tr (tr [] u).1 o).1 v).2)) := by
        rw [tr_append, tr_append]
      have t2 : tr [] (u ++ (o' ++ v)) = ((tr (tr (tr [] u).1 o').1 v).1, (tr [] u).2 ++ ((tr (tr [] u).1 o').2 ++ (tr (tr (tr [] u).1 o').1 v).2)) := by
        rw [tr_append, tr_append]
      have htab := tab_tabl (u ++ (o ++ v))
      rw [tabl_tr _ hw] at htab
      have hrow : (tr [] (u ++ (o ++ v))).1 ≠ [] := htab.1
      have hlen := hp.length_eq
      rw [List.length_append] at hlen
      have hpos : 0 < (tr [] (u ++ (o ++ v))).1.length := List.length_pos_iff.mpr hrow
      have ndout : (tr [] (u ++ (o ++ v))).2.Nodup := (List.nodup_append.mp (hp.nodup_iff.mpr nd)).2.1
      have lout : (tr [] (u ++ (o ++ v))).2.length ≤ n := by omega
      rw [t1] at ndout lout
      rw [t1, t2, ← e1]
      exact congrArg _ (kn_tabl n lout ndout (.mk _ _ k2))
/-! ### a row is alike what is read out of its table -/
theorem tabNodup_ins {T : List (List Int)} {x : Int} : (word (ins T x)).Perm (x :: word T) := by
  induction T generalizing x with
  | nil => simp [ins, word]
  | cons r T ih =>
    have hs : ins (r :: T) x = (stp r x).1 :: (match (stp r x).2 with | some y => ins T y | none => T) := by
      unfold stp
      by_cases hc : cnt r x < r.length
      · rw [ins_bump hc, if_pos hc]
      · rw [ins_end hc, if_neg hc]
    rw [hs]
    have hp := stp_perm r x
    cases ho : (stp r x).2 with
    | none =>
      rw [ho] at hp
      simp only [Option.toList_none, List.append_nil] at hp
      show (word T ++ (stp r x).1).Perm (x :: (word T ++ r))
      exact (List.Perm.append_left _ hp).trans List.perm_middle
    | some y =>
      rw [ho] at hp
      simp only [Option.toList_some] at hp
      show (word (ins T y) ++ (stp r x).1).Perm (x :: (word T ++ r))
      refine (List.Perm.append_right _ ih).trans ?_
      have h1 : (y :: word T ++ (stp r x).1).Perm (word T ++ ((stp r x).1 ++ [y])) := by
        rw [← List.append_assoc]
        exact (List.perm_append_singleton y (word T ++ (stp r x).1)).symm
      exact h1.trans ((List.Perm.append_left _ hp).trans List.perm_middle)
theorem word_tabl : ∀ (w : List Int), (word (tabl w)).Perm w := by
  intro w
  have key : ∀ (w : List Int) (T : List (List Int)), (word (w.foldl ins T)).Perm (w ++ word T) := by
    intro w
    induction w with
    | nil => intro T; exact .refl _
    | cons x w ih =>
      intro T
      rw [List.foldl_cons]
      refine (ih (ins T x)).trans ((List.Perm.append_left w tabNodup_ins).trans ?_)
      exact List.perm_middle
  have := key w []
  simpa [word, tabl] using this
/-! ### turned about -/
end RS
set_option maxRecDepth 10000
namespace RS
/-! ### columns -/
end RS
set_option maxRecDepth 10000
namespace RS
/-! ### places and numbers: points (place, number), put in from the left -/
abbrev Pt := Int × Int
/-! ### changed about: places for numbers -/
end RS
set_option maxRecDepth 10000
namespace RS
/-! ### table and marks together -/
def putM (M : List (List Int)) (k : Nat) (t : Int) : List (List Int) := if k = M.length then M ++ [[t]] else M.set k (M.getD k [] ++ [t])
def stPQ (S : List (List Int) × List (List Int)) (a : Pt) : List (List Int) × List (List Int) := (ins S.1 a.2, putM S.2 (gline S.1 a.2) a.1)
def pq (L : List Pt) : List (List Int) × List (List Int) := L.foldl stPQ ([], [])
/-! ### rows of numbers: their places from nought on -/
def ptsOf (w : List Int) (k : Int) : List Pt := match w with
  | [] => []
  | x :: w => (k, x) :: ptsOf w (k + 1)
theorem fst_pq : ∀ (L : List Pt) (S : List (List Int) × List (List Int)), (L.foldl stPQ S).1 = (L.map (·.2)).foldl ins S.1
  | [], _ => rfl
  | a :: L, S => by rw [List.foldl_cons, fst_pq L, List.map_cons, List.foldl_cons]; rfl
theorem ptsOf_map : ∀ (w : List Int) (k : Int), (ptsOf w k).map (·.2) = w
  | [], _ => rfl
  | x :: w, k => by rw [ptsOf, List.map_cons, ptsOf_map w]
/-- the marks of a row -/
def mks (w : List Int) : List (List Int) := (pq (ptsOf w 0)).2
theorem pq_tabl (w : List Int) : (pq (ptsOf w 0)).1 = tabl w := by
  unfold pq tabl
  rw [fst_pq, ptsOf_map]
end RS
set_option maxRecDepth 10000
namespace RS
/-! ### the program's own test of a table, and the law's -/
/-! the program's test -/
/-! ### bumping line by line: what is done, and what comes to the rest -/
def comes (c : List Int) (R : List (List Int)) : List (List Int) := match c with
  | [] => R
  | y :: _ => ins R y
theorem comes_step {y : Int} {r : List Int} {R : List (List Int)} : comes [y] (r :: R) = (r.take (cnt r y) ++ [y] ++ r.drop (cnt r y + 1)) :: comes ((r.drop (cnt r y)).take 1) R := by
  show ins (r :: R) y = _
  by_cases h : cnt r y < r.length
  · have e : (r.drop (cnt r y)).take 1 = [r.getD (cnt r y) 0] := by
      rw [List.drop_eq_getElem_cons h]
      have := getD_some h
      rw [List.getElem?_eq_getElem h] at this
      simp [Option.some.inj this]
    rw [ins_bump h, e, List.set_eq_take_append_cons_drop, if_pos h]
    simp [comes]
  · have hc : cnt r y = r.length := by have := cnt_le r y; omega
    rw [ins_end h, hc]
    simp [comes]
theorem ins_length (T : List (List Int)) (x : Int) : (ins T x).length ≤ T.length + 1 := by
  induction T generalizing x with
  | nil => simp [ins]
  | cons r T ih =>
    by_cases h : cnt r x < r.length
    · rw [ins_bump h]; have := ih (r.getD (cnt r x) 0); simp only [List.length_cons]; omega
    · rw [ins_end h]; simp
/-! ### marks -/
theorem gline_le (T : List (List Int)) (x : Int) : gline T x ≤ T.length := by
  induction T generalizing x with
  | nil => simp [gline]
  | cons r T ih =>
    rw [gline]
    split
    · have := ih (r.getD (cnt r x) 0); simp only [List.length_cons]; omega
    · simp
end RS
set_option maxRecDepth 10000
namespace RS
theorem row_le {T : List (List Int)} {r : List Int} (h : r ∈ T) : r.length ≤ (word T).length := by
  induction T with
  | nil => cases h
  | cons s T ih =>
    simp only [word, List.length_append]
    rcases List.mem_cons.mp h with e | e
    · subst e; omega
    · have := ih e; omega
theorem tab_le : ∀ {T : List (List Int)}, Tab T → T.length ≤ (word T).length
  | [], _ => by simp
  | r :: T, h => by
    have ih := tab_le h.2.2.2
    have : 0 < r.length := List.length_pos_iff.mpr h.1
    simp only [word, List.length_append, List.length_cons]
    omega
theorem tabl_len (w : List Int) : (tabl w).length ≤ w.length := by
  have h1 := tab_le (tab_tabl w)
  have h2 := (word_tabl w).length_eq
  omega
theorem tabl_row {w r : List Int} (h : r ∈ tabl w) : r.length ≤ w.length := by
  have h1 := row_le h
  have h2 := (word_tabl w).length_eq
  omega
theorem ins_len2 (T : List (List Int)) (x : Int) : (ins T x).length = if gline T x = T.length then T.length + 1 else T.length := by
  have h := congrArg List.length (ins_len T x)
  rw [List.length_map] at h
  rw [h]
  have hg := gline_le T x
  by_cases e : gline T x < T.length
  · rw [if_pos e, if_neg (by omega)]; simp
  · rw [if_neg e, if_pos (by omega)]; simp
/-- which line grew, read off the lengths -/
theorem grown_iff {T : List (List Int)} {x : Int} {k : Nat} (hk : k < T.length) : (T.getD k []).length < ((ins T x).getD k []).length ↔ k = gline T x := by
  have h := ins_len T x
  have hg := gline_le T x
  have hlen : ∀ (U : List (List Int)) (k : Nat), k < U.length → (U.map List.length)[k]? = some (U.getD k []).length := by
    intro U k hk
    rw [List.getElem?_map, List.getElem?_eq_getElem hk]
    simp [hk]
  have hk2 : k < (ins T x).length := by rw [ins_len2]; split <;> omega
  have e1 := hlen (ins T x) k hk2
  have e2 := hlen T k hk
  rw [h] at e1
  by_cases e : gline T x < T.length
  · rw [if_pos e, List.getElem?_set] at e1
    by_cases z : gline T x = k
    · rw [if_pos z, if_pos (by simp; omega)] at e1
      have := Option.some.inj e1
      rw [← this, z]
      simp
    · rw [if_neg z, e2] at e1
      have := Option.some.inj e1
      rw [← this]
      constructor
      · intro q; omega
      · intro q; exact absurd q.symm z
  · rw [if_neg e, List.getElem?_append_left (by simp; omega), e2] at e1
    have := Option.some.inj e1
    rw [← this]
    constructor
    · intro q; omega
    · intro q; omega
theorem putM_len (M : List (List Int)) (k : Nat) (t : Int) : (putM M k t).length = if k = M.length then M.length + 1 else M.length := by
  unfold putM
  split <;> simp
theorem ptsOf_snoc : ∀ (w : List Int) (x k : Int), ptsOf (w ++ [x]) k = ptsOf w k ++ [(k + (w.length : Int), x)]
  | [], x, k => by simp [ptsOf]
  | y :: w, x, k => by
    rw [List.cons_append, ptsOf, ptsOf_snoc w x (k + 1), ptsOf, List.cons_append]
    simp only [List.length_cons]
    have : k + 1 + (w.length : Int) = k + ((w.length + 1 : Nat) : Int) := by omega
    rw [this]
theorem pq_take {w : List Int} {i : Nat} (h : i < w.length) : pq (ptsOf (w.take (i + 1)) 0) = stPQ (pq (ptsOf (w.take i) 0)) ((i : Int), w.getD i 0) := by
  rw [List.take_add_one, getD_some h]
  show pq (ptsOf (w.take i ++ [w.getD i 0]) 0) = _
  rw [ptsOf_snoc]
  unfold pq
  rw [List.foldl_append]
  have e : ((0 : Int) + ((w.take i).length : Int)) = (i : Int) := by rw [List.length_take]; omega
  rw [e]
  rfl
theorem pq_len (w : List Int) : ∀ (i : Nat), i ≤ w.length → (pq (ptsOf (w.take i) 0)).2.length = (pq (ptsOf (w.take i) 0)).1.length
  | 0, _ => by simp [ptsOf, pq]
  | i + 1, h => by
    have ih := pq_len w i (by omega)
    rw [pq_take (by omega)]
    unfold stPQ
    simp only
    rw [putM_len, ins_len2, ih]
theorem tabl_take {w : List Int} {i : Nat} (h : i < w.length) : tabl (w.take (i + 1)) = ins (tabl (w.take i)) (w.getD i 0) := by
  have := congrArg Prod.fst (pq_take h)
  rw [pq_tabl] at this
  rw [this]
  unfold stPQ
  simp only
  rw [pq_tabl]
theorem mks_take {w : List Int} {i : Nat} (h : i < w.length) : mks (w.take (i + 1)) = putM (mks (w.take i)) (gline (tabl (w.take i)) (w.getD i 0)) (i : Int) := by
  have := congrArg Prod.snd (pq_take h)
  unfold mks
  rw [this]
  unfold stPQ
  simp only
  rw [pq_tabl]
theorem mks_len {w : List Int} {i : Nat} (h : i ≤ w.length) : (mks (w.take i)).length = (tabl (w.take i)).length := by
  have := pq_len w i h
  rw [pq_tabl] at this
  exact this
theorem putM_row {M : List (List Int)} {k n : Nat} {t : Int} (h : ∀ r ∈ M, r.length ≤ n) : ∀ r ∈ putM M k t, r.length ≤ n + 1 := by
  intro r hr
  unfold putM at hr
  split at hr
  · rcases List.mem_append.mp hr with e | e
    · have := h r e; omega
    · rw [List.mem_singleton.mp e]; simp
  · rcases List.mem_or_eq_of_mem_set hr with e | e
    · have := h r e; omega
    · rw [e, List.length_append]
      have : (M.getD k []).length ≤ n := by
        rw [List.getD_eq_getElem?_getD]
        cases q : M[k]? with
        | none => simp
        | some z => exact h z (List.mem_of_getElem? q)
      simp only [List.length_cons, List.length_nil]
      omega
theorem mks_row (w : List Int) : ∀ (i : Nat), i ≤ w.length → ∀ r ∈ mks (w.take i), r.length ≤ i
  | 0, _ => by intro r hr; simp [mks, ptsOf, pq] at hr
  | i + 1, h => by
    rw [mks_take (by omega)]
    exact putM_row (mks_row w i (by omega))
end RS
set_option Elab.async false
namespace RS
/-- a shape, with one more in line k -/
def addAt (L : List Nat) (k : Nat) : List Nat := if k = L.length then L ++ [1] else L.set k (L.getD k 0 + 1)
theorem addAt_succ (a : Nat) (L : List Nat) (k : Nat) : addAt (a :: L) (k + 1) = a :: addAt L k := by
  unfold addAt
  simp only [List.length_cons, Nat.add_right_cancel_iff, List.cons_append, List.set_cons_succ, List.getD_cons_succ]
  split <;> rfl
def shp (T : List (List Int)) : List Nat := T.map List.length
theorem shp_putM (M : List (List Int)) (k : Nat) (t : Int) : shp (putM M k t) = addAt (shp M) k := by
  unfold shp putM addAt
  rw [List.length_map]
  split
  · simp
  · rw [List.map_set, List.length_append, List.length_singleton]
    congr 1
    rw [List.getD_eq_getElem?_getD, List.getD_eq_getElem?_getD, List.getElem?_map]
    cases M[k]? <;> rfl
theorem shp_ins : ∀ (T : List (List Int)) (x : Int), shp (ins T x) = addAt (shp T) (gline T x)
  | [], x => rfl
  | r :: T, x => by
    by_cases h : cnt r x < r.length
    · rw [ins_bump h, gline, if_pos h]
      show (r.set _ _).length :: shp _ = addAt (r.length :: shp T) _
      rw [addAt_succ, shp_ins, List.length_set]
    · rw [ins, if_neg h, gline, if_neg h]
      simp [shp, addAt]
theorem shp_mks (w : List Int) : ∀ (i : Nat), i ≤ w.length → shp (mks (w.take i)) = shp (tabl (w.take i))
  | 0, _ => by simp [mks, ptsOf, pq, tabl]
  | i + 1, h => by
    rw [mks_take (by omega), tabl_take (by omega), shp_putM, shp_ins, shp_mks w i (by omega)]
theorem mks_shp (w : List Int) : shp (mks w) = shp (tabl w) := by
  have := shp_mks w w.length (Nat.le_refl _)
  rwa [List.take_length] at this
theorem mks_lines (w : List Int) : (mks w).length = (tabl w).length := by
  have := congrArg List.length (mks_shp w)
  simpa [shp] using this
end RS
set_option Elab.async false
namespace RS
end RS
set_option Elab.async false
namespace RS
/-- two neighbours changed about that have a number between theirs just ahead of them or just behind -/
def Near (w : List Int) (k : Nat) : Prop := ∃ a b c, w[k]? = some a ∧ w[k + 1]? = some b ∧ ((0 < k ∧ w[k - 1]? = some c) ∨ w[k + 2]? = some c) ∧ ((a < c ∧ c < b) ∨ (b < c ∧ c < a))
def swp (w : List Int) (k : Nat) : List Int := (w.set k (w.getD (k + 1) 0)).set (k + 1) (w.getD k 0)
theorem two_of {w : List Int} {k : Nat} {a b : Int} (ha : w[k]? = some a) (hb : w[k + 1]? = some b) : w = w.take k ++ (a :: b :: w.drop (k + 2)) ∧ swp w k = w.take k ++ (b :: a :: w.drop (k + 2)) := by
  have h1 : k < w.length := (List.getElem?_eq_some_iff.mp ha).1
  have h2 : k + 1 < w.length := (List.getElem?_eq_some_iff.mp hb).1
  have e : w = w.take k ++ (a :: b :: w.drop (k + 2)) := by
    conv => lhs; rw [← List.take_append_drop k w]
    congr 1
    rw [List.drop_eq_getElem_cons h1, List.drop_eq_getElem_cons h2]
    rw [List.getElem?_eq_getElem h1] at ha
    rw [List.getElem?_eq_getElem h2] at hb
    rw [Option.some.inj ha, Option.some.inj hb]
  refine ⟨e, ?_⟩
  have da : w.getD k 0 = a := by rw [List.getD_eq_getElem?_getD, ha]; rfl
  have db : w.getD (k + 1) 0 = b := by rw [List.getD_eq_getElem?_getD, hb]; rfl
  have hl : (w.take k).length = k := by rw [List.length_take]; omega
  unfold swp
  rw [da, db]
  generalize w.take k = u at *
  generalize w.drop (k + 2) = v at *
  subst e
  rw [List.set_append_right _ _ (by omega), List.set_append_right _ _ (by omega), hl]
  simp
theorem near_kn {w : List Int} {k : Nat} (h : Near w k) : Kn w (swp w k) := by
  obtain ⟨a, b, c, ha, hb, hc, hlt⟩ := h
  obtain ⟨e1, e2⟩ := two_of ha hb
  rw [e2]
  conv => lhs; rw [e1]
  rcases hc with ⟨hk, hc⟩ | hc
  · have hk1 : k - 1 < w.length := (List.getElem?_eq_some_iff.mp hc).1
    have e3 : w.take k = w.take (k - 1) ++ [c] := by
      have : k = (k - 1) + 1 := by omega
      conv => lhs; rw [this, List.take_add_one, hc]
      rfl
    rw [e3, List.append_assoc, List.append_assoc]
    refine Kn.mk (w.take (k - 1)) (w.drop (k + 2)) (o := [c, a, b]) (o' := [c, b, a]) (.inr ?_)
    rcases hlt with ⟨x, y⟩ | ⟨x, y⟩
    · exact ⟨a, c, b, x, y, .inl ⟨rfl, rfl⟩⟩
    · exact ⟨b, c, a, x, y, .inr (.inl ⟨rfl, rfl⟩)⟩
  · have hk2 : k + 2 < w.length := (List.getElem?_eq_some_iff.mp hc).1
    have e3 : w.drop (k + 2) = c :: w.drop (k + 3) := by
      rw [List.drop_eq_getElem_cons hk2]
      rw [List.getElem?_eq_getElem hk2] at hc
      rw [Option.some.inj hc]
    rw [e3]
    refine Kn.mk (w.take k) (w.drop (k + 3)) (o := [a, b, c]) (o' := [b, a, c]) (.inr ?_)
    rcases hlt with ⟨x, y⟩ | ⟨x, y⟩
    · exact ⟨a, c, b, x, y, .inr (.inr (.inl ⟨rfl, rfl⟩))⟩
    · exact ⟨b, c, a, x, y, .inr (.inr (.inr ⟨rfl, rfl⟩))⟩
theorem near_tabl {w : List Int} {k : Nat} (nd : w.Nodup) (h : Near w k) : tabl (swp w k) = tabl w := (kn_tabl _ (Nat.le_refl _) nd (near_kn h)).symm
theorem near_perm {w : List Int} {k : Nat} (h : Near w k) : (swp w k).Perm w := (near_kn h).perm.symm
end RS
set_option Elab.async false
namespace RS
/-! ### columns, place by place -/
end RS
set_option Elab.async false
namespace RS
/-! ### marks are a table, each number once -/
/-! ### taking out: the number told stands in the first line -/
end RS
set_option Elab.async false
namespace RS
end RS
set_option Elab.async false
namespace RS
end RS
set_option Elab.async false
namespace RS
end RS
set_option Elab.async false
namespace RS
/-! ### sizes that run out -/
end RS
set_option Elab.async false
namespace RS
/-! ### rising and falling parts; the first line -/
end RS
set_option Elab.async false
namespace RS
/-! ### equal numbers told apart by their places: the shape stays -/
section
variable (f : Int → Int)
end
/-! ### numbers with their places -/
end RS
set_option Elab.async false
namespace RS
/-! ### a line put into the lines below it, one number left out: sliding -/
end RS
set_option Elab.async false
namespace RS
/-! ### the marks of a row without its first number -/
end RS
set_option Elab.async false
namespace RS
/-! ### the line that gets shorter -/
/-! ### the row turned about, every number on the other side of nought -/
end RS
set_option Elab.async false
namespace RS
/-! ### how many marks a shape has: the hooks -/
/-! ### shapes -/
end RS
set_option Elab.async false
namespace RS
/-! ### the hooks of a shape -/
end RS
set_option Elab.async false
namespace RS
/-! ### the ways, counted shape by shape -/
/-! the dict of ways -/
end RS
set_option Elab.async false
namespace RS
/-! ### marks of the lines that grew -/
def mofN (gs : List Nat) : Nat → List (List Int)
  | 0 => []
  | i + 1 => putM (mofN gs i) (gs.getD i 0) (i : Int)
def glns (w : List Int) : List Nat := (List.range w.length).map fun i => gline (tabl (w.take i)) (w.getD i 0)
theorem glns_len (w : List Int) : (glns w).length = w.length := by simp [glns]
theorem glns_at {w : List Int} {i : Nat} (h : i < w.length) : (glns w).getD i 0 = gline (tabl (w.take i)) (w.getD i 0) := by
  rw [List.getD_eq_getElem?_getD, glns, List.getElem?_map, List.getElem?_range h]; rfl
theorem mofN_glns (w : List Int) : ∀ i, i ≤ w.length → mofN (glns w) i = mks (w.take i)
  | 0, _ => rfl
  | i + 1, h => by rw [mofN, mofN_glns w i (by omega), glns_at (by omega), mks_take (by omega)]
theorem mofN_all (w : List Int) : mofN (glns w) (glns w).length = mks w := by
  rw [glns_len, mofN_glns w _ (Nat.le_refl _), List.take_length]
theorem glns_le {w : List Int} {i : Nat} (h : i < (glns w).length) : (glns w).getD i 0 ≤ (mofN (glns w) i).length := by
  rw [glns_len] at h
  rw [glns_at h, mofN_glns w i (by omega), mks_lines]
  exact gline_le _ _
theorem glns_snoc (u : List Int) (y : Int) : glns (u ++ [y]) = glns u ++ [gline (tabl u) y] := by
  unfold glns
  rw [List.length_append, List.length_singleton, List.range_succ, List.map_append]
  congr 1
  · refine List.map_congr_left fun i hi => ?_
    have hi := List.mem_range.mp hi
    rw [List.take_append_of_le_length (by omega), List.getD_eq_getElem?_getD, List.getElem?_append_left hi, ← List.getD_eq_getElem?_getD]
  · simp
theorem mofN_size (gs : List Nat) : ∀ i, (mofN gs i).length ≤ i ∧ ∀ r ∈ mofN gs i, r.length ≤ i
  | 0 => by simp [mofN]
  | i + 1 => by
    have h := mofN_size gs i
    refine ⟨?_, ?_⟩
    · rw [mofN, putM_len]
      split <;> omega
    · rw [mofN]; exact putM_row h.2
/-! ### sliding, step by step -/
/-! ### sliding again and again -/
end RS
set_option Elab.async false
namespace RS
/-! ### piles -/
def nIs (C : List Nat) : List Int := C.map fun (p : Nat) => (p : Int)
/-! ### one of each -/
end RS
set_option Elab.async false
namespace RS
/-! ### the hooks, told one by one -/
end RS
/-! Comprehensions over the layer. -/
set_option Elab.async false
set_option maxRecDepth 100000
namespace L2
open PySem PySem.Spec PyProof.Rows
/-! ### the closure of a comprehension's block -/
def clos (env : Env) : List (Str × NameKind) → List (Str × Addr) → List (Str × Addr)
  | [], cs => cs
  | (n, k) :: r, cs => if k == .free then clos env r ((n, (env.cells.lookup n).getD 0) :: cs) else clos env r cs
theorem closureFor_is {scope : Scope} {env : Env} (h : ∀ n, (n, NameKind.free) ∈ scope.names → ∃ c, env.cells.lookup n = some c) :
    closureFor scope env = pure (clos env scope.names []) := by
  unfold closureFor
  have key : ∀ (l : List (Str × NameKind)) (cs : List (Str × Addr)), (∀ n, (n, NameKind.free) ∈ l → ∃ c, env.cells.lookup n = some c) →
      (forIn l cs (fun (x : Str × NameKind) (r : List (Str × Addr)) => if (x.2 == NameKind.free) = true then do let a ← cellOf env x.1; pure (ForInStep.yield ((x.1, a) :: r)) else pure (ForInStep.yield r)) : Sem (List (Str × Addr))) = pure (clos env l cs) := by
    intro l
    induction l with
    | nil => intro cs _; rfl
    | cons x r ih =>
      intro cs hl
      obtain ⟨n, k⟩ := x
      rw [List.forIn_cons]
      by_cases hk : k = .free
      · subst hk
        obtain ⟨c, e⟩ := hl n List.mem_cons_self
        have e2 : cellOf env n = pure c := by unfold cellOf; rw [e]
        simp only [beq_self_eq_true, if_true, e2, pure_bind]
        rw [ih _ fun m hm => hl m (List.mem_cons_of_mem _ hm)]
        simp [clos, e]
      · have hb : (k == NameKind.free) = false := by simpa using hk
        simp only [hb, Bool.false_eq_true, if_false, pure_bind]
        rw [ih _ fun m hm => hl m (List.mem_cons_of_mem _ hm)]
        simp [clos, hb]
  have := key scope.names [] h
  simp only [bind_pure]
  exact this
theorem clos_lookup {env : Env} {x : Str} {c : Addr} : ∀ {l : List (Str × NameKind)} {cs : List (Str × Addr)}, (∀ n, (n, NameKind.free) ∈ l → ∃ c, env.cells.lookup n = some c) → (cs.lookup x = some c → env.cells.lookup x = some c) →
    (clos env l cs).lookup x = some c → env.cells.lookup x = some c
  | [], _, _, hc, h => hc h
  | (n, k) :: r, cs, hl, hc, h => by
    have hr : ∀ m, (m, NameKind.free) ∈ r → ∃ c, env.cells.lookup m = some c := fun m hm => hl m (List.mem_cons_of_mem _ hm)
    unfold clos at h
    by_cases hk : (k == NameKind.free) = true
    · rw [if_pos hk] at h
      refine clos_lookup hr (fun q => ?_) h
      have hk' : k = .free := by simpa using hk
      subst hk'
      obtain ⟨c', e⟩ := hl n List.mem_cons_self
      rw [List.lookup_cons] at q
      cases hx : x == n with
      | true =>
        rw [hx] at q
        have : x = n := by simpa using hx
        subst this
        simp only [e, Option.getD_some] at q
        rw [e]; exact q
      | false =>
        rw [hx] at q
        exact hc q
    · rw [if_neg hk] at h
      exact clos_lookup hr hc h
theorem clos_old {env : Env} {x : Str} {c : Addr} (hx : env.cells.lookup x = some c) : ∀ {l : List (Str × NameKind)} {cs : List (Str × Addr)}, cs.lookup x = some c → (clos env l cs).lookup x = some c
  | [], _, h => h
  | (n, k) :: r, cs, h => by
    unfold clos
    by_cases hk : (k == NameKind.free) = true
    · rw [if_pos hk]
      refine clos_old hx ?_
      rw [List.lookup_cons]
      cases hn : x == n with
      | true =>
        have : x = n := by simpa using hn
        subst this
        simp [hx]
      | false => exact h
    · rw [if_neg hk]
      exact clos_old hx h
theorem clos_has {env : Env} {x : Str} {c : Addr} (hx : env.cells.lookup x = some c) : ∀ {l : List (Str × NameKind)} {cs : List (Str × Addr)}, (x, NameKind.free) ∈ l → (clos env l cs).lookup x = some c
  | [], _, h => by cases h
  | (n, k) :: r, cs, h => by
    unfold clos
    rcases List.mem_cons.mp h with e | h
    · cases e
      rw [if_pos (beq_self_eq_true _)]
      refine clos_old hx ?_
      rw [List.lookup_cons]
      simp [hx]
    · by_cases hk : (k == NameKind.free) = true
      · rw [if_pos hk]; exact clos_has hx h
      · rw [if_neg hk]; exact clos_has hx h
/-- kinds in the block -/
theorem relabel_lookup {env : Env} : ∀ {names : List (Str × NameKind)} {x : Str} {k : NameKind},
    (names.map fun (n, k) => if (k == NameKind.free && env.scope.kind == .function && env.kindOf n == some .cell) then (n, NameKind.cell) else (n, k)).lookup x = some k →
    names.lookup x = some k ∨ (names.lookup x = some .free ∧ k = .cell)
  | [], _, _, h => by simp at h
  | (n, k') :: r, x, k, h => by
    rw [List.map_cons] at h
    by_cases hc : (k' == NameKind.free && env.scope.kind == .function && env.kindOf n == some .cell) = true
    · simp only [hc, if_true] at h
      rw [List.lookup_cons] at h
      cases hx : x == n with
      | true =>
        rw [hx] at h
        cases h
        have hk : k' = .free := by
          simp only [Bool.and_eq_true] at hc
          simpa using hc.1.1
        subst hk
        exact .inr ⟨by rw [List.lookup_cons, hx], rfl⟩
      | false =>
        rw [hx] at h
        rcases relabel_lookup h with q | q
        · exact .inl (by rw [List.lookup_cons, hx]; exact q)
        · exact .inr ⟨by rw [List.lookup_cons, hx]; exact q.1, q.2⟩
    · simp only [hc, Bool.false_eq_true, if_false] at h
      rw [List.lookup_cons] at h
      cases hx : x == n with
      | true =>
        rw [hx] at h
        exact .inl (by rw [List.lookup_cons, hx]; exact h)
      | false =>
        rw [hx] at h
        rcases relabel_lookup h with q | q
        · exact .inl (by rw [List.lookup_cons, hx]; exact q)
        · exact .inr ⟨by rw [List.lookup_cons, hx]; exact q.1, q.2⟩
theorem relabel_free {env : Env} : ∀ {names : List (Str × NameKind)} {x : Str}, names.lookup x = some .free →
    (names.map fun (n, k) => if (k == NameKind.free && env.scope.kind == .function && env.kindOf n == some .cell) then (n, NameKind.cell) else (n, k)).lookup x = some .free ∨
    (names.map fun (n, k) => if (k == NameKind.free && env.scope.kind == .function && env.kindOf n == some .cell) then (n, NameKind.cell) else (n, k)).lookup x = some .cell
  | [], _, h => by simp at h
  | (n, k') :: r, x, h => by
    rw [List.lookup_cons] at h
    rw [List.map_cons]
    cases hx : x == n with
    | true =>
      rw [hx] at h
      cases h
      by_cases hc : (NameKind.free == NameKind.free && env.scope.kind == .function && env.kindOf n == some .cell) = true
      · simp only [hc, if_true]; rw [List.lookup_cons, hx]; exact .inr rfl
      · simp only [hc, Bool.false_eq_true, if_false]; rw [List.lookup_cons, hx]; exact .inl rfl
    | false =>
      rw [hx] at h
      by_cases hc : (k' == NameKind.free && env.scope.kind == .function && env.kindOf n == some .cell) = true
      · simp only [hc, if_true]; rw [List.lookup_cons, hx]; exact relabel_free h
      · simp only [hc, Bool.false_eq_true, if_false]; rw [List.lookup_cons, hx]; exact relabel_free h
/-! ### the block's context -/
def cxComp (X : Cx) (scope : Scope) (Nc : List Str) (C : Addr) (s3 : Shared) (H3 : Hp) (ex : List Addr) : Cx where
  prog := X.prog
  w := X.w
  K := X.K
  mg := X.mg
  base := X.base
  A := X.A
  N := Nc
  s₀ := s3
  H₀ := H3
  env := compEnvC scope (clos X.env scope.names []) C X.env
  outer := X.stack
  stack := X.stack
  ex := ex
  fn := fun _ => false
  calm := X.calm
  pn := []
  xe := fun _ _ => False
/-- what of the block's scope is asked: all by decide -/
structure CompSc (X : Cx) (scope : Scope) : Prop where
  kind : scope.kind = .function
  nocell : ∀ y ∈ scope.names, y.2 ≠ .cell
  locs : ∀ y ∈ scope.names, y.2 = .local → scope.names.lookup y.1 = some .local
  fre : ∀ y ∈ scope.names, y.2 = .free → X.env.kindOf y.1 = some .cell ∨ X.env.kindOf y.1 = some .free
/-- the block's names at its entry: those of the frame that it sees, then its own -/
def cst : List Bool → St → Nat → St
  | b :: m, v :: σ, k => (if b then v else none) :: cst m σ k
  | _, _, k => List.replicate k none
theorem cst_len : ∀ {m : List Bool} {σ : St} {k : Nat}, m.length = σ.length → (cst m σ k).length = m.length + k
  | [], [], k, _ => by simp [cst]
  | [], _ :: _, _, h => by simp at h
  | _ :: _, [], _, h => by simp at h
  | b :: m, v :: σ, k, h => by
    have := @cst_len m σ k (by simpa using h)
    simp [cst, this]; omega
theorem cst_get : ∀ {m : List Bool} {σ : St} {k i : Nat} {v : V}, m.length = σ.length → (cst m σ k)[i]? = some (some v) → m[i]? = some true ∧ σ[i]? = some (some v)
  | [], [], k, i, v, _, h => by
    simp only [cst] at h
    rw [List.getElem?_replicate] at h
    split at h <;> cases h
  | [], _ :: _, _, _, _, h, _ => by simp at h
  | _ :: _, [], _, _, _, h, _ => by simp at h
  | b :: m, u :: σ, k, 0, v, hl, h => by
    simp only [cst, List.getElem?_cons_zero] at h ⊢
    cases b with
    | true => exact ⟨rfl, by simpa using h⟩
    | false => simp at h
  | b :: m, u :: σ, k, i + 1, v, hl, h => by
    simp only [cst, List.getElem?_cons_succ] at h ⊢
    exact cst_get (by simpa using hl) h
/-- the mask: which names of the frame the block sees -/
def cmask (N : List Str) (scope : Scope) : List Bool := N.map fun x => scope.names.lookup x == some .free
theorem cmask_get {N : List Str} {scope : Scope} {i : Nat} (h : (cmask N scope)[i]? = some true) : ∃ x, N[i]? = some x ∧ scope.names.lookup x = some .free := by
  unfold cmask at h
  rw [List.getElem?_map] at h
  cases e : N[i]? with
  | none => rw [e] at h; cases h
  | some x =>
    rw [e] at h
    exact ⟨x, rfl, by simpa using h⟩
theorem Inv.comp {X : Cx} {pins : List (Addr × Obj)} {σ : St} {H : Hp} {s s4 : Shared} {scope : Scope} {new : List Str} {fp : List Addr} (S : CompSc X scope) (I : Inv X pins σ H s)
    (hfp : ∀ b ∈ fp, FpOk X pins H b) (hob : ∀ b ∈ fp, ∃ o, s.heap.get? b = some o) (hns : ∃ m, s4.heap.Ns s.heap.objs.size m) (hk : ∀ b o, s.heap.get? b = some o → s4.heap.get? b = some o) (h4 : s4 = { s with heap := s4.heap, toks := s4.toks }) :
    Inv (cxComp X scope (X.N ++ new) s.heap.objs.size s H fp) [] (cst (cmask X.N scope) σ new.length) H s4 := by
  have hcl : ∀ n, (n, NameKind.free) ∈ scope.names → ∃ c, X.env.cells.lookup n = some c := fun n hn => I.ok.has n (S.fre _ hn rfl)
  have cl : ∀ {x c}, (clos X.env scope.names []).lookup x = some c → X.env.cells.lookup x = some c := fun {x c} h => clos_lookup hcl (fun q => by cases q) h
  have hlen : (cmask X.N scope).length = σ.length := by unfold cmask; rw [List.length_map]; exact I.len.symm
  obtain ⟨m4, hm4⟩ := hns
  have size4 : s.heap.objs.size < s4.heap.objs.size := hm4.lt
  refine ⟨⟨I.ok.mod, S.kind, I.ok.glob, I.ok.blt, Nat.le_refl _, fun x y c h1 h2 => I.ok.inj x y c (cl h1) (cl h2), fun x hx => ?_, fun x c hf => absurd hf (by simp [cxComp]), I.ok.hd, I.ok.frames, .inl rfl, fun b hb => ?_, fun b o e => ?_, Nat.le_trans I.ok.bsz I.sz, fun b o e hb => ?_, fun b hb => ?_, I.stack, I.stkFree⟩,
    (by rw [h4]; rfl), (by rw [h4]; exact I.bare), Un.kept hk, ⟨m4, hm4, fun i x v h1 h2 h3 => ?_⟩, fun x c h => ?_, I.hok.fresh (Nat.le_refl _), fun x c h => I.freeC x c (cl h), fun p hp => absurd (show p ∈ ([] : List (Addr × Obj)) from hp) (by simp), I.hok.kept hk, ?_⟩
  · -- has
    have hx' : (relabel scope X.env).names.lookup x = some .cell ∨ (relabel scope X.env).names.lookup x = some .free := hx
    have hf : scope.names.lookup x = some .free := by
      rcases hx' with q | q
      · rcases relabel_lookup q with z | z
        · exact absurd rfl (S.nocell _ (PySem.mem_of_lookup z))
        · exact z.1
      · rcases relabel_lookup q with z | z
        · exact z
        · exact z.1
    obtain ⟨c, e⟩ := hcl x (PySem.mem_of_lookup hf)
    exact ⟨c, clos_has e (PySem.mem_of_lookup hf)⟩
  · obtain ⟨o, ho⟩ := hob b hb
    exact ⟨Nat.ne_of_lt (Heap.lt_size ho), fun x c h => (hfp b hb).2.2.2.2.1 x c (cl h)⟩
  · exact I.bs b o e
  · rcases (hfp b hb).2.2.2.1 with z | z
    · exact I.ok.noex b o e z
    · exact absurd (Nat.lt_of_lt_of_le (Heap.lt_size e) (Nat.le_trans I.ok.bsz z)) (Nat.lt_irrefl _)
  · intro z
    rcases List.mem_cons.mp (I.stkSub b z) with e | e
    · exact (hfp b hb).2.1 e
    · exact (hfp b hb).2.2.1 e
  · -- loc
    obtain ⟨g1, g2⟩ := cst_get hlen h2
    obtain ⟨y, hy, hf⟩ := cmask_get g1
    have hiN : i < X.N.length := (List.getElem?_eq_some_iff.mp hy).1
    have hxy : x = y := by
      have h1' : (X.N ++ new)[i]? = some x := h1
      rw [List.getElem?_append_left hiN, hy] at h1'
      exact (Option.some.inj h1').symm
    subst hxy
    have hX : X.env.kindOf x = some .cell ∨ X.env.kindOf x = some .free := S.fre _ (PySem.mem_of_lookup hf) rfl
    obtain ⟨m, hn, hl⟩ := I.loc
    obtain ⟨u, ru, lk⟩ := hl i x v hy g2 (hX.elim (fun z => .inr (.inl z)) fun z => .inr (.inr z))
    refine ⟨u, ru, .inr ⟨?_, ?_⟩⟩
    · exact (relabel_free hf).symm
    · rcases lk with ⟨k, _⟩ | ⟨_, c, e, o, ho, hd⟩
      · rcases hX with z | z <;> (rw [z] at k; cases k)
      · exact ⟨c, clos_has e (PySem.mem_of_lookup hf), o, hk c o ho, hd⟩
  · obtain ⟨v, o, ho, hd⟩ := I.cell x c (cl h)
    exact ⟨v, o, hk c o ho, hd⟩
  · show (cst (cmask X.N scope) σ new.length).length = (X.N ++ new).length
    rw [cst_len hlen, List.length_append]
    unfold cmask
    rw [List.length_map]
/-- the block's end: back in the frame -/
theorem Inv.uncomp {X : Cx} {pins : List (Addr × Obj)} {σ σ' : St} {H H' : Hp} {s s' : Shared} {scope : Scope} {Nc : List Str} {fp : List Addr} {h' : Heap} (I : Inv X pins σ H s) (hfp : ∀ b ∈ fp, FpOk X pins H b)
    (J : Inv (cxComp X scope Nc s.heap.objs.size s H fp) [] σ' H' s') (hs : Heap.SameBut s.heap.objs.size s'.heap h') : Inv X pins σ H' { s' with heap := h' } := by
  have fr : H' s.heap.objs.size = none := J.free
  have old : ∀ b o, s.heap.get? b = some o → b ≠ s.heap.objs.size := fun b o e => Nat.ne_of_lt (Heap.lt_size e)
  have u := J.base
  have u' : Un (frs X.stack) fp H H' s.heap h' :=
    ⟨fun b o e n hb hx => hs.extBut b o (old b o e) (u.keep b o e n hb hx), fun b o e n hb hx => let ⟨sl, q⟩ := u.slot b o e n hb hx; ⟨sl, hs.extBut b _ (old b o e) q⟩, u.free, fun b o e hx => let ⟨o', q⟩ := u.there b o e hx; ⟨o', hs.extBut b _ (old b o e) q⟩, u.tups, u.frzs, u.tbls⟩
  have hok : HOk X.prog X.w H' h' := fun b o e => (J.hok b o e).stay (fun c v hc q => hs.extBut c v (by
    rcases hc with z | z
    · rw [z]; exact ne_of_none e fr
    · exact ne_of_none z fr) q) (fun _ q => q) fun _ _ q => q
  obtain ⟨hh, g, d, t, os'⟩ := s'
  obtain rfl : os' = s.os := J.os
  have fin := I.call (h' := h') (g' := g) (d' := d) (t' := t) (ch := fp) u' hok J.bare fun b hb => ⟨(hfp b hb).2.2.2.1, (hfp b hb).2.1, (hfp b hb).2.2.2.2.1, (hfp b hb).2.2.2.2.2⟩
  exact fin
/-! ### the tests of a comprehension -/
def PTs (X : Cx) (ifs : List Expr) (t : TT) : Prop :=
  ∀ (pins : List (Addr × Obj)) (s : Shared) (σ : St) (H : Hp) (Q : Bool → Hp → Prop), Inv X pins σ H s → t σ H Q →
    wpAny (model X.prog X.w) X.A (forIn ifs true fun c r => if r = true then do let ok ← isTrue c X.env (eval c X.env); pure (ForInStep.yield ok) else pure (ForInStep.yield r)) (TP X pins σ Q) X.xe s
def tYes : TT := fun _ H Q => Q true H
theorem pts_nil {X : Cx} : PTs X [] tYes := fun _ _ _ H _ I h => wpAny_tests_nil ⟨H, I, h⟩
theorem pts_one {X : Cx} {c : Expr} {t : TT} (h : PT X c t) : PTs X [c] t := fun pins s σ H Q I q => wpAny_tests_one (h pins s σ H Q I q)
/-! ### the rule -/
def tComp (mask : List Bool) (k : Nat) (wi : TI) (g : TG) (tc : TT) (te : TE) : TE := fun σ H Q => wi σ H fun J H1 => ∀ D, H1 D = none →
  ∃ W : Nat → Nat → List V → St → Hp → Prop, (∃ m, W 0 m [] (cst mask σ k) (upd H1 D (.lst []))) ∧ ∀ i m ys σc Hc, W i m ys σc Hc → Hc D = some (.lst ys) ∧
    ((J.stop i Hc ∧ Q (.ref D) Hc) ∨ (J.go i Hc ∧ ∃ Nx : List V → St → Hp → Prop, (∀ ys' σ' H', Nx ys' σ' H' → ∃ m', m' < m ∧ W (i + 1) m' ys' σ' H') ∧ ∀ x H', J.yld i Hc x H' → g x σc H' fun σ2 H2 => tc σ2 H2 fun b H3 =>
      if b = true then te σ2 H3 fun y H4 => H4 D = some (.lst ys) ∧ ys.length < sizeLine ∧ Nx (ys ++ [y]) σ2 (upd H4 D (.lst (ys ++ [y])))
      else Nx ys σ2 H3))
section
variable {prog : Program} {w : World} {A : Around} {R : Result → Shared → Prop} {s : Shared}
theorem codeAny_compLoop_any {elt target iter : Expr} {ifs : List Expr} {scope : Scope} {pos : Pos} {it acc : Value} {env : Env} (I : Nat → Shared → Prop)
    (turn : ∀ n s, I n s → wpAny (model prog w) A (pyNext it) (fun r s₁ => match r with
      | none => R (.ok .next) s₁
      | some v => wpAny (model prog w) A (letOwnedTupleGo target it v) (fun _ s₁ => wpAny (model prog w) A (assign target env v) (fun _ s₂ =>
          wpAny (model prog w) A (forIn ifs true fun c r => if r = true then do let ok ← isTrue c env (eval c env); pure (ForInStep.yield ok) else pure (ForInStep.yield r)) (fun ok s₃ =>
            if ok = true then wpAny (model prog w) A (eval elt env) (fun x s₄ =>
              wpAny (model prog w) A (call (.builtin "list.append") [acc, x]) (fun _ s₅ => ∃ m, m < n ∧ I m s₅) (fun _ _ => False) s₄) (fun _ _ => False) s₃
            else ∃ m, m < n ∧ I m s₃) (fun _ _ => False) s₂) (fun _ _ => False) s₁) (fun _ _ => False) s₁) (fun _ _ => False) s)
    (n : Nat) (h : I n s) :
    codeAny (model prog w) A (.compLoop (.ListComp elt [⟨target, iter, ifs, 0⟩] scope pos) 0 it acc env) R s := by
  refine codeAny_loop rfl I (fun n s hI => ?_) n h
  show wpAny _ A ((compTurn (.ListComp elt [⟨target, iter, ifs, 0⟩] scope pos) 0 it acc env).onRaise (fun x => do noteFrame x env; theTreesLotGoes x)) _ _ s
  refine wpAny_noted ?_
  rw [compTurn_list]
  refine wpAny_bind (wpAny_standAt (wpAny_bind (wpAny_mono (turn n s hI) (fun r s₁ h₁ => ?_) fun _ _ h' => h'.elim)))
  cases r with
  | none => exact wpAny_pure h₁
  | some v =>
    refine wpAny_bind (wpAny_mono h₁ (fun _ s₁ h₁ => ?_) fun _ _ h' => h'.elim)
    refine wpAny_bind (wpAny_mono h₁ (fun _ s₂ h₂ => wpAny_bind (wpAny_mono h₂ (fun ok s₃ h₃ => ?_) fun _ _ h' => h'.elim)) fun _ _ h' => h'.elim)
    cases ok with
    | false => exact wpAny_pure ⟨rfl, h₃⟩
    | true =>
      exact wpAny_bind (wpAny_bind (wpAny_mono h₃ (fun x s₄ h₄ => wpAny_bind (wpAny_mono h₄ (fun _ s₅ h₅ => wpAny_pure (wpAny_pure ⟨rfl, h₅⟩)) fun _ _ h' => h'.elim)) fun _ _ h' => h'.elim))
end
section
variable {X : Cx}
theorem comp_block {elt target iter : Expr} {ifs : List Expr} {scope : Scope} {pos : Pos} {new : List Str} {g : TG} {tc : TT} {te : TE} {pins : List (Addr × Obj)} {σ : St} {H : Hp} {s : Shared} {Q : VK} {J : It} {fp : List Addr} {it : Addr} {tn : Nat → Heap → Prop}
    {RR : Value → Addr → Result → Shared → Prop} (S : CompSc X scope) (hc : X.calm = true)
    (hb : ∀ C s3 H3 ex, PG (cxComp X scope (X.N ++ new) C s3 H3 ex) target g ∧ PTs (cxComp X scope (X.N ++ new) C s3 H3 ex) ifs tc ∧ PE (cxComp X scope (X.N ++ new) C s3 H3 ex) elt te)
    (I : Inv X pins σ H s) (T : Turn X.prog X.w X.K target J fp it tn) (st : tn 0 s.heap) (hfp : ∀ b ∈ fp, FpOk X pins H b)
    (h : ∀ D, H D = none → ∃ W : Nat → Nat → List V → St → Hp → Prop, (∃ m, W 0 m [] (cst (cmask X.N scope) σ new.length) (upd H D (.lst []))) ∧ ∀ i m ys σc Hc, W i m ys σc Hc → Hc D = some (.lst ys) ∧
      ((J.stop i Hc ∧ Q (.ref D) Hc) ∨ (J.go i Hc ∧ ∃ Nx : List V → St → Hp → Prop, (∀ ys' σ' H', Nx ys' σ' H' → ∃ m', m' < m ∧ W (i + 1) m' ys' σ' H') ∧ ∀ x H', J.yld i Hc x H' → g x σc H' fun σ2 H2 => tc σ2 H2 fun b H3 =>
        if b = true then te σ2 H3 fun y H4 => H4 D = some (.lst ys) ∧ ys.length < sizeLine ∧ Nx (ys ++ [y]) σ2 (upd H4 D (.lst (ys ++ [y])))
        else Nx ys σ2 H3)))
    (hRR : ∀ (D C : Addr) (s' : Shared) (H' : Hp), Q (.ref D) H' → (∃ m, s'.heap.Ns C m) → (∀ h', Heap.SameBut C s'.heap h' → Inv X pins σ H' { s' with heap := h' }) → C ≠ X.env.locals → (∀ x c, X.env.cells.lookup x = some c → c ≠ C) → H' C = none → s.heap.objs.size ≤ C → RR (.ref D) C (.ok .next) s') :
    wpAny (model X.prog X.w) X.A (newList []) (fun acc s₃ => wpAny (model X.prog X.w) X.A (newFunctionEnv scope X.env.globals (clos X.env scope.names []) [] X.env.qual none .none (some X.env)) (fun cenv s₄ =>
      codeAny (model X.prog X.w) X.A (.compStart (.ListComp elt [⟨target, iter, ifs, 0⟩] scope pos) 0 (.ref it) acc { cenv with scope := relabel scope X.env }) (RR acc cenv.locals) s₄) X.xe s₃) X.xe s := by
  have hD : H s.heap.objs.size = none := I.fresh
  obtain ⟨W, ⟨m0, w0⟩, turn⟩ := h _ hD
  refine wpAny_newObj_type (wpAny_newFunctionEnv S.nocell (by intro y hy; simp at hy) (fun h₁ hns₁ hsb₁ => ?_) S.kind)
  dsimp only at hns₁ hsb₁ ⊢
  have I3 : Inv X pins σ (upd H s.heap.objs.size (.lst [])) { s with heap := s.heap.push { cls := .type "list", data := .seq ([] : List Value).toArray } } := I.lnew (t' := s.toks) (its := []) .nil (Nat.zero_le _)
  generalize hH2 : s.heap.push { cls := .type "list", dict := none, data := .seq ([] : List Value).toArray } = H2 at hns₁ hsb₁ I3 ⊢
  have keep2 : ∀ b o, s.heap.get? b = some o → H2.get? b = some o := fun b o e => hH2 ▸ Heap.get?_push_of_some _ e
  have keep4 : ∀ b o, H2.get? b = some o → h₁.get? b = some o := fun b o e => hsb₁.extBut b o (Nat.ne_of_lt (Heap.lt_size e)) (Heap.get?_push_of_some _ e)
  have hob : ∀ b ∈ fp, ∃ o, H2.get? b = some o := fun b hb' => let ⟨o, e, _⟩ := T.obj _ _ st b hb'; ⟨o, keep2 b o e⟩
  have neD : ∀ b ∈ fp, b ≠ s.heap.objs.size := fun b hb' => let ⟨o, e, _⟩ := T.obj _ _ st b hb'; Nat.ne_of_lt (Heap.lt_size e)
  have hfp3 : ∀ b ∈ fp, FpOk X pins (upd H s.heap.objs.size (.lst [])) b := fun b hb' => ⟨by rw [upd_ne (neD b hb')]; exact (hfp b hb').1, (hfp b hb').2⟩
  have loop : ∀ s4 : Shared, s4 = { s with heap := h₁, toks := s.toks + ([] : List (Str × Value)).length } →
      codeAny (model X.prog X.w) X.A (.compLoop (.ListComp elt [⟨target, iter, ifs, 0⟩] scope pos) 0 (.ref it) (.ref s.heap.objs.size) (compEnvC scope (clos X.env scope.names []) H2.objs.size X.env))
        (RR (.ref s.heap.objs.size) H2.objs.size) s4 := by
    rintro s4 rfl
    have J0 := I3.comp (new := new) (fp := fp) (s4 := { s with heap := h₁, toks := s.toks + ([] : List (Str × Value)).length }) S hfp3 hob ⟨_, hns₁⟩ keep4 rfl
    generalize hXc : cxComp X scope (X.N ++ new) H2.objs.size { s with heap := H2 } (upd H s.heap.objs.size (.lst [])) fp = Xc at J0
    have hJ0 : Inv Xc [] (cst (cmask X.N scope) σ new.length) (upd H s.heap.objs.size (.lst [])) { s with heap := h₁, toks := s.toks + ([] : List (Str × Value)).length } := by
      rw [← hXc]; rw [← hXc] at J0; exact J0
    have e1 : Xc.prog = X.prog := by rw [← hXc]; rfl
    have e2 : Xc.w = X.w := by rw [← hXc]; rfl
    have e3 : Xc.K = X.K := by rw [← hXc]; rfl
    have e4 : Xc.A = X.A := by rw [← hXc]; rfl
    have e5 : Xc.calm = true := by rw [← hXc]; exact hc
    have e6 : Xc.env = compEnvC scope (clos X.env scope.names []) H2.objs.size X.env := by rw [← hXc]; rfl
    have e7 : Xc.xe = fun _ _ => False := by rw [← hXc]; rfl
    have e8 : Xc.fs = frs X.stack := by rw [← hXc]; rfl
    have e9 : Xc.ex = fp := by rw [← hXc]; rfl
    have e10 : Xc.pn = [] := by rw [← hXc]; rfl
    obtain ⟨p1, p2, p3⟩ := hb H2.objs.size { s with heap := H2 } (upd H s.heap.objs.size (.lst [])) fp
    rw [hXc] at p1 p2 p3
    have fpc : ∀ {H' : Hp}, (∀ b ∈ fp, H' b = none) → ∀ b ∈ fp, FpOk Xc [] H' b := fun {H'} hn b hb' => by
      refine ⟨hn b hb', ?_, ?_, .inl (by rw [e9]; exact hb'), fun x c hxc => ?_, fun p hp => ?_⟩
      · rw [e6]
        obtain ⟨o, ho⟩ := hob b hb'
        exact Nat.ne_of_lt (Heap.lt_size ho)
      · rw [e8]
        intro z
        rcases List.mem_cons.mp (I3.stkSub b z) with e | e
        · exact (hfp b hb').2.1 e
        · exact (hfp b hb').2.2.1 e
      · rw [e6] at hxc
        exact (hfp b hb').2.2.2.2.1 x c (clos_lookup (fun n hn => I.ok.has n (S.fre _ hn rfl)) (fun q => by cases q) hxc)
      · rw [e10] at hp
        cases hp
    have fin : ∀ {σ' : St} {H' : Hp} {s' : Shared}, Inv Xc [] σ' H' s' → Q (.ref s.heap.objs.size) H' → RR (.ref s.heap.objs.size) H2.objs.size (.ok .next) s' := fun {σ' H' s'} J q => by
      have J' : Inv (cxComp X scope (X.N ++ new) H2.objs.size { s with heap := H2 } (upd H s.heap.objs.size (.lst [])) fp) [] σ' H' s' := by rw [hXc]; exact J
      have fr : H' H2.objs.size = none := by have := J'.free; exact this
      refine hRR _ _ s' H' q ?_ (fun h' hs => I3.uncomp (s := { s with heap := H2 }) hfp3 J' hs) ?_ ?_ fr (by rw [← hH2, Heap.size_push]; exact Nat.le_succ _)
      · obtain ⟨m, hn, _⟩ := J'.loc
        exact ⟨m, hn⟩
      · exact Nat.ne_of_gt I3.lt
      · intro x c e z
        obtain ⟨v, o, ho, _⟩ := I3.cell x c e
        rw [z] at ho
        exact absurd (Heap.lt_size ho) (Nat.lt_irrefl _)
    refine codeAny_compLoop_any (fun n s' => ∃ i ys σ' H', Inv Xc [] σ' H' s' ∧ tn i s'.heap ∧ (∀ b ∈ fp, H' b = none) ∧ W i n ys σ' H') ?_ m0 ⟨0, [], _, _, hJ0, T.keep _ _ _ st fun b hb' o e => keep4 b o (keep2 b o e), fun b hb' => (hfp3 b hb').1, w0⟩
    rintro n s3 ⟨i, ys, σ3, H3, J3, st3, fr3, w3⟩
    obtain ⟨hDl, tt⟩ := turn i n ys σ3 H3 w3
    rcases tt with ⟨stop, qn⟩ | ⟨go, Nx, hNx, step⟩
    · have := T.done Xc e1 e2 e3 e5 i [] s3 σ3 H3 (fun _ _ => False) J3 (fpc fr3) st3 stop
      rw [e4] at this
      refine thn this fun r s4 ⟨hr, J4⟩ => ?_
      subst hr
      exact fin J4 qn
    · have := T.item Xc e1 e2 e3 e5 i [] s3 σ3 H3 (fun _ _ => False) J3 (fpc fr3) st3 go
      rw [e4] at this
      refine thn this fun r s4 ⟨u, hr, h4⟩ => ?_
      subst hr
      refine thn h4 fun _ s5 ⟨x, H5, J5, r5, y5, st5, fr5⟩ => ?_
      have J5' := J5.pinned (fpc fr5) (T.obj _ _ st5)
      have q1 := p1 _ s5 σ3 H5 x u _ J5' r5 (step x H5 y5)
      rw [e1, e2, e4, e6, e7] at q1
      refine thn q1 fun _ s6 ⟨σ6, H6, J6, q6⟩ => ?_
      have q2 := p2 _ s6 σ6 H6 _ J6 q6
      rw [e1, e2, e4, e6, e7] at q2
      refine thn q2 fun ok s7 ⟨H7, J7, q7⟩ => ?_
      have again : ∀ {n' : Nat} {ys' : List V} {H8 : Hp} {s8 : Shared}, Inv Xc ([] ++ pinsAt fp s5.heap) σ6 H8 s8 → n' < n → W (i + 1) n' ys' σ6 H8 → ∃ m, m < n ∧ ∃ i ys σ' H', Inv Xc [] σ' H' s8 ∧ tn i s8.heap ∧ (∀ b ∈ fp, H' b = none) ∧ W i m ys σ' H' :=
        fun {n' ys' H8 s8} J8 hn w8 => by
          refine ⟨n', hn, i + 1, ys', σ6, H8, J8.unpinned, T.keep _ _ _ st5 fun b hb' o e => (J8.pin (b, o) (List.mem_append_right _ (List.mem_append_right _ (mem_pinsAt hb' e)))).1, fun b hb' => ?_, w8⟩
          obtain ⟨o, e, d⟩ := T.obj _ _ st5 b hb'
          exact (J8.pin (b, o) (List.mem_append_right _ (List.mem_append_right _ (mem_pinsAt hb' e)))).2.1
      cases ok with
      | false =>
        rw [if_neg (by simp)] at q7 ⊢
        obtain ⟨m', hm, w7⟩ := hNx _ _ _ q7
        exact again J7 hm w7
      | true =>
        rw [if_pos rfl] at q7 ⊢
        have q3 := p3 _ s7 σ6 H7 _ J7 q7
        rw [e1, e2, e4, e6, e7] at q3
        refine thn q3 fun y s8 ⟨v8, H8, J8, r8, hl8, hz8, nx8⟩ => ?_
        obtain ⟨m', hm, w8⟩ := hNx _ _ _ nx8
        have q4 := mt_append (X := Xc) _ s8 σ6 H8 (.ref s.heap.objs.size) [v8] (.ref s.heap.objs.size) [y] (fun _ H9 => H9 = upd H8 s.heap.objs.size (.lst (ys ++ [v8]))) J8 rfl (.cons r8 .nil) ⟨_, ys, v8, rfl, rfl, hl8, hz8, rfl⟩
        rw [e1, e2, e4, e7] at q4
        refine thn q4 fun _ s9 ⟨_, H9, J9, _, e9'⟩ => ?_
        subst e9'
        exact again J9 hm w8
  exact codeAny_compStart_list (loop _ rfl) (T.self _ 0 _ _ _ (T.keep _ _ _ st fun b hb' o e => keep4 b o (keep2 b o e)) (loop _ rfl))
/-- [elt for target in iter if ..] -/
theorem pe_comp {elt target iter : Expr} {ifs : List Expr} {scope : Scope} {pos : Pos} (new : List Str) {wi : TI} {g : TG} {tc : TT} {te : TE} (S : CompSc X scope) (hc : X.calm = true) (hi : PI X target iter wi)
    (hb : ∀ C s3 H3 ex, PG (cxComp X scope (X.N ++ new) C s3 H3 ex) target g ∧ PTs (cxComp X scope (X.N ++ new) C s3 H3 ex) ifs tc ∧ PE (cxComp X scope (X.N ++ new) C s3 H3 ex) elt te)
    (hs : ∀ x, foldedSetIterable iter X.env x = pure x := by intro _; rfl) : PE X (.ListComp elt [⟨target, iter, ifs, 0⟩] scope pos) (tComp (cmask X.N scope) new.length wi g tc te) := by
  intro pins s σ H Q I h
  rw [eval_ListComp]
  have hcl : closureFor scope X.env = pure (clos X.env scope.names []) := closureFor_is fun n hn => I.ok.has n (S.fre _ hn rfl)
  refine wpAny_comprehension_free (use := none) rfl hs hcl S.kind S.locs (thn (hi pins s σ H _ I h) fun v s1 h1 => thn h1 fun itv s2 h2 => ?_)
  obtain ⟨it, fp, tn, J, H2, e, I2, T, st2, f2, q2⟩ := h2
  subst e
  refine comp_block (RR := fun acc C => compPost (model X.prog X.w) X.A X.xe none (EP X pins σ Q) acc C) S hc hb I2 T st2 f2 q2 fun D C s' H' q hn hI _ _ _ _ => ?_
  obtain ⟨m, hm⟩ := hn
  exact ⟨m, hm, fun h' hs' => ⟨.ref D, H', hI h' hs', rfl, q⟩⟩
/-- x = [elt for target in iter if ..], with a plain local name x: stored ahead of the block's end -/
theorem ps_setcomp {i : Nat} {x : Str} {elt target iter : Expr} {ifs : List Expr} {scope : Scope} {pos pos' spos : Pos} {wi : TI} {g : TG} {tc : TT} {te : TE} (hN : X.N.Nodup) (hix : X.N[i]? = some x) (hx : X.env.scope.names.lookup x = some .local) (new : List Str) (S : CompSc X scope) (hc : X.calm = true) (hi : PI X target iter wi)
    (hb : ∀ C s3 H3 ex, PG (cxComp X scope (X.N ++ new) C s3 H3 ex) target g ∧ PTs (cxComp X scope (X.N ++ new) C s3 H3 ex) ifs tc ∧ PE (cxComp X scope (X.N ++ new) C s3 H3 ex) elt te)
    (hsw : swapsWith (.ListComp elt [⟨target, iter, ifs, 0⟩] scope pos) (some (.Name x pos')) spos.line X.env = pure true := by rfl) (hs : ∀ x, foldedSetIterable iter X.env x = pure x := by intro _; rfl) :
    PS X (.Assign [.Name x pos'] (.ListComp elt [⟨target, iter, ifs, 0⟩] scope pos) spos) (tAsg (tComp (cmask X.N scope) new.length wi g tc te) (gName i)) := by
  intro pins s σ H D I h
  rw [exec_Assign_Name_used _ _ _ _ hsw]
  refine wpAny_bind (wpAny_standAt (wpAny_bind ?_))
  show wpAny _ X.A (do let _ ← comprehension (.ListComp elt [⟨target, iter, ifs, 0⟩] scope pos) scope X.env _ (newList []) false (eval iter X.env) (some (assign (.Name x pos') X.env))) _ _ s
  have hcl : closureFor scope X.env = pure (clos X.env scope.names []) := closureFor_is fun n hn => I.ok.has n (S.fre _ hn rfl)
  refine wpAny_bind (wpAny_mono (wpAny_comprehension_free (use := some (assign (.Name x pos') X.env)) (Q := fun _ s' => SP X pins D .next s') rfl hs hcl S.kind S.locs (thn (hi pins s σ H _ I h) fun v s1 h1 => thn h1 fun itv s2 h2 => ?_)) (fun _ s' hq => wpAny_pure (wpAny_pure hq)) fun _ _ e => e)
  obtain ⟨it, fp, tn, J, H2, e, I2, T, st2, f2, q2⟩ := h2
  subst e
  refine comp_block (Q := fun x H1 => gName i x σ H1 D.nx) (RR := fun acc C => compPost (model X.prog X.w) X.A X.xe (some (assign (.Name x pos') X.env)) (fun _ s' => SP X pins D .next s') acc C) S hc hb I2 T st2 f2 q2 fun DD C s' H' q hn hI h1 h2 h3 h4 => ?_
  obtain ⟨m, hm⟩ := hn
  have Is : Inv X pins σ H' s' := hI s'.heap (Heap.SameBut.refl _ _)
  have fp2 := I2.fpOk h4 h3
  show wpAny _ X.A (assign (.Name x pos') X.env (.ref DD)) _ _ _
  refine wpAny_assign_Name (store_ok2 (v := V.ref DD) Is hN hix (Or.inl hx) rfl (fun s'' I'' hsame => ?_) (Or.inr hx))
  obtain ⟨a, hsa, ha⟩ := hsame
  have haC : C ≠ a := by
    rcases ha with z | z
    · rw [z]; exact h1
    · exact fun z2 => h2 _ _ z z2.symm
  refine ⟨m, hm.sameBut hsa haC, fun h' hs' => ⟨_, H', ?_, q⟩⟩
  exact I''.turned (t' := s''.toks) (it := C) (fun b o hb e => hs'.extBut b o hb e) h3 h1 fp2.2.2.2.1 h2 fp2.2.2.2.2.2
end
end L2
/-! Iterators, built-in calls and comparisons over the layer. -/
set_option Elab.async false
set_option maxRecDepth 100000
namespace L2
open PySem PySem.Spec PyProof.Rows
/-! ### several records of an iterator turn; a new object is laid and tracked -/
theorem Inv.turnedL {X : Cx} {pins : List (Addr × Obj)} {σ : St} {H : Hp} {s : Shared} {h' : Heap} {t' : Nat} {ch : List Addr} (I : Inv X pins σ H s) (k : ∀ b o, b ∉ ch → s.heap.get? b = some o → h'.get? b = some o)
    (hf : ∀ b ∈ ch, FpOk X pins H b) : Inv X pins σ H { s with heap := h', toks := t' } := by
  have nit : ∀ b u, H b = some u → b ∉ ch := fun b u e z => by rw [(hf b z).1] at e; cases e
  refine I.step (g' := s.gens) (d' := s.drawn) (ch := ch) (fun b hb => ⟨(hf b hb).2.2.2.1, (hf b hb).2.1, (hf b hb).2.2.2.2.1, (hf b hb).2.2.2.2.2⟩) (fun b o _ _ hc e _ => k b o hc e) (fun b o _ _ hc e _ => ⟨o.slots, k b o hc e⟩) (fun _ _ _ _ n => n)
    (fun b o hc e => ⟨o, k b o hc e⟩) (fun _ _ e => e) (fun _ _ _ e => e) (fun b ps e => ⟨#[], by rw [e]; simp⟩) (fun m hm => ?_) (fun b u e => ?_) I.bare
  · obtain ⟨o, es, ep, ho, r⟩ := hm
    exact ⟨o, es, ep, k _ o (fun z => (hf _ z).2.1 rfl) ho, r⟩
  · refine (I.hok b u e).stay (fun c v hc q => k c v ?_ q) (fun _ q => q) fun _ _ q => q
    rcases hc with z | z
    · rw [z]; exact nit b u e
    · exact nit c _ z
theorem Inv.turnedNew {X : Cx} {pins : List (Addr × Obj)} {σ : St} {H : Hp} {s : Shared} {h' : Heap} {t' : Nat} {ch : List Addr} {a : Addr} {o : HO} (I : Inv X pins σ H s) (k : ∀ b o, b ∉ ch → s.heap.get? b = some o → h'.get? b = some o)
    (hf : ∀ b ∈ ch, FpOk X pins H b) (ha : s.heap.objs.size ≤ a) (new : ObjOk X.prog X.w (upd H a o) h' a o) : Inv X pins σ (upd H a o) { s with heap := h', toks := t' } := by
  have hn : H a = none := I.hok.fresh ha
  have nit : ∀ b u, H b = some u → b ∉ ch := fun b u e z => by rw [(hf b z).1] at e; cases e
  have nea : ∀ b u, H b = some u → b ≠ a := fun b u e => ne_of_none e hn
  have lta : ∀ b ob, s.heap.get? b = some ob → b ≠ a := fun b ob e => Nat.ne_of_lt (Nat.lt_of_lt_of_le (Heap.lt_size e) ha)
  refine I.step (g' := s.gens) (d' := s.drawn) (ch := ch) (fun b hb => ⟨(hf b hb).2.2.2.1, (hf b hb).2.1, (hf b hb).2.2.2.2.1, (hf b hb).2.2.2.2.2⟩) (fun b o _ _ hc e _ => k b o hc e) (fun b o _ _ hc e _ => ⟨o.slots, k b o hc e⟩) (fun b ob _ e n => by rw [upd_ne (lta b ob e)]; exact n)
    (fun b o hc e => ⟨o, k b o hc e⟩) (fun b xs e => by rw [upd_ne (nea b _ e)]; exact e) (fun b ob u e => by rw [upd_ne (nea b _ e)]; exact e) (fun b ps e => ⟨#[], by rw [upd_ne (nea b _ e), e]; simp⟩) (fun m hm => ?_) (fun b u e => ?_) I.bare
  · obtain ⟨o, es, ep, ho, r⟩ := hm
    exact ⟨o, es, ep, k _ o (fun z => (hf _ z).2.1 rfl) ho, r⟩
  · by_cases hb : b = a
    · subst hb
      rw [upd_same] at e
      cases e
      exact new
    · rw [upd_ne hb] at e
      refine (I.hok b u e).stay (fun c v hc q => k c v ?_ q) (fun c q => by rw [upd_ne (nea c _ q)]; exact q) fun c xs q => by rw [upd_ne (nea c _ q)]; exact q
      rcases hc with z | z
      · rw [z]; exact nit b u e
      · exact nit c _ z
/-! ### zip of two lists -/
section
variable {X : Cx}
end
/-! ### the form one uses for a comprehension -/
end L2
/-! Built-in calls and comparisons of lists. -/
set_option Elab.async false
set_option maxRecDepth 100000
namespace L2
open PySem PySem.Spec PyProof.Rows
section
variable {X : Cx}
/-! ### all([..]) of bools -/
/-! ### sorted([..]) of fewer than 64 ints -/
/-! ### range(n) as a value, list(range) -/
def rngV (lo : Int) (n : Nat) : List Int := (List.range n).map fun (i : Nat) => lo + (i : Int)
/-! ### isinstance(x, T), T a built-in type -/
theorem call_isi : CallR X (.builtin "isinstance") (fun xs H Q => ∃ x n t b, xs = [x, .ty n] ∧ TyOf X.K H x t ∧ PySem.W.kitOne X.K t (.type n) = some b ∧ Q (.bl b) H) := by
  intro pins s σ H xs us Q I rv h
  obtain ⟨x, n, t, b, e, ty, hk, q⟩ := h
  subst e
  obtain ⟨u, v, rfl, ru, rv⟩ := Vals.two rv
  cases (show v = Value.type n from rv)
  exact isinst_ok I ru ty hk fun tk => ⟨.bl b, H, I.tok tk, rfl, q⟩
end
/-! ### == and != of lists and tuples -/
inductive EqD (K : PySem.W.Frag) (H : Hp) : Nat → V → V → Bool → Prop
  | flat {d : Nat} {x y : V} : flatV x = true → flatV y = true → EqD K H d x y (eqV x y)
  | len {d : Nat} {a b : Addr} {xs ys : List V} : SqL K H a xs → SqL K H b ys → xs.length ≠ ys.length → EqD K H (d + 1) (.ref a) (.ref b) false
  | lst {d : Nat} {a b : Addr} {xs ys : List V} (e : Nat → Bool) : SqL K H a xs → SqL K H b ys → xs.length = ys.length → (∀ i x y, xs[i]? = some x → ys[i]? = some y → EqD K H d x y (e i)) →
      EqD K H (d + 1) (.ref a) (.ref b) ((List.range xs.length).all e)
  | tup {d : Nat} {a b : Addr} {xs ys : List V} (e : Nat → Bool) : SqT K H a xs → SqT K H b ys → (∀ i x y, xs[i]? = some x → ys[i]? = some y → EqD K H d x y (e i)) →
      EqD K H (d + 1) (.ref a) (.ref b) ((List.range (min xs.length ys.length)).all e && xs.length == ys.length)
theorem eqV_refl {x : V} (h : flatV x = true) : eqV x x = true := by
  cases x <;> simp_all [flatV, eqV]
section
variable {X : Cx} {pins : List (Addr × Obj)} {σ : St} {H : Hp} {s : Shared}
theorem EqD.same (I : Inv X pins σ H s) {d : Nat} {x y : V} {b : Bool} (h : EqD X.K H d x y b) (e : x = y) : b = true := by
  induction h with
  | flat f1 f2 => subst e; exact eqV_refl f1
  | len h1 h2 hn =>
    cases e
    exact absurd (congrArg List.length (I.list_inj h1 h2)) hn
  | lst e' h1 h2 hn hx ih =>
    cases e
    have := I.list_inj h1 h2
    subst this
    rw [List.all_eq_true]
    intro i hi
    have hi' : i < _ := List.mem_range.mp hi
    exact ih i _ _ (List.getElem?_eq_getElem hi') (List.getElem?_eq_getElem hi') rfl
  | tup e' h1 h2 hx ih =>
    cases e
    have := I.tuple_inj h1 h2
    subst this
    rw [Bool.and_eq_true]
    refine ⟨?_, by simp⟩
    rw [List.all_eq_true]
    intro i hi
    have hi' := List.mem_range.mp hi
    rw [Nat.min_self] at hi'
    exact ih i _ _ (List.getElem?_eq_getElem hi') (List.getElem?_eq_getElem hi') rfl
theorem EqD.both (I : Inv X pins σ H s) {d : Nat} {x y : V} {b : Bool} (h : EqD X.K H d x y b) : ∀ {A : Around} {u v : Value}, RelV x u → RelV y v → A.units + d < cLine →
    SeqAt.EqAt A s u v b ∧ ∀ {a c : Addr}, x = .ref a → y = .ref c → SeqAt.RcAt A s u v b ∧ SeqAt.RcNeAt A s u v (!b) := by
  induction h with
  | flat f1 f2 =>
    intro A u v ru rv hu
    exact ⟨eqAt_V ru rv f1 f2, fun e _ => by rw [e] at f1; cases f1⟩
  | @len d a b xs ys h1 h2 hn =>
    intro A u v ru rv hu
    cases (show u = Value.ref a from ru)
    cases (show v = Value.ref b from rv)
    obtain ⟨i1, r1, p1, _⟩ := I.list h1
    obtain ⟨i2, r2, p2, _⟩ := I.list h2
    have l1 := r1.length
    have l2 := r2.length
    have ne : (i1.toArray.size != i2.toArray.size) = true := by simp; omega
    have hne : a ≠ b := fun z => by subst z; exact hn (congrArg List.length (I.list_inj h1 h2))
    have rc := SeqAt.RcAt.lists_lengths (A := A) p1.isList p2.isList ne (by omega)
    exact ⟨.of_refs hne rc, fun _ _ => ⟨rc, SeqAt.RcNeAt.lists_lengths p1.isList p2.isList ne (by omega)⟩⟩
  | @lst d a b xs ys e h1 h2 hn hx ih =>
    intro A u v ru rv hu
    cases (show u = Value.ref a from ru)
    cases (show v = Value.ref b from rv)
    obtain ⟨i1, r1, p1, _⟩ := I.list h1
    obtain ⟨i2, r2, p2, _⟩ := I.list h2
    have l1 := r1.length
    have l2 := r2.length
    have he : ∀ j (h1 : j < i1.toArray.size) (h2 : j < i2.toArray.size), SeqAt.EqAt A.in1 s i1.toArray[j] i2.toArray[j] (e j) := fun j g1 g2 => by
      have g1' : j < i1.length := by simpa using g1
      have g2' : j < i2.length := by simpa using g2
      obtain ⟨u1, e1, q1⟩ := r1.get (i := j) (List.getElem?_eq_getElem (by omega))
      obtain ⟨u2, e2, q2⟩ := r2.get (i := j) (List.getElem?_eq_getElem (by omega))
      rw [List.getElem?_eq_getElem g1'] at e1
      rw [List.getElem?_eq_getElem g2'] at e2
      have z1 : i1.toArray[j] = u1 := by simpa using Option.some.inj e1
      have z2 : i2.toArray[j] = u2 := by simpa using Option.some.inj e2
      rw [z1, z2]
      exact (ih j _ _ (List.getElem?_eq_getElem (by omega)) (List.getElem?_eq_getElem (by omega)) q1 q2 (by rw [Around.in1_units]; omega)).1
    have sz : i1.toArray.size = i2.toArray.size := by simp; omega
    have zl : i1.toArray.size = xs.length := by simp; omega
    have rc := SeqAt.RcAt.lists (A := A) p1.isList p2.isList sz (by omega) he
    have rn := SeqAt.RcNeAt.lists (A := A) p1.isList p2.isList sz (by omega) he
    rw [zl] at rc rn
    refine ⟨?_, fun _ _ => ⟨rc, rn⟩⟩
    by_cases hne : a = b
    · subst hne
      have := EqD.same I (EqD.lst e h1 h2 hn hx) rfl
      rw [this]
      exact SeqAt.EqAt.same _
    · exact .of_refs hne rc
  | @tup d a b xs ys e h1 h2 hx ih =>
    intro A u v ru rv hu
    cases (show u = Value.ref a from ru)
    cases (show v = Value.ref b from rv)
    obtain ⟨i1, r1, p1, _⟩ := I.tuple h1
    obtain ⟨i2, r2, p2, _⟩ := I.tuple h2
    have l1 := r1.length
    have l2 := r2.length
    have he : ∀ j (h1 : j < i1.toArray.size) (h2 : j < i2.toArray.size), SeqAt.EqAt A.in1 s i1.toArray[j] i2.toArray[j] (e j) := fun j g1 g2 => by
      have g1' : j < i1.length := by simpa using g1
      have g2' : j < i2.length := by simpa using g2
      obtain ⟨u1, e1, q1⟩ := r1.get (i := j) (List.getElem?_eq_getElem (by omega))
      obtain ⟨u2, e2, q2⟩ := r2.get (i := j) (List.getElem?_eq_getElem (by omega))
      rw [List.getElem?_eq_getElem g1'] at e1
      rw [List.getElem?_eq_getElem g2'] at e2
      have z1 : i1.toArray[j] = u1 := by simpa using Option.some.inj e1
      have z2 : i2.toArray[j] = u2 := by simpa using Option.some.inj e2
      rw [z1, z2]
      exact (ih j _ _ (List.getElem?_eq_getElem (by omega)) (List.getElem?_eq_getElem (by omega)) q1 q2 (by rw [Around.in1_units]; omega)).1
    have zl : i1.toArray.size = xs.length := by simp; omega
    have zl2 : i2.toArray.size = ys.length := by simp; omega
    have rc := SeqAt.RcAt.tuples (A := A) (show s.heap.IsTuple a i1.toArray from p1) (show s.heap.IsTuple b i2.toArray from p2) (by omega) he
    have rn := SeqAt.RcNeAt.tuples (A := A) (show s.heap.IsTuple a i1.toArray from p1) (show s.heap.IsTuple b i2.toArray from p2) (by omega) he
    rw [zl, zl2] at rc rn
    refine ⟨?_, fun _ _ => ⟨rc, rn⟩⟩
    by_cases hne : a = b
    · subst hne
      have := EqD.same I (EqD.tup e h1 h2 hx) rfl
      rw [this]
      exact SeqAt.EqAt.same _
    · exact .of_refs hne rc
end
def rEqD (K : PySem.W.Frag) : R2 := fun x y H Q => ∃ a c b, x = .ref a ∧ y = .ref c ∧ EqD K H 4 x y b ∧ Q (.bl b) H
def rNeD (K : PySem.W.Frag) : R2 := fun x y H Q => ∃ a c b, x = .ref a ∧ y = .ref c ∧ EqD K H 4 x y b ∧ Q (.bl (!b)) H
section
variable {X : Cx}
theorem op_eqD {k : Nat} (hr : Room k X.A) : OpR X (compareOp .Eq) (rEqD X.K) := by
  intro pins s σ H x y v u Q I rx ry h
  obtain ⟨a, c, b, e1, e2, h, q⟩ := h
  have := hr.units
  exact ((h.both I rx ry (by omega)).2 e1 e2).1 _ _ _ _ ⟨.bl b, H, I, rfl, q⟩
theorem op_neD {k : Nat} (hr : Room k X.A) : OpR X (compareOp .NotEq) (rNeD X.K) := by
  intro pins s σ H x y v u Q I rx ry h
  obtain ⟨a, c, b, e1, e2, h, q⟩ := h
  have := hr.units
  exact ((h.both I rx ry (by omega)).2 e1 e2).2 _ _ _ _ ⟨.bl (!b), H, I, rfl, q⟩
end
/-! ### the forms one uses -/
theorem EqD.mono {K : PySem.W.Frag} {H : Hp} {d : Nat} {x y : V} {b : Bool} (h : EqD K H d x y b) : ∀ {d'}, d ≤ d' → EqD K H d' x y b := by
  induction h with
  | flat f1 f2 => intro d' _; exact .flat f1 f2
  | len h1 h2 hn => intro d' hd; cases d' with
    | zero => omega
    | succ d' => exact .len h1 h2 hn
  | lst e h1 h2 hn hx ih => intro d' hd; cases d' with
    | zero => omega
    | succ d' => exact .lst e h1 h2 hn fun i x y q1 q2 => ih i x y q1 q2 (by omega)
  | tup e h1 h2 hx ih => intro d' hd; cases d' with
    | zero => omega
    | succ d' => exact .tup e h1 h2 fun i x y q1 q2 => ih i x y q1 q2 (by omega)
theorem EqD.nil {K : PySem.W.Frag} {H : Hp} {a b : Addr} {xs : List V} (h1 : SqL K H a xs) (h2 : SqL K H b []) : EqD K H 4 (.ref a) (.ref b) xs.isEmpty := by
  cases xs with
  | nil => exact .lst (fun _ => true) h1 h2 rfl fun i x y q _ => by simp at q
  | cons x r => exact .len h1 h2 (by simp)
theorem all_range_eq {α : Type} [DecidableEq α] : ∀ (xs ys : List α), xs.length = ys.length → (List.range xs.length).all (fun i => decide (xs[i]? = ys[i]?)) = decide (xs = ys)
  | [], [], _ => by simp
  | [], _ :: _, h => by simp at h
  | _ :: _, [], h => by simp at h
  | x :: r, y :: t, h => by
    rw [List.length_cons, List.range_succ_eq_map, List.all_cons, List.all_map]
    have e : ((fun i => decide ((x :: r)[i]? = (y :: t)[i]?)) ∘ Nat.succ) = fun i => decide (r[i]? = t[i]?) := by funext i; simp
    rw [e, all_range_eq r t (by simpa using h)]
    by_cases h1 : x = y <;> by_cases h2 : r = t <;> simp [h1, h2]
theorem EqD.ints {K : PySem.W.Frag} {H : Hp} {a b : Addr} {ns ms : List Int} (h1 : SqL K H a (ns.map V.int)) (h2 : SqL K H b (ms.map V.int)) : EqD K H 1 (.ref a) (.ref b) (decide (ns = ms)) := by
  by_cases hl : ns.length = ms.length
  · rw [← all_range_eq ns ms hl]
    have q := EqD.lst (K := K) (H := H) (d := 0) (fun i => decide (ns[i]? = ms[i]?)) h1 h2 (by simpa using hl) fun i x y q1 q2 => by
      rw [List.getElem?_map] at q1 q2
      cases e1 : ns[i]? with
      | none => rw [e1] at q1; cases q1
      | some n =>
        cases e2 : ms[i]? with
        | none => rw [e2] at q2; cases q2
        | some m =>
          rw [e1] at q1
          rw [e2] at q2
          cases q1
          cases q2
          have : decide (some n = some m) = eqV (.int n) (.int m) := by
            simp only [Option.some.injEq, eqV]
            exact (Bool.beq_eq_decide_eq n m).symm
          rw [this]
          exact .flat rfl rfl
    rw [List.length_map] at q
    exact q
  · have e : decide (ns = ms) = false := decide_eq_false fun z => hl (by rw [z])
    rw [e]
    exact .len h1 h2 (by simpa using hl)
end L2
/-! Promises of defs by name; lists of ints and lines; the comprehensions that one meets. -/
set_option Elab.async false
set_option maxRecDepth 100000
namespace L2
open PySem PySem.Spec PyProof.Rows
/-! ### the block's scope, reckoned -/
def compOkB (a b : List (Str × NameKind)) : Bool := a.all fun y => y.2 != .cell && (y.2 != .local || a.lookup y.1 == some .local) && (y.2 != .free || (b.lookup y.1 == some .cell || b.lookup y.1 == some .free))
theorem CompSc.of {X : Cx} {scope : Scope} (h1 : scope.kind = .function) (h2 : compOkB scope.names X.env.scope.names = true) : CompSc X scope := by
  unfold compOkB at h2
  rw [List.all_eq_true] at h2
  refine ⟨h1, fun y hy => ?_, fun y hy e => ?_, fun y hy e => ?_⟩
  · have := h2 y hy
    simp only [Bool.and_eq_true] at this
    simpa using this.1.1
  · have := h2 y hy
    simp only [Bool.and_eq_true, e] at this
    simpa using this.1.2
  · have := h2 y hy
    simp only [Bool.and_eq_true, e] at this
    simpa [Env.kindOf] using this.2
/-! ### a def's promise, by its name -/
structure Has (P : Program) (w : World) (K : PySem.W.Frag) (mg : Str → Option Value) (base : Heap) (CX : CXT) (k : Nat) (x : Str) (ps : List Str) (sp : Sp) : Prop where
  ex : ∃ (f : Addr) (fd : FuncData), FnOk P w K mg base CX k f fd ps sp ∧ mg x = some (.ref f) ∧ PySem.W.keepIn K (.ref f) = true ∧ Binds K fd ps []
structure Fn (K : PySem.W.Frag) (mg : Str → Option Value) (x : Str) (st : Stmt) (ps : List Str) : Prop where
  ex : ∃ (f : Addr) (fd : FuncData), Fun K x x st f fd ∧ mg x = some (.ref f) ∧ Binds K fd ps []
section
variable {P : Program} {w : World} {K : PySem.W.Frag} {mg : Str → Option Value} {base : Heap}
theorem Fn.has {x : Str} {st : Stmt} {N ps : List Str} {k : Nat} {sp : Sp} (F : Fn K mg x st ps) (S : FnScope N ps (defScope st)) (len : ∀ vs H Q E, sp vs H Q E → vs.length = ps.length)
    (hbody : ∀ (f : Addr) (cdv : Value) (A : Around) (outer : List Env) (s : Shared) (H : Hp) (vs : List V) (Q : VK) (E : XK), Room k (A.deeper (envOfC x (defScope st) s.heap.objs.size f cdv)) → sp vs H Q E →
      ∃ t, PSs (cxOf CX0 P w K mg base N x (defScope st) f cdv A outer s H E).nox (defBody st) t ∧ t { nx := fun _ H' => Q .non H', rt := Q } (start N vs) H) : Has P w K mg base CX0 (k + 1) x ps sp :=
  let ⟨f, fd, a, b, c⟩ := F.ex; ⟨f, fd, a.ok S len (hbody f), b, a.kp, c⟩
theorem pe_callH {X : Cx} {CX : CXT} {k : Nat} {x : Str} {ps : List Str} {sp : Sp} {E : XK} {p pos : Pos} {e : Expr} {es : List Expr} {t : TA} (h : Has X.prog X.w X.K X.mg X.base CX k x ps sp) (hr : Room k X.A) (hg : Gl X x) (hx : Passes CX X E) (ha : PA X (e :: es) t)
    (hdb : (x == ("__debug__" : Str)) = false := by decide) (he : starEach (e :: es) X.env = (false, eval e X.env) :: starEach es X.env := by rfl) (hpl : (backTo pos (starEach es X.env)).any (·.1) = false := by rfl) :
    PE X (.Call (.Name x p) (e :: es) [] pos) (tCall sp [] E t) := by
  obtain ⟨f, fd, a, b, c, d⟩ := h.ex
  exact pe_call a hr hg b c d .nil hx ha hdb he hpl
end
/-! ### lists of ints, lines -/
/-- a list of ints stands at a -/
def IsI (H : Hp) (a : Addr) (ns : List Int) : Prop := H a = some (.lst (ns.map V.int))
/-- the lists at as, one by one -/
inductive Lns (H : Hp) : List Addr → List (List Int) → Prop
  | nil : Lns H [] []
  | cons {a : Addr} {as : List Addr} {r : List Int} {T : List (List Int)} : IsI H a r → Lns H as T → Lns H (a :: as) (r :: T)
/-- lines stand at a, their lists at as -/
structure IsLn (H : Hp) (a : Addr) (as : List Addr) (T : List (List Int)) : Prop where
  top : H a = some (.lst (as.map V.ref))
  lns : Lns H as T
theorem IsI.mono {H H' : Hp} {a : Addr} {ns : List Int} (h : IsI H a ns) (s : Same H H') : IsI H' a ns := s _ _ h
theorem Lns.mono {H H' : Hp} (s : Same H H') : ∀ {as : List Addr} {T : List (List Int)}, Lns H as T → Lns H' as T
  | _, _, .nil => .nil
  | _, _, .cons h t => .cons (h.mono s) (t.mono s)
theorem IsLn.mono {H H' : Hp} {a : Addr} {as : List Addr} {T : List (List Int)} (h : IsLn H a as T) (s : Same H H') : IsLn H' a as T := ⟨s _ _ h.top, h.lns.mono s⟩
theorem Lns.length {H : Hp} : ∀ {as : List Addr} {T : List (List Int)}, Lns H as T → as.length = T.length
  | _, _, .nil => rfl
  | _, _, .cons _ t => by simp [t.length]
theorem Lns.get {H : Hp} : ∀ {as : List Addr} {T : List (List Int)} {i : Nat} {a : Addr}, Lns H as T → as[i]? = some a → ∃ r, T[i]? = some r ∧ IsI H a r
  | _, _, _, _, .nil, h => by simp at h
  | _, _, 0, _, .cons h _, e => by simp at e; subst e; exact ⟨_, rfl, h⟩
  | _, _, i + 1, _, .cons _ t, e => by
    obtain ⟨r, h1, h2⟩ := t.get (i := i) (by simpa using e)
    exact ⟨r, by simpa using h1, h2⟩
theorem Lns.getT {H : Hp} {as : List Addr} {T : List (List Int)} {i : Nat} {r : List Int} (h : Lns H as T) (e : T[i]? = some r) : ∃ a, as[i]? = some a ∧ IsI H a r := by
  have hi : i < T.length := (List.getElem?_eq_some_iff.mp e).1
  have hi' : i < as.length := by rw [h.length]; exact hi
  obtain ⟨r', h1, h2⟩ := h.get (List.getElem?_eq_getElem hi')
  rw [e] at h1
  cases h1
  exact ⟨_, List.getElem?_eq_getElem hi', h2⟩
theorem Lns.append {H : Hp} : ∀ {as bs : List Addr} {T U : List (List Int)}, Lns H as T → Lns H bs U → Lns H (as ++ bs) (T ++ U)
  | _, _, _, _, .nil, h => h
  | _, _, _, _, .cons h t, h' => .cons h (t.append h')
theorem Lns.mem {H : Hp} {as : List Addr} {T : List (List Int)} (h : Lns H as T) {a : Addr} (ha : a ∈ as) : ∃ r, r ∈ T ∧ IsI H a r := by
  obtain ⟨i, hi, e⟩ := List.getElem_of_mem ha
  obtain ⟨r, h1, h2⟩ := h.get (i := i) (a := a) (by rw [List.getElem?_eq_getElem hi, e])
  exact ⟨r, List.mem_of_getElem? h1, h2⟩
theorem IsI.sq {K : PySem.W.Frag} {H : Hp} {a : Addr} {ns : List Int} (h : IsI H a ns) : SqL K H a (ns.map V.int) := SqL.of h
theorem IsLn.sq {K : PySem.W.Frag} {H : Hp} {a : Addr} {as : List Addr} {T : List (List Int)} (h : IsLn H a as T) : SqL K H a (as.map V.ref) := SqL.of h.top
/-- lines of their own: nobody else's, each once -/
def New (H : Hp) (as : List Addr) : Prop := as.Nodup ∧ ∀ a ∈ as, H a = none
theorem Same.put {H : Hp} {p : Addr} {o : HO} (h : H p = none) : Same H (upd H p o) := fun b u e => by rw [upd_ne (ne_of_none e h)]; exact e
theorem Same.put' {H H' : Hp} {p : Addr} {o : HO} (s : Same H H') (h : H p = none) : Same H (upd H' p o) := fun b u e => by rw [upd_ne (ne_of_none e h)]; exact s b u e
/-- the lines of two lists of lines are the same, or not -/
theorem EqD.lines {K : PySem.W.Frag} {H : Hp} {a b : Addr} {as bs : List Addr} {T U : List (List Int)} (h1 : IsLn H a as T) (h2 : IsLn H b bs U) : EqD K H 2 (.ref a) (.ref b) (decide (T = U)) := by
  have l1 := h1.lns.length
  have l2 := h2.lns.length
  by_cases hl : T.length = U.length
  · rw [← all_range_eq T U hl]
    have q := EqD.lst (K := K) (H := H) (d := 1) (fun i => decide (T[i]? = U[i]?)) h1.sq h2.sq (by simp; omega) fun i x y q1 q2 => by
      rw [List.getElem?_map] at q1 q2
      cases e1 : as[i]? with
      | none => rw [e1] at q1; cases q1
      | some n =>
        cases e2 : bs[i]? with
        | none => rw [e2] at q2; cases q2
        | some m =>
          rw [e1] at q1
          rw [e2] at q2
          cases q1
          cases q2
          obtain ⟨r1, t1, i1⟩ := h1.lns.get e1
          obtain ⟨r2, t2, i2⟩ := h2.lns.get e2
          rw [t1, t2]
          have : decide (some r1 = some r2) = decide (r1 = r2) := by simp
          rw [this]
          exact EqD.ints i1.sq i2.sq
    rw [List.length_map, l1] at q
    exact q
  · have e : decide (T = U) = false := decide_eq_false fun z => hl (by rw [z])
    rw [e]
    exact .len h1.sq h2.sq (by simp; omega)
/-! ### comprehensions over a list, one name -/
theorem set_slot {σ0 σ : St} {j : Nat} {v : Option V} (h : σ = σ0 ∨ ∃ u, σ = σ0.set j u) : σ.set j v = σ0.set j v := by
  rcases h with e | ⟨u, e⟩
  · rw [e]
  · rw [e, List.set_set]
theorem comp_list {K : PySem.W.Frag} {a D : Addr} {xs : List V} {j : Nat} {tc : TT} {te : TE} {σ0 : St} {H0 : Hp} {Q : Hp → Prop} (Pv : Nat → List V → Hp → Prop) (h0 : Pv 0 [] H0)
    (hD : ∀ i ys H, i ≤ xs.length → Pv i ys H → H D = some (.lst ys) ∧ SqL K H a xs)
    (hs : ∀ i x ys H, xs[i]? = some x → Pv i ys H → tc (σ0.set j (some x)) H fun b H3 => if b = true then te (σ0.set j (some x)) H3 fun y H4 => H4 D = some (.lst ys) ∧ ys.length < sizeLine ∧ Pv (i + 1) (ys ++ [y]) (upd H4 D (.lst (ys ++ [y]))) else Pv (i + 1) ys H3)
    (hend : ∀ ys H, Pv xs.length ys H → Q H) :
    ∃ W : Nat → Nat → List V → St → Hp → Prop, (∃ m, W 0 m [] σ0 H0) ∧ ∀ i m ys σc Hc, W i m ys σc Hc → Hc D = some (.lst ys) ∧
      (((Itl K a).stop i Hc ∧ Q Hc) ∨ ((Itl K a).go i Hc ∧ ∃ Nx : List V → St → Hp → Prop, (∀ ys' σ' H', Nx ys' σ' H' → ∃ m', m' < m ∧ W (i + 1) m' ys' σ' H') ∧ ∀ x H', (Itl K a).yld i Hc x H' → gName j x σc H' fun σ2 H2 => tc σ2 H2 fun b H3 =>
        if b = true then te σ2 H3 fun y H4 => H4 D = some (.lst ys) ∧ ys.length < sizeLine ∧ Nx (ys ++ [y]) σ2 (upd H4 D (.lst (ys ++ [y])))
        else Nx ys σ2 H3)) := by
  refine ⟨fun i m ys σ H => m = xs.length - i ∧ i ≤ xs.length ∧ (σ = σ0 ∨ ∃ u, σ = σ0.set j u) ∧ Pv i ys H, ⟨xs.length, by simp, Nat.zero_le _, .inl rfl, h0⟩, ?_⟩
  rintro i m ys σ H ⟨rfl, hi, hσ, p⟩
  obtain ⟨d1, d2⟩ := hD i ys H hi p
  refine ⟨d1, ?_⟩
  by_cases hlt : i < xs.length
  · refine .inr ⟨⟨xs, xs[i], d2, List.getElem?_eq_getElem hlt⟩, fun ys' σ' H' => (σ' = σ0 ∨ ∃ u, σ' = σ0.set j u) ∧ Pv (i + 1) ys' H', fun ys' σ' H' q => ⟨_, by omega, rfl, hlt, q⟩, ?_⟩
    rintro x H' ⟨rfl, hx⟩
    have hx := hx xs d2
    unfold gName
    rw [set_slot hσ]
    have q := hs i x ys _ hx p
    have key : ((σ0.set j (some x)) = σ0 ∨ ∃ u, (σ0.set j (some x)) = σ0.set j u) = True := eq_true (.inr ⟨_, rfl⟩)
    simp only [key, true_and]
    exact q
  · have e : i = xs.length := by omega
    subst e
    exact .inl ⟨⟨xs, d2, Nat.le_refl _⟩, hend ys H p⟩
/-- each item a value that does not hang on the heap; the heap may grow -/
theorem comp_vals {K : PySem.W.Frag} {a D : Addr} {xs : List V} {j : Nat} {tc : TT} {te : TE} {σ0 : St} {H1 : Hp} {Q : Hp → Prop} (p : V → Bool) (f : V → V) (hz : xs.length ≤ sizeLine) (hq : SqL K H1 a xs) (hfr : H1 D = none)
    (ht : ∀ x H R, x ∈ xs → Same H1 H → (∀ H', Same H H' → R (p x) H') → tc (σ0.set j (some x)) H R)
    (he : ∀ x H R, x ∈ xs → p x = true → Same H1 H → (∀ H', Same H H' → R (f x) H') → te (σ0.set j (some x)) H R)
    (hend : ∀ H, Same H1 H → H D = some (.lst ((xs.filter p).map f)) → Q H) :
    ∃ W : Nat → Nat → List V → St → Hp → Prop, (∃ m, W 0 m [] σ0 (upd H1 D (.lst []))) ∧ ∀ i m ys σc Hc, W i m ys σc Hc → Hc D = some (.lst ys) ∧
      (((Itl K a).stop i Hc ∧ Q Hc) ∨ ((Itl K a).go i Hc ∧ ∃ Nx : List V → St → Hp → Prop, (∀ ys' σ' H', Nx ys' σ' H' → ∃ m', m' < m ∧ W (i + 1) m' ys' σ' H') ∧ ∀ x H', (Itl K a).yld i Hc x H' → gName j x σc H' fun σ2 H2 => tc σ2 H2 fun b H3 =>
        if b = true then te σ2 H3 fun y H4 => H4 D = some (.lst ys) ∧ ys.length < sizeLine ∧ Nx (ys ++ [y]) σ2 (upd H4 D (.lst (ys ++ [y])))
        else Nx ys σ2 H3)) := by
  refine comp_list (fun i ys H => Same H1 H ∧ H D = some (.lst ys) ∧ ys = ((xs.take i).filter p).map f) ⟨Same.put hfr, upd_same, by simp⟩ (fun i ys H _ ⟨s, d, _⟩ => ⟨d, s.seq hq⟩) (fun i x ys H hx ⟨s, d, e⟩ => ?_) fun ys H ⟨s, d, e⟩ => ?_
  · have hm := List.mem_of_getElem? hx
    refine ht x H _ hm s fun H3 s3 => ?_
    have e' := take_succ_filter p xs i x hx
    cases hp : p x with
    | true =>
      rw [if_pos rfl]
      refine he x H3 _ hm hp (s.trans s3) fun H4 s4 => ⟨s4 _ _ (s3 _ _ d), ?_, ?_, upd_same, ?_⟩
      · rw [e, List.length_map]
        have h1 : ((xs.take i).filter p).length ≤ (xs.take i).length := List.length_filter_le _ _
        have h2 : i < xs.length := (List.getElem?_eq_some_iff.mp hx).1
        rw [List.length_take] at h1
        omega
      · exact Same.put' ((s.trans s3).trans s4) hfr
      · rw [e', hp, e]; simp
    | false =>
      rw [if_neg (by simp)]
      exact ⟨s.trans s3, s3 _ _ d, by rw [e', hp, e]; simp⟩
  · rw [List.take_length] at e
    exact hend H s (by rw [d, e])
end L2
/-! The rules whose reading names the written part, with that part given. -/
set_option Elab.async false
set_option maxRecDepth 100000
namespace L2
open PySem PySem.Spec PyProof.Rows
section
variable {X : Cx} (K : PySem.W.Frag)
theorem pgK_tup {es : List Expr} {k : Nat} {pos : Pos} {t : TGs} {n : Nat} (hc : X.calm = true) (h : PGs X es t) (hK : X.K = K := by rfl)
    (hn : (assignEach es X.env).length = n := by rfl) (hst : (assignEach es X.env).findIdx? (·.1) = none := by rfl) : PG X (.Tuple es k pos) (gTup K n t) := hK ▸ pg_tup hc h hn hst
theorem ixK_list (hK : X.K = K := by rfl) : IxR X (rIxL K) := hK ▸ ix_list
theorem ixK_tup (hK : X.K = K := by rfl) : IxR X (rIxT K) := hK ▸ ix_tup
theorem slK_list (hK : X.K = K := by rfl) : SlR X (rSlL K) := hK ▸ sl_list
theorem piK_list {tg l : Expr} {tl : TE} (hl : PE X l tl) (hK : X.K = K := by rfl) : PI X tg l (iList K tl) := hK ▸ pi_list hl
theorem callK_len (hK : X.K = K := by rfl) : CallR X (.builtin "len") (fun xs H Q => ∃ p ys, xs = [.ref p] ∧ (SqL K H p ys ∨ SqT K H p ys) ∧ Q (.int ys.length) H) := hK ▸ call_len_seq
theorem callK_list (hK : X.K = K := by rfl) : CallR X (.type "list") (fun xs H Q => ∃ p ys, xs = [.ref p] ∧ (SqL K H p ys ∨ SqT K H p ys) ∧ ∀ l, H l = none → Q (.ref l) (upd H l (.lst ys))) := hK ▸ call_list_of
theorem callK_isi (hK : X.K = K := by rfl) : CallR X (.builtin "isinstance") (fun xs H Q => ∃ x n t b, xs = [x, .ty n] ∧ TyOf K H x t ∧ PySem.W.kitOne K t (.type n) = some b ∧ Q (.bl b) H) := hK ▸ call_isi
theorem opK_eq {k : Nat} (hr : Room k X.A) (hK : X.K = K := by rfl) : OpR X (compareOp .Eq) (rEqD K) := hK ▸ op_eqD hr
theorem opK_ne {k : Nat} (hr : Room k X.A) (hK : X.K = K := by rfl) : OpR X (compareOp .NotEq) (rNeD K) := hK ▸ op_neD hr
end
end L2
/-! More forms: zip, ranges, slices; rows off the heap. -/
set_option Elab.async false
set_option maxRecDepth 100000
namespace L2
open PySem PySem.Spec PyProof.Rows
/-! ### slices -/
theorem cut_from (xs : List V) (k : Nat) : cutV xs (some (k : Int)) none = xs.drop k := by
  unfold cutV
  rw [HT.sIx_nat, HT.sIx_none]
  by_cases h : k ≤ xs.length
  · rw [Nat.min_eq_left h, List.take_of_length_le (by simp)]
  · rw [Nat.min_eq_right (by omega), List.drop_length, List.drop_of_length_le (by omega)]
    simp
theorem cut_to (xs : List V) (k : Nat) : cutV xs none (some (k : Int)) = xs.take k := by
  unfold cutV
  rw [HT.sIx_nat, HT.sIx_none]
  simp only [List.drop_zero, Nat.sub_zero]
  by_cases h : k ≤ xs.length
  · rw [Nat.min_eq_left h]
  · rw [Nat.min_eq_right (by omega), List.take_of_length_le (Nat.le_refl _), List.take_of_length_le (by omega)]
theorem cut_mid (xs : List V) (i j : Nat) : cutV xs (some (i : Int)) (some (j : Int)) = (xs.drop i).take (j - i) := by
  unfold cutV
  rw [HT.sIx_nat, HT.sIx_nat]
  by_cases h : i ≤ xs.length
  · rw [Nat.min_eq_left h]
    by_cases h2 : j ≤ xs.length
    · rw [Nat.min_eq_left h2]
    · rw [Nat.min_eq_right (by omega), List.take_of_length_le (by simp), List.take_of_length_le (by simp; omega)]
  · have e : min i xs.length = xs.length := Nat.min_eq_right (by omega)
    rw [e, List.drop_length, List.drop_of_length_le (by omega)]
    simp
/-! ### rows off the heap -/
def intOf : V → Int
  | .int n => n
  | _ => 0
theorem small_line {n : Nat} (h : n ≤ 1000) : n ≤ sizeLine := Nat.le_of_lt (small1000 h)
/-! ### promises of common kinds -/
end L2
/-! list(reversed(xs)). -/
set_option Elab.async false
set_option maxRecDepth 100000
namespace L2
open PySem PySem.Spec PyProof.Rows
section
variable {prog : Program} {w : World} {A : Around} {s : Shared} {R : Result → Shared → Prop}
end
section
variable {prog : Program} {w : World} {A : Around} {E : Value → Shared → Prop} {s : Shared}
end
section
variable {X : Cx} (K : PySem.W.Frag)
end
end L2
/-! More comprehensions: over a range, over lines into new lines. -/
set_option Elab.async false
set_option maxRecDepth 100000
namespace L2
open PySem PySem.Spec PyProof.Rows
theorem comp_range {lo : Int} {n : Nat} {D : Addr} {j : Nat} {tc : TT} {te : TE} {σ0 : St} {H1 : Hp} {Q : Hp → Prop} (f : Int → V) (hz : n ≤ sizeLine) (hfr : H1 D = none)
    (ht : ∀ (i : Nat) H R, i < n → Same H1 H → (∀ H', Same H H' → R true H') → tc (σ0.set j (some (.int (lo + i)))) H R)
    (he : ∀ (i : Nat) H R, i < n → Same H1 H → (∀ H', Same H H' → R (f (lo + i)) H') → te (σ0.set j (some (.int (lo + i)))) H R)
    (hend : ∀ H, Same H1 H → H D = some (.lst ((rngV lo n).map f)) → Q H) :
    ∃ W : Nat → Nat → List V → St → Hp → Prop, (∃ m, W 0 m [] σ0 (upd H1 D (.lst []))) ∧ ∀ i m ys σc Hc, W i m ys σc Hc → Hc D = some (.lst ys) ∧
      (((Itr lo n).stop i Hc ∧ Q Hc) ∨ ((Itr lo n).go i Hc ∧ ∃ Nx : List V → St → Hp → Prop, (∀ ys' σ' H', Nx ys' σ' H' → ∃ m', m' < m ∧ W (i + 1) m' ys' σ' H') ∧ ∀ x H', (Itr lo n).yld i Hc x H' → gName j x σc H' fun σ2 H2 => tc σ2 H2 fun b H3 =>
        if b = true then te σ2 H3 fun y H4 => H4 D = some (.lst ys) ∧ ys.length < sizeLine ∧ Nx (ys ++ [y]) σ2 (upd H4 D (.lst (ys ++ [y])))
        else Nx ys σ2 H3)) := by
  refine ⟨fun i m ys σ H => m = n - i ∧ i ≤ n ∧ (σ = σ0 ∨ ∃ u, σ = σ0.set j u) ∧ Same H1 H ∧ H D = some (.lst ys) ∧ ys = (rngV lo i).map f, ⟨n, by simp, Nat.zero_le _, .inl rfl, Same.put hfr, upd_same, rfl⟩, ?_⟩
  rintro i m ys σ H ⟨rfl, hi, hσ, s, d, e⟩
  refine ⟨d, ?_⟩
  by_cases hlt : i < n
  · refine .inr ⟨hlt, fun ys' σ' H' => (σ' = σ0 ∨ ∃ u, σ' = σ0.set j u) ∧ Same H1 H' ∧ H' D = some (.lst ys') ∧ ys' = (rngV lo (i + 1)).map f, fun ys' σ' H' q => ⟨_, by omega, rfl, hlt, q⟩, ?_⟩
    rintro x H' ⟨rfl, rfl⟩
    unfold gName
    rw [set_slot hσ]
    have key : ((σ0.set j (some (V.int (lo + i)))) = σ0 ∨ ∃ u, (σ0.set j (some (V.int (lo + i)))) = σ0.set j u) = True := eq_true (.inr ⟨_, rfl⟩)
    simp only [key, true_and]
    refine ht i _ _ hlt s fun H3 s3 => ?_
    simp only [if_true]
    refine he i _ _ hlt (s.trans s3) fun H4 s4 => ⟨s4 _ _ (s3 _ _ d), ?_, Same.put' ((s.trans s3).trans s4) hfr, upd_same, ?_⟩
    · rw [e]; simp [rngV]; omega
    · rw [e]; unfold rngV; rw [List.range_succ]; simp
  · have ei : i = n := by omega
    subst ei
    exact .inl ⟨Nat.le_refl _, hend H s (by rw [d, e])⟩
theorem iteN {c A B : Prop} [Decidable c] (hc : ¬ c) (h : B) : if c then A else B := by rw [if_neg hc]; exact h
theorem iteY {c A B : Prop} [Decidable c] (hc : c) (h : A) : if c then A else B := by rw [if_pos hc]; exact h
/-- a test by what comes of it -/
theorem if_via {c : TT} {t u : TS} {D : Ends} {σ : St} {H : Hp} (Z : Bool → Hp → Prop) (h1 : ∀ R : Bool → Hp → Prop, (∀ b H', Z b H' → R b H') → c σ H R) (h2 : ∀ b H', Z b H' → if b = true then t D σ H' else u D σ H') : tIfS c t u D σ H := h1 _ h2
theorem nxt {D : Ends} {σ : St} {H : Hp} (h : D.nx σ H) : tNext D σ H := h
theorem pa_Name {X : Cx} {x : Str} {p : Pos} {es : List Expr} {te : TE} {t : TA} (ha : PE X (.Name x p) te) (hr : PA X es t) : PA X (.Name x p :: es) (tCons te t) := pa_cons ha hr rfl
theorem pa_Constant {X : Cx} {c : Const} {k : Nat} {p : Pos} {es : List Expr} {te : TE} {t : TA} (ha : PE X (.Constant c k p) te) (hr : PA X es t) : PA X (.Constant c k p :: es) (tCons te t) := pa_cons ha hr rfl
theorem pa_List {X : Cx} {xs : List Expr} {p : Pos} {es : List Expr} {te : TE} {t : TA} (ha : PE X (.List xs p) te) (hr : PA X es t) : PA X (.List xs p :: es) (tCons te t) := pa_cons ha hr rfl
theorem pa_Call {X : Cx} {f : Expr} {a : List Expr} {k : List Keyword} {p : Pos} {es : List Expr} {te : TE} {t : TA} (ha : PE X (.Call f a k p) te) (hr : PA X es t) : PA X (.Call f a k p :: es) (tCons te t) := pa_cons ha hr rfl
theorem pa_BinOp {X : Cx} {a : Expr} {o : Operator} {b : Expr} {p : Pos} {es : List Expr} {te : TE} {t : TA} (ha : PE X (.BinOp a o b p) te) (hr : PA X es t) : PA X (.BinOp a o b p :: es) (tCons te t) := pa_cons ha hr rfl
theorem pa_Subscript {X : Cx} {a b : Expr} {p : Pos} {es : List Expr} {te : TE} {t : TA} (ha : PE X (.Subscript a b p) te) (hr : PA X es t) : PA X (.Subscript a b p :: es) (tCons te t) := pa_cons ha hr rfl
theorem pa_ListComp {X : Cx} {e : Expr} {g : List Comprehension} {s : Scope} {p : Pos} {es : List Expr} {te : TE} {t : TA} (ha : PE X (.ListComp e g s p) te) (hr : PA X es t) : PA X (.ListComp e g s p :: es) (tCons te t) := pa_cons ha hr rfl
theorem Lns.of_get {H : Hp} : ∀ {as : List Addr} {T : List (List Int)}, as.length = T.length → (∀ (i : Nat) (a : Addr) (r : List Int), as[i]? = some a → T[i]? = some r → IsI H a r) → Lns H as T
  | [], [], _, _ => .nil
  | [], _ :: _, h, _ => by simp at h
  | _ :: _, [], h, _ => by simp at h
  | a :: as, r :: T, h, hg => .cons (hg 0 a r rfl rfl) (Lns.of_get (by simpa using h) fun i a r e1 e2 => hg (i + 1) a r (by simpa using e1) (by simpa using e2))
theorem Lns.snoc {H : Hp} {as : List Addr} {T : List (List Int)} {a : Addr} {r : List Int} (h : Lns H as T) (ha : IsI H a r) : Lns H (as ++ [a]) (T ++ [r]) := h.append (.cons ha .nil)
theorem Lns.there {H : Hp} {as : List Addr} {T : List (List Int)} (h : Lns H as T) {a : Addr} (ha : a ∈ as) : H a ≠ none := by
  obtain ⟨r, _, hi⟩ := h.mem ha
  intro z
  rw [IsI, z] at hi; cases hi
end L2
/-! enumerate of a list. -/
set_option Elab.async false
set_option maxRecDepth 100000
namespace L2
open PySem PySem.Spec PyProof.Rows
def Ite (K : PySem.W.Frag) (l : Addr) : It :=
  ⟨fun i H => ∃ xs x, SqL K H l xs ∧ xs[i]? = some x,
   fun i H v H' => ∃ T x, H T = none ∧ v = .ref T ∧ H' = upd H T (.tup [.int i, x]) ∧ ∀ xs, SqL K H l xs → xs[i]? = some x,
   fun i H => ∃ xs, SqL K H l xs ∧ xs.length ≤ i⟩
theorem turn_enum {P : Program} {w : World} {K : PySem.W.Frag} {es : List Expr} {k : Nat} {pos : Pos} {e it l : Addr} (hne : e ≠ it) :
    Turn P w K (.Tuple es k pos) (Ite K l) [e, it] e (fun i h => (∃ old, IsEnum h e it ((i : Nat) : Int) old) ∧ h.IsListIter it l i) where
  mem := by simp
  obj := fun i h st b hb => by
    obtain ⟨⟨old, he⟩, o1, e1, c1, d1⟩ := st
    simp only [List.mem_cons, List.not_mem_nil, or_false] at hb
    rcases hb with rfl | rfl
    · exact ⟨_, he, fun v q => by cases q⟩
    · exact ⟨o1, e1, fun v q => by rw [d1] at q; cases q⟩
  keep := fun i h h' st kk => by
    obtain ⟨⟨old, he⟩, h1⟩ := st
    exact ⟨⟨old, kk e (by simp) _ he⟩, h1.at fun o q => kk it (by simp) o q⟩
  item := by
    intro X hP hw hK hc i pins s σ H E I hf st hg
    subst hP hw hK
    obtain ⟨xs, x, hq, hx⟩ := hg
    obtain ⟨its, rv, p, hz⟩ := I.list hq
    obtain ⟨u, hu, ru⟩ := rv.get hx
    obtain ⟨⟨old, he⟩, h1⟩ := id st
    refine wpAny_pyNext_enum_item he h1 p.isList (x := u) (by simpa using hu) hne fun h' a1 a2 a3 a4 kk => ?_
    refine ⟨_, rfl, wpAny_letOwnedTupleGo_enum a1 fun h2' he2 sb => ?_⟩
    have lt : ∀ b o, s.heap.get? b = some o → b ≠ s.heap.objs.size := fun b o q => Nat.ne_of_lt (Heap.lt_size q)
    have hfresh : H s.heap.objs.size = none := I.fresh
    have ne_e : s.heap.objs.size ≠ e := fun q => lt _ _ he q.symm
    have ne_it : s.heap.objs.size ≠ it := fun q => by obtain ⟨o, q2, _⟩ := h1; exact lt _ _ q2 q.symm
    have hpair := (sb.2 _ ne_e).trans a3
    have kall : ∀ b o, b ∉ [e, it] → s.heap.get? b = some o → h2'.get? b = some o := fun b o hb q => by
      simp only [List.mem_cons, List.not_mem_nil, or_false, not_or] at hb
      exact (sb.2 b hb.1).trans (kk b o hb.1 hb.2 q)
    refine ⟨.ref s.heap.objs.size, upd H s.heap.objs.size (.tup [.int i, x]), ?_, rfl, ⟨s.heap.objs.size, x, hfresh, rfl, rfl, fun zs hzs => by rw [I.list_inj hzs hq]; exact hx⟩, ⟨⟨u, ?_⟩, ?_⟩, fun b hb => ?_⟩
    · refine I.turnedNew (t' := s.toks + 1) (ch := [e, it]) kall (fun b hb => hf b hb) (Nat.le_refl _) ⟨by show 2 ≤ sizeLine; decide, [.int i s.toks, u], .cons ⟨_, rfl⟩ (.cons ru .nil), ?_⟩
      exact ⟨_, hpair, rfl, _, rfl⟩
    · have e : ((i + 1 : Nat) : Int) = (i : Int) + 1 := by push_cast; rfl
      rw [e]; exact he2
    · exact a2.extBut sb.extBut hne.symm
    · rw [upd_ne]
      · exact (hf b hb).1
      · simp only [List.mem_cons, List.not_mem_nil, or_false] at hb
        rcases hb with rfl | rfl
        · exact ne_e.symm
        · exact ne_it.symm
  done := by
    intro X hP hw hK hc i pins s σ H E I hf st hg
    subst hP hw hK
    obtain ⟨xs, hq, hx⟩ := hg
    obtain ⟨its, rv, p, hz⟩ := I.list hq
    obtain ⟨⟨old, he⟩, h1⟩ := id st
    have hl := rv.length
    refine wpAny_pyNext_enum_end (I.ok.hd hc) he h1 p.isList (by simp; omega) fun h' kk => ⟨rfl, I.turnedL (t' := s.toks) (ch := [e, it]) (fun b o hb q => ?_) fun b hb => hf b hb⟩
    simp only [List.mem_cons, List.not_mem_nil, or_false, not_or] at hb
    exact kk b o hb.2 q
  self := fun _ _ _ _ _ st h => by
    obtain ⟨⟨old, he⟩, _⟩ := st
    exact wpAny_pyIter_enum he h
section
variable {X : Cx}
def iEnum (K : PySem.W.Frag) (ta : TA) : TI := fun σ H R => ta σ H fun vs H1 => ∃ a xs, vs = [.ref a] ∧ SqL K H1 a xs ∧ R (Ite K a) H1
theorem pi_enum {a : Expr} {es : List Expr} {k : Nat} {tpos : Pos} {ta : TA} {p pos : Pos} (hg : Gl X "enumerate") (hm : X.mg "enumerate" = none) (ha : PA X [a] ta) (hs : starEach [a] X.env = [(false, eval a X.env)] := by rfl) :
    PI X (.Tuple es k tpos) (.Call (.Name "enumerate" p) [a] [] pos) (iEnum X.K ta) := by
  intro pins s σ H R I h
  refine Call_ (ld_blt I hg hm boot_enumerate (PyProof.Rows.callWith_type1 (thn (ha pos pins s σ H _ I h) fun us s1 ⟨vs, H1, I1, r1, q1⟩ => ?_) hs rfl))
  obtain ⟨a, xs, e, hq1, q⟩ := q1
  subst e
  cases r1 with
  | cons r rr =>
    cases rr
    cases r
    obtain ⟨its1, rv1, p1, hz1⟩ := I1.list hq1
    refine call_enumerate_list p1.isList fun h' a1 a2 a3 kk => ?_
    refine wpAny_pyIter_enum a1 ?_
    have ge : ∀ b ∈ [s1.heap.objs.size + 1, s1.heap.objs.size], s1.heap.objs.size ≤ b := fun b hb => by
      simp only [List.mem_cons, List.not_mem_nil, or_false] at hb
      rcases hb with rfl | rfl
      · exact Nat.le_succ _
      · exact Nat.le_refl _
    exact ⟨_, _, _, _, H1, rfl, I1.kept (t' := s1.toks) kk, turn_enum (Nat.ne_of_gt (Nat.lt_succ_self _)), ⟨⟨_, a1⟩, a2⟩, fun b' hb => I1.fpOk (ge _ hb) (I1.hok.fresh (ge _ hb)), q⟩
theorem piK_enum (K : PySem.W.Frag) {a : Expr} {es : List Expr} {k : Nat} {tpos : Pos} {ta : TA} {p pos : Pos} (hg : Gl X "enumerate") (hm : X.mg "enumerate" = none) (ha : PA X [a] ta) (hs : starEach [a] X.env = [(false, eval a X.env)] := by rfl) (hK : X.K = K := by rfl) :
    PI X (.Tuple es k tpos) (.Call (.Name "enumerate" p) [a] [] pos) (iEnum K ta) := hK ▸ pi_enum hg hm ha hs
/-- a for loop over enumerate -/
theorem for_enum {K : PySem.W.Frag} {a : Addr} {xs : List V} {i1 i2 : Nat} {tb : TS} {D : Ends} {σ0 : St} {H0 : Hp} (Pv : Nat → St → Hp → Prop) (h0 : Pv 0 σ0 H0) (hS : ∀ i σ H, i ≤ xs.length → Pv i σ H → SqL K H a xs)
    (hgo : ∀ (i : Nat) x σ H T, xs[i]? = some x → Pv i σ H → H T = none → tb { D with nx := Pv (i + 1), ct := Pv (i + 1), bk := D.nx } ((σ.set i1 (some (.int (i : Int)))).set i2 (some x)) (upd H T (.tup [.int i, x])))
    (hend : ∀ σ H, Pv xs.length σ H → D.nx σ H) :
    ∃ W : Nat → Nat → St → Hp → Prop, (∃ m, W 0 m σ0 H0) ∧ ∀ i m σ H, W i m σ H →
      ((Ite K a).stop i H ∧ D.nx σ H) ∨ ((Ite K a).go i H ∧ ∃ N : St → Hp → Prop, (∀ σ' H', N σ' H' → ∃ m', m' < m ∧ W (i + 1) m' σ' H') ∧ ∀ x H', (Ite K a).yld i H x H' → gTup K 2 (gCons (gName i1) (gCons (gName i2) gNil)) x σ H' fun σ2 H2 => tb { D with nx := N, ct := N, bk := D.nx } σ2 H2) := by
  refine ⟨fun i m σ H => m = xs.length - i ∧ i ≤ xs.length ∧ Pv i σ H, ⟨_, rfl, Nat.zero_le _, h0⟩, ?_⟩
  rintro i m σ H ⟨rfl, hi, p⟩
  have hq := hS i σ H hi p
  by_cases hlt : i < xs.length
  · refine .inr ⟨⟨xs, _, hq, List.getElem?_eq_getElem hlt⟩, Pv (i + 1), fun σ' H' q => ⟨_, by omega, rfl, hlt, q⟩, ?_⟩
    rintro v H' ⟨T, x, hT, rfl, rfl, hx⟩
    exact ⟨T, _, rfl, SqT.of upd_same, rfl, _, _, rfl, _, _, rfl, rfl, hgo i x σ H T (hx xs hq) p hT⟩
  · have e : i = xs.length := by omega
    subst e
    exact .inl ⟨⟨xs, hq, Nat.le_refl _⟩, hend σ H p⟩
end
end L2
/-! max(list, default = d). -/
set_option Elab.async false
set_option maxRecDepth 100000
namespace L2
open PySem PySem.Spec PyProof.Rows
section
variable {prog : Program} {w : World} {A : Around}
end
section
variable {X : Cx}
end
end L2
/-! A comprehension over a range whose items are new rows. -/
set_option Elab.async false
set_option maxRecDepth 100000
namespace L2
open PySem PySem.Spec PyProof.Rows
end L2
set_option linter.all false
-- CHANGE: your row's module here, as the last of these rows
set_option Elab.async false
set_option linter.all false
set_option maxRecDepth 100000
/-! THE HAND LAYER, for ints, bools, texts, own classes, DICTS (int and text keys), calls, loops. Paste it whole ahead of your own text; what your proof does not reach may be deleted. -/
namespace L2
open PySem PySem.Spec PyProof.Rows
/-! ### lists of pairs as tables -/
section
variable {κ : Type} [DecidableEq κ]
end
/-! ### a tracked dict, its keys ints and texts or tuples of these -/
section
variable {P : Program} {w : World} {H : Hp} {h : Heap} {a : Addr}
end
section
variable {X : Cx} {pins : List (Addr × Obj)} {σ : St} {H : Hp} {s : Shared} {a : Addr} {y v : V} {u r : Value} {o : Option V} {A : Around} {E : Value → Shared → Prop}
end
section
variable {X : Cx} {pins : List (Addr × Obj)} {σ : St} {H : Hp} {s : Shared} {a : Addr} {kvs : List (Key × V)} {k : Key} {u : Value} {A : Around} {E : Value → Shared → Prop}
end
/-! ### readings and rules -/
section
variable {X : Cx} {o i e value : Expr} {pos pos' tpos : Pos} {td ty tv : TE}
end
/-! ### displays -/
section
variable {X : Cx} {pos : Pos}
end
/-! ### expressions in short: the name that stands in the i-th slot -/
section
variable {X : Cx}
end
section
variable {κ : Type} [DecidableEq κ]
end
end L2
/-! Ranges downward, lists turned about by a slice, what is never reached. -/
set_option Elab.async false
set_option maxRecDepth 100000
namespace L2
open PySem PySem.Spec PyProof.Rows
section
variable {X : Cx} {tg : Expr}
end
section
variable {X : Cx} {e : Expr} {te : TE} {pos p2 : Pos}
end
end L2
/-! Own exceptions: isinstance(e, C). -/
set_option Elab.async false
set_option maxRecDepth 100000
namespace L2
open PySem PySem.Spec PyProof.Rows
section
variable {prog : Program} {w : World} {A : Around} {E : Value → Shared → Prop} {K : PySem.W.Frag} {C x : Addr} {h : Heap} {g : Array GenState} {d : Drawn} {t : Nat} {os : OsState}
end
end L2
/-! An exception that leaves a def: raise, and what lies behind a call that raised. -/
set_option Elab.async false
set_option maxRecDepth 100000
namespace L2
open PySem PySem.Spec PyProof.Rows
section
variable {X : Cx} {pins : List (Addr × Obj)} {σ : St} {H H' : Hp} {s : Shared} {B g h' : Heap}
end
end L2
/-! raise C('..') in a def; the except suite. -/
set_option Elab.async false
set_option maxRecDepth 100000
namespace L2
open PySem PySem.Spec PyProof.Rows
end L2
/-! try: x = f(..) except C as e: .. -/
set_option Elab.async false
set_option maxRecDepth 100000
namespace L2
open PySem PySem.Spec PyProof.Rows
section
variable {X : Cx} {pins : List (Addr × Obj)} {σ : St} {H H' : Hp} {s : Shared} {B g h' : Heap} {xa : Addr} {oe : Obj}
end
end L2
/-! The rules: try with one except clause around one call; isinstance(e, ..) in its suite; a def that may raise. -/
set_option Elab.async false
set_option maxRecDepth 100000
namespace L2
open PySem PySem.Spec PyProof.Rows
section
variable {P : Program} {w : World} {K : PySem.W.Frag} {mg : Str → Option Value} {base : Heap}
end
end L2
/-! try: x = f(..) except C as e: suite. -/
set_option Elab.async false
set_option maxRecDepth 100000
namespace L2
open PySem PySem.Spec PyProof.Rows
section
variable {X : Cx} {pins : List (Addr × Obj)} {σ : St} {H H' : Hp} {s : Shared}
end
end L2
/-! A comprehension over a range with a test; in among ints. -/
set_option Elab.async false
set_option maxRecDepth 100000
namespace L2
open PySem PySem.Spec PyProof.Rows
end L2
/-! sum([..]) of ints; a comprehension that makes a line of each item. -/
set_option Elab.async false
set_option maxRecDepth 100000
namespace L2
open PySem PySem.Spec PyProof.Rows
section
variable {X : Cx}
end
/-! ### one statement ahead of others -/
end L2
/-! reversed(x) walked; what stands in a try. -/
set_option Elab.async false
set_option maxRecDepth 100000
namespace L2
open PySem PySem.Spec PyProof.Rows
section
variable {X : Cx} {tg : Expr}
end
/-! ### the block of a try -/
section
variable {X : Cx}
end
end L2
/-! An item of a list or a tuple. -/
set_option Elab.async false
set_option maxRecDepth 100000
namespace L2
open PySem PySem.Spec PyProof.Rows
end L2
/-! Methods, by their class and name; a method's call in a try; d.get(k, v) of a dict with tuple keys. -/
set_option Elab.async false
set_option maxRecDepth 100000
namespace L2
open PySem PySem.Spec PyProof.Rows
section
variable {X : Cx} {C : Addr} {m : Str} {o : Expr} {ta : TE} {CX : CXT} {k : Nat} {ps : List Str} {sp : Sp} {E : XK} {apos pos : Pos}
end
end L2
/-! list(d) of a dict with tuple keys; a display of one pair with a tuple for its key. -/
set_option Elab.async false
set_option maxRecDepth 100000
namespace L2
open PySem PySem.Spec PyProof.Rows
section
variable {prog : Program} {w : World} {A : Around} {E : Value → Shared → Prop} {s : Shared} {d it : Addr} {es : Array DictEntry} {ep i : Nat}
end
section
variable {X : Cx}
end
end L2
/-! A def that is handed in, called; range(a, b) as a value; // by a divisor of many digits; return o.m() in a try whose clause names nothing. -/
set_option Elab.async false
set_option maxRecDepth 100000
namespace L2
open PySem PySem.Spec PyProof.Rows
section
variable {X : Cx}
end
/-! ### methods, by their class's text -/
section
variable {P : Program} {w : World} {K : PySem.W.Frag} {mg : Str → Option Value} {base : Heap}
end
/-! ### a def that is handed in -/
/-! ### except C: suite, without a name -/
section
variable {X : Cx} {pins : List (Addr × Obj)} {σ : St} {H H' : Hp} {s : Shared}
end
section
variable {X : Cx} {C : Addr} {m : Str} {o : Expr} {ta : TE} {k : Nat} {ps : List Str} {sp : Sp} {apos pos : Pos}
end
end L2
set_option Elab.async false
set_option maxRecDepth 100000
namespace K
open PySem L2 RS
seal PE PT PW PA PS PSs PG PGs PI PO PTs
def top (i : Nat) : Stmt := PySem.Challenge.pw_stairtable_k10_whole_the_same_table.main.body.getD i (.Pass ⟨0, 0, 0, 0⟩)
structure Bi (mg : Str → Option Value) : Prop where
  len : mg "len" = none
  range : mg "range" = none
  list : mg "list" = none
  zip : mg "zip" = none
  all : mg "all" = none
  sorted : mg "sorted" = none
  isinstance : mg "isinstance" = none
  int : mg "int" = none
  bool : mg "bool" = none
  reversed : mg "reversed" = none
  enumerate : mg "enumerate" = none
  max : mg "max" = none
  min : mg "min" = none
  sum : mg "sum" = none
  tuple : mg "tuple" = none
  ValueError : mg "ValueError" = none
  str : mg "str" = none
/-! ### the program's own text: stairs -/
section
variable {P : Program} {w : World} {K : PySem.W.Frag} {mg : Str → Option Value} {base : Heap}
end
section
variable {P : Program} {w : World} {K : PySem.W.Frag} {mg : Str → Option Value} {base : Heap}
end
/-! ### the law's own helpers -/
def spUpto : Sp := fun vs H Q _ => ∃ (a : Addr) (ns : List Int) (x y : Int), vs = [.ref a, .int x, .int y] ∧ IsI H a ns ∧ ns.length ≤ 63 ∧ Q (.int x) H
def spWhole : Sp := fun vs H Q _ => ∃ n : Int, vs = [.int n] ∧ Q (.bl true) H
def spAt : Sp := fun vs H Q _ => ∃ (a : Addr) (ns : List Int) (j : Nat), vs = [.ref a, .int (j : Int)] ∧ IsI H a ns ∧ Q (.int (ns.getD j 0)) H
def spWholeRow : Sp := fun vs H Q _ => ∃ (a : Addr) (ns : List Int), vs = [.ref a] ∧ IsI H a ns ∧ Q (.bl true) H
def spAreLines : Sp := fun vs H Q _ => ∃ (a : Addr) (as : List Addr) (T : List (List Int)), vs = [.ref a] ∧ IsLn H a as T ∧ Q (.bl true) H
section
variable {P : Program} {w : World} {K : PySem.W.Frag} {mg : Str → Option Value} {base : Heap}
abbrev st_l_upto : Stmt := top 10
theorem sc_l_upto : FnScope ["_law_script", "_law_small", "_law_great"] ["_law_script", "_law_small", "_law_great"] (defScope st_l_upto) := ⟨rfl, rfl, rfl, by decide +kernel, rfl, by decide +kernel, by decide +kernel⟩
theorem ok_l_upto (F : Fn K mg "_law_upto" st_l_upto ["_law_script", "_law_small", "_law_great"]) (B : Bi mg) : Has P w K mg base CX0 1 "_law_upto" ["_law_script", "_law_small", "_law_great"] spUpto := by
  refine F.has sc_l_upto (fun vs H Q E h => ?_) (fun f cdv A outer s H vs Q E hr h => ?_)
  · obtain ⟨a, ns, x, y, rfl, _⟩ := h
    rfl
  · obtain ⟨a, ns, x, y, rfl, hI, hl, k⟩ := h
    refine ⟨_, (pss_cons (ps_if (pt_cmpR op_gt (pe_callB (callK_len K) (by rfl) B.len PySem.boot_len (pa_Name (pv 0) pa_nil)) pe_int (nomark _))
 (pss_one (ps_ret (pv 2)))
 pss_nil) (pss_one (ps_ret (pv 1)))), ?_⟩
    refine ⟨_, rfl, a, _, rfl, .inl hI.sq, _, _, rfl, rfl, _, rfl, ?_⟩
    refine iteN (by simp; omega) ⟨_, rfl, k⟩
abbrev st_l_whole : Stmt := top 11
theorem sc_l_whole : FnScope ["_law_found"] ["_law_found"] (defScope st_l_whole) := ⟨rfl, rfl, rfl, by decide +kernel, rfl, by decide +kernel, by decide +kernel⟩
theorem ok_l_whole (F : Fn K mg "_law_whole" st_l_whole ["_law_found"]) (B : Bi mg) : Has P w K mg base CX0 1 "_law_whole" ["_law_found"] spWhole := by
  refine F.has sc_l_whole (fun vs H Q E h => ?_) (fun f cdv A outer s H vs Q E hr h => ?_)
  · obtain ⟨n, rfl, _⟩ := h
    rfl
  · obtain ⟨n, rfl, k⟩ := h
    refine ⟨_, (pss_one (ps_ret (pe_and (pe_callB (callK_isi K) (by rfl) B.isinstance PyProof.Rows.boot_isinstance (pa_Name (pv 0) (pa_Name (pe_bltn (v := .ty "int") rfl B.int PyProof.Rows.boot_int rfl) pa_nil))) (pe_one (pe_not (pe_callB (callK_isi K) (by rfl) B.isinstance PyProof.Rows.boot_isinstance (pa_Name (pv 0) (pa_Name (pe_bltn (v := .ty "bool") rfl B.bool PyProof.Rows.boot_bool rfl) pa_nil)))))))), ?_⟩
    refine ⟨_, rfl, _, "int", _, true, rfl, .int n, rfl, _, rfl, iteT ?_⟩
    exact ⟨_, rfl, _, "bool", _, false, rfl, .int n, rfl, _, rfl, k⟩
abbrev st_l_at : Stmt := top 12
theorem sc_l_at : FnScope ["_law_script", "_law_k"] ["_law_script", "_law_k"] (defScope st_l_at) := ⟨rfl, rfl, rfl, by decide +kernel, rfl, by decide +kernel, by decide +kernel⟩
theorem ok_l_at (F : Fn K mg "_law_at" st_l_at ["_law_script", "_law_k"]) (B : Bi mg) : Has P w K mg base CX0 1 "_law_at" ["_law_script", "_law_k"] spAt := by
  refine F.has sc_l_at (fun vs H Q E h => ?_) (fun f cdv A outer s H vs Q E hr h => ?_)
  · obtain ⟨a, ns, j, rfl, _⟩ := h
    rfl
  · obtain ⟨a, ns, j, rfl, hI, k⟩ := h
    refine ⟨_, (pss_cons (ps_if (pt_cmpR op_lt (pv 1) (pe_callB (callK_len K) (by rfl) B.len PySem.boot_len (pa_Name (pv 0) pa_nil)) (nomark _))
 (pss_one (ps_ret (pe_ix (ixK_list K) (pv 0) (pv 1) (fun _ _ => rfl))))
 pss_nil) (pss_one (ps_ret pe_int))), ?_⟩
    refine ⟨_, rfl, _, rfl, a, _, rfl, .inl hI.sq, _, _, rfl, rfl, _, rfl, ?_⟩
    refine ite2 (fun h => ?_) (fun h => ?_)
    · have hj : j < ns.length := by simpa using h
      refine ⟨_, rfl, _, rfl, a, _, _, .int ns[j], rfl, rfl, hI.sq, atI_nat (by simp [hj]), ?_⟩
      have e : ns.getD j 0 = ns[j] := by simp [hj]
      rw [e] at k
      exact k
    · have hj : ¬ j < ns.length := by simpa using h
      have e : ns.getD j 0 = 0 := by simp [List.getElem?_eq_none (by omega : ns.length ≤ j)]
      rw [e] at k
      exact k
abbrev st_l_whole_row : Stmt := top 14
theorem sc_l_whole_row : FnScope ["_law_found", "_law_one"] ["_law_found"] (defScope st_l_whole_row) := ⟨rfl, rfl, rfl, by decide +kernel, rfl, by decide +kernel, by decide +kernel⟩
theorem ok_l_whole_row (F : Fn K mg "_law_whole_row" st_l_whole_row ["_law_found"]) (B : Bi mg) (G_l_whole : Has P w K mg base CX0 1 "_law_whole" ["_law_found"] spWhole) : Has P w K mg base CX0 2 "_law_whole_row" ["_law_found"] spWholeRow := by
  refine F.has sc_l_whole_row (fun vs H Q E h => ?_) (fun f cdv A outer s H vs Q E hr h => ?_)
  · obtain ⟨a, ns, rfl, _⟩ := h
    rfl
  · obtain ⟨a, ns, rfl, hI, k⟩ := h
    refine ⟨_, (pss_cons (ps_if (pt_not (pt_val (pe_callB (callK_isi K) (by rfl) B.isinstance PyProof.Rows.boot_isinstance (pa_Name (pv 0) (pa_Name (pe_bltn (v := .ty "list") rfl B.list PyProof.Rows.boot_list rfl) pa_nil)))))
 (pss_one (ps_ret pe_bl))
 pss_nil) (pss_cons (ps_for PassesOwn.never rfl (piK_list K (pv 0)) (pg_name (i := 1) sc_l_whole_row.nd rfl (by first | exact Or.inl rfl | exact Or.inr rfl))
 (pss_one (ps_if (pt_not (pt_val (pe_callH G_l_whole (hr.mono (by decide)) rfl pass0 (pa_Name (pv 1) pa_nil))))
 (pss_one (ps_ret pe_bl))
 pss_nil))) (pss_one (ps_ret pe_bl)))), ?_⟩
    refine ⟨_, rfl, _, "list", _, true, rfl, .lst hI, rfl, _, rfl, iteF ?_⟩
    refine ⟨_, rfl, a, rfl, ⟨_, hI.sq⟩, for_list (K := K) (a := a) (xs := ns.map V.int) (fun i σ H2 => ∃ v : Option V, σ = [some (.ref a), v] ∧ H2 = H) ⟨none, rfl, rfl⟩ (fun i σ H2 _ ⟨_, _, e⟩ => by rw [e]; exact hI.sq) ?_ ?_⟩
    · rintro i y σ H2 hi ⟨v, rfl, rfl⟩
      obtain ⟨n, _, rfl⟩ := List.mem_map.mp (List.mem_of_getElem? hi)
      exact ⟨_, rfl, n, rfl, _, rfl, iteF ⟨_, rfl, rfl⟩⟩
    · rintro σ H2 ⟨v, rfl, rfl⟩
      exact k
abbrev st_l_are_lines : Stmt := top 15
theorem sc_l_are_lines : FnScope ["_law_found", "_law_line"] ["_law_found"] (defScope st_l_are_lines) := ⟨rfl, rfl, rfl, by decide +kernel, rfl, by decide +kernel, by decide +kernel⟩
theorem ok_l_are_lines (F : Fn K mg "_law_are_lines" st_l_are_lines ["_law_found"]) (B : Bi mg) (G_l_whole_row : Has P w K mg base CX0 2 "_law_whole_row" ["_law_found"] spWholeRow) : Has P w K mg base CX0 3 "_law_are_lines" ["_law_found"] spAreLines := by
  refine F.has sc_l_are_lines (fun vs H Q E h => ?_) (fun f cdv A outer s H vs Q E hr h => ?_)
  · obtain ⟨a, as, T, rfl, _⟩ := h
    rfl
  · obtain ⟨a, as, T, rfl, hL, k⟩ := h
    refine ⟨_, (pss_cons (ps_if (pt_not (pt_val (pe_callB (callK_isi K) (by rfl) B.isinstance PyProof.Rows.boot_isinstance (pa_Name (pv 0) (pa_Name (pe_bltn (v := .ty "list") rfl B.list PyProof.Rows.boot_list rfl) pa_nil)))))
 (pss_one (ps_ret pe_bl))
 pss_nil) (pss_cons (ps_for PassesOwn.never rfl (piK_list K (pv 0)) (pg_name (i := 1) sc_l_are_lines.nd rfl (by first | exact Or.inl rfl | exact Or.inr rfl))
 (pss_one (ps_if (pt_not (pt_val (pe_callH G_l_whole_row (hr.mono (by decide)) rfl pass0 (pa_Name (pv 1) pa_nil))))
 (pss_one (ps_ret pe_bl))
 pss_nil))) (pss_one (ps_ret pe_bl)))), ?_⟩
    refine ⟨_, rfl, _, "list", _, true, rfl, .lst hL.top, rfl, _, rfl, iteF ?_⟩
    refine ⟨_, rfl, a, rfl, ⟨_, hL.sq⟩, for_list (K := K) (a := a) (xs := as.map V.ref) (fun i σ H2 => ∃ v : Option V, σ = [some (.ref a), v] ∧ H2 = H) ⟨none, rfl, rfl⟩ (fun i σ H2 _ ⟨_, _, e⟩ => by rw [e]; exact hL.sq) ?_ ?_⟩
    · rintro i y σ H2 hi ⟨v, rfl, rfl⟩
      obtain ⟨b, hb, rfl⟩ := List.mem_map.mp (List.mem_of_getElem? hi)
      obtain ⟨r, _, hr'⟩ := hL.lns.mem hb
      exact ⟨_, rfl, b, r, rfl, hr', _, rfl, iteF ⟨_, rfl, rfl⟩⟩
    · rintro σ H2 ⟨v, rfl, rfl⟩
      exact k
end
theorem at0 {xs : List V} {i : Nat} {v : V} (h : xs[i]? = some v) : atI xs (0 + (i : Int)) = some v := by rw [Int.zero_add]; exact atI_nat h
theorem getD_of {T : List (List Int)} {i : Nat} {r : List Int} (h : T[i]? = some r) : T.getD i [] = r := by rw [List.getD_eq_getElem?_getD, h]; rfl
theorem int_at {r : List Int} {j : Nat} (h : j < r.length) : (r.map V.int)[j]? = some (.int (r.getD j 0)) := by
  rw [List.getElem?_map, getD_some h]; rfl
section
variable {P : Program} {w : World} {K : PySem.W.Frag} {mg : Str → Option Value} {base : Heap}
end
structure BI (H H2 : Hp) (D c : Addr) (ps : List Addr) (U : List (List Int)) (cm : List Int) : Prop where
  sm : Same H H2
  top : H2 D = some (.lst (ps.map V.ref))
  lns : Lns H2 ps U
  ic : IsI H2 c cm
  nw : New H (D :: c :: ps)
theorem lns_keep {H H' : Hp} : ∀ {as : List Addr} {T : List (List Int)}, Lns H as T → (∀ a ∈ as, ∀ o, H a = some o → H' a = some o) → Lns H' as T
  | _, _, .nil, _ => .nil
  | _, _, .cons h t, k => .cons (k _ (by simp) _ h) (lns_keep t fun a ha => k a (by simp [ha]))
theorem BI.next {H H2 Hk : Hp} {D c q h : Addr} {ps : List Addr} {U : List (List Int)} {cm cm' row : List Int} (b : BI H H2 D c ps U cm) (s : Same H2 Hk) (hq : IsI Hk q row) (q0 : H2 q = none) (hh : IsI Hk h cm') (h0 : h = c ∨ H2 h = none) (hne : h ≠ q) :
    BI H (upd Hk D (.lst (ps.map V.ref ++ [.ref q]))) D h (ps ++ [q]) (U ++ [row]) cm' := by
  obtain ⟨nd, nn⟩ := b.nw
  obtain ⟨n1, n2⟩ := List.nodup_cons.mp nd
  obtain ⟨n3, n4⟩ := List.nodup_cons.mp n2
  have hD0 : H D = none := nn D (by simp)
  have hqD : q ≠ D := fun z => by rw [z, b.top] at q0; cases q0
  have hhD : h ≠ D := by
    rcases h0 with z | z
    · rw [z]; intro y; exact n1 (by rw [← y]; simp)
    · intro y; rw [y, b.top] at z; cases z
  have hqps : q ∉ ps := fun z => b.lns.there z q0
  have hhps : h ∉ ps := by
    rcases h0 with z | z
    · rw [z]; exact n3
    · exact fun y => b.lns.there y z
  refine ⟨Same.put' (b.sm.trans s) hD0, by rw [upd_same, List.map_append]; rfl, ?_, ?_, ?_, ?_⟩
  · refine Lns.snoc (lns_keep (b.lns.mono s) fun z hz o e => ?_) ?_
    · rw [upd_ne (fun y => n1 (by rw [← y]; simp [hz]))]; exact e
    · show upd Hk D _ q = _
      rw [upd_ne hqD]; exact hq
  · show upd Hk D _ h = _
    rw [upd_ne hhD]; exact hh
  · refine List.nodup_cons.mpr ⟨fun z => ?_, List.nodup_cons.mpr ⟨fun z => ?_, List.nodup_append.mpr ⟨n4, by simp, fun u hu v hv y => ?_⟩⟩⟩
    · rcases List.mem_cons.mp z with y | y
      · exact hhD y.symm
      · rcases List.mem_append.mp y with y | y
        · exact n1 (by simp [y])
        · exact hqD (List.mem_singleton.mp y).symm
    · rcases List.mem_append.mp z with y | y
      · exact hhps y
      · exact hne (List.mem_singleton.mp y)
    · rw [List.mem_singleton.mp hv] at y
      exact hqps (y ▸ hu)
  · intro z hz
    rcases List.mem_cons.mp hz with y | hz
    · rw [y]; exact hD0
    · rcases List.mem_cons.mp hz with y | hz
      · rw [y]
        rcases h0 with y | y
        · rw [y]; exact nn c (by simp)
        · exact b.sm.free y
      · rcases List.mem_append.mp hz with y | y
        · exact nn z (by simp [y])
        · rw [List.mem_singleton.mp y]; exact b.sm.free q0
def spBump : Sp := fun vs H Q _ => ∃ (a : Addr) (as : List Addr) (T : List (List Int)) (x : Int), vs = [.ref a, .int x] ∧ IsLn H a as T ∧ T.length ≤ 900 ∧ (∀ r ∈ T, r.length ≤ 900) ∧ ∀ (p : Addr) (ps : List Addr) (H' : Hp), New H (p :: ps) → Same H H' → IsLn H' p ps (ins T x) → Q (.ref p) H'
theorem filter_cnt (r : List Int) (y : Int) : (((r.map V.int).filter fun v => decide (intOf v ≤ y)).map id).length = cnt r y := by
  rw [List.map_id, List.filter_map, List.length_map]
  rfl
section
variable {P : Program} {w : World} {K : PySem.W.Frag} {mg : Str → Option Value} {base : Heap}
abbrev st_l_bump : Stmt := top 16
theorem sc_l_bump : FnScope ["_law_lines", "_law_number", "_law_made", "_law_coming", "_law_line", "_law_row", "_law_spot", "_law_higher"] ["_law_lines", "_law_number"] (defScope st_l_bump) := ⟨rfl, rfl, rfl, by decide +kernel, rfl, by decide +kernel, by decide +kernel⟩
theorem ok_l_bump (F : Fn K mg "_law_bump" st_l_bump ["_law_lines", "_law_number"]) (B : Bi mg) : Has P w K mg base CX0 1 "_law_bump" ["_law_lines", "_law_number"] spBump := by
  refine F.has sc_l_bump (fun vs H Q E h => ?_) (fun f cdv A outer s H vs Q E hr h => ?_)
  · obtain ⟨a, as, T, x, rfl, _⟩ := h
    rfl
  · obtain ⟨a, as, T, x, rfl, hL, hS, hS2, k⟩ := h
    refine ⟨_, (pss_cons (ps_set (i := 2) sc_l_bump.nd rfl (by first | exact Or.inl rfl | exact Or.inr rfl) (pe_lst pa_nil)) (pss_cons (ps_set (i := 3) sc_l_bump.nd rfl (by first | exact Or.inl rfl | exact Or.inr rfl) (pe_lst (pa_Name (pv 1) pa_nil))) (pss_cons (ps_for PassesOwn.never rfl (piK_list K (pv 0)) (pg_name (i := 4) sc_l_bump.nd rfl (by first | exact Or.inl rfl | exact Or.inr rfl))
 (pss_cons (ps_set (i := 5) sc_l_bump.nd rfl (by first | exact Or.inl rfl | exact Or.inr rfl) (pe_callTy (callK_list K) (by rfl) B.list PyProof.Rows.boot_list (pa_Name (pv 4) pa_nil))) (pss_cons (ps_if (pt_cmpR (opK_ne K hr) (pv 3) (pe_lst pa_nil) (nomark _))
 (pss_cons (ps_set (i := 6) sc_l_bump.nd rfl (by first | exact Or.inl rfl | exact Or.inr rfl) (pe_callB (callK_len K) (by rfl) B.len PySem.boot_len (pa_ListComp (pe_comp ["_law_one"] (CompSc.of rfl rfl) rfl (piK_list K (pv 5)) (fun C s3 H3 ex => ⟨(pg_name (i := 8) (by show (["_law_lines", "_law_number", "_law_made", "_law_coming", "_law_line", "_law_row", "_law_spot", "_law_higher", "_law_one"] : List Str).Nodup; decide +kernel) rfl (Or.inl rfl)), (pts_one (pt_cmpR op_le (pv 8) (pe_ix (ixK_list K) (pv 3) pe_int (fun _ _ => rfl)) (nomark _))), (pv 8)⟩)) pa_nil))) (pss_cons (ps_set (i := 7) sc_l_bump.nd rfl (by first | exact Or.inl rfl | exact Or.inr rfl) (pe_slice (slK_list K) (pv 5) (po_some (pv 6)) (po_some (pe_op op_add (pv 6) pe_int)))) (pss_cons (ps_set (i := 5) sc_l_bump.nd rfl (by first | exact Or.inl rfl | exact Or.inr rfl) (pe_op op_cat (pe_op op_cat (pe_slice (slK_list K) (pv 5) po_none (po_some (pv 6))) (pv 3)) (pe_slice (slK_list K) (pv 5) (po_some (pe_op op_add (pv 6) pe_int)) po_none))) (pss_one (ps_set (i := 3) sc_l_bump.nd rfl (by first | exact Or.inl rfl | exact Or.inr rfl) (pv 7))))))
 pss_nil) (pss_one (ps_expr (pe_bm PySem.F.plainAttrs_list PySem.F.slot_list_append PySem.F.type_list_append mt_append (pv 2) (pa_Name (pv 5) pa_nil))))))) (pss_cons (ps_if (pt_cmpR (opK_ne K hr) (pv 3) (pe_lst pa_nil) (nomark _))
 (pss_one (ps_expr (pe_bm PySem.F.plainAttrs_list PySem.F.slot_list_append PySem.F.type_list_append mt_append (pv 2) (pa_Name (pv 3) pa_nil))))
 pss_nil) (pss_one (ps_ret (pv 2))))))), ?_⟩
    have hl := hL.lns.length
    refine ⟨Nat.zero_le _, fun D hD => ⟨_, rfl, (by show 1 ≤ sizeLine; decide), fun c hc => ?_⟩⟩
    have hDc : c ≠ D := fun z => by rw [z, upd_same] at hc; cases hc
    have hc0 : H c = none := (Same.put hD).free hc
    have s0 : Same H (upd (upd H D (.lst [])) c (.lst [.int x])) := (Same.put hD).trans (Same.put hc)
    have b0 : BI H (upd (upd H D (.lst [])) c (.lst [.int x])) D c [] [] [x] := ⟨s0, by rw [upd_ne hDc.symm, upd_same]; rfl, .nil, upd_same, by simp [New, hDc.symm, hD, hc0]⟩
    refine ⟨_, rfl, a, rfl, ⟨_, (hL.mono s0).sq⟩, for_list (K := K) (a := a) (xs := as.map V.ref) (fun i σ H2 => ∃ (c : Addr) (ps : List Addr) (U : List (List Int)) (cm : List Int) (v4 v5 v6 v7 : Option V), σ = [some (.ref a), some (.int x), some (.ref D), some (.ref c), v4, v5, v6, v7] ∧ BI H H2 D c ps U cm ∧ cm.length ≤ 1 ∧ ps.length = i ∧ ins T x = U ++ comes cm (T.drop i))
      ⟨c, [], [], [x], none, none, none, none, rfl, b0, by simp, rfl, rfl⟩ (fun i σ H2 _ ⟨_, _, _, _, _, _, _, _, _, b, _⟩ => (hL.mono b.sm).sq) ?_ ?_⟩
    · rintro i y σ H2 hi ⟨c, ps, U, cm, v4, v5, v6, v7, rfl, b, hcm, hps, hins⟩
      rw [List.getElem?_map] at hi
      cases ha : as[i]? with
      | none => rw [ha] at hi; cases hi
      | some bb =>
        rw [ha] at hi
        cases hi
        obtain ⟨r, hrT, hI⟩ := hL.lns.get ha
        have hiT : i < T.length := (List.getElem?_eq_some_iff.mp hrT).1
        have hrl := hS2 r (List.mem_of_getElem? hrT)
        have hdrop : T.drop i = r :: T.drop (i + 1) := by
          rw [List.drop_eq_getElem_cons hiT]
          congr 1
          rw [List.getElem?_eq_getElem hiT] at hrT
          exact Option.some.inj hrT
        have hI2 := hI.mono b.sm
        refine ⟨_, rfl, bb, _, rfl, .inl hI2.sq, fun r1 hr1 => ?_⟩
        have sm1 : Same H2 (upd H2 r1 (.lst (r.map V.int))) := Same.put hr1
        dsimp only [gName, tSeq]
        refine if_via (fun z H4 => z = !cm.isEmpty ∧ Same (upd H2 r1 (.lst (r.map V.int))) H4) (fun R hR => ?_) (fun z H4 ⟨hz, s4⟩ => ?_)
        · refine ⟨_, rfl, Nat.zero_le _, fun l hl0 => ⟨c, l, _, rfl, rfl, EqD.nil (sm1.trans (Same.put hl0) |>.seq b.ic.sq) (SqL.of upd_same), _, rfl, hR _ _ ⟨?_, Same.put hl0⟩⟩⟩
          cases cm <;> rfl
        have hr4 : IsI H4 r1 r := s4 _ _ upd_same
        have hc4 : IsI H4 c cm := b.ic.mono (sm1.trans s4)
        cases cm with
        | nil =>
          subst hz
          refine iteF ?_
          dsimp only [tNext]
          have b' := b.next (sm1.trans s4) hr4 hr1 hc4 (.inl rfl) (fun z => by rw [z] at b; exact absurd hr1 (by rw [b.ic]; simp))
          refine ⟨_, rfl, .inl ⟨rfl, _, SqL.of ((sm1.trans s4) _ _ b.top)⟩, _, rfl, D, _, _, rfl, rfl, (sm1.trans s4) _ _ b.top, by rw [List.length_map, hps, sizeLine_eq]; omega, ?_⟩
          exact ⟨c, _, _, [], _, _, _, _, rfl, b', by simp, by simp [hps], by rw [hins, hdrop]; simp [comes]⟩
        | cons y cm' =>
          have hcm' : cm' = [] := List.length_eq_zero_iff.mp (by simp at hcm; simp [hcm])
          subst hcm'
          subst hz
          refine iteT ?_
          -- spot
          refine ⟨_, rfl, r1, rfl, ⟨_, hr4.sq⟩, fun D2 hD2 => comp_vals (fun v => decide (intOf v ≤ y)) id (by rw [List.length_map]; exact small_line (by omega)) hr4.sq hD2 ?_ ?_ ?_⟩
          · intro v H5 R hv s5 hR
            obtain ⟨n, _, rfl⟩ := List.mem_map.mp hv
            exact ⟨_, rfl, _, rfl, c, _, _, .int y, rfl, rfl, (hc4.mono s5).sq, rfl, n, y, rfl, rfl, _, rfl, hR H5 (Same.refl _)⟩
          · intro v H5 R hv _ s5 hR
            obtain ⟨n, _, rfl⟩ := List.mem_map.mp hv
            exact ⟨_, rfl, hR H5 (Same.refl _)⟩
          intro H5 s5 hd5
          refine ⟨D2, _, rfl, .inl (SqL.of hd5), ?_⟩
          rw [filter_cnt]
          have hcl := cnt_le r y
          have hr5 := hr4.mono s5
          -- higher
          refine ⟨_, rfl, _, rfl, _, rfl, _, rfl, _, _, rfl, rfl, _, rfl, r1, _, rfl, hr5.sq, fun h hh => ?_⟩
          have eh : cutV (r.map V.int) (some (cnt r y : Int)) (some ((cnt r y : Int) + 1)) = ((r.drop (cnt r y)).take 1).map V.int := by
            have e : ((cnt r y : Int) + 1) = ((cnt r y + 1 : Nat) : Int) := by omega
            rw [e, cut_mid, ← List.map_drop, ← List.map_take, Nat.add_sub_cancel_left]
          rw [eh]
          generalize hH6 : upd H5 h (.lst (((r.drop (cnt r y)).take 1).map V.int)) = H6
          have s6 : Same H5 H6 := by rw [← hH6]; exact Same.put hh
          have hh6 : IsI H6 h ((r.drop (cnt r y)).take 1) := by rw [← hH6]; exact upd_same
          have hr6 := hr5.mono s6
          have hc6 := (hc4.mono s5).mono s6
          -- row
          refine ⟨_, rfl, _, rfl, _, rfl, r1, _, rfl, hr6.sq, fun q1 hq1 => ⟨_, rfl, q1, c, _, _, rfl, rfl, upd_same, (Same.put hq1) _ _ hc6, ?_, fun q2 hq2 => ?_⟩⟩
          · have := cutV_length (r.map V.int) none (some (cnt r y : Int))
            rw [List.length_map] at this
            rw [List.length_map, sizeLine_eq]
            simp only [List.length_cons, List.length_nil]
            omega
          have c1 : cutV (r.map V.int) none (some (cnt r y : Int)) = (r.take (cnt r y)).map V.int := by rw [cut_to, ← List.map_take]
          have c2 : (r.take (cnt r y)).map V.int ++ [y].map V.int = (r.take (cnt r y) ++ [y]).map V.int := by simp
          rw [c1] at hq2 ⊢
          rw [c2]
          generalize hH7 : upd (upd H6 q1 (.lst ((r.take (cnt r y)).map V.int))) q2 (.lst ((r.take (cnt r y) ++ [y]).map V.int)) = H7
          have s7 : Same H6 H7 := by rw [← hH7]; exact (Same.put hq1).trans (Same.put hq2)
          have hq7 : IsI H7 q2 (r.take (cnt r y) ++ [y]) := by rw [← hH7]; exact upd_same
          have hr7 := hr6.mono s7
          refine ⟨_, rfl, _, rfl, _, _, rfl, rfl, _, rfl, r1, _, rfl, hr7.sq, fun q3 hq3 => ⟨q2, q3, _, _, rfl, rfl, (Same.put hq3) _ _ hq7, upd_same, ?_, fun q4 hq4 => ?_⟩⟩
          · have := cutV_length (r.map V.int) (some ((cnt r y : Int) + 1)) none
            rw [List.length_map] at this
            rw [List.length_map, List.length_append, List.length_take, sizeLine_eq]
            simp only [List.length_cons, List.length_nil]
            omega
          have c3 : cutV (r.map V.int) (some ((cnt r y : Int) + 1)) none = (r.drop (cnt r y + 1)).map V.int := by
            have e : ((cnt r y : Int) + 1) = ((cnt r y + 1 : Nat) : Int) := by omega
            rw [e, cut_from, ← List.map_drop]
          have c4 : (r.take (cnt r y) ++ [y]).map V.int ++ (r.drop (cnt r y + 1)).map V.int = (r.take (cnt r y) ++ [y] ++ r.drop (cnt r y + 1)).map V.int := by rw [List.map_append (l₂ := r.drop (cnt r y + 1))]
          rw [c3] at hq4 ⊢
          rw [c4]
          generalize hH8 : upd (upd H7 q3 (.lst ((r.drop (cnt r y + 1)).map V.int))) q4 (.lst ((r.take (cnt r y) ++ [y] ++ r.drop (cnt r y + 1)).map V.int)) = H8
          have s8 : Same H7 H8 := by rw [← hH8]; exact (Same.put hq3).trans (Same.put hq4)
          have hq8 : IsI H8 q4 (r.take (cnt r y) ++ [y] ++ r.drop (cnt r y + 1)) := by rw [← hH8]; exact upd_same
          have s25 : Same H2 H5 := (sm1.trans s4).trans s5
          have s27 : Same H2 H7 := (s25.trans s6).trans s7
          have s28 : Same H2 H8 := s27.trans s8
          have h8 : IsI H8 h ((r.drop (cnt r y)).take 1) := (hh6.mono s7).mono s8
          have q40 : H2 q4 = none := (s27.trans (Same.put hq3)).free hq4
          have hne : h ≠ q4 := ne_of_none ((Same.put hq3) _ _ (hh6.mono s7)) hq4
          have b' := b.next s28 hq8 q40 h8 (.inr (s25.free hh)) hne
          refine ⟨_, rfl, _, rfl, .inl ⟨rfl, _, SqL.of (s28 _ _ b.top)⟩, _, rfl, D, _, _, rfl, rfl, s28 _ _ b.top, by rw [List.length_map, hps, sizeLine_eq]; omega, ?_⟩
          refine ⟨h, _, _, _, _, _, _, _, rfl, b', by rw [List.length_take]; omega, by simp [hps], ?_⟩
          rw [hins, hdrop, comes_step]
          simp
    · rintro σ H2 ⟨c, ps, U, cm, v4, v5, v6, v7, rfl, b, hcm, hps, hins⟩
      rw [List.length_map, hl] at hps hins
      rw [List.drop_length] at hins
      dsimp only [tSeq]
      refine if_via (fun z H4 => z = !cm.isEmpty ∧ Same H2 H4) (fun R hR => ?_) (fun z H4 ⟨hz, s4⟩ => ?_)
      · refine ⟨_, rfl, Nat.zero_le _, fun l hl0 => ⟨c, l, _, rfl, rfl, EqD.nil ((Same.put hl0).seq b.ic.sq) (SqL.of upd_same), _, rfl, hR _ _ ⟨?_, Same.put hl0⟩⟩⟩
        cases cm <;> rfl
      obtain ⟨nd, nn⟩ := b.nw
      obtain ⟨n1, n2⟩ := List.nodup_cons.mp nd
      obtain ⟨n3, n4⟩ := List.nodup_cons.mp n2
      cases cm with
      | nil =>
        subst hz
        refine iteF ?_
        refine ⟨_, rfl, k D ps H4 ⟨List.nodup_cons.mpr ⟨fun z => n1 (by simp [z]), n4⟩, fun z hz => nn z ?_⟩ (b.sm.trans s4) ⟨s4 _ _ b.top, ?_⟩⟩
        · rcases List.mem_cons.mp hz with y | y
          · simp [y]
          · simp [y]
        · rw [hins]
          simpa [comes] using b.lns.mono s4
      | cons y cm' =>
        have hcm' : cm' = [] := List.length_eq_zero_iff.mp (by simp at hcm; simp [hcm])
        subst hcm'
        subst hz
        refine iteT ?_
        refine ⟨_, rfl, .inl ⟨rfl, _, SqL.of (s4 _ _ b.top)⟩, _, rfl, D, _, _, rfl, rfl, s4 _ _ b.top, by rw [List.length_map, hps, sizeLine_eq]; omega, _, rfl, ?_⟩
        have hD0 : H D = none := nn D (by simp)
        refine k D (ps ++ [c]) _ ⟨List.nodup_cons.mpr ⟨fun z => ?_, List.nodup_append.mpr ⟨n4, by simp, fun u hu v hv z => ?_⟩⟩, fun z hz => ?_⟩ (Same.put' (b.sm.trans s4) hD0) ⟨by rw [upd_same, List.map_append]; rfl, ?_⟩
        · rcases List.mem_append.mp z with z | z
          · exact n1 (by simp [z])
          · exact n1 (by rw [List.mem_singleton.mp z]; simp)
        · rw [List.mem_singleton.mp hv] at z
          exact n3 (z ▸ hu)
        · rcases List.mem_cons.mp hz with z' | z'
          · rw [z']; exact hD0
          · rcases List.mem_append.mp z' with z' | z'
            · exact nn z (by simp [z'])
            · rw [List.mem_singleton.mp z']; exact nn c (by simp)
        · rw [hins]
          show Lns _ _ (U ++ [[y]])
          refine Lns.snoc (lns_keep (b.lns.mono s4) fun z hz o e => ?_) ?_
          · rw [upd_ne (fun y => n1 (by rw [← y]; simp [hz]))]; exact e
          · show upd H4 D _ c = _
            rw [upd_ne (fun y => n1 (by rw [← y]; simp))]
            exact b.ic.mono s4
end
def spPair : Sp := fun vs H Q _ => ∃ (a : Addr) (ns : List Int), vs = [.ref a] ∧ IsI H a ns ∧ ns.length ≤ 63 ∧ ∀ (t p q : Addr) (ps qs : List Addr) (H' : Hp), Same H H' → H t = none → H' t = some (.tup [.ref p, .ref q]) → IsLn H' p ps (tabl ns) → IsLn H' q qs (mks ns) → Q (.ref t) H'
structure PI2 (H H2 : Hp) (p q : Addr) (ps qs : List Addr) (T M : List (List Int)) : Prop where
  sm : Same H H2
  q0 : H q = none
  ln : IsLn H2 p ps T
  nq : q ∉ p :: ps
  mkk : IsLn H2 q qs M
  nin : q ∉ qs
theorem lns_set {H : Hp} {a : Addr} {r : List Int} (h : IsI H a r) : ∀ {as : List Addr} {T : List (List Int)} (k : Nat), Lns H as T → Lns H (as.set k a) (T.set k r)
  | _, _, _, .nil => .nil
  | _, _, 0, .cons _ t => .cons h t
  | _, _, k + 1, .cons g t => .cons g (lns_set h k t)
theorem isln_upd {H : Hp} {q p : Addr} {o : HO} {ps : List Addr} {T : List (List Int)} (h : IsLn H p ps T) (n : q ∉ p :: ps) : IsLn (upd H q o) p ps T :=
  ⟨by rw [upd_ne (fun z => n (by simp [z]))]; exact h.top, lns_keep h.lns fun a ha o' e => by rw [upd_ne (fun z => n (by rw [← z]; simp [ha]))]; exact e⟩
theorem PI2.mono {H H2 H3 : Hp} {p q : Addr} {ps qs : List Addr} {T M : List (List Int)} (h : PI2 H H2 p q ps qs T M) (s : Same H2 H3) : PI2 H H3 p q ps qs T M := ⟨h.sm.trans s, h.q0, h.ln.mono s, h.nq, h.mkk.mono s, h.nin⟩
/-- a mark put at the end, or into a line -/
theorem PI2.app {H H2 : Hp} {p q l : Addr} {ps qs : List Addr} {T M : List (List Int)} {r : List Int} (h : PI2 H H2 p q ps qs T M) (hl : IsI H2 l r) (hq : l ≠ q) : PI2 H (upd H2 q (.lst (qs.map V.ref ++ [.ref l]))) p q ps (qs ++ [l]) T (M ++ [r]) := by
  refine ⟨Same.put' h.sm h.q0, h.q0, isln_upd h.ln h.nq, h.nq, ⟨by rw [upd_same, List.map_append]; rfl, Lns.snoc (lns_keep h.mkk.lns fun a ha o e => ?_) ?_⟩, fun z => ?_⟩
  · rw [upd_ne (fun z => h.nin (by rw [← z]; exact ha))]; exact e
  · show upd H2 q _ l = _
    rw [upd_ne hq]; exact hl
  · rcases List.mem_append.mp z with z | z
    · exact h.nin z
    · exact hq (List.mem_singleton.mp z).symm
theorem PI2.set {H H2 : Hp} {p q l : Addr} {ps qs : List Addr} {T M : List (List Int)} {r : List Int} (k : Nat) (h : PI2 H H2 p q ps qs T M) (hl : IsI H2 l r) (hq : l ≠ q) : PI2 H (upd H2 q (.lst ((qs.map V.ref).set k (.ref l)))) p q ps (qs.set k l) T (M.set k r) := by
  have hset : ∀ z, z ∈ qs.set k l → z = l ∨ z ∈ qs := fun z hz => (List.mem_or_eq_of_mem_set hz).symm
  refine ⟨Same.put' h.sm h.q0, h.q0, isln_upd h.ln h.nq, h.nq, ⟨by rw [upd_same, List.map_set], ?_⟩, fun z => ?_⟩
  · refine lns_keep (lns_set hl k h.mkk.lns) fun a ha o e => ?_
    rw [upd_ne (fun z => ?_)]
    · exact e
    · rcases hset a ha with y | y
      · exact hq (y ▸ z)
      · exact h.nin (z ▸ y)
  · rcases hset q z with y | y
    · exact hq y.symm
    · exact h.nin y
theorem ixN_nat {n j : Nat} (h : j < n) : ixN n (0 + (j : Int)) = some j := by
  unfold ixN
  rw [if_pos (by omega), if_pos (by omega)]
  congr 1; omega
section
variable {P : Program} {w : World} {K : PySem.W.Frag} {mg : Str → Option Value} {base : Heap}
abbrev st_l_pair_of : Stmt := top 17
theorem sc_l_pair_of : FnScope ["_law_numbers", "_law_lines", "_law_marks", "_law_turn", "_law_grown", "_law_k"] ["_law_numbers"] (defScope st_l_pair_of) := ⟨rfl, rfl, rfl, by decide +kernel, rfl, by decide +kernel, by decide +kernel⟩
theorem ok_l_pair_of (F : Fn K mg "_law_pair_of" st_l_pair_of ["_law_numbers"]) (B : Bi mg) (G_l_bump : Has P w K mg base CX0 1 "_law_bump" ["_law_lines", "_law_number"] spBump) : Has P w K mg base CX0 2 "_law_pair_of" ["_law_numbers"] spPair := by
  refine F.has sc_l_pair_of (fun vs H Q E h => ?_) (fun f cdv A outer s H vs Q E hr h => ?_)
  · obtain ⟨a, ns, rfl, _⟩ := h
    rfl
  · obtain ⟨a, ns, rfl, hI, hn, k⟩ := h
    refine ⟨_, (pss_cons (ps_set (i := 1) sc_l_pair_of.nd rfl (by first | exact Or.inl rfl | exact Or.inr rfl) (pe_lst pa_nil)) (pss_cons (ps_set (i := 2) sc_l_pair_of.nd rfl (by first | exact Or.inl rfl | exact Or.inr rfl) (pe_lst pa_nil)) (pss_cons (ps_for PassesOwn.never rfl (pi_range1 rfl B.range (pa_Call (pe_callB (callK_len K) (by rfl) B.len PySem.boot_len (pa_Name (pv 0) pa_nil)) pa_nil)) (pg_name (i := 3) sc_l_pair_of.nd rfl (by first | exact Or.inl rfl | exact Or.inr rfl))
 (pss_cons (ps_set (i := 4) sc_l_pair_of.nd rfl (by first | exact Or.inl rfl | exact Or.inr rfl) (pe_callH G_l_bump (hr.mono (by decide)) rfl pass0 (pa_Name (pv 1) (pa_Subscript (pe_ix (ixK_list K) (pv 0) (pv 3) (fun _ _ => rfl)) pa_nil)))) (pss_cons (ps_for PassesOwn.never rfl (pi_range1 rfl B.range (pa_Call (pe_callB (callK_len K) (by rfl) B.len PySem.boot_len (pa_Name (pv 4) pa_nil)) pa_nil)) (pg_name (i := 5) sc_l_pair_of.nd rfl (by first | exact Or.inl rfl | exact Or.inr rfl))
 (pss_one (ps_if (pt_cmpR op_eq (pv 5) (pe_callB (callK_len K) (by rfl) B.len PySem.boot_len (pa_Name (pv 1) pa_nil)) (nomark _))
 (pss_one (ps_expr (pe_bm PySem.F.plainAttrs_list PySem.F.slot_list_append PySem.F.type_list_append mt_append (pv 2) (pa_List (pe_lst (pa_Name (pv 3) pa_nil)) pa_nil))))
 (pss_one (ps_if (pt_cmpR op_gt (pe_callB (callK_len K) (by rfl) B.len PySem.boot_len (pa_Subscript (pe_ix (ixK_list K) (pv 4) (pv 5) (fun _ _ => rfl)) pa_nil)) (pe_callB (callK_len K) (by rfl) B.len PySem.boot_len (pa_Subscript (pe_ix (ixK_list K) (pv 1) (pv 5) (fun _ _ => rfl)) pa_nil)) (nomark _))
 (pss_one (ps_asg (pe_op op_cat (pe_ix (ixK_list K) (pv 2) (pv 5) (fun _ _ => rfl)) (pe_lst (pa_Name (pv 3) pa_nil))) (pg_sub (pv 2) (pv 5) set_list)))
 pss_nil))))) (pss_one (ps_set (i := 1) sc_l_pair_of.nd rfl (by first | exact Or.inl rfl | exact Or.inr rfl) (pv 4)))))) (pss_one (ps_ret (pe_tup (pa_Name (pv 1) (pa_Name (pv 2) pa_nil)))))))), ?_⟩
    refine ⟨Nat.zero_le _, fun p hp => ⟨Nat.zero_le _, fun q hq => ?_⟩⟩
    have hpq : q ≠ p := fun z => by rw [z, upd_same] at hq; cases hq
    have s0 : Same H (upd (upd H p (.lst [])) q (.lst [])) := (Same.put hp).trans (Same.put hq)
    have P0 : PI2 H (upd (upd H p (.lst [])) q (.lst [])) p q [] [] (tabl (ns.take 0)) (mks (ns.take 0)) := ⟨s0, (Same.put hp).free hq, ⟨by rw [upd_ne hpq.symm, upd_same]; rfl, by rw [List.take_zero]; exact .nil⟩, by simpa using hpq, ⟨upd_same, by rw [List.take_zero]; exact .nil⟩, by simp⟩
    have hcnt : (((ns.map V.int).length : Int)).toNat = ns.length := by simp
    refine ⟨_, rfl, a, _, rfl, .inl (hI.mono s0).sq, _, rfl, by omega, by simp; omega, for_range (fun i σ H2 => ∃ (p : Addr) (ps qs : List Addr) (v3 v4 v5 : Option V), σ = [some (.ref a), some (.ref p), some (.ref q), v3, v4, v5] ∧ PI2 H H2 p q ps qs (tabl (ns.take i)) (mks (ns.take i)))
      ⟨p, [], [], none, none, none, rfl, P0⟩ ?_ ?_⟩
    · rintro i σ H2 hi ⟨p, ps, qs, v3, v4, v5, rfl, I⟩
      rw [hcnt] at hi
      have hTl := tabl_len (ns.take i)
      have htk : (ns.take i).length = i := by rw [List.length_take]; omega
      have hMl := mks_len (w := ns) (i := i) (by omega)
      refine ⟨_, rfl, _, rfl, _, rfl, a, _, _, .int (ns.getD i 0), rfl, rfl, (hI.mono I.sm).sq, at0 (int_at hi), p, ps, _, _, rfl, I.ln, by omega, (fun r hr' => by have := tabl_row hr'; omega), fun g gs H3 hN s3 hG => ?_⟩
      have I3 := I.mono s3
      have qg : q ∉ g :: gs := fun z => by have := hN.2 q z; rw [I.mkk.top] at this; cases this
      have hxdef : ns.getD i 0 = ns.getD i 0 := rfl
      generalize hx : ns.getD i 0 = x at hG
      generalize hT : tabl (ns.take i) = T at *
      generalize hM : mks (ns.take i) = M at *
      have hgl := gline_le T x
      have hil := ins_len2 T x
      have hgln := hG.lns.length
      have hqsl := I.mkk.lns.length
      have hn2 : (((gs.map V.ref).length : Int)).toNat = (ins T x).length := by simp [hgln]
      refine ⟨_, rfl, g, _, rfl, .inl hG.sq, _, rfl, by omega, by simp [hgln]; have := ins_length T x; omega, for_range (fun j σ H4 => ∃ (qs : List Addr) (v5 : Option V), σ = [some (.ref a), some (.ref p), some (.ref q), some (.int (0 + (i : Int))), some (.ref g), v5] ∧ PI2 H H4 p q ps qs T (if gline T x < j then putM M (gline T x) (i : Int) else M) ∧ IsLn H4 g gs (ins T x))
        ⟨qs, _, rfl, by simpa using I3, hG⟩ ?_ ?_⟩
      · rintro j σ H4 hj ⟨qs4, v6, rfl, I4, hG4⟩
        rw [hn2] at hj
        have hL4 := I4.mkk.lns.length
        refine if_via (fun c H5 => c = decide (j = T.length) ∧ H4 = H5) (fun R hR => ?_) (fun c H5 ⟨hc, e5⟩ => ?_)
        · refine ⟨_, rfl, _, rfl, p, _, rfl, .inl I4.ln.sq, rfl, _, rfl, hR _ _ ⟨?_, rfl⟩⟩
          have := I4.ln.lns.length
          simp [this]
          omega
        subst e5
        by_cases hjT : j = T.length
        · have hcT : c = true := by rw [hc]; simp [hjT]
          subst hcT
          refine iteT ?_
          have hgT : gline T x = T.length := by
            rw [hil] at hj
            by_cases z : gline T x = T.length
            · exact z
            · rw [if_neg z] at hj; omega
          have hM4 : (if gline T x < j then putM M (gline T x) (i : Int) else M) = M := if_neg (by omega)
          rw [hM4] at I4 hL4
          refine ⟨_, rfl, .inl ⟨rfl, _, I4.mkk.sq⟩, _, rfl, (by show 1 ≤ sizeLine; decide), fun l hl0 => ⟨q, _, _, rfl, rfl, (Same.put hl0) _ _ I4.mkk.top, ?_, ?_⟩⟩
          · rw [List.length_map, sizeLine_eq]; omega
          · have lq : l ≠ q := (ne_of_none I4.mkk.top hl0).symm
            have I5 := (I4.mono (Same.put hl0)).app (l := l) (r := [0 + (i : Int)]) upd_same lq
            refine ⟨qs4 ++ [l], _, rfl, ?_, isln_upd (hG4.mono (Same.put hl0)) qg⟩
            have e : (if gline T x < j + 1 then putM M (gline T x) (i : Int) else M) = M ++ [[0 + (i : Int)]] := by
              rw [if_pos (by omega), putM, if_pos (by omega)]
              simp
            rw [e]
            exact I5
        · have hcF : c = false := by rw [hc]; simp [hjT]
          subst hcF
          refine iteF ?_
          have hjT' : j < T.length := by rw [hil] at hj; split at hj <;> omega
          have hg1 := List.getElem?_eq_getElem hj
          have hT1 := List.getElem?_eq_getElem hjT'
          generalize (ins T x)[j] = r1 at hg1
          generalize T[j] = r2 at hT1
          obtain ⟨b1, hb1, hi1⟩ := hG4.lns.getT hg1
          obtain ⟨b2, hb2, hi2⟩ := I4.ln.lns.getT hT1
          have hab1 : (gs.map V.ref)[j]? = some (.ref b1) := by rw [List.getElem?_map, hb1]; rfl
          have hab2 : (ps.map V.ref)[j]? = some (.ref b2) := by rw [List.getElem?_map, hb2]; rfl
          have hiff := grown_iff (T := T) (x := x) hjT'
          rw [getD_of hg1, getD_of hT1] at hiff
          refine if_via (fun c H5 => c = decide (j = gline T x) ∧ H4 = H5) (fun R hR => ?_) (fun c H5 ⟨hc, e5⟩ => ?_)
          · refine ⟨_, rfl, _, rfl, g, _, _, .ref b1, rfl, rfl, hG4.sq, at0 hab1, b1, _, rfl, .inl hi1.sq, _, rfl, _, rfl, p, _, _, .ref b2, rfl, rfl, I4.ln.sq, at0 hab2, b2, _, rfl, .inl hi2.sq, _, _, rfl, rfl, _, rfl, hR _ _ ⟨?_, rfl⟩⟩
            simp only [List.length_map]
            rw [decide_eq_decide]
            omega
          subst e5
          by_cases hjg : j = gline T x
          · have hcT : c = true := by rw [hc]; simp [hjg]
            subst hcT
            refine iteT ?_
            have hM4 : (if gline T x < j then putM M (gline T x) (i : Int) else M) = M := if_neg (by omega)
            rw [hM4] at I4 hL4
            have hjM : j < M.length := by omega
            have hm1 := List.getElem?_eq_getElem hjM
            generalize M[j] = r3 at hm1
            obtain ⟨b3, hb3, hi3⟩ := I4.mkk.lns.getT hm1
            have hab3 : (qs4.map V.ref)[j]? = some (.ref b3) := by rw [List.getElem?_map, hb3]; rfl
            refine ⟨_, rfl, _, rfl, q, _, _, .ref b3, rfl, rfl, I4.mkk.sq, at0 hab3, _, rfl, (by show 1 ≤ sizeLine; decide), fun l hl0 => ⟨b3, l, _, _, rfl, rfl, (Same.put hl0) _ _ hi3, upd_same, ?_, fun l2 hl2 => ?_⟩⟩
            · have := mks_row ns i (by omega) r3 (by rw [hM]; exact List.mem_of_getElem? hm1)
              rw [List.length_map, sizeLine_eq]
              simp only [List.length_cons, List.length_nil]
              omega
            · have s5 : Same H4 (upd (upd H4 l (.lst [.int (0 + (i : Int))])) l2 (.lst (r3.map V.int ++ [.int (0 + (i : Int))]))) := (Same.put hl0).trans (Same.put hl2)
              have l2q : l2 ≠ q := (ne_of_none ((Same.put hl0) _ _ I4.mkk.top) hl2).symm
              have I5 := (I4.mono s5).set (l := l2) (r := r3 ++ [0 + (i : Int)]) j (by show upd _ l2 _ l2 = _; rw [upd_same, List.map_append]; rfl) l2q
              refine ⟨_, rfl, _, rfl, q, _, _, j, rfl, rfl, s5 _ _ I4.mkk.top, ?_, ?_⟩
              · rw [List.length_map]; exact ixN_nat (by omega)
              · refine ⟨qs4.set j l2, _, rfl, ?_, isln_upd (hG4.mono s5) qg⟩
                have e : (if gline T x < j + 1 then putM M (gline T x) (i : Int) else M) = M.set j (r3 ++ [0 + (i : Int)]) := by
                  rw [if_pos (by omega), putM, if_neg (by omega), ← hjg, getD_of hm1]
                  simp
                rw [e]
                exact I5
          · have hcF : c = false := by rw [hc]; simp [hjg]
            subst hcF
            refine iteF ?_
            refine ⟨qs4, _, rfl, ?_, hG4⟩
            have e : (if gline T x < j + 1 then putM M (gline T x) (i : Int) else M) = (if gline T x < j then putM M (gline T x) (i : Int) else M) := by
              by_cases z : gline T x < j
              · rw [if_pos z, if_pos (by omega)]
              · rw [if_neg z, if_neg (by omega)]
            rw [e]
            exact I4
      · rintro σ H4 ⟨qs4, v6, rfl, I4, hG4⟩
        refine ⟨_, rfl, g, gs, qs4, _, _, _, rfl, ?_⟩
        rw [hn2] at I4
        have hlt : gline T x < (ins T x).length := by rw [hil]; split <;> omega
        rw [if_pos hlt] at I4
        rw [tabl_take hi, mks_take hi, hT, hM, hx]
        exact ⟨I4.sm, I4.q0, hG4, qg, I4.mkk, I4.nin⟩
    · rintro σ H2 ⟨p, ps, qs, v3, v4, v5, rfl, I⟩
      rw [hcnt, List.take_length] at I
      refine ⟨_, rfl, _, rfl, (by show 2 ≤ sizeLine; decide), fun t ht => ?_⟩
      exact k t p q ps qs _ (I.sm.trans (Same.put ht)) (I.sm.free ht) upd_same (I.ln.mono (Same.put ht)) (I.mkk.mono (Same.put ht))
end
theorem isln_row {H : Hp} {p b : Addr} {ps : List Addr} {T : List (List Int)} {ℓ : Nat} {r' : List Int} (h : IsLn H p ps T) (nd : (p :: ps).Nodup) (hb : ps[ℓ]? = some b) : IsLn (upd H b (.lst (r'.map V.int))) p ps (T.set ℓ r') := by
  obtain ⟨n1, n2⟩ := List.nodup_cons.mp nd
  have hbm := List.mem_of_getElem? hb
  refine ⟨by rw [upd_ne (fun z => n1 (by rw [z]; exact hbm))]; exact h.top, Lns.of_get (by rw [List.length_set]; exact h.lns.length) fun i a r e1 e2 => ?_⟩
  rw [List.getElem?_set] at e2
  by_cases hi : ℓ = i
  · subst hi
    rw [hb] at e1
    cases e1
    rw [if_pos rfl] at e2
    split at e2
    · cases e2; exact upd_same
    · cases e2
  · rw [if_neg hi] at e2
    obtain ⟨r2, e3, i3⟩ := h.lns.get e1
    rw [e2] at e3
    cases e3
    show upd H b _ a = _
    rw [upd_ne]
    · exact i3
    · intro z
      subst z
      have h1 := (List.getElem?_eq_some_iff.mp e1).1
      have h2 := (List.getElem?_eq_some_iff.mp hb).1
      rw [List.getElem?_eq_getElem h1] at e1
      rw [List.getElem?_eq_getElem h2] at hb
      have q := List.pairwise_iff_getElem.mp n2
      rcases Nat.lt_or_ge i ℓ with y | y
      · exact q i ℓ h1 h2 y (by rw [Option.some.inj e1, Option.some.inj hb])
      · exact q ℓ i h2 h1 (by omega) (by rw [Option.some.inj e1, Option.some.inj hb])
theorem seq_via {t u : TS} {D : Ends} {σ : St} {H : Hp} (Mid : St → Hp → Prop) (h1 : ∀ N : St → Hp → Prop, (∀ σ' H', Mid σ' H' → N σ' H') → t { D with nx := N } σ H) (h2 : ∀ σ' H', Mid σ' H' → u D σ' H') : tSeq t u D σ H := h1 _ h2
/-! ### the program's own text: bumping in place, both -/
def Keep (L : List Addr) (H H' : Hp) : Prop := ∀ b o, H b = some o → b ∉ L → H' b = some o
theorem keep_of {L : List Addr} {H H' : Hp} (s : Same H H') : Keep L H H' := fun b o e _ => s b o e
theorem Keep.trans {L : List Addr} {H H' H2 : Hp} (a : Keep L H H') (b : Keep L H' H2) : Keep L H H2 := fun c o e n => b c o (a c o e n) n
theorem Keep.put {L : List Addr} {H H' : Hp} {b : Addr} {o : HO} (a : Keep L H H') (hb : b ∈ L) : Keep L H (upd H' b o) := fun c o' e n => by
  rw [upd_ne (fun z => n (by rw [z]; exact hb))]; exact a c o' e n
theorem Keep.isi {L : List Addr} {H H' : Hp} {p : Addr} {r : List Int} (k : Keep L H H') (h : IsI H p r) (n : p ∉ L) : IsI H' p r := k _ _ h n
theorem isln_there {H : Hp} {p : Addr} {ps : List Addr} {T : List (List Int)} (h : IsLn H p ps T) {b : Addr} (hb : b ∈ p :: ps) : H b ≠ none := by
  rcases List.mem_cons.mp hb with z | z
  · rw [z, h.top]; simp
  · exact h.lns.there z
/-- a line put behind the others, in place -/
theorem isln_app {H : Hp} {p l : Addr} {ps : List Addr} {T : List (List Int)} {r : List Int} (h : IsLn H p ps T) (nd : (p :: ps).Nodup) (hl : IsI H l r) (n : l ∉ p :: ps) : IsLn (upd H p (.lst (ps.map V.ref ++ [.ref l]))) p (ps ++ [l]) (T ++ [r]) ∧ (p :: (ps ++ [l])).Nodup := by
  obtain ⟨n1, n2⟩ := List.nodup_cons.mp nd
  have np : l ≠ p := fun z => n (by simp [z])
  refine ⟨⟨by rw [upd_same, List.map_append]; rfl, Lns.snoc (lns_keep h.lns fun a ha o e => ?_) ?_⟩, ?_⟩
  · rw [upd_ne (fun z => n1 (by rw [← z]; exact ha))]; exact e
  · show upd H p _ l = _
    rw [upd_ne np]; exact hl
  · refine List.nodup_cons.mpr ⟨fun z => ?_, List.nodup_append.mpr ⟨n2, by simp, fun u hu v hv z => n ?_⟩⟩
    · rcases List.mem_append.mp z with z | z
      · exact n1 z
      · exact np (List.mem_singleton.mp z).symm
    · rw [List.mem_singleton.mp hv] at z
      rw [← z]; simp [hu]
/-- what a change in place promises -/
def Chg (p : Addr) (ps : List Addr) (T' : List (List Int)) (H : Hp) (R : Hp → Prop) : Prop :=
  ∀ (ps' : List Addr) (H' : Hp), Keep (p :: ps) H H' → IsLn H' p ps' T' → (p :: ps').Nodup → (∀ b ∈ ps', b ∈ ps ∨ H b = none) → R H'
def spPush : Sp := fun vs H Q _ => ∃ (p : Addr) (ps : List Addr) (T : List (List Int)) (x : Int), vs = [.ref p, .int x] ∧ IsLn H p ps T ∧ (p :: ps).Nodup ∧ T.length ≤ 900 ∧ (∀ r ∈ T, r.length ≤ 900) ∧ Chg p ps (ins T x) H fun H' => Q (.int (gline T x)) H'
def spPut : Sp := fun vs H Q _ => ∃ (p : Addr) (ps : List Addr) (M : List (List Int)) (k : Nat) (t : Int), vs = [.ref p, .int (k : Int), .int t] ∧ IsLn H p ps M ∧ (p :: ps).Nodup ∧ k ≤ M.length ∧ M.length ≤ 900 ∧ (∀ r ∈ M, r.length ≤ 900) ∧ Chg p ps (putM M k t) H fun H' => Q .non H'
def spMof : Sp := fun vs H Q _ => ∃ (a : Addr) (gs : List Nat), vs = [.ref a] ∧ IsI H a (nIs gs) ∧ gs.length ≤ 800 ∧ (∀ i, i < gs.length → gs.getD i 0 ≤ (mofN gs i).length) ∧ ∀ (p : Addr) (ps : List Addr) (H' : Hp), Same H H' → (∀ b ∈ p :: ps, H b = none) → (p :: ps).Nodup → IsLn H' p ps (mofN gs gs.length) → Q (.ref p) H'
theorem nat_at {gs : List Nat} {i : Nat} (h : i < gs.length) : ((nIs gs).map V.int)[i]? = some (.int ((gs.getD i 0 : Nat) : Int)) := by
  rw [List.getElem?_map, nIs, List.getElem?_map, List.getElem?_eq_getElem h, List.getD_eq_getElem?_getD, List.getElem?_eq_getElem h]
  rfl
theorem while_via {c : TT} {tb : TS} {D : Ends} {σ : St} {H : Hp} (W : Nat → St → Hp → Prop) (m : Nat) (h0 : W m σ H) (hs : ∀ m σ H, W m σ H → c σ H fun b H1 => if b = true then ∃ N : St → Hp → Prop, (∀ σ' H', N σ' H' → ∃ m', m' < m ∧ W m' σ' H') ∧ tb { D with nx := N, ct := N, bk := D.nx } σ H1 else D.nx σ H1) : tWhile c tb D σ H :=
  ⟨W, ⟨m, h0⟩, hs⟩
theorem cnt_vals (r : List Int) (x : Int) : ((r.map V.int).filter fun v => decide (intOf v ≤ x)).length = cnt r x := by
  rw [cnt, List.filter_map, List.length_map]
  rfl
def PushW (H : Hp) (p : Addr) (ps : List Addr) (T : List (List Int)) (x : Int) (m : Nat) (σ : St) (H2 : Hp) : Prop :=
  ∃ (A' B' : List (List Int)) (y : Int) (v3 v4 v5 : Option V), m = B'.length ∧ σ = [some (.ref p), some (.int y), some (.int (A'.length : Int)), v3, v4, v5] ∧ IsLn H2 p ps (A' ++ B') ∧ Keep (p :: ps) H H2 ∧ ins T x = A' ++ ins B' y ∧ gline T x = A'.length + gline B' y ∧ (A' ++ B').length = T.length ∧ ∀ r ∈ B', r.length ≤ 900
theorem mid_set (A' B' : List (List Int)) (r r' : List Int) : (A' ++ r :: B').set A'.length r' = A' ++ r' :: B' := by
  rw [List.set_append_right _ _ (Nat.le_refl _)]; simp
theorem mid_get (A' B' : List (List Int)) (r : List Int) : (A' ++ r :: B')[A'.length]? = some r := by
  rw [List.getElem?_append_right (Nat.le_refl _)]; simp
section
variable {P : Program} {w : World} {K : PySem.W.Frag} {mg : Str → Option Value} {base : Heap}
abbrev st_push : Stmt := top 4
theorem sc_push : FnScope ["table", "number", "at", "line", "place", "pushed"] ["table", "number"] (defScope st_push) := ⟨rfl, rfl, rfl, by decide +kernel, rfl, by decide +kernel, by decide +kernel⟩
set_option maxHeartbeats 4000000 in
theorem ok_push (F : Fn K mg "push" st_push ["table", "number"]) (B : Bi mg) : Has P w K mg base CX0 1 "push" ["table", "number"] spPush := by
  refine F.has sc_push (fun vs H Q E h => ?_) (fun f cdv A outer s H vs Q E hr h => ?_)
  · obtain ⟨p, ps, T, x, rfl, _⟩ := h
    rfl
  · obtain ⟨p, ps, T, x, rfl, hL, nd, hS, hS2, k⟩ := h
    refine ⟨_, (pss_cons (ps_set (i := 2) sc_push.nd rfl (by first | exact Or.inl rfl | exact Or.inr rfl) pe_int) (pss_cons (ps_while PassesOwn.never (pt_cmpR op_lt (pv 2) (pe_callB (callK_len K) (by rfl) B.len PySem.boot_len (pa_Name (pv 0) pa_nil)) (nomark _))
 (pss_cons (ps_set (i := 3) sc_push.nd rfl (by first | exact Or.inl rfl | exact Or.inr rfl) (pe_ix (ixK_list K) (pv 0) (pv 2) (fun _ _ => rfl))) (pss_cons (ps_set (i := 4) sc_push.nd rfl (by first | exact Or.inl rfl | exact Or.inr rfl) (pe_callB (callK_len K) (by rfl) B.len PySem.boot_len (pa_ListComp (pe_comp ["held"] (CompSc.of rfl rfl) rfl (piK_list K (pv 3)) (fun C s3 H3 ex => ⟨(pg_name (i := 6) (by show (["table", "number", "at", "line", "place", "pushed", "held"] : List Str).Nodup; decide +kernel) rfl (Or.inl rfl)), (pts_one (pt_cmpR op_le (pv 6) (pv 1) (nomark _))), (pv 6)⟩)) pa_nil))) (pss_cons (ps_if (pt_cmpR op_eq (pv 4) (pe_callB (callK_len K) (by rfl) B.len PySem.boot_len (pa_Name (pv 3) pa_nil)) (nomark _))
 (pss_cons (ps_expr (pe_bm PySem.F.plainAttrs_list PySem.F.slot_list_append PySem.F.type_list_append mt_append (pv 3) (pa_Name (pv 1) pa_nil))) (pss_one (ps_ret (pv 2))))
 pss_nil) (pss_cons (ps_set (i := 5) sc_push.nd rfl (by first | exact Or.inl rfl | exact Or.inr rfl) (pe_ix (ixK_list K) (pv 3) (pv 4) (fun _ _ => rfl))) (pss_cons (ps_asg (pv 1) (pg_sub (pv 3) (pv 4) set_list)) (pss_cons (ps_set (i := 1) sc_push.nd rfl (by first | exact Or.inl rfl | exact Or.inr rfl) (pv 5)) (pss_one (ps_aug (i := 2) sc_push.nd rfl (by first | exact Or.inl rfl | exact Or.inr rfl) pe_int ip_add))))))))) (pss_cons (ps_expr (pe_bm PySem.F.plainAttrs_list PySem.F.slot_list_append PySem.F.type_list_append mt_append (pv 0) (pa_List (pe_lst (pa_Name (pv 1) pa_nil)) pa_nil))) (pss_one (ps_ret (pv 2)))))), ?_⟩
    dsimp only [tSeq]
    refine while_via (PushW H p ps T x) T.length ⟨[], T, x, none, none, none, rfl, rfl, hL, keep_of (Same.refl _), rfl, by simp, rfl, hS2⟩ ?_
    rintro m σ H2 ⟨A', B', y, v3, v4, v5, rfl, rfl, hL2, kp, hins, hgl, hlen, hB⟩
    have hpl := hL2.lns.length
    refine ⟨_, rfl, _, rfl, p, _, rfl, .inl hL2.sq, _, _, rfl, rfl, _, rfl, ?_⟩
    cases B' with
    | nil =>
      refine iteN ?_ ?_
      · rw [List.append_nil] at hpl
        simp only [List.length_map, hpl]
        simp
      refine ⟨_, rfl, .inl ⟨rfl, _, hL2.sq⟩, _, rfl, (by show 1 ≤ sizeLine; decide), fun l hl0 => ⟨p, _, _, rfl, rfl, (Same.put hl0) _ _ hL2.top, ?_, ?_⟩⟩
      · rw [List.length_map, hpl, hlen, sizeLine_eq]; omega
      · have hl2 : l ∉ p :: ps := fun z => isln_there hL2 z hl0
        obtain ⟨i1, i2⟩ := isln_app (l := l) (r := [y]) (hL2.mono (Same.put hl0)) nd upd_same hl2
        refine ⟨_, rfl, ?_⟩
        have hz : H l = none := by
          cases e : H l with
          | none => rfl
          | some o => rw [kp l o e hl2] at hl0; cases hl0
        have q := k (ps ++ [l]) _ ((kp.trans (keep_of (Same.put hl0))).put (b := p) (by simp)) (by rw [hins]; simpa [ins] using i1) i2 (fun b hb => by
          rcases List.mem_append.mp hb with z | z
          · exact .inl z
          · exact .inr (by rw [List.mem_singleton.mp z]; exact hz))
        rw [hgl] at q
        exact q
    | cons r B'' =>
      refine iteY ?_ ?_
      · simp only [List.length_map, hpl]
        simp
        omega
      obtain ⟨b, hb, hI⟩ := hL2.lns.getT (mid_get A' B'' r)
      have hab : (ps.map V.ref)[A'.length]? = some (.ref b) := by rw [List.getElem?_map, hb]; rfl
      have hrl := hB r (by simp)
      have hbm : b ∈ p :: ps := by simp [List.mem_of_getElem? hb]
      refine ⟨PushW H p ps T x B''.length, fun σ' H' q => ⟨_, by simp, q⟩, ?_⟩
      refine ⟨_, rfl, _, rfl, p, _, _, .ref b, rfl, rfl, hL2.sq, atI_nat hab, ?_⟩
      refine ⟨_, rfl, b, rfl, ⟨_, hI.sq⟩, fun D hD => comp_vals (fun v => decide (intOf v ≤ y)) id ?_ hI.sq hD ?_ ?_ ?_⟩
      · rw [List.length_map]; exact small_line (by omega)
      · intro v H3 R hv _ hR
        obtain ⟨n, _, rfl⟩ := List.mem_map.mp hv
        exact ⟨_, rfl, _, rfl, n, y, rfl, rfl, _, rfl, hR H3 (Same.refl _)⟩
      · intro v H3 R hv _ _ hR
        exact ⟨_, rfl, hR H3 (Same.refl _)⟩
      intro H3 s3 hd
      refine ⟨D, _, rfl, .inl (SqL.of hd), ?_⟩
      rw [List.length_map, cnt_vals]
      have hL3 := hL2.mono s3
      have hI3 := hI.mono s3
      have kp3 := kp.trans (keep_of s3)
      dsimp only [gName, tSeq]
      refine if_via (fun c H' => c = decide (cnt r y = r.length) ∧ H3 = H') (fun R hR => ?_) (fun c H4 ⟨hc, e⟩ => ?_)
      · refine ⟨_, rfl, _, rfl, b, _, rfl, .inl hI3.sq, rfl, _, rfl, hR _ _ ⟨?_, rfl⟩⟩
        rw [List.length_map, decide_eq_decide]
        constructor
        · intro z; exact Int.ofNat.inj (V.int.inj z)
        · intro z; rw [z]
      subst e
      by_cases hcr : cnt r y = r.length
      · rw [decide_eq_true hcr] at hc
        subst hc
        refine iteT ?_
        refine ⟨_, rfl, .inl ⟨rfl, _, hI3.sq⟩, _, rfl, b, _, _, rfl, rfl, hI3, (by rw [List.length_map, sizeLine_eq]; omega), ?_⟩
        have i5 := isln_row (r' := r ++ [y]) hL3 nd hb
        rw [mid_set, List.map_append] at i5
        have q := k ps _ (kp3.put (o := .lst (r.map V.int ++ [y].map V.int)) hbm) (by rw [hins, ins_end (by omega)]; exact i5) nd (fun b hb => .inl hb)
        rw [hgl, gline, if_neg (by omega)] at q
        exact ⟨_, rfl, q⟩
      · rw [decide_eq_false hcr] at hc
        subst hc
        refine iteF (nxt ?_)
        have hcl := cnt_le r y
        have hlt : cnt r y < r.length := by omega
        refine ⟨_, rfl, _, rfl, b, _, _, .int (r.getD (cnt r y) 0), rfl, rfl, hI3.sq, atI_nat (int_at hlt), ?_⟩
        refine ⟨_, rfl, _, rfl, _, rfl, b, _, _, cnt r y, rfl, rfl, hI3, ?_, ?_⟩
        · have := ixN_nat (n := (r.map V.int).length) (j := cnt r y) (by rw [List.length_map]; exact hlt)
          rw [Int.zero_add] at this
          exact this
        refine ⟨_, rfl, _, rfl, _, _, rfl, rfl, ?_⟩
        rw [← List.map_set]
        have i5 := isln_row (r' := r.set (cnt r y) y) hL3 nd hb
        rw [mid_set] at i5
        refine ⟨A' ++ [r.set (cnt r y) y], B'', r.getD (cnt r y) 0, some (.ref b), some (.int (cnt r y)), some (.int (r.getD (cnt r y) 0)), rfl, ?_, by simpa using i5, kp3.put hbm, ?_, ?_, ?_, fun r' hr' => hB r' (by simp [hr'])⟩
        · simp
        · rw [hins, ins_bump hlt]; simp
        · rw [hgl, gline, if_pos hlt]; simp; omega
        · rw [← hlen]; simp
abbrev st_lengthen : Stmt := top 1
theorem sc_lengthen : FnScope ["lines", "at", "number"] ["lines", "at", "number"] (defScope st_lengthen) := ⟨rfl, rfl, rfl, by decide +kernel, rfl, by decide +kernel, by decide +kernel⟩
theorem ok_lengthen (F : Fn K mg "lengthen" st_lengthen ["lines", "at", "number"]) (B : Bi mg) : Has P w K mg base CX0 1 "lengthen" ["lines", "at", "number"] spPut := by
  refine F.has sc_lengthen (fun vs H Q E h => ?_) (fun f cdv A outer s H vs Q E hr h => ?_)
  · obtain ⟨p, ps, M, kk, t, rfl, _⟩ := h
    rfl
  · obtain ⟨p, ps, M, kk, t, rfl, hL, nd, hk, hS, hS2, k⟩ := h
    refine ⟨_, (pss_cons (ps_if (pt_cmpR op_eq (pv 1) (pe_callB (callK_len K) (by rfl) B.len PySem.boot_len (pa_Name (pv 0) pa_nil)) (nomark _))
 (pss_one (ps_expr (pe_bm PySem.F.plainAttrs_list PySem.F.slot_list_append PySem.F.type_list_append mt_append (pv 0) (pa_List (pe_lst pa_nil) pa_nil))))
 pss_nil) (pss_one (ps_expr (pe_bm PySem.F.plainAttrs_list PySem.F.slot_list_append PySem.F.type_list_append mt_append (pe_ix (ixK_list K) (pv 0) (pv 1) (fun _ _ => rfl)) (pa_Name (pv 2) pa_nil))))), ?_⟩
    have hpl := hL.lns.length
    dsimp only [tSeq]
    refine if_via (fun c H' => c = decide (kk = M.length) ∧ H = H') (fun R hR => ?_) (fun c H4 ⟨hc, e⟩ => ?_)
    · refine ⟨_, rfl, _, rfl, p, _, rfl, .inl hL.sq, rfl, _, rfl, hR _ _ ⟨?_, rfl⟩⟩
      rw [List.length_map, decide_eq_decide, hpl]
      constructor
      · intro z; exact Int.ofNat.inj (V.int.inj z)
      · intro z; rw [z]
    subst e
    by_cases hcr : kk = M.length
    · rw [decide_eq_true hcr] at hc
      subst hc
      refine iteT ?_
      refine ⟨_, rfl, .inl ⟨rfl, _, hL.sq⟩, Nat.zero_le _, fun l hl0 => ⟨p, _, _, rfl, rfl, (Same.put hl0) _ _ hL.top, ?_, ?_⟩⟩
      · rw [List.length_map, hpl, sizeLine_eq]; omega
      have hl2 : l ∉ p :: ps := fun z => isln_there hL z hl0
      have np : l ≠ p := fun z => hl2 (by simp [z])
      obtain ⟨i1, i2⟩ := isln_app (l := l) (r := []) (hL.mono (Same.put hl0)) nd upd_same hl2
      have kp : Keep (p :: ps) H (upd (upd H l (.lst ([].map V.int))) p (.lst (ps.map V.ref ++ [.ref l]))) := (keep_of (Same.put hl0)).put (by simp)
      have hg : (ps ++ [l])[kk]? = some l := by rw [List.getElem?_append_right (by omega), hpl, hcr]; simp
      have hI : IsI (upd (upd H l (.lst ([].map V.int))) p (.lst (ps.map V.ref ++ [.ref l]))) l [] := by
        show upd _ p _ l = _
        rw [upd_ne np, upd_same]
      have hab : ((ps ++ [l]).map V.ref)[kk]? = some (.ref l) := by rw [List.getElem?_map, hg]; rfl
      refine ⟨_, rfl, _, rfl, p, _, _, .ref l, rfl, rfl, i1.sq, atI_nat hab, .inl ⟨rfl, _, hI.sq⟩, _, rfl, l, _, _, rfl, rfl, hI, by decide, ?_⟩
      have i5 := isln_row (r' := [t]) i1 i2 hg
      refine k (ps ++ [l]) _ ?_ (by rw [putM, if_pos hcr]; simpa [hcr] using i5) i2 (fun b hb => ?_)
      · intro b o e n
        rw [upd_ne (fun z => by rw [z] at e; rw [e] at hl0; cases hl0)]
        exact kp b o e n
      · rcases List.mem_append.mp hb with z | z
        · exact .inl z
        · exact .inr (by rw [List.mem_singleton.mp z]; exact hl0)
    · rw [decide_eq_false hcr] at hc
      subst hc
      refine iteF (nxt ?_)
      have hlt : kk < M.length := by omega
      have hg := List.getElem?_eq_getElem hlt
      have hD : M.getD kk [] = M[kk] := by rw [List.getD_eq_getElem?_getD, hg]; rfl
      generalize M[kk] = r at *
      obtain ⟨b, hb, hI⟩ := hL.lns.getT hg
      have hrl := hS2 r (List.mem_of_getElem? hg)
      have hab : (ps.map V.ref)[kk]? = some (.ref b) := by rw [List.getElem?_map, hb]; rfl
      refine ⟨_, rfl, _, rfl, p, _, _, .ref b, rfl, rfl, hL.sq, atI_nat hab, .inl ⟨rfl, _, hI.sq⟩, _, rfl, b, _, _, rfl, rfl, hI, (by rw [List.length_map, sizeLine_eq]; omega), ?_⟩
      have i5 := isln_row (r' := r ++ [t]) hL nd hb
      rw [List.map_append] at i5
      refine k ps _ ((keep_of (Same.refl _)).put (by simp [List.mem_of_getElem? hb])) ?_ nd (fun b hb => .inl hb)
      rw [putM, if_neg hcr, hD]
      exact i5
abbrev st_marks_of : Stmt := top 2
theorem sc_marks_of : FnScope ["grown", "marks", "mark", "at"] ["grown"] (defScope st_marks_of) := ⟨rfl, rfl, rfl, by decide +kernel, rfl, by decide +kernel, by decide +kernel⟩
theorem ok_marks_of (F : Fn K mg "marks_of" st_marks_of ["grown"]) (B : Bi mg) (G_lengthen : Has P w K mg base CX0 1 "lengthen" ["lines", "at", "number"] spPut) : Has P w K mg base CX0 2 "marks_of" ["grown"] spMof := by
  refine F.has sc_marks_of (fun vs H Q E h => ?_) (fun f cdv A outer s H vs Q E hr h => ?_)
  · obtain ⟨a, gs, rfl, _⟩ := h
    rfl
  · obtain ⟨a, gs, rfl, hI, hn, hg, k⟩ := h
    refine ⟨_, (pss_cons (ps_set (i := 1) sc_marks_of.nd rfl (by first | exact Or.inl rfl | exact Or.inr rfl) (pe_lst pa_nil)) (pss_cons (ps_for PassesOwn.never rfl (piK_enum K rfl B.enumerate (pa_Name (pv 0) pa_nil)) (pgK_tup K (n := 2) rfl (pgs_cons (pg_name (i := 2) sc_marks_of.nd rfl (by first | exact Or.inl rfl | exact Or.inr rfl)) (pgs_cons (pg_name (i := 3) sc_marks_of.nd rfl (by first | exact Or.inl rfl | exact Or.inr rfl)) pgs_nil)))
 (pss_one (ps_expr (pe_callH G_lengthen (hr.mono (by decide)) rfl pass0 (pa_Name (pv 1) (pa_Name (pv 3) (pa_Name (pv 2) pa_nil))))))) (pss_one (ps_ret (pv 1))))), ?_⟩
    refine ⟨Nat.zero_le _, fun p hp => ?_⟩
    have s0 : Same H (upd H p (.lst [])) := Same.put hp
    refine ⟨_, rfl, a, _, rfl, (hI.mono s0).sq, for_enum (K := K) (a := a) (xs := (nIs gs).map V.int) (fun i σ H2 => ∃ (ps : List Addr) (v2 v3 : Option V), σ = [some (.ref a), some (.ref p), v2, v3] ∧ Same H H2 ∧ IsLn H2 p ps (mofN gs i) ∧ (p :: ps).Nodup ∧ ∀ b ∈ p :: ps, H b = none)
      ⟨[], none, none, rfl, s0, ⟨upd_same, .nil⟩, by simp, by simpa using hp⟩ (fun i σ H2 _ ⟨_, _, _, _, s2, _⟩ => (hI.mono s2).sq) ?_ ?_⟩
    · rintro i y σ H2 t hi ⟨ps, v2, v3, rfl, s2, L2, nd2, f2⟩ ht
      have hin : i < gs.length := by have := (List.getElem?_eq_some_iff.mp hi).1; simpa [nIs] using this
      have hy : y = .int ((gs.getD i 0 : Nat) : Int) := by
        have := nat_at hin
        rw [hi] at this
        exact Option.some.inj this
      subst hy
      have v1 := Same.put (o := .tup [.int i, .int ((gs.getD i 0 : Nat) : Int)]) ht
      have hz := mofN_size gs i
      refine ⟨_, rfl, _, rfl, _, rfl, p, ps, _, _, _, rfl, L2.mono v1, nd2, hg i hin, by omega, (fun r hr' => by have := hz.2 r hr'; omega), fun ps' H3 kp hl hnd hb => ?_⟩
      refine ⟨ps', _, _, rfl, fun b o e => kp b o (v1 b o (s2 b o e)) (fun z => by rw [f2 b z] at e; cases e), hl, hnd, fun b z => ?_⟩
      rcases List.mem_cons.mp z with y | y
      · rw [y]; exact f2 p (by simp)
      · rcases hb b y with u | u
        · exact f2 b (by simp [u])
        · exact (s2.trans v1).free u
    · rintro σ H2 ⟨ps, v2, v3, rfl, s2, L2, nd2, f2⟩
      rw [List.length_map, nIs, List.length_map] at L2
      exact ⟨_, rfl, k p ps H2 s2 f2 nd2 L2⟩
abbrev st_both : Stmt := top 6
theorem sc_both : FnScope ["numbers", "table", "grown", "number"] ["numbers"] (defScope st_both) := ⟨rfl, rfl, rfl, by decide +kernel, rfl, by decide +kernel, by decide +kernel⟩
theorem ok_both (F : Fn K mg "both" st_both ["numbers"]) (B : Bi mg) (G_push : Has P w K mg base CX0 1 "push" ["table", "number"] spPush) (G_marks_of : Has P w K mg base CX0 2 "marks_of" ["grown"] spMof) : Has P w K mg base CX0 3 "both" ["numbers"] spPair := by
  refine F.has sc_both (fun vs H Q E h => ?_) (fun f cdv A outer s H vs Q E hr h => ?_)
  · obtain ⟨a, ns, rfl, _⟩ := h
    rfl
  · obtain ⟨a, ns, rfl, hI, hn, k⟩ := h
    refine ⟨_, (pss_cons (ps_set (i := 1) sc_both.nd rfl (by first | exact Or.inl rfl | exact Or.inr rfl) (pe_lst pa_nil)) (pss_cons (ps_set (i := 2) sc_both.nd rfl (by first | exact Or.inl rfl | exact Or.inr rfl) (pe_lst pa_nil)) (pss_cons (ps_for PassesOwn.never rfl (piK_list K (pv 0)) (pg_name (i := 3) sc_both.nd rfl (by first | exact Or.inl rfl | exact Or.inr rfl))
 (pss_one (ps_expr (pe_bm PySem.F.plainAttrs_list PySem.F.slot_list_append PySem.F.type_list_append mt_append (pv 2) (pa_Call (pe_callH G_push (hr.mono (by decide)) rfl pass0 (pa_Name (pv 1) (pa_Name (pv 3) pa_nil))) pa_nil))))) (pss_one (ps_ret (pe_tup (pa_Name (pv 1) (pa_Call (pe_callH G_marks_of (hr.mono (by decide)) rfl pass0 (pa_Name (pv 2) pa_nil)) pa_nil)))))))), ?_⟩
    refine ⟨Nat.zero_le _, fun p hp => ⟨Nat.zero_le _, fun q hq => ?_⟩⟩
    have hpq : q ≠ p := fun z => by rw [z, upd_same] at hq; cases hq
    have s0 : Same H (upd (upd H p (.lst [])) q (.lst [])) := (Same.put hp).trans (Same.put hq)
    have hq0 : H q = none := (Same.put hp).free hq
    refine ⟨_, rfl, a, rfl, ⟨_, (hI.mono s0).sq⟩, for_list (K := K) (a := a) (xs := ns.map V.int) (fun i σ H2 => ∃ (ps : List Addr) (v3 : Option V), σ = [some (.ref a), some (.ref p), some (.ref q), v3] ∧ Same H H2 ∧ IsLn H2 p ps (tabl (ns.take i)) ∧ (p :: ps).Nodup ∧ (∀ b ∈ p :: ps, H b = none) ∧ IsI H2 q (nIs (glns (ns.take i))) ∧ q ∉ p :: ps)
      ⟨[], none, rfl, s0, ⟨by rw [upd_ne hpq.symm, upd_same]; rfl, by rw [List.take_zero]; exact .nil⟩, by simp, by simpa using hp, upd_same, by simpa using hpq⟩ (fun i σ H2 _ ⟨_, _, _, s2, _⟩ => (hI.mono s2).sq) ?_ ?_⟩
    · rintro i y σ H2 hi ⟨ps, v3, rfl, s2, L2, nd2, f2, hI2, hq2⟩
      have hin : i < ns.length := by have := (List.getElem?_eq_some_iff.mp hi).1; simpa using this
      have hy : y = .int (ns.getD i 0) := by
        have := int_at hin
        rw [hi] at this
        exact Option.some.inj this
      subst hy
      have hTl := tabl_len (ns.take i)
      have htk : (ns.take i).length = i := by rw [List.length_take]; omega
      have hgl := glns_len (ns.take i)
      refine ⟨_, rfl, .inl ⟨rfl, _, hI2.sq⟩, _, rfl, _, rfl, p, ps, _, _, rfl, L2, nd2, by omega, (fun r hr' => by have := tabl_row hr'; omega), fun ps' H3 kp hl hnd hb => ?_⟩
      have hI3 := kp.isi hI2 hq2
      refine ⟨q, _, _, rfl, rfl, hI3, (by rw [List.length_map, nIs, List.length_map, sizeLine_eq]; omega), ?_⟩
      have s3 : Same H H3 := fun b o e => kp b o (s2 b o e) (fun z => by rw [f2 b z] at e; cases e)
      have hq3 : q ∉ p :: ps' := fun z => by
        rcases List.mem_cons.mp z with y | y
        · exact hq2 (by simp [y])
        · rcases hb q y with u | u
          · exact hq2 (by simp [u])
          · rw [show H2 q = _ from hI2] at u; cases u
      have htake : ns.take (i + 1) = ns.take i ++ [ns.getD i 0] := by
        rw [List.take_add_one, List.getElem?_eq_getElem hin, List.getD_eq_getElem?_getD, List.getElem?_eq_getElem hin]; rfl
      refine ⟨ps', _, rfl, Same.put' s3 hq0, isln_upd (by rw [tabl_take hin]; exact hl) hq3, hnd, fun b z => ?_, ?_, hq3⟩
      · rcases List.mem_cons.mp z with y | y
        · rw [y]; exact f2 p (by simp)
        · rcases hb b y with u | u
          · exact f2 b (by simp [u])
          · exact s2.free u
      · show upd H3 q _ q = _
        rw [upd_same, htake, glns_snoc, nIs, nIs, List.map_append, List.map_append]
        rfl
    · rintro σ H2 ⟨ps, v3, rfl, s2, L2, nd2, f2, hI2, hq2⟩
      rw [List.length_map, List.take_length] at L2 hI2
      have hgl := glns_len ns
      refine ⟨_, rfl, _, rfl, q, glns ns, rfl, hI2, by omega, fun i hi => glns_le hi, fun r rs H3 s3 f3 nd3 L3 => ⟨(by show 2 ≤ sizeLine; decide), fun t ht => ?_⟩⟩
      rw [mofN_all] at L3
      have v := Same.put (o := .tup [.ref p, .ref r]) ht
      exact k t p r ps rs _ (s2.trans (s3.trans v)) (s2.free (s3.free ht)) upd_same (L2.mono (s3.trans v)) (L3.mono v)
end
/-! ### the law's helpers: a row of each number once, the same lines -/
def spTurned : Sp := fun vs H Q _ => ∃ (a : Addr) (cs : List Int), vs = [.ref a] ∧ IsI H a cs ∧ cs.length ≤ 63 ∧ ∀ (p : Addr) (ms : List Int) (H' : Hp), H p = none → Same H H' → IsI H' p ms → ms.Perm (rngV 0 cs.length) → Q (.ref p) H'
theorem erase_perm : ∀ {rs : List Int} {k : Nat} (h : k < rs.length), (rs[k] :: rs.eraseIdx k).Perm rs
  | _ :: _, 0, _ => List.Perm.refl _
  | x :: rs, k + 1, h => by
    have h' : k < rs.length := by simpa using h
    show (rs[k] :: x :: rs.eraseIdx k).Perm (x :: rs)
    exact (List.Perm.swap x rs[k] _).trans ((erase_perm h').cons x)
theorem popAt_perm {rs : List Int} {k : Nat} (h : k < rs.length) (ms : List Int) : (ms ++ [rs[k]] ++ rs.eraseIdx k).Perm (ms ++ rs) := by
  rw [List.append_assoc]
  exact (erase_perm h).append_left ms
theorem map_erase : ∀ (rs : List Int) (j : Nat), (rs.eraseIdx j).map V.int = (rs.map V.int).eraseIdx j
  | [], _ => rfl
  | _ :: _, 0 => rfl
  | x :: rs, j + 1 => by
    show V.int x :: (rs.eraseIdx j).map V.int = V.int x :: (rs.map V.int).eraseIdx j
    rw [map_erase rs j]
theorem rngV_len (lo : Int) (n : Nat) : (rngV lo n).length = n := by simp [rngV]
section
variable {P : Program} {w : World} {K : PySem.W.Frag} {mg : Str → Option Value} {base : Heap}
abbrev st_l_turned_order : Stmt := top 13
theorem sc_l_turned_order : FnScope ["_law_cells", "_law_rest", "_law_made", "_law_cell"] ["_law_cells"] (defScope st_l_turned_order) := ⟨rfl, rfl, rfl, by decide +kernel, rfl, by decide +kernel, by decide +kernel⟩
theorem ok_l_turned_order (F : Fn K mg "_law_turned_order" st_l_turned_order ["_law_cells"]) (B : Bi mg) : Has P w K mg base CX0 1 "_law_turned_order" ["_law_cells"] spTurned := by
  refine F.has sc_l_turned_order (fun vs H Q E h => ?_) (fun f cdv A outer s H vs Q E hr h => ?_)
  · obtain ⟨a, cs, rfl, _⟩ := h
    rfl
  · obtain ⟨a, cs, rfl, hI, hn, k⟩ := h
    refine ⟨_, (pss_cons (ps_setcomp (i := 1) sc_l_turned_order.nd rfl rfl ["_law_number"] (CompSc.of rfl rfl) rfl (pi_range1 rfl B.range (pa_Call (pe_callB (callK_len K) (by rfl) B.len PySem.boot_len (pa_Name (pv 0) pa_nil)) pa_nil)) (fun C s3 H3 ex => ⟨(pg_name (i := 4) (by show (["_law_cells", "_law_rest", "_law_made", "_law_cell", "_law_number"] : List Str).Nodup; decide +kernel) rfl (Or.inl rfl)), pts_nil, (pv 4)⟩)) (pss_cons (ps_set (i := 2) sc_l_turned_order.nd rfl (by first | exact Or.inl rfl | exact Or.inr rfl) (pe_lst pa_nil)) (pss_cons (ps_for PassesOwn.never rfl (piK_list K (pv 0)) (pg_name (i := 3) sc_l_turned_order.nd rfl (by first | exact Or.inl rfl | exact Or.inr rfl))
 (pss_one (ps_expr (pe_bm PySem.F.plainAttrs_list PySem.F.slot_list_append PySem.F.type_list_append mt_append (pv 2) (pa_Call (pe_bm PySem.F.plainAttrs_list PySem.F.slot_list_pop PySem.F.type_list_pop mt_popAt (pv 1) (pa_BinOp (pe_op op_mod (pv 3) (pe_callB (callK_len K) (by rfl) B.len PySem.boot_len (pa_Name (pv 1) pa_nil))) pa_nil)) pa_nil))))) (pss_one (ps_ret (pv 2)))))), ?_⟩
    refine ⟨_, rfl, a, _, rfl, .inl hI.sq, _, rfl, by omega, by simp only [List.length_map]; omega, fun D hD => comp_range (fun n => .int n) ?_ hD ?_ ?_ ?_⟩
    · simp only [List.length_map, Int.toNat_natCast]; exact small_line (by omega)
    · intro i H1 R _ _ hR
      exact hR H1 (Same.refl _)
    · intro i H1 R _ _ hR
      exact ⟨_, rfl, hR H1 (Same.refl _)⟩
    intro H1 s1 hd
    simp only [List.length_map, Int.toNat_natCast] at hd
    have hD1 : IsI H1 D (rngV 0 cs.length) := hd
    refine ⟨Nat.zero_le _, fun p hp => ?_⟩
    have hp0 : H p = none := s1.free hp
    have hDp : D ≠ p := ne_of_none hD1 hp
    refine ⟨_, rfl, a, rfl, ⟨_, ((hI.mono s1).mono (Same.put (o := .lst []) hp)).sq⟩, for_list (K := K) (a := a) (xs := cs.map V.int) (fun i σ H2 => ∃ (ms rs : List Int) (v3 : Option V), σ = [some (.ref a), some (.ref D), some (.ref p), v3] ∧ Same H H2 ∧ IsI H2 D rs ∧ IsI H2 p ms ∧ (ms ++ rs).Perm (rngV 0 cs.length) ∧ rs.length = cs.length - i)
      ⟨[], rngV 0 cs.length, none, rfl, s1.trans (Same.put hp), (Same.put hp) _ _ hD1, upd_same, List.Perm.refl _, by rw [rngV_len]; rfl⟩ (fun i σ H2 _ ⟨_, _, _, _, s2, _⟩ => (hI.mono s2).sq) ?_ ?_⟩
    · rintro i y σ H2 hi ⟨ms, rs, v3, rfl, s2, hDr, hpm, hperm, hrl⟩
      have hic : i < cs.length := by have := (List.getElem?_eq_some_iff.mp hi).1; simpa using this
      rw [List.getElem?_map] at hi
      obtain ⟨z, _, rfl⟩ := Option.map_eq_some_iff.mp hi
      have hpos : 0 < rs.length := by omega
      obtain ⟨j, hj, ej⟩ : ∃ j : Nat, j < rs.length ∧ z % ((rs.map V.int).length : Int) = (j : Int) := by
        rw [List.length_map]
        have h1 := Int.emod_nonneg z (show (rs.length : Int) ≠ 0 by omega)
        have h2 := Int.emod_lt_of_pos z (show 0 < (rs.length : Int) by omega)
        exact ⟨(z % (rs.length : Int)).toNat, by omega, by omega⟩
      have hml : ms.length ≤ 63 := by
        have := hperm.length_eq
        rw [List.length_append, rngV_len] at this
        omega
      refine ⟨_, rfl, .inl ⟨rfl, _, hpm.sq⟩, _, rfl, .inl ⟨rfl, _, hDr.sq⟩, _, rfl, _, rfl, D, _, rfl, .inl hDr.sq, _, _, rfl, rfl, (by show (0 : Int) < ((rs.map V.int).length : Int); rw [List.length_map]; omega), ?_⟩
      dsimp only []
      rw [ej]
      have hgj : (rs.map V.int)[j]? = some (.int rs[j]) := by rw [List.getElem?_map, List.getElem?_eq_getElem hj]; rfl
      refine ⟨D, _, _, j, _, rfl, rfl, hDr, by omega, by omega, ?_, hgj, ?_⟩
      · unfold seqIndex?
        have h0 : ¬ ((j : Int) < 0) := by omega
        simp [h0, hj]
      rw [← map_erase]
      refine ⟨p, _, _, rfl, rfl, by rw [upd_ne hDp.symm]; exact hpm, (by rw [List.length_map, sizeLine_eq]; omega), ?_⟩
      refine ⟨ms ++ [rs[j]], rs.eraseIdx j, _, rfl, ?_, ?_, ?_, (popAt_perm hj ms).trans hperm, ?_⟩
      · exact Same.put' (Same.put' s2 hD) hp0
      · show upd _ p _ D = _
        rw [upd_ne hDp, upd_same]
      · show upd _ p _ p = _
        rw [upd_same]; simp
      · rw [List.length_eraseIdx_of_lt hj]; omega
    · rintro σ H2 ⟨ms, rs, v3, rfl, s2, hDr, hpm, hperm, hrl⟩
      rw [List.length_map, Nat.sub_self] at hrl
      rw [List.length_eq_zero_iff.mp hrl, List.append_nil] at hperm
      exact ⟨_, rfl, k p ms H2 hp0 s2 hpm hperm⟩
end
def spTable : Sp := fun vs H Q _ => ∃ (a : Addr) (ns : List Int), vs = [.ref a] ∧ IsI H a ns ∧ ns.length ≤ 63 ∧ ∀ (p : Addr) (ps : List Addr) (H' : Hp), Same H H' → IsLn H' p ps (tabl ns) → Q (.ref p) H'
def spSameT : Sp := fun vs H Q _ => ∃ (a b : Addr) (ns ms : List Int), vs = [.ref a, .ref b] ∧ IsI H a ns ∧ IsI H b ms ∧ ns.length ≤ 63 ∧ ms.length ≤ 63 ∧ ∀ H', Same H H' → Q (.bl (decide (tabl ns = tabl ms))) H'
section
variable {P : Program} {w : World} {K : PySem.W.Frag} {mg : Str → Option Value} {base : Heap}
abbrev st_table_of : Stmt := top 7
theorem sc_table_of : FnScope ["numbers"] ["numbers"] (defScope st_table_of) := ⟨rfl, rfl, rfl, by decide +kernel, rfl, by decide +kernel, by decide +kernel⟩
theorem ok_table_of (F : Fn K mg "table_of" st_table_of ["numbers"]) (G_both : Has P w K mg base CX0 3 "both" ["numbers"] spPair) : Has P w K mg base CX0 4 "table_of" ["numbers"] spTable := by
  refine F.has sc_table_of (fun vs H Q E h => ?_) (fun f cdv A outer s H vs Q E hr h => ?_)
  · obtain ⟨a, ns, rfl, _⟩ := h
    rfl
  · obtain ⟨a, ns, rfl, hI, hn, k⟩ := h
    refine ⟨_, (pss_one (ps_ret (pe_ix (ixK_tup K) (pe_callH G_both (hr.mono (by decide)) rfl pass0 (pa_Name (pv 0) pa_nil)) pe_int (fun _ _ => rfl)))), ?_⟩
    exact ⟨_, rfl, a, ns, rfl, hI, hn, fun t p q ps qs H1 s1 _ ht hT _ => ⟨t, _, _, .ref p, rfl, rfl, SqT.of ht, rfl, k p ps H1 s1 hT⟩⟩
abbrev st_same_table : Stmt := top 8
theorem sc_same_table : FnScope ["one", "other"] ["one", "other"] (defScope st_same_table) := ⟨rfl, rfl, rfl, by decide +kernel, rfl, by decide +kernel, by decide +kernel⟩
theorem ok_same_table (F : Fn K mg "same_table" st_same_table ["one", "other"]) (G_table_of : Has P w K mg base CX0 4 "table_of" ["numbers"] spTable) : Has P w K mg base CX0 5 "same_table" ["one", "other"] spSameT := by
  refine F.has sc_same_table (fun vs H Q E h => ?_) (fun f cdv A outer s H vs Q E hr h => ?_)
  · obtain ⟨a, b, ns, ms, rfl, _⟩ := h
    rfl
  · obtain ⟨a, b, ns, ms, rfl, hI, hJ, hn, hm, k⟩ := h
    refine ⟨_, (pss_one (ps_ret (pe_cmpR (opK_eq K hr) (pe_callH G_table_of (hr.mono (by decide)) rfl pass0 (pa_Name (pv 0) pa_nil)) (pe_callH G_table_of (hr.mono (by decide)) rfl pass0 (pa_Name (pv 1) pa_nil)) (nomark _)))), ?_⟩
    exact ⟨_, rfl, a, ns, rfl, hI, hn, fun p ps H1 s1 hT => ⟨_, rfl, b, ms, rfl, hJ.mono s1, hm, fun q qs H2 s2 hT2 => ⟨p, q, _, rfl, rfl, (EqD.lines (hT.mono s2) hT2).mono (by decide), k H2 (s1.trans s2)⟩⟩⟩
end
def spMay : Sp := fun vs H Q _ => ∃ (a : Addr) (ns : List Int) (k : Nat), vs = [.ref a, .int (k : Int)] ∧ IsI H a ns ∧ ns.length ≤ 63 ∧ k + 1 < ns.length ∧ ∀ (b : Bool) (H' : Hp), Same H H' → (b = true → Near ns k) → Q (.bl b) H'
section
variable {P : Program} {w : World} {K : PySem.W.Frag} {mg : Str → Option Value} {base : Heap}
abbrev st_l_may_change : Stmt := top 18
theorem sc_l_may_change : FnScope ["_law_row", "_law_k", "_law_least", "_law_most", "_law_one"] ["_law_row", "_law_k"] (defScope st_l_may_change) := ⟨rfl, rfl, rfl, by decide +kernel, rfl, by decide +kernel, by decide +kernel⟩
theorem ok_l_may_change (F : Fn K mg "_law_may_change" st_l_may_change ["_law_row", "_law_k"]) (B : Bi mg) : Has P w K mg base CX0 1 "_law_may_change" ["_law_row", "_law_k"] spMay := by
  refine F.has sc_l_may_change (fun vs H Q E h => ?_) (fun f cdv A outer s H vs Q E hr h => ?_)
  · obtain ⟨a, ns, kk, rfl, _⟩ := h
    rfl
  · obtain ⟨a, ns, kk, rfl, hI, hn, hk, k⟩ := h
    refine ⟨_, (pss_cons (ps_set (i := 2) sc_l_may_change.nd rfl (by first | exact Or.inl rfl | exact Or.inr rfl) (pe_callB (call_min2 rfl) (by rfl) B.min PyProof.Rows.boot_min (pa_Subscript (pe_ix (ixK_list K) (pv 0) (pv 1) (fun _ _ => rfl)) (pa_Subscript (pe_ix (ixK_list K) (pv 0) (pe_op op_add (pv 1) pe_int) (fun _ _ => rfl)) pa_nil)))) (pss_cons (ps_set (i := 3) sc_l_may_change.nd rfl (by first | exact Or.inl rfl | exact Or.inr rfl) (pe_callB (call_max2 rfl) (by rfl) B.max PyProof.Rows.boot_max (pa_Subscript (pe_ix (ixK_list K) (pv 0) (pv 1) (fun _ _ => rfl)) (pa_Subscript (pe_ix (ixK_list K) (pv 0) (pe_op op_add (pv 1) pe_int) (fun _ _ => rfl)) pa_nil)))) (pss_cons (ps_for PassesOwn.never rfl (piK_list K (pe_op op_cat (pe_slice (slK_list K) (pv 0) (po_some (pe_callB (call_max2 rfl) (by rfl) B.max PyProof.Rows.boot_max (pa_Constant pe_int (pa_BinOp (pe_op op_sub (pv 1) pe_int) pa_nil)))) (po_some (pv 1))) (pe_slice (slK_list K) (pv 0) (po_some (pe_op op_add (pv 1) pe_int)) (po_some (pe_op op_add (pv 1) pe_int))))) (pg_name (i := 4) sc_l_may_change.nd rfl (by first | exact Or.inl rfl | exact Or.inr rfl))
 (pss_one (ps_if (PW.pt (pw_and (pt_cmpR op_lt (pv 2) (pv 4) (nomark _)) (pw_and1 (pt_cmpR op_lt (pv 4) (pv 3) (nomark _)))))
 (pss_one (ps_ret pe_bl))
 pss_nil))) (pss_one (ps_ret pe_bl))))), ?_⟩
    have h1 : kk < ns.length := by omega
    have e1 : ((kk : Int) + 1) = ((kk + 1 : Nat) : Int) := by omega
    have a1 : atI (ns.map V.int) (kk : Int) = some (.int (ns.getD kk 0)) := atI_nat (int_at h1)
    have a2 : atI (ns.map V.int) ((kk : Int) + 1) = some (.int (ns.getD (kk + 1) 0)) := by rw [e1]; exact atI_nat (int_at hk)
    refine ⟨_, rfl, _, rfl, a, _, _, _, rfl, rfl, hI.sq, a1, _, rfl, _, rfl, _, _, rfl, rfl, a, _, _, _, rfl, rfl, hI.sq, a2, _, _, rfl, ?_⟩
    refine ⟨_, rfl, _, rfl, a, _, _, _, rfl, rfl, hI.sq, a1, _, rfl, _, rfl, _, _, rfl, rfl, a, _, _, _, rfl, rfl, hI.sq, a2, _, _, rfl, ?_⟩
    have em : (if (kk : Int) - 1 > 0 then (kk : Int) - 1 else 0) = ((kk - 1 : Nat) : Int) := by split <;> omega
    have e3 : ((kk : Int) + 2) = ((kk + 2 : Nat) : Int) := by omega
    have e4 : ((kk : Int) + 3) = ((kk + 3 : Nat) : Int) := by omega
    refine ⟨_, rfl, _, rfl, _, _, rfl, rfl, _, _, rfl, _, rfl, _, rfl, _, rfl, a, _, rfl, hI.sq, fun q1 hq1 => ?_⟩
    dsimp only []
    rw [em, cut_mid, ← List.map_drop, ← List.map_take]
    have v1 := Same.put (o := .lst (((ns.drop (kk - 1)).take (kk - (kk - 1))).map V.int)) hq1
    have i1 : IsI (upd H q1 (.lst (((ns.drop (kk - 1)).take (kk - (kk - 1))).map V.int))) q1 ((ns.drop (kk - 1)).take (kk - (kk - 1))) := upd_same
    generalize upd H q1 (.lst (((ns.drop (kk - 1)).take (kk - (kk - 1))).map V.int)) = H1 at *
    refine ⟨_, rfl, _, rfl, _, _, rfl, rfl, _, rfl, _, rfl, _, _, rfl, rfl, _, rfl, a, _, rfl, (hI.mono v1).sq, fun q2 hq2 => ?_⟩
    dsimp only []
    rw [e3, e4, cut_mid, ← List.map_drop, ← List.map_take]
    have v2 := Same.put (o := .lst (((ns.drop (kk + 2)).take (kk + 3 - (kk + 2))).map V.int)) hq2
    have i2 : IsI (upd H1 q2 (.lst (((ns.drop (kk + 2)).take (kk + 3 - (kk + 2))).map V.int))) q2 ((ns.drop (kk + 2)).take (kk + 3 - (kk + 2))) := upd_same
    generalize upd H1 q2 (.lst (((ns.drop (kk + 2)).take (kk + 3 - (kk + 2))).map V.int)) = H2 at *
    have l1 : ((ns.drop (kk - 1)).take (kk - (kk - 1))).length ≤ 1 := by rw [List.length_take]; omega
    have l2 : ((ns.drop (kk + 2)).take (kk + 3 - (kk + 2))).length ≤ 1 := by rw [List.length_take]; omega
    have hm1 : ∀ c ∈ (ns.drop (kk - 1)).take (kk - (kk - 1)), 0 < kk ∧ ns[kk - 1]? = some c := by
      intro c hc
      obtain ⟨j, hj⟩ := List.mem_iff_getElem?.mp hc
      have hj' := (List.getElem?_eq_some_iff.mp hj).1
      rw [List.length_take] at hj'
      have : j = 0 := by omega
      subst this
      rw [List.getElem?_take_of_lt (by omega), List.getElem?_drop] at hj
      exact ⟨by omega, by simpa using hj⟩
    have hm2 : ∀ c ∈ (ns.drop (kk + 2)).take (kk + 3 - (kk + 2)), ns[kk + 2]? = some c := by
      intro c hc
      obtain ⟨j, hj⟩ := List.mem_iff_getElem?.mp hc
      have hj' := (List.getElem?_eq_some_iff.mp hj).1
      rw [List.length_take] at hj'
      have : j = 0 := by omega
      subst this
      rw [List.getElem?_take_of_lt (by omega), List.getElem?_drop] at hj
      simpa using hj
    generalize (ns.drop (kk - 1)).take (kk - (kk - 1)) = c1 at *
    generalize (ns.drop (kk + 2)).take (kk + 3 - (kk + 2)) = c2 at *
    refine ⟨q1, q2, _, _, rfl, rfl, i1.mono v2, i2, (by rw [List.length_map, List.length_map, sizeLine_eq]; omega), fun q3 hq3 => ?_⟩
    rw [← List.map_append]
    have v3 := Same.put (o := .lst ((c1 ++ c2).map V.int)) hq3
    have i3 : IsI (upd H2 q3 (.lst ((c1 ++ c2).map V.int))) q3 (c1 ++ c2) := upd_same
    have s3 := v1.trans (v2.trans v3)
    generalize upd H2 q3 (.lst ((c1 ++ c2).map V.int)) = H3 at *
    refine ⟨q3, rfl, ⟨_, i3.sq⟩, for_list (K := K) (a := q3) (xs := (c1 ++ c2).map V.int) (D := { nx := tRet (tC (V.bl false)) { nx := fun _ H' => Q V.non H', rt := Q }, rt := Q }) (fun i σ H4 => ∃ v4 : Option V, σ = [some (.ref a), some (.int (kk : Int)), some (V.int (if ns.getD (kk + 1) 0 < ns.getD kk 0 then ns.getD (kk + 1) 0 else ns.getD kk 0)), some (V.int (if ns.getD (kk + 1) 0 > ns.getD kk 0 then ns.getD (kk + 1) 0 else ns.getD kk 0)), v4] ∧ H3 = H4)
      ⟨none, rfl, rfl⟩ (fun i σ H4 _ ⟨_, _, e⟩ => e ▸ i3.sq) ?_ ?_⟩
    · rintro i y σ H4 hi ⟨v4, rfl, rfl⟩
      obtain ⟨z, hz, rfl⟩ := List.mem_map.mp (List.mem_of_getElem? hi)
      refine if_via (fun c H' => c = decide ((if ns.getD (kk + 1) 0 < ns.getD kk 0 then ns.getD (kk + 1) 0 else ns.getD kk 0) < z ∧ z < (if ns.getD (kk + 1) 0 > ns.getD kk 0 then ns.getD (kk + 1) 0 else ns.getD kk 0)) ∧ H3 = H') (fun R hR => ?_) (fun c H' ⟨hc, e⟩ => ?_)
      · refine ⟨_, rfl, _, rfl, _, _, rfl, rfl, _, rfl, ?_⟩
        by_cases hz1 : (if ns.getD (kk + 1) 0 < ns.getD kk 0 then ns.getD (kk + 1) 0 else ns.getD kk 0) < z
        · refine iteY (by simpa using hz1) ?_
          refine ⟨_, rfl, _, rfl, _, _, rfl, rfl, _, rfl, hR _ _ ⟨?_, rfl⟩⟩
          rw [decide_eq_decide]
          exact ⟨fun q => ⟨hz1, q⟩, fun q => q.2⟩
        · refine iteN (by simpa using hz1) (hR _ _ ⟨?_, rfl⟩)
          exact (decide_eq_false fun q => hz1 q.1).symm
      subst e
      subst hc
      by_cases hz2 : (if ns.getD (kk + 1) 0 < ns.getD kk 0 then ns.getD (kk + 1) 0 else ns.getD kk 0) < z ∧ z < (if ns.getD (kk + 1) 0 > ns.getD kk 0 then ns.getD (kk + 1) 0 else ns.getD kk 0)
      · refine iteY (decide_eq_true hz2) (k true H3 s3 fun _ => ?_)
        have g1 : ns[kk]? = some (ns.getD kk 0) := by rw [List.getD_eq_getElem?_getD, List.getElem?_eq_getElem h1]; rfl
        have g2 : ns[kk + 1]? = some (ns.getD (kk + 1) 0) := by rw [List.getD_eq_getElem?_getD, List.getElem?_eq_getElem hk]; rfl
        refine ⟨_, _, z, g1, g2, ?_, ?_⟩
        · rcases List.mem_append.mp hz with q | q
          · exact .inl (hm1 z q)
          · exact .inr (hm2 z q)
        · obtain ⟨p1, p2⟩ := hz2
          split at p1 <;> split at p2 <;> omega
      · exact iteN (by simpa using hz2) ⟨_, rfl, rfl⟩
    · rintro σ H4 ⟨v4, rfl, rfl⟩
      exact k false H3 s3 (fun q => by cases q)
end
theorem perm_rows {ms : List Int} {n : Nat} (h : ms.Perm (rngV 0 n)) : ms.Nodup ∧ ms.length = n ∧ (∀ x ∈ ms, 0 ≤ x ∧ x < n) ∧ ∀ j : Nat, j < n → (j : Int) ∈ ms := by
  have key : ∀ x, x ∈ rngV 0 n ↔ ∃ j : Nat, j < n ∧ (j : Int) = x := fun x => by
    unfold rngV
    simp
  refine ⟨?_, by rw [h.length_eq, rngV_len], fun x hx => ?_, fun j hj => ?_⟩
  · refine h.nodup_iff.mpr ?_
    unfold rngV
    refine List.Pairwise.map _ (fun a b (hab : a ≠ b) => ?_) List.nodup_range
    omega
  · obtain ⟨j, hj, e⟩ := (key x).mp (h.mem_iff.mp hx)
    omega
  · exact h.mem_iff.mpr ((key _).mpr ⟨j, hj, rfl⟩)
end K
set_option Elab.async false
set_option maxRecDepth 100000
namespace K
open PySem L2 RS
seal PE PT PW PA PS PSs PG PGs PI PO PTs
theorem half_vals (ns : List Int) : (((ns.map V.int).filter fun _ => true).map fun v => V.int (intOf v / 2)) = (ns.map (· / 2)).map V.int := by
  rw [List.filter_eq_self.mpr (by simp), List.map_map, List.map_map]
  rfl
def spLaw (K : PySem.W.Frag) : Sp := fun vs H Q _ => ∃ (a : Addr) (ns : List Int), vs = [.ref a] ∧ SqL K H a (ns.map V.int) ∧ ns.length ≤ 63 ∧ ∀ H', Q (.bl true) H'
section
variable {P : Program} {w : World} {K : PySem.W.Frag} {mg : Str → Option Value} {base : Heap}
abbrev st_law : Stmt := top 19
theorem sc_law : FnScope ["_law_script", "_law_one", "_law_other", "_law_seed", "_law_near", "_law_turn", "_law_k", "_law_j", "_law_part", "_law_given", "_law_found", "_law_due"] ["_law_script"] (defScope st_law) := ⟨rfl, rfl, rfl, by decide +kernel, rfl, by decide +kernel, by decide +kernel⟩
set_option maxHeartbeats 4000000 in
theorem ok_law {fL : Addr} {fdL : FuncData} (F : Fun K "law" "law" st_law fL fdL) (B : Bi mg) (G_l_upto : Has P w K mg base CX0 1 "_law_upto" ["_law_script", "_law_small", "_law_great"] spUpto) (G_l_at : Has P w K mg base CX0 1 "_law_at" ["_law_script", "_law_k"] spAt) (G_l_turned_order : Has P w K mg base CX0 1 "_law_turned_order" ["_law_cells"] spTurned)
    (G_l_may_change : Has P w K mg base CX0 1 "_law_may_change" ["_law_row", "_law_k"] spMay) (G_same_table : Has P w K mg base CX0 5 "same_table" ["one", "other"] spSameT) (G_l_are_lines : Has P w K mg base CX0 3 "_law_are_lines" ["_law_found"] spAreLines)
    (G_l_pair_of : Has P w K mg base CX0 2 "_law_pair_of" ["_law_numbers"] spPair) : FnOk P w K mg base CX0 6 fL fdL ["_law_script"] (spLaw K) := by
  refine F.ok sc_law (fun vs H Q E h => ?_) (fun cdv A outer s H vs Q E hr h => ?_)
  · obtain ⟨a, ns, rfl, _⟩ := h
    rfl
  · obtain ⟨a, ns, rfl, hS, hn, k⟩ := h
    refine ⟨_, (pss_cons (ps_set (i := 0) sc_law.nd rfl (by first | exact Or.inl rfl | exact Or.inr rfl) (pe_slice (slK_list K) (pv 0) po_none (po_some pe_int))) (pss_cons (ps_set (i := 1) sc_law.nd rfl (by first | exact Or.inl rfl | exact Or.inr rfl) (pe_callH G_l_turned_order (hr.mono (by decide)) rfl pass0 (pa_Subscript (pe_slice (slK_list K) (pv 0) (po_some pe_int) (po_some (pe_callH G_l_upto (hr.mono (by decide)) rfl pass0 (pa_Name (pv 0) (pa_Constant pe_int (pa_Constant pe_int pa_nil)))))) pa_nil))) (pss_cons (ps_set (i := 2) sc_law.nd rfl (by first | exact Or.inl rfl | exact Or.inr rfl) (pe_callTy (callK_list K) (by rfl) B.list PyProof.Rows.boot_list (pa_Name (pv 1) pa_nil))) (pss_cons (ps_set (i := 3) sc_law.nd rfl (by first | exact Or.inl rfl | exact Or.inr rfl) (pe_callH G_l_at (hr.mono (by decide)) rfl pass0 (pa_Name (pv 0) (pa_Constant pe_int pa_nil)))) (pss_cons (ps_set (i := 4) sc_law.nd rfl (by first | exact Or.inl rfl | exact Or.inr rfl) (pe_cmpR op_eq (pe_op op_mod (pe_callH G_l_at (hr.mono (by decide)) rfl pass0 (pa_Name (pv 0) (pa_Constant pe_int pa_nil))) pe_int) pe_int (nomark _))) (pss_cons (ps_for PassesOwn.never rfl (pi_range1 rfl B.range (pa_Constant pe_int pa_nil)) (pg_name (i := 5) sc_law.nd rfl (by first | exact Or.inl rfl | exact Or.inr rfl))
 (pss_one (ps_if (pt_cmpR op_gt (pe_callB (callK_len K) (by rfl) B.len PySem.boot_len (pa_Name (pv 1) pa_nil)) pe_int (nomark _))
 (pss_cons (ps_set (i := 6) sc_law.nd rfl (by first | exact Or.inl rfl | exact Or.inr rfl) (pe_op op_mod (pe_op op_add (pe_op op_fdiv (pv 3) (pe_op op_add (pv 5) pe_int)) (pe_op op_mul pe_int (pv 5))) (pe_op op_sub (pe_callB (callK_len K) (by rfl) B.len PySem.boot_len (pa_Name (pv 1) pa_nil)) pe_int))) (pss_one (ps_if (PW.pt (pw_and (pt_val (pv 4)) (pw_and1 (pt_val (pe_callH G_l_may_change (hr.mono (by decide)) rfl pass0 (pa_Name (pv 2) (pa_Name (pv 6) pa_nil)))))))
 (pss_one (ps_asg (pe_tup (pa_Subscript (pe_ix (ixK_list K) (pv 2) (pe_op op_add (pv 6) pe_int) (fun _ _ => rfl)) (pa_Subscript (pe_ix (ixK_list K) (pv 2) (pv 6) (fun _ _ => rfl)) pa_nil))) (pgK_tup K (n := 2) rfl (pgs_cons (pg_sub (pv 2) (pv 6) set_list) (pgs_cons (pg_sub (pv 2) (pe_op op_add (pv 6) pe_int) set_list) pgs_nil)))))
 pss_nil)))
 pss_nil))) (pss_cons (ps_if (PW.pt (pw_and (pt_not (pt_val (pv 4))) (pw_and1 (pt_cmpR op_gt (pe_callB (callK_len K) (by rfl) B.len PySem.boot_len (pa_Name (pv 1) pa_nil)) pe_int (nomark _)))))
 (pss_cons (ps_set (i := 6) sc_law.nd rfl (by first | exact Or.inl rfl | exact Or.inr rfl) (pe_op op_mod (pv 3) (pe_callB (callK_len K) (by rfl) B.len PySem.boot_len (pa_Name (pv 1) pa_nil)))) (pss_cons (ps_set (i := 7) sc_law.nd rfl (by first | exact Or.inl rfl | exact Or.inr rfl) (pe_op op_mod (pe_callH G_l_at (hr.mono (by decide)) rfl pass0 (pa_Name (pv 0) (pa_Constant pe_int pa_nil))) (pe_callB (callK_len K) (by rfl) B.len PySem.boot_len (pa_Name (pv 1) pa_nil)))) (pss_one (ps_asg (pe_tup (pa_Subscript (pe_ix (ixK_list K) (pv 2) (pv 7) (fun _ _ => rfl)) (pa_Subscript (pe_ix (ixK_list K) (pv 2) (pv 6) (fun _ _ => rfl)) pa_nil))) (pgK_tup K (n := 2) rfl (pgs_cons (pg_sub (pv 2) (pv 6) set_list) (pgs_cons (pg_sub (pv 2) (pv 7) set_list) pgs_nil)))))))
 pss_nil) (pss_cons (ps_set (i := 8) sc_law.nd rfl (by first | exact Or.inl rfl | exact Or.inr rfl) (pe_op op_mod (pe_op op_fdiv (pe_callH G_l_at (hr.mono (by decide)) rfl pass0 (pa_Name (pv 0) (pa_Constant pe_int pa_nil))) pe_int) pe_int)) (pss_cons (ps_if (PW.pt (pw_and (pt_not (pt_val (pv 4))) (pw_and1 (pt_cmpR op_eq (pv 8) pe_int (nomark _)))))
 (pss_one (ps_set (i := 2) sc_law.nd rfl (by first | exact Or.inl rfl | exact Or.inr rfl) (pe_slice (slK_list K) (pv 2) po_none (po_some (pe_callB (call_max2 rfl) (by rfl) B.max PyProof.Rows.boot_max (pa_Constant pe_int (pa_BinOp (pe_op op_sub (pe_op op_sub (pe_callB (callK_len K) (by rfl) B.len PySem.boot_len (pa_Name (pv 2) pa_nil)) pe_int) (pe_op op_mod (pv 3) pe_int)) pa_nil)))))))
 pss_nil) (pss_cons (ps_if (PW.pt (pw_and (pt_not (pt_val (pv 4))) (pw_and1 (pt_cmpR op_eq (pv 8) pe_int (nomark _)))))
 (pss_cons (ps_setcomp (i := 1) sc_law.nd rfl rfl ["_law_number"] (CompSc.of rfl rfl) rfl (piK_list K (pv 1)) (fun C s3 H3 ex => ⟨(pg_name (i := 12) (by show (["_law_script", "_law_one", "_law_other", "_law_seed", "_law_near", "_law_turn", "_law_k", "_law_j", "_law_part", "_law_given", "_law_found", "_law_due", "_law_number"] : List Str).Nodup; decide +kernel) rfl (Or.inl rfl)), pts_nil, (pe_op op_fdiv (pv 12) pe_int)⟩)) (pss_one (ps_setcomp (i := 2) sc_law.nd rfl rfl ["_law_number"] (CompSc.of rfl rfl) rfl (piK_list K (pv 2)) (fun C s3 H3 ex => ⟨(pg_name (i := 12) (by show (["_law_script", "_law_one", "_law_other", "_law_seed", "_law_near", "_law_turn", "_law_k", "_law_j", "_law_part", "_law_given", "_law_found", "_law_due", "_law_number"] : List Str).Nodup; decide +kernel) rfl (Or.inl rfl)), pts_nil, (pe_op op_fdiv (pv 12) pe_int)⟩))))
 pss_nil) (pss_cons (ps_set (i := 9) sc_law.nd rfl (by first | exact Or.inl rfl | exact Or.inr rfl) (pe_lst (pa_Call (pe_callTy (callK_list K) (by rfl) B.list PyProof.Rows.boot_list (pa_Name (pv 1) pa_nil)) (pa_Call (pe_callTy (callK_list K) (by rfl) B.list PyProof.Rows.boot_list (pa_Name (pv 2) pa_nil)) pa_nil)))) (pss_cons (ps_set (i := 10) sc_law.nd rfl (by first | exact Or.inl rfl | exact Or.inr rfl) (pe_callH G_same_table (hr.mono (by decide)) rfl pass0 (pa_Subscript (pe_ix (ixK_list K) (pv 9) pe_int (fun _ _ => rfl)) (pa_Subscript (pe_ix (ixK_list K) (pv 9) pe_int (fun _ _ => rfl)) pa_nil)))) (pss_cons (ps_if (PW.pt (pw_or (pt_not (pt_val (pe_callH G_l_are_lines (hr.mono (by decide)) rfl pass0 (pa_Name (pv 9) pa_nil)))) (pw_or1 (pt_cmpR (opK_ne K hr) (pv 9) (pe_lst (pa_Name (pv 1) (pa_Name (pv 2) pa_nil))) (nomark _)))))
 (pss_one (ps_ret pe_bl))
 pss_nil) (pss_cons (ps_set (i := 11) sc_law.nd rfl (by first | exact Or.inl rfl | exact Or.inr rfl) (pe_cmpR (opK_eq K hr) (pe_ix (ixK_tup K) (pe_callH G_l_pair_of (hr.mono (by decide)) rfl pass0 (pa_Name (pv 1) pa_nil)) pe_int (fun _ _ => rfl)) (pe_ix (ixK_tup K) (pe_callH G_l_pair_of (hr.mono (by decide)) rfl pass0 (pa_Name (pv 2) pa_nil)) pe_int (fun _ _ => rfl)) (nomark _))) (pss_cons (ps_if (PW.pt (pw_and (pt_val (pv 4)) (pw_and1 (pt_not (pt_val (pv 11))))))
 (pss_one (ps_ret pe_bl))
 pss_nil) (pss_one (ps_ret (pe_and (pe_callB (callK_isi K) (by rfl) B.isinstance PyProof.Rows.boot_isinstance (pa_Name (pv 10) (pa_Name (pe_bltn (v := .ty "bool") rfl B.bool PyProof.Rows.boot_bool rfl) pa_nil))) (pe_one (pe_cmpR op_eq (pv 10) (pv 11) (nomark _))))))))))))))))))))), ?_⟩
    refine ⟨_, rfl, _, rfl, a, _, rfl, hS, fun c hc => ?_⟩
    have e300 : cutV (ns.map V.int) none (some 300) = ns.map V.int := by
      have := cut_to (ns.map V.int) 300
      rw [List.take_of_length_le (by simp; omega)] at this
      exact this
    rw [e300]
    have u1 := Same.put (o := .lst (ns.map V.int)) hc
    have hI : IsI (upd H c (.lst (ns.map V.int))) c ns := upd_same
    generalize upd H c (.lst (ns.map V.int)) = H1 at *
    refine ⟨_, rfl, _, rfl, _, rfl, c, ns, 32, 300, rfl, hI, hn, _, rfl, c, _, rfl, hI.sq, fun d hd => ?_⟩
    have e2 : cutV (ns.map V.int) (some 2) (some 32) = ((ns.drop 2).take 30).map V.int := by
      have := cut_mid (ns.map V.int) 2 32
      rw [List.map_take, List.map_drop]
      exact this
    rw [e2]
    have u2 := Same.put (o := .lst (((ns.drop 2).take 30).map V.int)) hd
    have hD : IsI (upd H1 d (.lst (((ns.drop 2).take 30).map V.int))) d ((ns.drop 2).take 30) := upd_same
    generalize upd H1 d (.lst (((ns.drop 2).take 30).map V.int)) = H2 at *
    have hl2 : ((ns.drop 2).take 30).length ≤ 30 := by rw [List.length_take]; omega
    generalize (ns.drop 2).take 30 = cs at *
    refine ⟨d, cs, rfl, hD, by omega, fun p ms H3 _ u3 hP hperm => ?_⟩
    have hI3 := (hI.mono u2).mono u3
    obtain ⟨nd, hml, hbd, hsur⟩ := perm_rows hperm
    generalize cs.length = n at *
    refine ⟨_, rfl, p, _, rfl, .inl hP.sq, fun o ho => ?_⟩
    refine ⟨_, rfl, c, ns, 0, rfl, hI3.mono (Same.put ho), _, rfl, c, ns, 1, rfl, hI3.mono (Same.put ho), _, _, rfl, rfl, (by show (0 : Int) < 2; decide), rfl, ?_⟩
    generalize decide ((fun i j => V.int (i % j)) (ns.getD 1 0) 2 = V.int 1) = nr
    generalize hsd : ns.getD 0 0 = sd
    dsimp only [gName]
    refine seq_via (fun σ H5 => ∃ (os : List Int) (v5 v6 : Option V), σ = [some (.ref c), some (.ref p), some (.ref o), some (.int sd), some (.bl nr), v5, v6, none, none, none, none, none] ∧ Same H3 H5 ∧ IsI H5 o os ∧ os.Perm ms ∧ (nr = true → tabl os = tabl ms)) (fun N hN => ?_) ?_
    · refine ⟨_, rfl, by decide, by decide, for_range (fun i σ H5 => ∃ (os : List Int) (v5 v6 : Option V), σ = [some (.ref c), some (.ref p), some (.ref o), some (.int sd), some (.bl nr), v5, v6, none, none, none, none, none] ∧ Same H3 H5 ∧ IsI H5 o os ∧ os.Perm ms ∧ (nr = true → tabl os = tabl ms))
        ⟨ms, none, none, rfl, Same.put ho, upd_same, List.Perm.refl _, fun _ => rfl⟩ ?_ (fun σ H5 h => hN σ H5 h)⟩
      rintro i σ H5 hi ⟨os, v5, v6, rfl, s5, hO, hpm, htb⟩
      have hi3 : i < 3 := hi
      have hP5 := hP.mono s5
      have hol : os.length = n := by rw [hpm.length_eq]; exact hml
      refine if_via (fun c H' => c = decide (1 < n) ∧ H5 = H') (fun R hR => ?_) (fun c' H' ⟨hc', e⟩ => ?_)
      · refine ⟨_, rfl, p, _, rfl, .inl hP5.sq, _, _, rfl, rfl, _, rfl, hR _ _ ⟨?_, rfl⟩⟩
        rw [List.length_map, hml, decide_eq_decide]
        omega
      subst e
      subst hc'
      by_cases hn1 : 1 < n
      · refine iteY (decide_eq_true hn1) ?_
        refine ⟨_, rfl, _, rfl, _, _, rfl, rfl, _, _, rfl, rfl, ⟨?_, ?_⟩, _, rfl, _, _, rfl, rfl, .inl ⟨by decide, by decide⟩, _, _, rfl, rfl, _, rfl, p, _, rfl, .inl hP5.sq, _, _, rfl, rfl, _, _, rfl, rfl, ?_, ?_⟩
        · omega
        · omega
        · show (0 : Int) < ((ms.map V.int).length : Int) - 1
          rw [List.length_map]; omega
        obtain ⟨j, hj, ej⟩ : ∃ j : Nat, j + 1 < n ∧ (fun i j => V.int (i % j)) (sd / (0 + (i : Int) + 1) + 5 * (0 + (i : Int))) (((ms.map V.int).length : Int) - 1) = V.int (j : Int) := by
          show ∃ j : Nat, j + 1 < n ∧ V.int ((sd / (0 + (i : Int) + 1) + 5 * (0 + (i : Int))) % (((ms.map V.int).length : Int) - 1)) = V.int (j : Int)
          rw [List.length_map]
          generalize sd / (0 + (i : Int) + 1) + 5 * (0 + (i : Int)) = z
          have h1 := Int.emod_nonneg z (show (ms.length : Int) - 1 ≠ 0 by omega)
          have h2 := Int.emod_lt_of_pos z (show 0 < (ms.length : Int) - 1 by omega)
          exact ⟨(z % ((ms.length : Int) - 1)).toNat, by omega, by congr 1; omega⟩
        rw [ej]
        have hjo : j < os.length := by omega
        have hjo1 : j + 1 < os.length := by omega
        dsimp only [gName]
        refine if_via (fun c H' => Same H5 H' ∧ (c = true → nr = true ∧ Near os j)) (fun R hR => ?_) (fun c' H6 ⟨s6, hc'⟩ => ?_)
        · refine ⟨_, rfl, _, rfl, ?_⟩
          cases nr with
          | false => exact iteN (by simp) (hR _ _ ⟨Same.refl _, fun q => by cases q⟩)
          | true => exact iteY rfl ⟨_, rfl, _, rfl, o, os, j, rfl, hO, by omega, hjo1, fun b H6 s6 hb => ⟨_, rfl, hR _ _ ⟨s6, fun q => ⟨rfl, hb q⟩⟩⟩⟩
        have hO6 := hO.mono s6
        cases c' with
        | false => exact iteN (by simp) (nxt ⟨os, _, _, rfl, s5.trans s6, hO6, hpm, htb⟩)
        | true =>
          obtain ⟨hnr, hnear⟩ := hc' rfl
          refine iteY rfl ?_
          have e1 : ((j : Int) + 1) = ((j + 1 : Nat) : Int) := by omega
          have a1 : atI (os.map V.int) (j : Int) = some (.int (os.getD j 0)) := atI_nat (int_at hjo)
          have a2 : atI (os.map V.int) ((j : Int) + 1) = some (.int (os.getD (j + 1) 0)) := by rw [e1]; exact atI_nat (int_at hjo1)
          have x1 := ixN_nat (n := (os.map V.int).length) (j := j) (by rw [List.length_map]; exact hjo)
          rw [Int.zero_add] at x1
          have x2 := ixN_nat (n := ((os.set j (os.getD (j + 1) 0)).map V.int).length) (j := j + 1) (by rw [List.length_map, List.length_set]; exact hjo1)
          rw [Int.zero_add, ← e1] at x2
          refine ⟨_, rfl, _, rfl, _, _, rfl, rfl, o, _, _, _, rfl, rfl, hO6.sq, a2, _, rfl, _, rfl, o, _, _, _, rfl, rfl, hO6.sq, a1, (by show 2 ≤ sizeLine; decide), fun t ht => ?_⟩
          have vt := Same.put (o := .tup [.int (os.getD (j + 1) 0), .int (os.getD j 0)]) ht
          have hO7 := hO6.mono vt
          have s7 := s5.trans (s6.trans vt)
          refine ⟨t, _, rfl, SqT.of upd_same, rfl, _, _, rfl, _, rfl, _, rfl, o, _, _, j, rfl, rfl, hO7, x1, ?_⟩
          rw [← List.map_set]
          refine ⟨_, _, rfl, _, rfl, _, rfl, _, _, rfl, rfl, o, _, _, j + 1, rfl, rfl, upd_same, x2, rfl, ?_⟩
          rw [← List.map_set]
          refine ⟨swp os j, _, _, rfl, Same.put' (Same.put' s7 ho) ho, upd_same, (near_perm hnear).trans hpm, fun q => ?_⟩
          rw [near_tabl (hpm.nodup_iff.mpr nd) hnear]
          exact htb q
      · refine iteN (by simpa using hn1) (nxt ?_)
        exact ⟨os, _, _, rfl, s5, hO, hpm, htb⟩
    rintro σ H5 ⟨os, v5, v6, rfl, s5, hO, hpm, htb⟩
    have hol : os.length = n := by rw [hpm.length_eq]; exact hml
    refine seq_via (fun σ H6 => ∃ (os : List Int) (v5 v6 v7 : Option V), σ = [some (.ref c), some (.ref p), some (.ref o), some (.int sd), some (.bl nr), v5, v6, v7, none, none, none, none] ∧ Same H3 H6 ∧ IsI H6 o os ∧ os.length = n ∧ (nr = true → tabl os = tabl ms)) (fun N hN => ?_) ?_
    · refine if_via (fun c H' => c = (!nr && decide (1 < n)) ∧ H5 = H') (fun R hR => ?_) (fun c' H' ⟨hc', e⟩ => ?_)
      · refine ⟨_, rfl, _, rfl, ?_⟩
        cases nr with
        | true => exact iteN (by simp) (hR _ _ ⟨rfl, rfl⟩)
        | false =>
          refine iteY rfl ⟨_, rfl, p, _, rfl, .inl (hP.mono s5).sq, _, _, rfl, rfl, _, rfl, hR _ _ ⟨?_, rfl⟩⟩
          rw [List.length_map, hml, Bool.not_false, Bool.true_and, decide_eq_decide]
          omega
      subst e
      subst hc'
      by_cases hb : nr = false ∧ 1 < n
      · obtain ⟨hnr, hn1⟩ := hb
        subst hnr
        refine iteY (by simp [hn1]) ?_
        have md : ∀ z : Int, ∃ j : Nat, j < n ∧ (fun i j => V.int (i % j)) z ((ms.map V.int).length : Int) = V.int (j : Int) := fun z => by
          show ∃ j : Nat, j < n ∧ V.int (z % ((ms.map V.int).length : Int)) = V.int (j : Int)
          rw [List.length_map]
          have h1 := Int.emod_nonneg z (show (ms.length : Int) ≠ 0 by omega)
          have h2 := Int.emod_lt_of_pos z (show 0 < (ms.length : Int) by omega)
          exact ⟨(z % (ms.length : Int)).toNat, by omega, by congr 1; omega⟩
        have mpos : (0 : Int) < ((ms.map V.int).length : Int) := by rw [List.length_map]; omega
        obtain ⟨k1, hk1, ek1⟩ := md sd
        obtain ⟨k2, hk2, ek2⟩ := md (ns.getD 6 0)
        refine ⟨_, rfl, _, rfl, p, _, rfl, .inl (hP.mono s5).sq, _, _, rfl, rfl, mpos, ?_⟩
        rw [ek1]
        refine ⟨_, rfl, c, ns, 6, rfl, hI3.mono s5, _, rfl, p, _, rfl, .inl (hP.mono s5).sq, _, _, rfl, rfl, mpos, ?_⟩
        rw [ek2]
        have g1 : k1 < os.length := by omega
        have g2 : k2 < os.length := by omega
        have a1 : atI (os.map V.int) (k1 : Int) = some (.int (os.getD k1 0)) := atI_nat (int_at g1)
        have a2 : atI (os.map V.int) (k2 : Int) = some (.int (os.getD k2 0)) := atI_nat (int_at g2)
        have x1 := ixN_nat (n := (os.map V.int).length) (j := k1) (by rw [List.length_map]; exact g1)
        rw [Int.zero_add] at x1
        have x2 := ixN_nat (n := ((os.set k1 (os.getD k2 0)).map V.int).length) (j := k2) (by rw [List.length_map, List.length_set]; exact g2)
        rw [Int.zero_add] at x2
        refine ⟨_, rfl, _, rfl, o, _, _, _, rfl, rfl, hO.sq, a2, _, rfl, _, rfl, o, _, _, _, rfl, rfl, hO.sq, a1, (by show 2 ≤ sizeLine; decide), fun t ht => ?_⟩
        have vt := Same.put (o := .tup [.int (os.getD k2 0), .int (os.getD k1 0)]) ht
        have hO7 := hO.mono vt
        have s7 := s5.trans vt
        refine ⟨t, _, rfl, SqT.of upd_same, rfl, _, _, rfl, _, rfl, _, rfl, o, _, _, k1, rfl, rfl, hO7, x1, ?_⟩
        rw [← List.map_set]
        refine ⟨_, _, rfl, _, rfl, _, rfl, o, _, _, k2, rfl, rfl, upd_same, x2, rfl, ?_⟩
        rw [← List.map_set]
        exact hN _ _ ⟨(os.set k1 (os.getD k2 0)).set k2 (os.getD k1 0), _, _, _, rfl, Same.put' (Same.put' s7 ho) ho, upd_same, by rw [List.length_set, List.length_set]; exact hol, fun q => by cases q⟩
      · refine iteN ?_ (nxt (hN _ _ ⟨os, _, _, _, rfl, s5, hO, hol, htb⟩))
        intro q
        apply hb
        cases nr <;> simp_all
    rintro σ H6 ⟨os, v5, v6, v7, rfl, s6, hO, hol, htb⟩
    refine ⟨_, rfl, c, ns, 1, rfl, hI3.mono s6, _, _, rfl, rfl, ⟨by decide, by decide⟩, _, _, rfl, rfl, (by show (0 : Int) < 3; decide), ?_⟩
    obtain ⟨pz, hpz⟩ : ∃ z, (fun i j => V.int (i % j)) ((ns.getD 1 0) / 2) 3 = V.int z := ⟨_, rfl⟩
    rw [hpz]
    dsimp only [gName]
    refine seq_via (fun σ H7 => ∃ (o : Addr) (os : List Int) (v5 v6 v7 : Option V), σ = [some (.ref c), some (.ref p), some (.ref o), some (.int sd), some (.bl nr), v5, v6, v7, some (.int pz), none, none, none] ∧ Same H3 H7 ∧ IsI H7 o os ∧ os.length ≤ n ∧ (nr = true → tabl os = tabl ms)) (fun N hN => ?_) ?_
    · refine if_via (fun c H' => c = (!nr && decide (V.int pz = V.int 1)) ∧ H6 = H') (fun R hR => ?_) (fun c' H' ⟨hc', e⟩ => ?_)
      · refine ⟨_, rfl, _, rfl, ?_⟩
        cases nr with
        | true => exact iteN (by simp) (hR _ _ ⟨rfl, rfl⟩)
        | false => exact iteY rfl ⟨_, rfl, rfl, _, rfl, hR _ _ ⟨rfl, rfl⟩⟩
      subst e
      subst hc'
      cases hb : (!nr && decide (V.int pz = V.int 1)) with
      | false => exact iteN (by simp) (nxt (hN _ _ ⟨o, os, _, _, _, rfl, s6, hO, by omega, htb⟩))
      | true =>
        have hnr : nr = false := by cases nr <;> simp_all
        subst hnr
        refine iteY rfl ?_
        refine ⟨_, rfl, _, rfl, o, _, rfl, .inl hO.sq, _, _, rfl, rfl, _, rfl, _, _, rfl, rfl, (by show (0 : Int) < 3; decide), _, _, rfl, rfl, _, _, rfl, _, rfl, o, _, rfl, hO.sq, fun q hq => ?_⟩
        generalize ((os.map V.int).length : Int) - 1 - sd % 3 = z
        have ez : (if z > 0 then z else 0) = (z.toNat : Int) := by split <;> omega
        rw [ez, cut_to, ← List.map_take]
        refine hN _ _ ⟨q, os.take z.toNat, _, _, _, rfl, s6.trans (Same.put hq), upd_same, by rw [List.length_take]; omega, fun q => by cases q⟩
    rintro σ H7 ⟨o2, os2, v5, v6, v7, rfl, s7, hO2, hol2, htb2⟩
    refine seq_via (fun σ H8 => ∃ (p o : Addr) (ws os : List Int) (v5 v6 v7 : Option V), σ = [some (.ref c), some (.ref p), some (.ref o), some (.int sd), some (.bl nr), v5, v6, v7, some (.int pz), none, none, none] ∧ IsI H8 p ws ∧ IsI H8 o os ∧ ws.length ≤ n ∧ os.length ≤ n ∧ (nr = true → tabl os = tabl ws)) (fun N hN => ?_) ?_
    · refine if_via (fun c H' => c = (!nr && decide (V.int pz = V.int 2)) ∧ H7 = H') (fun R hR => ?_) (fun c' H' ⟨hc', e⟩ => ?_)
      · refine ⟨_, rfl, _, rfl, ?_⟩
        cases nr with
        | true => exact iteN (by simp) (hR _ _ ⟨rfl, rfl⟩)
        | false => exact iteY rfl ⟨_, rfl, rfl, _, rfl, hR _ _ ⟨rfl, rfl⟩⟩
      subst e
      subst hc'
      cases hb : (!nr && decide (V.int pz = V.int 2)) with
      | false => exact iteN (by simp) (nxt (hN _ _ ⟨p, o2, ms, os2, _, _, _, rfl, hP.mono s7, hO2, by omega, by omega, htb2⟩))
      | true =>
        have hnr : nr = false := by cases nr <;> simp_all
        subst hnr
        refine iteY rfl ?_
        have hP7 := hP.mono s7
        refine ⟨_, rfl, p, rfl, ⟨_, hP7.sq⟩, fun D hD => comp_vals (fun _ => true) (fun v => .int (intOf v / 2)) ?_ hP7.sq hD ?_ ?_ ?_⟩
        · rw [List.length_map]; exact small_line (by omega)
        · intro v Hx R _ _ hR
          exact hR Hx (Same.refl _)
        · intro v Hx R hv _ _ hR
          obtain ⟨m, _, rfl⟩ := List.mem_map.mp hv
          exact ⟨_, rfl, _, _, rfl, rfl, ⟨by decide, by decide⟩, hR Hx (Same.refl _)⟩
        intro H8 s8 hd8
        rw [half_vals] at hd8
        have hO8 := hO2.mono s8
        refine ⟨_, rfl, o2, rfl, ⟨_, hO8.sq⟩, fun D2 hD2 => comp_vals (fun _ => true) (fun v => .int (intOf v / 2)) ?_ hO8.sq hD2 ?_ ?_ ?_⟩
        · rw [List.length_map]; exact small_line (by omega)
        · intro v Hx R _ _ hR
          exact hR Hx (Same.refl _)
        · intro v Hx R hv _ _ hR
          obtain ⟨m, _, rfl⟩ := List.mem_map.mp hv
          exact ⟨_, rfl, _, _, rfl, rfl, ⟨by decide, by decide⟩, hR Hx (Same.refl _)⟩
        intro H9 s9 hd9
        rw [half_vals] at hd9
        exact hN _ _ ⟨D, D2, ms.map (· / 2), os2.map (· / 2), _, _, _, rfl, s9 _ _ hd8, hd9, by rw [List.length_map]; omega, by rw [List.length_map]; omega, fun q => by cases q⟩
    rintro σ H8 ⟨p3, o3, ws, os3, v5, v6, v7, rfl, hW, hO3, hwl, hol3, htb3⟩
    refine ⟨_, rfl, p3, _, rfl, .inl hW.sq, fun x1 hx1 => ⟨_, rfl, o3, _, rfl, .inl (hO3.mono (Same.put hx1)).sq, fun x2 hx2 => ⟨(by show 2 ≤ sizeLine; decide), fun g hg => ?_⟩⟩⟩
    have w1 := Same.put (o := .lst (ws.map V.int)) hx1
    have w2 := Same.put (o := .lst (os3.map V.int)) hx2
    have w3 := Same.put (o := .lst [.ref x1, .ref x2]) hg
    have hG : IsLn (upd (upd (upd H8 x1 (.lst (ws.map V.int))) x2 (.lst (os3.map V.int))) g (.lst [.ref x1, .ref x2])) g [x1, x2] [ws, os3] := ⟨upd_same, .cons ((w2.trans w3) _ _ upd_same) (.cons (w3 _ _ upd_same) .nil)⟩
    have hx1' : IsI (upd (upd (upd H8 x1 (.lst (ws.map V.int))) x2 (.lst (os3.map V.int))) g (.lst [.ref x1, .ref x2])) x1 ws := (w2.trans w3) _ _ upd_same
    have hx2' : IsI (upd (upd (upd H8 x1 (.lst (ws.map V.int))) x2 (.lst (os3.map V.int))) g (.lst [.ref x1, .ref x2])) x2 os3 := w3 _ _ upd_same
    have w123 := w1.trans (w2.trans w3)
    generalize upd (upd (upd H8 x1 (.lst (ws.map V.int))) x2 (.lst (os3.map V.int))) g (.lst [.ref x1, .ref x2]) = H9 at *
    refine ⟨_, rfl, g, _, _, .ref x1, rfl, rfl, hG.sq, rfl, _, rfl, g, _, _, .ref x2, rfl, rfl, hG.sq, rfl, x1, x2, ws, os3, rfl, hx1', hx2', by omega, by omega, fun HA wA => ?_⟩
    have hGA := hG.mono wA
    dsimp only [gName, tSeq]
    refine if_via (fun c H' => c = false ∧ Same HA H') (fun R hR => ?_) (fun c' HB ⟨hc', wB⟩ => ?_)
    · refine ⟨_, rfl, g, _, _, rfl, hGA, _, rfl, iteF ?_⟩
      refine ⟨_, rfl, _, rfl, _, rfl, (by show 2 ≤ sizeLine; decide), fun l hl => ?_⟩
      have wl := Same.put (o := .lst [.ref p3, .ref o3]) hl
      have hLL : IsLn (upd HA l (.lst [.ref p3, .ref o3])) l [p3, o3] [ws, os3] := ⟨upd_same, .cons (hW.mono (w123.trans (wA.trans wl))) (.cons (hO3.mono (w123.trans (wA.trans wl))) .nil)⟩
      refine ⟨g, l, _, rfl, rfl, (EqD.lines (hGA.mono wl) hLL).mono (by decide), _, rfl, hR _ _ ⟨by simp, wl⟩⟩
    subst hc'
    refine iteF (nxt ?_)
    have wAB := w123.trans (wA.trans wB)
    refine ⟨_, rfl, p3, ws, rfl, hW.mono wAB, by omega, fun t pp qq pps qqs HC wC _ ht hT _ => ⟨t, _, _, .ref pp, rfl, rfl, SqT.of ht, rfl, ?_⟩⟩
    refine ⟨_, rfl, o3, os3, rfl, (hO3.mono wAB).mono wC, by omega, fun t2 pp2 qq2 pps2 qqs2 HD wD _ ht2 hT2 _ => ⟨t2, _, _, .ref pp2, rfl, rfl, SqT.of ht2, rfl, ?_⟩⟩
    refine ⟨pp, pp2, _, rfl, rfl, (EqD.lines (hT.mono wD) hT2).mono (by decide), ?_⟩
    dsimp only [gName, tSeq]
    refine if_via (fun c H' => c = false ∧ HD = H') (fun R hR => ?_) (fun c' HE ⟨hc', e⟩ => ?_)
    · refine ⟨_, rfl, _, rfl, ?_⟩
      cases nr with
      | false => exact iteN (by simp) (hR _ _ ⟨rfl, rfl⟩)
      | true =>
        refine iteY rfl ⟨_, rfl, _, rfl, hR _ _ ⟨?_, rfl⟩⟩
        rw [decide_eq_true (htb3 rfl).symm]; rfl
    subst e
    subst hc'
    refine iteF (nxt ?_)
    refine ⟨_, rfl, _, _, _, true, rfl, .bl _, rfl, _, rfl, iteT ?_⟩
    refine ⟨_, rfl, _, rfl, rfl, ?_⟩
    rw [decide_eq_true rfl]
    exact k HD
end
end K
set_option Elab.async false
set_option maxRecDepth 100000
namespace K
open PySem L2 RS
seal PE PT PW PA PS PSs PG PGs PI PO PTs
theorem all_mk {l : PySem.W.OpenLaw} {w : World} {K : PySem.W.Frag} {h : Heap} {mg : Str → Option Value} {fa : Addr} {f1 : Addr} {od1 an1 : Option Addr} {sl1 : Array (Option Value)} {oc1 kV1 dc1 pm1 cd1 ct1 : Value}
    {f2 : Addr} {od2 an2 : Option Addr} {sl2 : Array (Option Value)} {oc2 kV2 dc2 pm2 cd2 ct2 : Value}
    {f3 : Addr} {od3 an3 : Option Addr} {sl3 : Array (Option Value)} {oc3 kV3 dc3 pm3 cd3 ct3 : Value}
    {f4 : Addr} {od4 an4 : Option Addr} {sl4 : Array (Option Value)} {oc4 kV4 dc4 pm4 cd4 ct4 : Value}
    {f5 : Addr} {od5 an5 : Option Addr} {sl5 : Array (Option Value)} {oc5 kV5 dc5 pm5 cd5 ct5 : Value}
    {f6 : Addr} {od6 an6 : Option Addr} {sl6 : Array (Option Value)} {oc6 kV6 dc6 pm6 cd6 ct6 : Value}
    {f7 : Addr} {od7 an7 : Option Addr} {sl7 : Array (Option Value)} {oc7 kV7 dc7 pm7 cd7 ct7 : Value}
    {f8 : Addr} {od8 an8 : Option Addr} {sl8 : Array (Option Value)} {oc8 kV8 dc8 pm8 cd8 ct8 : Value}
    {f9 : Addr} {od9 an9 : Option Addr} {sl9 : Array (Option Value)} {oc9 kV9 dc9 pm9 cd9 ct9 : Value}
    {f10 : Addr} {od10 an10 : Option Addr} {sl10 : Array (Option Value)} {oc10 kV10 dc10 pm10 cd10 ct10 : Value}
    {f11 : Addr} {od11 an11 : Option Addr} {sl11 : Array (Option Value)} {oc11 kV11 dc11 pm11 cd11 ct11 : Value}
    {f12 : Addr} {od12 an12 : Option Addr} {sl12 : Array (Option Value)} {oc12 kV12 dc12 pm12 cd12 ct12 : Value}
    {f13 : Addr} {od13 an13 : Option Addr} {sl13 : Array (Option Value)} {oc13 kV13 dc13 pm13 cd13 ct13 : Value}
    {f14 : Addr} {od14 an14 : Option Addr} {sl14 : Array (Option Value)} {oc14 kV14 dc14 pm14 cd14 ct14 : Value}
    {f15 : Addr} {od15 an15 : Option Addr} {sl15 : Array (Option Value)} {oc15 kV15 dc15 pm15 cd15 ct15 : Value}
    {f16 : Addr} {od16 an16 : Option Addr} {sl16 : Array (Option Value)} {oc16 kV16 dc16 pm16 cd16 ct16 : Value} (X : K.In h) (G : h.Ns mainGlobals mg) (hfa : mg "law" = some (.ref fa))
    (a1 : PySem.W.nsIn K mainGlobals "lengthen" = some (some (.ref f1))) (l1 : K.lookup f1 = some ⟨oc1, od1, .func (PySem.W.fnOf "lengthen" "lengthen" (defArgs st_lengthen) (defBody st_lengthen) (defScope st_lengthen) .none kV1 dc1 pm1 an1 cd1 ct1), sl1⟩) (c1 : PySem.W.codeIn K cd1 "lengthen" = true) (k1 : PySem.W.keepIn K (.ref f1) = true)
    (a2 : PySem.W.nsIn K mainGlobals "marks_of" = some (some (.ref f2))) (l2 : K.lookup f2 = some ⟨oc2, od2, .func (PySem.W.fnOf "marks_of" "marks_of" (defArgs st_marks_of) (defBody st_marks_of) (defScope st_marks_of) .none kV2 dc2 pm2 an2 cd2 ct2), sl2⟩) (c2 : PySem.W.codeIn K cd2 "marks_of" = true) (k2 : PySem.W.keepIn K (.ref f2) = true)
    (a3 : PySem.W.nsIn K mainGlobals "push" = some (some (.ref f3))) (l3 : K.lookup f3 = some ⟨oc3, od3, .func (PySem.W.fnOf "push" "push" (defArgs st_push) (defBody st_push) (defScope st_push) .none kV3 dc3 pm3 an3 cd3 ct3), sl3⟩) (c3 : PySem.W.codeIn K cd3 "push" = true) (k3 : PySem.W.keepIn K (.ref f3) = true)
    (a4 : PySem.W.nsIn K mainGlobals "both" = some (some (.ref f4))) (l4 : K.lookup f4 = some ⟨oc4, od4, .func (PySem.W.fnOf "both" "both" (defArgs st_both) (defBody st_both) (defScope st_both) .none kV4 dc4 pm4 an4 cd4 ct4), sl4⟩) (c4 : PySem.W.codeIn K cd4 "both" = true) (k4 : PySem.W.keepIn K (.ref f4) = true)
    (a5 : PySem.W.nsIn K mainGlobals "table_of" = some (some (.ref f5))) (l5 : K.lookup f5 = some ⟨oc5, od5, .func (PySem.W.fnOf "table_of" "table_of" (defArgs st_table_of) (defBody st_table_of) (defScope st_table_of) .none kV5 dc5 pm5 an5 cd5 ct5), sl5⟩) (c5 : PySem.W.codeIn K cd5 "table_of" = true) (k5 : PySem.W.keepIn K (.ref f5) = true)
    (a6 : PySem.W.nsIn K mainGlobals "same_table" = some (some (.ref f6))) (l6 : K.lookup f6 = some ⟨oc6, od6, .func (PySem.W.fnOf "same_table" "same_table" (defArgs st_same_table) (defBody st_same_table) (defScope st_same_table) .none kV6 dc6 pm6 an6 cd6 ct6), sl6⟩) (c6 : PySem.W.codeIn K cd6 "same_table" = true) (k6 : PySem.W.keepIn K (.ref f6) = true)
    (a7 : PySem.W.nsIn K mainGlobals "_law_upto" = some (some (.ref f7))) (l7 : K.lookup f7 = some ⟨oc7, od7, .func (PySem.W.fnOf "_law_upto" "_law_upto" (defArgs st_l_upto) (defBody st_l_upto) (defScope st_l_upto) .none kV7 dc7 pm7 an7 cd7 ct7), sl7⟩) (c7 : PySem.W.codeIn K cd7 "_law_upto" = true) (k7 : PySem.W.keepIn K (.ref f7) = true)
    (a8 : PySem.W.nsIn K mainGlobals "_law_whole" = some (some (.ref f8))) (l8 : K.lookup f8 = some ⟨oc8, od8, .func (PySem.W.fnOf "_law_whole" "_law_whole" (defArgs st_l_whole) (defBody st_l_whole) (defScope st_l_whole) .none kV8 dc8 pm8 an8 cd8 ct8), sl8⟩) (c8 : PySem.W.codeIn K cd8 "_law_whole" = true) (k8 : PySem.W.keepIn K (.ref f8) = true)
    (a9 : PySem.W.nsIn K mainGlobals "_law_at" = some (some (.ref f9))) (l9 : K.lookup f9 = some ⟨oc9, od9, .func (PySem.W.fnOf "_law_at" "_law_at" (defArgs st_l_at) (defBody st_l_at) (defScope st_l_at) .none kV9 dc9 pm9 an9 cd9 ct9), sl9⟩) (c9 : PySem.W.codeIn K cd9 "_law_at" = true) (k9 : PySem.W.keepIn K (.ref f9) = true)
    (a10 : PySem.W.nsIn K mainGlobals "_law_turned_order" = some (some (.ref f10))) (l10 : K.lookup f10 = some ⟨oc10, od10, .func (PySem.W.fnOf "_law_turned_order" "_law_turned_order" (defArgs st_l_turned_order) (defBody st_l_turned_order) (defScope st_l_turned_order) .none kV10 dc10 pm10 an10 cd10 ct10), sl10⟩) (c10 : PySem.W.codeIn K cd10 "_law_turned_order" = true) (k10 : PySem.W.keepIn K (.ref f10) = true)
    (a11 : PySem.W.nsIn K mainGlobals "_law_whole_row" = some (some (.ref f11))) (l11 : K.lookup f11 = some ⟨oc11, od11, .func (PySem.W.fnOf "_law_whole_row" "_law_whole_row" (defArgs st_l_whole_row) (defBody st_l_whole_row) (defScope st_l_whole_row) .none kV11 dc11 pm11 an11 cd11 ct11), sl11⟩) (c11 : PySem.W.codeIn K cd11 "_law_whole_row" = true) (k11 : PySem.W.keepIn K (.ref f11) = true)
    (a12 : PySem.W.nsIn K mainGlobals "_law_are_lines" = some (some (.ref f12))) (l12 : K.lookup f12 = some ⟨oc12, od12, .func (PySem.W.fnOf "_law_are_lines" "_law_are_lines" (defArgs st_l_are_lines) (defBody st_l_are_lines) (defScope st_l_are_lines) .none kV12 dc12 pm12 an12 cd12 ct12), sl12⟩) (c12 : PySem.W.codeIn K cd12 "_law_are_lines" = true) (k12 : PySem.W.keepIn K (.ref f12) = true)
    (a13 : PySem.W.nsIn K mainGlobals "_law_bump" = some (some (.ref f13))) (l13 : K.lookup f13 = some ⟨oc13, od13, .func (PySem.W.fnOf "_law_bump" "_law_bump" (defArgs st_l_bump) (defBody st_l_bump) (defScope st_l_bump) .none kV13 dc13 pm13 an13 cd13 ct13), sl13⟩) (c13 : PySem.W.codeIn K cd13 "_law_bump" = true) (k13 : PySem.W.keepIn K (.ref f13) = true)
    (a14 : PySem.W.nsIn K mainGlobals "_law_pair_of" = some (some (.ref f14))) (l14 : K.lookup f14 = some ⟨oc14, od14, .func (PySem.W.fnOf "_law_pair_of" "_law_pair_of" (defArgs st_l_pair_of) (defBody st_l_pair_of) (defScope st_l_pair_of) .none kV14 dc14 pm14 an14 cd14 ct14), sl14⟩) (c14 : PySem.W.codeIn K cd14 "_law_pair_of" = true) (k14 : PySem.W.keepIn K (.ref f14) = true)
    (a15 : PySem.W.nsIn K mainGlobals "_law_may_change" = some (some (.ref f15))) (l15 : K.lookup f15 = some ⟨oc15, od15, .func (PySem.W.fnOf "_law_may_change" "_law_may_change" (defArgs st_l_may_change) (defBody st_l_may_change) (defScope st_l_may_change) .none kV15 dc15 pm15 an15 cd15 ct15), sl15⟩) (c15 : PySem.W.codeIn K cd15 "_law_may_change" = true) (k15 : PySem.W.keepIn K (.ref f15) = true)
    (a16 : PySem.W.nsIn K mainGlobals "law" = some (some (.ref f16))) (l16 : K.lookup f16 = some ⟨oc16, od16, .func (PySem.W.fnOf "law" "law" (defArgs st_law) (defBody st_law) (defScope st_law) .none kV16 dc16 pm16 an16 cd16 ct16), sl16⟩) (c16 : PySem.W.codeIn K cd16 "law" = true) (k16 : PySem.W.keepIn K (.ref f16) = true)
    (z0 : PySem.W.nsIn K mainGlobals "len" = some none) (z1 : PySem.W.nsIn K mainGlobals "range" = some none) (z2 : PySem.W.nsIn K mainGlobals "list" = some none) (z3 : PySem.W.nsIn K mainGlobals "zip" = some none) (z4 : PySem.W.nsIn K mainGlobals "all" = some none) (z5 : PySem.W.nsIn K mainGlobals "sorted" = some none) (z6 : PySem.W.nsIn K mainGlobals "isinstance" = some none) (z7 : PySem.W.nsIn K mainGlobals "int" = some none) (z8 : PySem.W.nsIn K mainGlobals "bool" = some none) (z9 : PySem.W.nsIn K mainGlobals "reversed" = some none) (z10 : PySem.W.nsIn K mainGlobals "enumerate" = some none) (z11 : PySem.W.nsIn K mainGlobals "max" = some none) (z12 : PySem.W.nsIn K mainGlobals "min" = some none) (z13 : PySem.W.nsIn K mainGlobals "sum" = some none) (z14 : PySem.W.nsIn K mainGlobals "tuple" = some none) (z15 : PySem.W.nsIn K mainGlobals "ValueError" = some none) (z16 : PySem.W.nsIn K mainGlobals "str" = some none) :
    ∃ fd : FuncData, (∀ (s : Shared) (v : Value), BindsTo s fd ⟨[v], []⟩ [("_law_script", v)]) ∧ ∀ base : Heap, K.In base → base.Ns mainGlobals mg → FnOk l.prog w K mg base CX0 6 fa fd ["_law_script"] (spLaw K) := by
  have e := hfa.symm.trans (PySem.W.mg_of X G a16)
  cases e
  have B : Bi mg := ⟨PySem.W.mg_none_of X G z0, PySem.W.mg_none_of X G z1, PySem.W.mg_none_of X G z2, PySem.W.mg_none_of X G z3, PySem.W.mg_none_of X G z4, PySem.W.mg_none_of X G z5, PySem.W.mg_none_of X G z6, PySem.W.mg_none_of X G z7, PySem.W.mg_none_of X G z8, PySem.W.mg_none_of X G z9, PySem.W.mg_none_of X G z10, PySem.W.mg_none_of X G z11, PySem.W.mg_none_of X G z12, PySem.W.mg_none_of X G z13, PySem.W.mg_none_of X G z14, PySem.W.mg_none_of X G z15, PySem.W.mg_none_of X G z16⟩
  have F1 : Fn K mg "lengthen" st_lengthen ["lines", "at", "number"] := ⟨f1, _, fun_mk l1 c1 k1, PySem.W.mg_of X G a1, (fun_mk (st := st_lengthen) l1 c1 k1).binds (ps := ["lines", "at", "number"]) fun _ _ _ _ _ _ us hl => match us, hl with | [_, _, _], _ => rfl⟩
  have F2 : Fn K mg "marks_of" st_marks_of ["grown"] := ⟨f2, _, fun_mk l2 c2 k2, PySem.W.mg_of X G a2, (fun_mk (st := st_marks_of) l2 c2 k2).binds (ps := ["grown"]) fun _ _ _ _ _ _ us hl => match us, hl with | [_], _ => rfl⟩
  have F3 : Fn K mg "push" st_push ["table", "number"] := ⟨f3, _, fun_mk l3 c3 k3, PySem.W.mg_of X G a3, (fun_mk (st := st_push) l3 c3 k3).binds (ps := ["table", "number"]) fun _ _ _ _ _ _ us hl => match us, hl with | [_, _], _ => rfl⟩
  have F4 : Fn K mg "both" st_both ["numbers"] := ⟨f4, _, fun_mk l4 c4 k4, PySem.W.mg_of X G a4, (fun_mk (st := st_both) l4 c4 k4).binds (ps := ["numbers"]) fun _ _ _ _ _ _ us hl => match us, hl with | [_], _ => rfl⟩
  have F5 : Fn K mg "table_of" st_table_of ["numbers"] := ⟨f5, _, fun_mk l5 c5 k5, PySem.W.mg_of X G a5, (fun_mk (st := st_table_of) l5 c5 k5).binds (ps := ["numbers"]) fun _ _ _ _ _ _ us hl => match us, hl with | [_], _ => rfl⟩
  have F6 : Fn K mg "same_table" st_same_table ["one", "other"] := ⟨f6, _, fun_mk l6 c6 k6, PySem.W.mg_of X G a6, (fun_mk (st := st_same_table) l6 c6 k6).binds (ps := ["one", "other"]) fun _ _ _ _ _ _ us hl => match us, hl with | [_, _], _ => rfl⟩
  have F7 : Fn K mg "_law_upto" st_l_upto ["_law_script", "_law_small", "_law_great"] := ⟨f7, _, fun_mk l7 c7 k7, PySem.W.mg_of X G a7, (fun_mk (st := st_l_upto) l7 c7 k7).binds (ps := ["_law_script", "_law_small", "_law_great"]) fun _ _ _ _ _ _ us hl => match us, hl with | [_, _, _], _ => rfl⟩
  have F8 : Fn K mg "_law_whole" st_l_whole ["_law_found"] := ⟨f8, _, fun_mk l8 c8 k8, PySem.W.mg_of X G a8, (fun_mk (st := st_l_whole) l8 c8 k8).binds (ps := ["_law_found"]) fun _ _ _ _ _ _ us hl => match us, hl with | [_], _ => rfl⟩
  have F9 : Fn K mg "_law_at" st_l_at ["_law_script", "_law_k"] := ⟨f9, _, fun_mk l9 c9 k9, PySem.W.mg_of X G a9, (fun_mk (st := st_l_at) l9 c9 k9).binds (ps := ["_law_script", "_law_k"]) fun _ _ _ _ _ _ us hl => match us, hl with | [_, _], _ => rfl⟩
  have F10 : Fn K mg "_law_turned_order" st_l_turned_order ["_law_cells"] := ⟨f10, _, fun_mk l10 c10 k10, PySem.W.mg_of X G a10, (fun_mk (st := st_l_turned_order) l10 c10 k10).binds (ps := ["_law_cells"]) fun _ _ _ _ _ _ us hl => match us, hl with | [_], _ => rfl⟩
  have F11 : Fn K mg "_law_whole_row" st_l_whole_row ["_law_found"] := ⟨f11, _, fun_mk l11 c11 k11, PySem.W.mg_of X G a11, (fun_mk (st := st_l_whole_row) l11 c11 k11).binds (ps := ["_law_found"]) fun _ _ _ _ _ _ us hl => match us, hl with | [_], _ => rfl⟩
  have F12 : Fn K mg "_law_are_lines" st_l_are_lines ["_law_found"] := ⟨f12, _, fun_mk l12 c12 k12, PySem.W.mg_of X G a12, (fun_mk (st := st_l_are_lines) l12 c12 k12).binds (ps := ["_law_found"]) fun _ _ _ _ _ _ us hl => match us, hl with | [_], _ => rfl⟩
  have F13 : Fn K mg "_law_bump" st_l_bump ["_law_lines", "_law_number"] := ⟨f13, _, fun_mk l13 c13 k13, PySem.W.mg_of X G a13, (fun_mk (st := st_l_bump) l13 c13 k13).binds (ps := ["_law_lines", "_law_number"]) fun _ _ _ _ _ _ us hl => match us, hl with | [_, _], _ => rfl⟩
  have F14 : Fn K mg "_law_pair_of" st_l_pair_of ["_law_numbers"] := ⟨f14, _, fun_mk l14 c14 k14, PySem.W.mg_of X G a14, (fun_mk (st := st_l_pair_of) l14 c14 k14).binds (ps := ["_law_numbers"]) fun _ _ _ _ _ _ us hl => match us, hl with | [_], _ => rfl⟩
  have F15 : Fn K mg "_law_may_change" st_l_may_change ["_law_row", "_law_k"] := ⟨f15, _, fun_mk l15 c15 k15, PySem.W.mg_of X G a15, (fun_mk (st := st_l_may_change) l15 c15 k15).binds (ps := ["_law_row", "_law_k"]) fun _ _ _ _ _ _ us hl => match us, hl with | [_, _], _ => rfl⟩
  have FL := fun_mk (st := st_law) l16 c16 k16
  refine ⟨PySem.W.fnOf "law" "law" (defArgs st_law) (defBody st_law) (defScope st_law) .none kV16 dc16 pm16 an16 cd16 ct16, fun s v => .of_eq rfl, fun base _ _ => ?_⟩
  have G_lengthen := ok_lengthen (P := l.prog) (w := w) (base := base) F1 B
  have G_marks_of := ok_marks_of (P := l.prog) (w := w) (base := base) F2 B G_lengthen
  have G_push := ok_push (P := l.prog) (w := w) (base := base) F3 B
  have G_both := ok_both (P := l.prog) (w := w) (base := base) F4 B G_push G_marks_of
  have G_table_of := ok_table_of (P := l.prog) (w := w) (base := base) F5 G_both
  have G_same_table := ok_same_table (P := l.prog) (w := w) (base := base) F6 G_table_of
  have G_l_upto := ok_l_upto (P := l.prog) (w := w) (base := base) F7 B
  have G_l_whole := ok_l_whole (P := l.prog) (w := w) (base := base) F8 B
  have G_l_at := ok_l_at (P := l.prog) (w := w) (base := base) F9 B
  have G_l_turned_order := ok_l_turned_order (P := l.prog) (w := w) (base := base) F10 B
  have G_l_whole_row := ok_l_whole_row (P := l.prog) (w := w) (base := base) F11 B G_l_whole
  have G_l_are_lines := ok_l_are_lines (P := l.prog) (w := w) (base := base) F12 B G_l_whole_row
  have G_l_bump := ok_l_bump (P := l.prog) (w := w) (base := base) F13 B
  have G_l_pair_of := ok_l_pair_of (P := l.prog) (w := w) (base := base) F14 B G_l_bump
  have G_l_may_change := ok_l_may_change (P := l.prog) (w := w) (base := base) F15 B
  exact ok_law FL B G_l_upto G_l_at G_l_turned_order G_l_may_change G_same_table G_l_are_lines G_l_pair_of
theorem walk {l : PySem.W.OpenLaw} {q : Program} {loose : List Str} {XP : (Str → Option Value) → Heap → Prop} {YP : World → Heap → Prop} {d : DefRec} {K : Params → PySem.W.Frag} (hn : l.most = some 63) (hdf : d.params.defaults = [])
    (hY : ∀ (w : World) (h : Heap), YP w h → (K w.params).In h)
    (F : ∀ (w : World) (mg : Str → Option Value) (fa : Addr) (h : Heap), (K w.params).In h → h.Ns mainGlobals mg → mg d.name = some (.ref fa) →
      ∃ fd : FuncData, (∀ (s : Shared) (u : Value), BindsTo s fd ⟨[u], []⟩ [("_law_script", u)]) ∧ ∀ base : Heap, (K w.params).In base → base.Ns mainGlobals mg → FnOk l.prog w (K w.params) mg base CX0 6 fa fd ["_law_script"] (spLaw (K w.params))) :
    PySem.W.WalkO q loose XP YP l.row.toRowW d [] (fun f vs => PySem.call f vs) :=
  L2.walk_of (n := 63) (k := 6) (x := "_law_script") (CX := fun _ => CX0) (sp := fun w => spLaw (K w.params)) hn (by decide) hdf ⟨rfl, by decide, by decide⟩ hY F (fun _ _ a ns hl _ hS => ⟨a, ns, rfl, hS, hl, fun _ => rfl⟩) fun _ _ _ _ _ z => z
end K
open PySem PySem.W PyProof.Rows
set_option maxRecDepth 100000 in
set_option maxHeartbeats 0 in
theorem PySem.Challenge.cw_stairtable_k10_whole_the_same_table_holds : PySem.Challenge.rw_stairtable_k10_whole_the_same_table.Holds := by
  w_on; o_law; k_head; (case hw => w_witness2)
  k_fill
  refine K.walk (l := PySem.Challenge.rw_stairtable_k10_whole_the_same_table) rfl rfl (fun w h Y => PySem.W.kIn_of Y) ?F
  case F =>
    intro w mg fa h KX G hmg
    refine' K.all_mk KX G hmg ?a1 ?l1 ?c1 ?k1 ?a2 ?l2 ?c2 ?k2 ?a3 ?l3 ?c3 ?k3 ?a4 ?l4 ?c4 ?k4 ?a5 ?l5 ?c5 ?k5 ?a6 ?l6 ?c6 ?k6 ?a7 ?l7 ?c7 ?k7 ?a8 ?l8 ?c8 ?k8 ?a9 ?l9 ?c9 ?k9 ?a10 ?l10 ?c10 ?k10 ?a11 ?l11 ?c11 ?k11 ?a12 ?l12 ?c12 ?k12 ?a13 ?l13 ?c13 ?k13 ?a14 ?l14 ?c14 ?k14 ?a15 ?l15 ?c15 ?k15 ?a16 ?l16 ?c16 ?k16 ?z0 ?z1 ?z2 ?z3 ?z4 ?z5 ?z6 ?z7 ?z8 ?z9 ?z10 ?z11 ?z12 ?z13 ?z14 ?z15 ?z16
    (case a1 => k_is)
    (case l1 => k_is)
    (case c1 => k_is)
    (case k1 => k_is)
    (case a2 => k_is)
    (case l2 => k_is)
    (case c2 => k_is)
    (case k2 => k_is)
    (case a3 => k_is)
    (case l3 => k_is)
    (case c3 => k_is)
    (case k3 => k_is)
    (case a4 => k_is)
    (case l4 => k_is)
    (case c4 => k_is)
    (case k4 => k_is)
    (case a5 => k_is)
    (case l5 => k_is)
    (case c5 => k_is)
    (case k5 => k_is)
    (case a6 => k_is)
    (case l6 => k_is)
    (case c6 => k_is)
    (case k6 => k_is)
    (case a7 => k_is)
    (case l7 => k_is)
    (case c7 => k_is)
    (case k7 => k_is)
    (case a8 => k_is)
    (case l8 => k_is)
    (case c8 => k_is)
    (case k8 => k_is)
    (case a9 => k_is)
    (case l9 => k_is)
    (case c9 => k_is)
    (case k9 => k_is)
    (case a10 => k_is)
    (case l10 => k_is)
    (case c10 => k_is)
    (case k10 => k_is)
    (case a11 => k_is)
    (case l11 => k_is)
    (case c11 => k_is)
    (case k11 => k_is)
    (case a12 => k_is)
    (case l12 => k_is)
    (case c12 => k_is)
    (case k12 => k_is)
    (case a13 => k_is)
    (case l13 => k_is)
    (case c13 => k_is)
    (case k13 => k_is)
    (case a14 => k_is)
    (case l14 => k_is)
    (case c14 => k_is)
    (case k14 => k_is)
    (case a15 => k_is)
    (case l15 => k_is)
    (case c15 => k_is)
    (case k15 => k_is)
    (case a16 => k_is)
    (case l16 => k_is)
    (case c16 => k_is)
    (case k16 => k_is)
    (case z0 => k_is)
    (case z1 => k_is)
    (case z2 => k_is)
    (case z3 => k_is)
    (case z4 => k_is)
    (case z5 => k_is)
    (case z6 => k_is)
    (case z7 => k_is)
    (case z8 => k_is)
    (case z9 => k_is)
    (case z10 => k_is)
    (case z11 => k_is)
    (case z12 => k_is)
    (case z13 => k_is)
    (case z14 => k_is)
    (case z15 => k_is)
    (case z16 => k_is)
