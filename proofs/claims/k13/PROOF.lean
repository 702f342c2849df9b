import PyProof.Rows.All
import Wide.All
import OpenK.AllK
import Wide.FinOn
import Lean
import PyProof.EqAt
import PyProof.EqKinds
import PyProof.TupleCall
import PyProof.NeKinds
import KE.KRevIter
import PyProof.ListRange
import PyProof.EnumFor
import PyProof.EnumStmt
import PyProof.EnumMake
import PyProof.WalkInts
import PyProof.Rows.CallKwBuiltin
import KE.KMinKey
import KE.KRevSl
import PyProof.Rows.Range3
import OpenK.KOwn
import KE.KTryMore
import PyProof.IsiBase
import PyProof.ExcAttrAll.ValueError
import PyProof.NsDelKeeps
import PyProof.SumWalkG
import PyProof.Rows.SumGenD
import KE.KDictList
import PyProof.Rows.TupDisplay
import PySem.Challenge.RW_stairtable_k13_counted
-- CHANGE: your row's module here, as the last of these rows
set_option Elab.async false
set_option linter.all false
set_option maxRecDepth 100000
/-! THE HAND LAYER, for ints, bools, texts, own classes, LISTS and tuples (index, slices, in, append, pop ..), calls, loops. Paste it whole ahead of your own text; what your proof does not reach may be deleted. -/
namespace L2
open PySem PySem.Spec PyProof.Rows
/-- a key: an int or a str -/
abbrev Key := Sum Int Str
def keyIs : Key → Value → Bool
  | .inl k, v => Value.isInt k v
  | .inr x, v => Value.isStrOf x v
def keyH (w : World) : Key → Int
  | .inl k => hashInt k
  | .inr x => hashStr w x
theorem keyIs_shape : ∀ {k : Key} {v : Value}, keyIs k v = true → (∃ i t, k = Sum.inl i ∧ v = Value.int i t) ∨ (∃ x t, k = Sum.inr x ∧ v = Value.str x t)
  | .inl i, v, h => by
    obtain ⟨t, e⟩ := Value.isInt_shape (k := i) (v := v) h
    exact .inl ⟨i, t, rfl, e⟩
  | .inr x, v, h => by
    obtain ⟨t, e⟩ := Value.isStrOf_shape (x := x) (v := v) h
    exact .inr ⟨x, t, rfl, e⟩
theorem keyIs_int (i : Int) (t : Tok) : keyIs (.inl i) (.int i t) = true := by simp [keyIs, Value.isInt]
theorem keyIs_str (x : Str) (t : Tok) : keyIs (.inr x) (.str x t) = true := by simp [keyIs, Value.isStrOf]
theorem key_ll (a b : Int) : decide ((Sum.inl a : Key) = Sum.inl b) = (a == b) := by
  by_cases e : a = b
  · subst e; simp
  · have h : ¬ (Sum.inl a : Key) = Sum.inl b := fun q => e (Sum.inl.inj q)
    rw [decide_eq_false h]
    exact (beq_eq_false_iff_ne.mpr e).symm
theorem key_rr (a b : Str) : decide ((Sum.inr a : Key) = Sum.inr b) = decide (a = b) := by
  by_cases e : a = b
  · subst e; simp
  · have h : ¬ (Sum.inr a : Key) = Sum.inr b := fun q => e (Sum.inr.inj q)
    rw [decide_eq_false h, decide_eq_false e]
theorem key_lr (a : Int) (b : Str) : decide ((Sum.inl a : Key) = Sum.inr b) = false := decide_eq_false (fun q => nomatch q)
theorem key_rl (a : Str) (b : Int) : decide ((Sum.inr a : Key) = Sum.inl b) = false := decide_eq_false (fun q => nomatch q)
def mixKind (prog : Program) (w : World) : PySem.KeyKind prog w Key where
  is := keyIs
  hash := keyH w
  inj := fun v a b ha hb => by
    rcases keyIs_shape ha with ⟨i, t, rfl, rfl⟩ | ⟨x, t, rfl, rfl⟩
    · rcases keyIs_shape hb with ⟨j, u, rfl, e⟩ | ⟨y, u, rfl, e⟩
      · injection e with e1 _; rw [e1]
      · exact nomatch e
    · rcases keyIs_shape hb with ⟨j, u, rfl, e⟩ | ⟨y, u, rfl, e⟩
      · exact nomatch e
      · injection e with e1 _; rw [e1]
  byValue := fun k v h => by
    rcases keyIs_shape h with ⟨i, t, rfl, rfl⟩ | ⟨x, t, rfl, rfl⟩ <;> rfl
  pyHash := fun hv h => by
    rcases keyIs_shape hv with ⟨i, t, rfl, rfl⟩ | ⟨x, t, rfl, rfl⟩
    · exact wpAny_pyHash_int h
    · exact wpAny_pyHash_str h
  eqBool := fun hu hv h => by
    rcases keyIs_shape hu with ⟨i, t, rfl, rfl⟩ | ⟨x, t, rfl, rfl⟩
    · rcases keyIs_shape hv with ⟨j, u, rfl, rfl⟩ | ⟨y, u, rfl, rfl⟩
      · rw [key_ll] at h; exact wpAny_eqBool_int h
      · rw [key_lr] at h; exact SeqAt.EqAt.int_str i t y u _ _ _ _ h
    · rcases keyIs_shape hv with ⟨j, u, rfl, rfl⟩ | ⟨y, u, rfl, rfl⟩
      · rw [key_rl] at h; exact SeqAt.EqAt.str_int x t j u _ _ _ _ h
      · rw [key_rr] at h; exact wpAny_eqBool_str h
  «strs» := fun k x t v h => by
    rcases keyIs_shape h with ⟨i, u, rfl, e⟩ | ⟨y, u, rfl, e⟩
    · exact nomatch e
    · injection e with e1 _
      subst e1
      cases v <;> rfl
theorem mixKind_int (prog : Program) (w : World) (i : Int) (t : Tok) : (mixKind prog w).is (.inl i) (.int i t) = true := keyIs_int i t
theorem mixKind_str (prog : Program) (w : World) (x : Str) (t : Tok) : (mixKind prog w).is (.inr x) (.str x t) = true := keyIs_str x t
end L2
namespace L2
open PySem PySem.Spec PyProof.Rows
/-- a value, without the heap -/
inductive V where
  | non | bl (b : Bool) | int (i : Int) | str (x : Str) | byt (b : Array UInt8) | flt (b : UInt64) | ref (a : Addr) | ty (n : String)
  deriving DecidableEq
def RelV : V → Value → Prop
  | .non, u => u = Value.none
  | .bl b, u => u = Value.bool b
  | .int i, u => ∃ t, u = Value.int i t
  | .str x, u => ∃ t, u = Value.str x t
  | .byt b, u => ∃ t, u = Value.bytes b t
  | .flt b, u => ∃ t, u = Value.float b t
  | .ref a, u => u = Value.ref a
  | .ty n, u => u = Value.type n
abbrev Vals : List V → List Value → Prop := Paired RelV
theorem Vals.length {xs : List V} {us : List Value} (r : Vals xs us) : xs.length = us.length := Paired.length r
theorem Vals.get : ∀ {xs : List V} {us : List Value} {i : Nat} {x : V}, Vals xs us → xs[i]? = some x → ∃ u, us[i]? = some u ∧ RelV x u
  | _, _, _, _, .nil, e => by simp at e
  | _, _, 0, _, .cons r _, e => by simp at e; subst e; exact ⟨_, rfl, r⟩
  | _, _, i + 1, x, .cons _ t, e => by
    obtain ⟨u, h1, h2⟩ := Vals.get (i := i) (x := x) t (by simpa using e)
    exact ⟨u, by simpa using h1, h2⟩
theorem Vals.set {x : V} {u : Value} (r : RelV x u) : ∀ {xs : List V} {us : List Value} (i : Nat), Vals xs us → Vals (xs.set i x) (us.set i u)
  | _, _, _, .nil => .nil
  | _, _, 0, .cons _ t => .cons r t
  | _, _, i + 1, .cons q t => .cons q (Vals.set r i t)
theorem Vals.append : ∀ {xs ys : List V} {us ws : List Value}, Vals xs us → Vals ys ws → Vals (xs ++ ys) (us ++ ws)
  | _, _, _, _, .nil, s => s
  | _, _, _, _, .cons r t, s => .cons r (Vals.append t s)
theorem Vals.take : ∀ {xs : List V} {us : List Value} (n : Nat), Vals xs us → Vals (xs.take n) (us.take n)
  | _, _, 0, _ => .nil
  | _, _, _ + 1, .nil => .nil
  | _, _, n + 1, .cons r t => .cons r (Vals.take n t)
theorem Vals.drop : ∀ {xs : List V} {us : List Value} (n : Nat), Vals xs us → Vals (xs.drop n) (us.drop n)
  | _, _, 0, r => r
  | _, _, _ + 1, .nil => .nil
  | _, _, n + 1, .cons _ t => Vals.drop n t
def RelO : Option V → Option Value → Prop
  | some v, some u => RelV v u
  | none, none => True
  | _, _ => False
def KV {κ : Type} : List (κ × V) → List (κ × Value) → Prop := Paired fun (p : κ × V) (q : κ × Value) => p.1 = q.1 ∧ RelV p.2 q.2
/-- a key of a dict (00_mix): an int or a text -/
def kV : Key → V
  | .inl i => .int i
  | .inr x => .str x
/-- what stands at a tracked address -/
inductive HO where
  /-- a list -/
  | lst (xs : List V)
  /-- a tuple (never changes) -/
  | tup (xs : List V)
  /-- a dict whose keys are ints and texts; one whose keys are tuples of ints and texts (the empty one is both) -/
  | dK (kvs : List (Key × V)) | dT (kvs : List (List Key × V))
  /-- a set of ints: its members, its size -/
  | set (S : Int → Bool) (n : Nat)
  /-- an instance of the class at C, its dict at dx, its attributes -/
  | ins (C dx : Addr) (fs : List (Str × V))
  /-- the dict of the instance at x -/
  | own (x : Addr)
  /-- the dict of an exception -/
  | xd (fs : List (Str × V))
  /-- a bound method, f of x -/
  | met (f x : Addr)
  /-- a range object lo, lo + 1, .. below hi -/
  | rng (lo hi : Int)
  /-- a thing that is known to the object (the script; a dict while a loop walks it): read, never written while it is so -/
  | frz (o : Obj) (u : HO)
  /-- a code object's table -/
  | tbl (ps : Array Value)
  /-- any other thing, by what is true of its one object (a def of one's own: SetO a S n := HO.ext fun h => ..) -/
  | ext (φ : Heap → Prop)
abbrev Hp := Addr → Option HO
def upd (H : Hp) (a : Addr) (o : HO) : Hp := fun b => if b = a then some o else H b
theorem upd_same {H : Hp} {a : Addr} {o : HO} : upd H a o a = some o := by unfold upd; rw [if_pos rfl]
theorem upd_ne {H : Hp} {a b : Addr} {o : HO} (h : b ≠ a) : upd H a o b = H b := by unfold upd; rw [if_neg h]
/-- two objects of different content stand apart -/
theorem ne_of {H : Hp} {a b : Addr} {o u : HO} (h : H a = some o) (h' : H b = some u) (d : o ≠ u) : a ≠ b := by
  intro e; subst e; rw [h] at h'; exact d (Option.some.inj h')
theorem ne_of_none {H : Hp} {a b : Addr} {o : HO} (h : H a = some o) (h' : H b = none) : a ≠ b := by
  intro e; subst e; rw [h] at h'; cases h'
section
variable (P : Program) (w : World)
def ObjOk (H : Hp) (h : Heap) (a : Addr) : HO → Prop
  | .lst xs => xs.length ≤ sizeLine ∧ ∃ (its : List Value) (n : Nat), Vals xs its ∧ h.get? a = some { cls := .type "list", data := .seq its.toArray n }
  | .tup xs => xs.length ≤ sizeLine ∧ ∃ its : List Value, Vals xs its ∧ IsTup h a its.toArray
  | .dK kvs => kvs.length ≤ sizeLine ∧ (a == sysModules) = false ∧ ∃ vs, KV kvs vs ∧ h.DictOf (mixKind P w) a vs
  | .dT kvs => kvs.length ≤ sizeLine ∧ (a == sysModules) = false ∧ ∃ xs : List (List Key × Addr × Value),
      Paired (fun (p : List Key × V) (q : List Key × Addr × Value) => p.1 = q.1 ∧ H q.2.1 = some (.tup (p.1.map kV)) ∧ RelV p.2 q.2.2) kvs xs ∧
      ∃ o es ep, h.get? a = some o ∧ o.ExactDict ∧ o.data = .dict es ep ∧ es.toList = xs.map (entryOfKey (tupleKind (mixKind P w))) ∧ (xs.map (·.1)).Nodup
  | .set S n => h.SetOf (intKind P w) a S n
  | .ins C dx fs => H dx = some (.own a) ∧ fs.length ≤ 1000 ∧ dx ≠ a ∧ h.get? a = some (PySem.W.instObj C dx) ∧
      ∃ mA, h.Ns1 dx mA ∧ (∀ f, RelO (fs.lookup f) (mA f)) ∧ PySem.Within mA (fs.map (·.1))
  | .own _ => ∃ o, h.get? a = some o
  | .xd fs => ∃ mA, h.Ns1 a mA ∧ ∀ f, RelO (fs.lookup f) (mA f)
  | .rng lo hi => ∃ t u v, h.get? a = some { cls := .type "range", data := .fields #[.int lo t, .int hi u, .int 1 v] }
  | .frz o u => h.get? a = some o ∧ ObjOk H h a u
  | .tbl ps => h.get? a = some { cls := .none, data := .fields ps }
  | .met f x => h.get? a = some (PySem.W.methodObj (.ref f) (.ref x))
  | .ext φ => φ h ∧ (∃ o, h.get? a = some o) ∧ ∀ h1 h2 : Heap, φ h1 → (∀ o, h1.get? a = some o → h2.get? a = some o) → φ h2
/-- the abstract heap is held -/
def HOk (H : Hp) (h : Heap) : Prop := ∀ a o, H a = some o → ObjOk P w H h a o
end
section
variable {P : Program} {w : World} {H H' : Hp} {h h' : Heap} {a : Addr} {o : HO}
theorem ObjOk.lt (x : ObjOk P w H h a o) : a < h.objs.size := by
  cases o with
  | lst xs => obtain ⟨_, _, _, _, e⟩ := x; exact Heap.lt_size e
  | tup xs => obtain ⟨_, _, _, p⟩ := x; exact p.lt
  | dK kvs => obtain ⟨_, _, _, _, o, _, _, e, _⟩ := x; exact Heap.lt_size e
  | dT kvs => obtain ⟨_, _, _, _, o, _, _, e, _⟩ := x; exact Heap.lt_size e
  | set S n => obtain ⟨o, _, _, _, e, _⟩ := x; exact Heap.lt_size e
  | ins C dx fs => obtain ⟨_, _, _, e, _⟩ := x; exact Heap.lt_size e
  | own y => obtain ⟨_, e⟩ := x; exact Heap.lt_size e
  | xd fs => obtain ⟨_, ⟨_, _, _, e, _⟩, _⟩ := x; exact Heap.lt_size e
  | rng lo hi => obtain ⟨_, _, _, e⟩ := x; exact Heap.lt_size e
  | frz ob u => obtain ⟨e, _⟩ := x; exact Heap.lt_size e
  | tbl ps => exact Heap.lt_size (show h.get? a = some _ from x)
  | met f y => exact Heap.lt_size (show h.get? a = some _ from x)
  | ext φ => obtain ⟨_, ⟨_, e⟩, _⟩ := x; exact Heap.lt_size e
theorem Paired.mapP {α β : Type} {F G : α → β → Prop} : ∀ {l₁ : List α} {l₂ : List β}, Paired F l₁ l₂ → (∀ a b, F a b → G a b) → Paired G l₁ l₂
  | _, _, .nil, _ => .nil
  | _, _, .cons r t, f => .cons (f _ _ r) (Paired.mapP t f)
/-- what an object's description leans on: its own object, its own dict, the tuples -/
theorem ObjOk.stay (x : ObjOk P w H h a o) (k : ∀ b u, (b = a ∨ H b = some (.own a)) → h.get? b = some u → h'.get? b = some u)
    (ho : ∀ b, H b = some (.own a) → H' b = some (.own a)) (ht : ∀ b xs, H b = some (.tup xs) → H' b = some (.tup xs)) : ObjOk P w H' h' a o := by
  induction o with
  | lst xs => obtain ⟨z, its, n, r, e⟩ := x; exact ⟨z, its, n, r, k _ _ (.inl rfl) e⟩
  | tup xs => obtain ⟨z, its, r, ob, e, c⟩ := x; exact ⟨z, its, r, ob, k _ _ (.inl rfl) e, c⟩
  | dK kvs => obtain ⟨z, y, vs, r, ob, es, ep, e, c⟩ := x; exact ⟨z, y, vs, r, ob, es, ep, k _ _ (.inl rfl) e, c⟩
  | dT kvs =>
    obtain ⟨z, y, xs, r, ob, es, ep, e, c⟩ := x
    exact ⟨z, y, xs, Paired.mapP r fun p q z => ⟨z.1, ht _ _ z.2.1, z.2.2⟩, ob, es, ep, k _ _ (.inl rfl) e, c⟩
  | set S n => obtain ⟨ob, es, ep, t, e, c⟩ := x; exact ⟨ob, es, ep, t, k _ _ (.inl rfl) e, c⟩
  | ins C dx fs =>
    obtain ⟨d, z, ne, e, mA, ⟨od, es, ep, e2, c⟩, r⟩ := x
    exact ⟨ho _ d, z, ne, k _ _ (.inl rfl) e, mA, ⟨od, es, ep, k _ _ (.inr d) e2, c⟩, r⟩
  | own y => obtain ⟨ob, e⟩ := x; exact ⟨ob, k _ _ (.inl rfl) e⟩
  | xd fs => obtain ⟨mA, ⟨od, es, ep, e, c⟩, r⟩ := x; exact ⟨mA, ⟨od, es, ep, k _ _ (.inl rfl) e, c⟩, r⟩
  | rng lo hi => obtain ⟨t, u, v, e⟩ := x; exact ⟨t, u, v, k _ _ (.inl rfl) e⟩
  | frz ob u ih => obtain ⟨e, q⟩ := x; exact ⟨k _ _ (.inl rfl) e, ih q⟩
  | tbl ps =>
    have e : h.get? a = some { cls := .none, data := .fields ps } := x
    show h'.get? a = some { cls := .none, data := .fields ps }
    exact k a _ (.inl rfl) e
  | met f y =>
    have e : h.get? a = some (PySem.W.methodObj (.ref f) (.ref y)) := x
    show h'.get? a = some (PySem.W.methodObj (.ref f) (.ref y))
    exact k a _ (.inl rfl) e
  | ext φ => obtain ⟨p, ⟨o, e⟩, st⟩ := x; exact ⟨st _ _ p fun o q => k _ _ (.inl rfl) q, ⟨o, k _ _ (.inl rfl) e⟩, st⟩
theorem HOk.lt (x : HOk P w H h) (e : H a = some o) : a < h.objs.size := (x a o e).lt
theorem HOk.fresh (x : HOk P w H h) (e : h.objs.size ≤ a) : H a = none := by
  cases q : H a with
  | none => rfl
  | some u => exact absurd (Nat.lt_of_lt_of_le (x.lt q) e) (Nat.lt_irrefl _)
/-- every object of the heap is kept -/
theorem HOk.kept (x : HOk P w H h) (k : ∀ b u, h.get? b = some u → h'.get? b = some u) : HOk P w H h' := fun a o e =>
  (x a o e).stay (fun b u _ q => k b u q) (fun _ q => q) fun _ _ q => q
/-- a new object is laid and tracked -/
theorem HOk.laid (x : HOk P w H h) (k : ∀ b u, h.get? b = some u → h'.get? b = some u) (hp : h.objs.size ≤ a) (new : ObjOk P w (upd H a o) h' a o) : HOk P w (upd H a o) h' := fun b u e => by
  have hn := x.fresh hp
  by_cases hb : b = a
  · subst hb; rw [upd_same] at e; cases e; exact new
  · rw [upd_ne hb] at e
    exact (x b u e).stay (fun c v _ q => k c v q) (fun c q => by rw [upd_ne (ne_of_none q hn)]; exact q) fun c xs q => by rw [upd_ne (ne_of_none q hn)]; exact q
end
/-- what may be read as u: it is u, or a known u -/
def Rd (H : Hp) (a : Addr) (u : HO) : Prop := H a = some u ∨ ∃ o, H a = some (.frz o u)
theorem Rd.ok {P : Program} {w : World} {H : Hp} {h : Heap} {a : Addr} {u : HO} (r : Rd H a u) (x : HOk P w H h) : ObjOk P w H h a u := by
  rcases r with r | ⟨o, r⟩
  · exact x a u r
  · obtain ⟨_, q⟩ := x a _ r
    exact q
/-- what may be written -/
def Mut : Option HO → Prop
  | some (.lst _) => True
  | some (.dK _) => True
  | some (.dT _) => True
  | some (.set _ _) => True
  | some (.ins _ _ _) => True
  | some (.ext _) => True
  | _ => False
section
variable {P : Program} {w : World} {H : Hp} {h h' : Heap} {x e : Addr} {o' : HO}
/-- the object at e is changed: x itself, or the dict of the instance x -/
theorem HOk.write (ok : HOk P w H h) (mu : Mut (H x)) (he : e = x ∨ H e = some (.own x)) (k : ∀ b u, b ≠ e → h.get? b = some u → h'.get? b = some u) (heo : ∃ u, h'.get? e = some u)
    (new : ObjOk P w (upd H x o') h' x o') : HOk P w (upd H x o') h' := fun b u q => by
  have nown : ∀ c y, H c = some (.own y) → c ≠ x := fun c y r z => by subst z; rw [r] at mu; exact mu
  have ntup : ∀ c xs, H c = some (.tup xs) → c ≠ x := fun c xs r z => by subst z; rw [r] at mu; exact mu
  by_cases hb : b = x
  · subst hb; rw [upd_same] at q; cases q; exact new
  · rw [upd_ne hb] at q
    by_cases hbe : b = e
    · have q' : H b = some (.own x) := by
        rcases he with z | z
        · exact absurd (hbe.trans z) hb
        · rw [hbe]; exact z
      rw [q] at q'; cases q'
      obtain ⟨v, hv⟩ := heo
      exact ⟨v, by rw [hbe]; exact hv⟩
    · refine (ok b u q).stay (fun c v hc r => k c v ?_ r) (fun c r => by rw [upd_ne (nown c b r)]; exact r) fun c xs r => by rw [upd_ne (ntup c xs r)]; exact r
      rcases hc with rfl | hc
      · exact hbe
      · rintro rfl
        rcases he with z | z
        · exact nown c b hc z
        · rw [hc] at z; cases z; exact hb rfl
end
/-! ### kept unless tracked; of the frames at fs (the callers') the slots may change (an exception that passes writes there); of the records at ex (iterators) nothing is said -/
structure Un (fs ex : List Addr) (H H' : Hp) (h h' : Heap) : Prop where
  keep : ∀ b o, h.get? b = some o → H b = none → b ∉ fs → b ∉ ex → h'.get? b = some o
  slot : ∀ b o, h.get? b = some o → H b = none → b ∈ fs → b ∉ ex → ∃ sl, h'.get? b = some { o with slots := sl }
  free : ∀ b o, h.get? b = some o → H b = none → b ∉ ex → H' b = none
  there : ∀ b o, h.get? b = some o → b ∉ ex → ∃ o', h'.get? b = some o'
  tups : ∀ b xs, H b = some (.tup xs) → H' b = some (.tup xs)
  frzs : ∀ b o u, H b = some (.frz o u) → H' b = some (.frz o u)
  tbls : ∀ b ps, H b = some (.tbl ps) → ∃ more, H' b = some (.tbl (ps ++ more))
section
variable {fs fs' ex ex' : List Addr} {H H1 H2 : Hp} {h h1 h2 h' : Heap} {a x e : Addr} {o : HO}
theorem Un.any (u : Un fs ex H H1 h h1) {b : Addr} {ob : Obj} (q : h.get? b = some ob) (n : H b = none) (hx : b ∉ ex) : ∃ sl, h1.get? b = some { ob with slots := sl } := by
  by_cases hb : b ∈ fs
  · exact u.slot b ob q n hb hx
  · exact ⟨ob.slots, u.keep b ob q n hb hx⟩
theorem Un.kept (k : ∀ b u, h.get? b = some u → h'.get? b = some u) : Un fs ex H H h h' :=
  ⟨fun b ob q _ _ _ => k b ob q, fun b ob q _ _ _ => ⟨ob.slots, k b ob q⟩, fun _ _ _ n _ => n, fun b ob q _ => ⟨ob, k b ob q⟩, fun _ _ q => q, fun _ _ _ q => q, fun _ ps q => ⟨#[], by rw [q]; simp⟩⟩
theorem Un.refl : Un fs ex H H h h := Un.kept fun _ _ q => q
theorem Un.laid (k : ∀ b u, h.get? b = some u → h'.get? b = some u) (hp : h.objs.size ≤ a) (hn : H a = none) : Un fs ex H (upd H a o) h h' where
  keep := fun b u q _ _ _ => k b u q
  slot := fun b u q _ _ _ => ⟨u.slots, k b u q⟩
  free := fun b u q n _ => by rw [upd_ne (Nat.ne_of_lt (Nat.lt_of_lt_of_le (Heap.lt_size q) hp))]; exact n
  there := fun b u q _ => ⟨u, k b u q⟩
  tups := fun b xs q => by rw [upd_ne (ne_of_none q hn)]; exact q
  frzs := fun b u xs q => by rw [upd_ne (ne_of_none q hn)]; exact q
  tbls := fun b ps q => ⟨#[], by rw [upd_ne (ne_of_none q hn), q]; simp⟩
theorem Un.write (mu : Mut (H x)) (he : e = x ∨ H e = some (.own x)) (k : ∀ b u, b ≠ e → h.get? b = some u → h'.get? b = some u) (heo : ∃ u, h'.get? e = some u) : Un fs ex H (upd H x o) h h' := by
  have hx : ∀ b, H b = none → b ≠ x := fun b n z => by subst z; rw [n] at mu; exact mu
  have hb : ∀ b, H b = none → b ≠ e := fun b n z => by
    subst z
    rcases he with r | r
    · exact hx b n r
    · rw [n] at r; cases r
  have hm : ∀ b u, H b = some u → ¬ Mut (some u) → b ≠ x := fun b u q nm z => by subst z; rw [q] at mu; exact nm mu
  refine ⟨fun b u q n _ _ => k b u (hb b n) q, fun b u q n _ _ => ⟨u.slots, k b u (hb b n) q⟩, fun b u q n _ => by rw [upd_ne (hx b n)]; exact n, fun b u q _ => ?_,
    fun b xs q => by rw [upd_ne (hm b _ q fun z => z)]; exact q, fun b u xs q => by rw [upd_ne (hm b _ q fun z => z)]; exact q, fun b ps q => ⟨#[], by rw [upd_ne (hm b _ q fun z => z), q]; simp⟩⟩
  by_cases hbe : b = e
  · subst hbe; exact heo
  · exact ⟨u, k b u hbe q⟩
end
/-! ### the heap without what is tracked -/
def trk (h : Heap) (H : Hp) : List Addr := (List.range h.objs.size).filter fun a => (H a).isSome
def hidT (h : Heap) (H : Hp) : Heap := PySem.W.hideAll h (trk h H)
theorem hidT_size (h : Heap) (H : Hp) : (hidT h H).objs.size = h.objs.size := PySem.W.hideAll_size _ _
theorem hidT_get {h : Heap} {H : Hp} {b : Addr} {o : Obj} (e : h.get? b = some o) (n : H b = none) : (hidT h H).get? b = some o :=
  PySem.W.hideAll_get _ e fun hm => by
    have q : (H b).isSome = true := (List.mem_filter.mp hm).2
    rw [n] at q; simp at q
theorem of_hidT {h : Heap} {H : Hp} {b : Addr} {o : Obj} (e : (hidT h H).get? b = some o) : h.get? b = some o ∧ H b = none := by
  have e' : h.get? b = some o := PySem.W.of_hideAll (trk h H) e
  refine ⟨e', ?_⟩
  cases q : H b with
  | none => rfl
  | some x =>
    have hm : b ∈ trk h H := List.mem_filter.mpr ⟨List.mem_range.mpr (Heap.lt_size e'), by simp [q]⟩
    have z : (hidT h H).get? b = none := PySem.W.hideAll_none (trk h H) hm
    rw [z] at e; cases e
/-! ### OpenK's ledger, filled with every new object but one -/
end L2
namespace L2
open PySem PySem.Spec PyProof.Rows
/-- the module's facts, over the base: the heap at the law's entry without what is tracked there -/
structure Mod (K : PySem.W.Frag) (mg : Str → Option Value) (base : Heap) : Prop where
  kin : K.In base
  glob : base.Ns mainGlobals mg
  blt : ∃ mb, base.Ns builtinsNs mb ∧ ∀ x : Str, x ≠ "__name__" → mb x = bootBuiltins x
  nolimit : base.NoLimit
/-- the context: a def's body (or a comprehension's block) running. base: fixed through the whole law; s₀, H₀: the entry; outer: the frames whose slots others may change (a def's callers); stack: all frames that run;
   ex: iterators that were made ahead of the entry and are walked here (a comprehension's); fn: the names whose cells were made at the entry (a def: all; a comprehension's block: its own); calm: not within an except suite; pn: pins that every state bears; xe: what is wanted of an exception that leaves the code -/
structure Cx where
  prog : Program
  w : World
  K : PySem.W.Frag
  mg : Str → Option Value
  base : Heap
  A : Around
  N : List Str
  s₀ : Shared
  H₀ : Hp
  env : Env
  outer : List Env
  stack : List Env
  ex : List Addr
  fn : Str → Bool
  calm : Bool
  pn : List (Addr × Obj)
  xe : Value → Shared → Prop
/-- the callers' frames -/
def frs (l : List Env) : List Addr := l.filterMap (·.frame)
abbrev Cx.fs (X : Cx) : List Addr := frs X.outer
def Vis (sc : Scope) (x : Str) : Prop := sc.names.lookup x = some .local ∨ sc.names.lookup x = some .cell ∨ sc.names.lookup x = some .free
def Loc (sc : Scope) (x : Str) : Prop := sc.names.lookup x = some .local ∨ sc.names.lookup x = some .cell
def Look (env : Env) (h : Heap) (m : Str → Option Value) (x : Str) (u : Value) : Prop :=
  (env.kindOf x = some .local ∧ m x = some u) ∨ ((env.kindOf x = some .cell ∨ env.kindOf x = some .free) ∧ ∃ c, env.cells.lookup x = some c ∧ h.IsCell c (some u))
structure Cx.Ok (X : Cx) : Prop where
  mod : Mod X.K X.mg X.base
  kind : X.env.scope.kind = .function
  glob : X.env.globals = mainGlobals
  blt : X.env.builtins = builtinsNs
  above : X.s₀.heap.objs.size ≤ X.env.locals
  inj : ∀ x y c, X.env.cells.lookup x = some c → X.env.cells.lookup y = some c → x = y
  has : ∀ x, (X.env.kindOf x = some .cell ∨ X.env.kindOf x = some .free) → ∃ c, X.env.cells.lookup x = some c
  cab : ∀ x c, X.fn x = true → X.env.cells.lookup x = some c → X.s₀.heap.objs.size ≤ c
  hd : X.calm = true → X.A.handled = none
  frames : X.A.frames = some X.stack
  stk : X.stack = X.outer ∨ (X.stack = X.env :: X.outer ∧ X.env.frame = some X.env.locals)
  exf : ∀ b ∈ X.ex, b ≠ X.env.locals ∧ ∀ x c, X.env.cells.lookup x = some c → c ≠ b
  bs : ∀ b o, X.base.get? b = some o → X.s₀.heap.get? b = some o ∧ X.H₀ b = none
  bsz : X.base.objs.size ≤ X.s₀.heap.objs.size
  noex : ∀ b o, X.base.get? b = some o → b ∉ X.ex
  exfs : ∀ b ∈ X.ex, b ∉ X.fs
  funs : X.s₀.heap.FunFrames X.base X.outer
  frf : ∀ b ∈ X.fs, X.H₀ b = none
structure Inv (X : Cx) (pins : List (Addr × Obj)) (σ : List (Option V)) (H : Hp) (s : Shared) : Prop where
  ok : X.Ok
  os : s.os = X.s₀.os
  bare : AllBare s.gens
  base : Un X.fs X.ex X.H₀ H X.s₀.heap s.heap
  loc : ∃ m, s.heap.Ns X.env.locals m ∧ ∀ (i : Nat) (x : Str) (v : V), X.N[i]? = some x → σ[i]? = some (some v) → Vis X.env.scope x → ∃ u, RelV v u ∧ Look X.env s.heap m x u
  cell : ∀ x c, X.env.cells.lookup x = some c → ∃ v, s.heap.IsCell c v
  free : H X.env.locals = none
  freeC : ∀ x c, X.env.cells.lookup x = some c → H c = none
  pin : ∀ p ∈ X.pn ++ pins, s.heap.get? p.1 = some p.2 ∧ H p.1 = none ∧ p.1 ≠ X.env.locals ∧ p.1 ∉ X.fs ∧ ∀ v, p.2.data ≠ .cell v
  hok : HOk X.prog X.w H s.heap
  len : σ.length = X.N.length
section
variable {X : Cx} {pins : List (Addr × Obj)} {σ : List (Option V)} {H H' : Hp} {s : Shared} {h' : Heap}
theorem Cx.Ok.nofr (ok : X.Ok) {b : Addr} {o : Obj} (e : X.base.get? b = some o) : b ∉ X.fs := fun hb => by
  have := (ok.funs.mem hb).1
  rw [e] at this; cases this
theorem Inv.bs (I : Inv X pins σ H s) : ∀ b o, X.base.get? b = some o → s.heap.get? b = some o ∧ H b = none := fun b o e =>
  ⟨I.base.keep b o (I.ok.bs b o e).1 (I.ok.bs b o e).2 (I.ok.nofr e) (I.ok.noex b o e), I.base.free b o (I.ok.bs b o e).1 (I.ok.bs b o e).2 (I.ok.noex b o e)⟩
theorem Inv.bk (I : Inv X pins σ H s) : ∀ b o, X.base.get? b = some o → s.heap.get? b = some o := fun b o e => (I.bs b o e).1
theorem Inv.mod (I : Inv X pins σ H s) : Mod X.K X.mg X.base := I.ok.mod
theorem Inv.kIn (I : Inv X pins σ H s) : X.K.In s.heap := I.ok.mod.kin.keeps I.bk
theorem Inv.lt (I : Inv X pins σ H s) : X.env.locals < s.heap.objs.size := let ⟨_, hn, _⟩ := I.loc; hn.lt
theorem Inv.sz (I : Inv X pins σ H s) : X.s₀.heap.objs.size ≤ s.heap.objs.size := Nat.le_trans I.ok.above (Nat.le_of_lt I.lt)
theorem Inv.nofs (I : Inv X pins σ H s) {a : Addr} (h : s.heap.objs.size ≤ a) : a ∉ X.fs := fun hb => by
  obtain ⟨_, o, ho, _⟩ := I.ok.funs.mem hb
  exact absurd (Nat.lt_of_lt_of_le (Heap.lt_size ho) (Nat.le_trans I.sz h)) (Nat.lt_irrefl _)
theorem Inv.cne (I : Inv X pins σ H s) : ∀ x c, X.env.cells.lookup x = some c → c ≠ X.env.locals := fun x c e z => by
  obtain ⟨v, o, ho, hd⟩ := I.cell x c e
  obtain ⟨m, ⟨o', es, ep, ho', hd', _⟩, _⟩ := I.loc
  rw [z, ho'] at ho; cases ho; rw [hd'] at hd; cases hd
theorem Inv.funs (I : Inv X pins σ H s) : s.heap.FunFrames X.base X.outer := by
  have all : ∀ (l : List Env), (∀ b ∈ frs l, b ∈ X.fs) → X.s₀.heap.FunFrames X.base l → s.heap.FunFrames X.base l := by
    intro l
    induction l with
    | nil => intro _ _; trivial
    | cons env r ih =>
      intro hs hl
      obtain ⟨hk, ⟨L, o, hf, hn, ho, hd⟩, hr⟩ := hl
      have hL : L ∈ X.fs := hs L (by unfold frs; rw [List.filterMap_cons, hf]; exact List.mem_cons_self)
      obtain ⟨sl, e⟩ := I.base.slot L o ho (I.ok.frf L hL) hL fun z => I.ok.exfs L z hL
      exact ⟨hk, ⟨L, _, hf, hn, e, hd⟩, ih (fun b hb => hs b (by unfold frs; rw [List.filterMap_cons, hf]; exact List.mem_cons_of_mem _ hb)) hr⟩
  exact all X.outer (fun _ hb => hb) I.ok.funs
/-- the frames that run, for a call -/
theorem Inv.stack (I : Inv X pins σ H s) : s.heap.FunFrames X.base X.stack := by
  rcases I.ok.stk with e | ⟨e, hf⟩
  · rw [e]; exact I.funs
  · rw [e]
    obtain ⟨m, hn, _⟩ := I.loc
    refine .cons (by rw [I.ok.kind]; decide) hf hn ?_ I.funs
    exact Heap.get?_none_of_le (Nat.le_trans I.ok.bsz I.ok.above)
theorem Inv.stkSub (I : Inv X pins σ H s) : ∀ b ∈ frs X.stack, b ∈ X.env.locals :: X.fs := fun b hb => by
  rcases I.ok.stk with e | ⟨e, hf⟩
  · rw [e] at hb; exact List.mem_cons_of_mem _ hb
  · rw [e] at hb
    unfold frs at hb
    rw [List.filterMap_cons, hf] at hb
    exact hb
theorem Inv.stkFree (I : Inv X pins σ H s) : ∀ b ∈ frs X.stack, H b = none := fun b hb => by
  rcases List.mem_cons.mp (I.stkSub b hb) with e | hb
  · rw [e]; exact I.free
  · obtain ⟨_, o, ho, _⟩ := I.ok.funs.mem hb
    exact I.base.free b o ho (I.ok.frf b hb) fun z => I.ok.exfs b z hb
/-- THE STEP: the untracked objects but the frame and the records at ch are kept (the callers' frames up to slots), the frame's map is kept, the new abstract heap is held -/
theorem Inv.step {g' : Array GenState} {t' : Nat} {d' : Drawn} {ch : List Addr} (I : Inv X pins σ H s)
    (hch : ∀ b ∈ ch, (b ∈ X.ex ∨ X.s₀.heap.objs.size ≤ b) ∧ b ≠ X.env.locals ∧ (∀ x c, X.env.cells.lookup x = some c → c ≠ b) ∧ ∀ p ∈ X.pn ++ pins, p.1 ≠ b)
    (keep : ∀ b o, b ≠ X.env.locals → b ∉ X.fs → b ∉ ch → s.heap.get? b = some o → H b = none → h'.get? b = some o)
    (slot : ∀ b o, b ≠ X.env.locals → b ∈ X.fs → b ∉ ch → s.heap.get? b = some o → H b = none → ∃ sl, h'.get? b = some { o with slots := sl }) (free : ∀ b o, b ∉ ch → s.heap.get? b = some o → H b = none → H' b = none)
    (there : ∀ b o, b ∉ ch → s.heap.get? b = some o → ∃ o', h'.get? b = some o')
    (tups : ∀ b xs, H b = some (.tup xs) → H' b = some (.tup xs)) (frzs : ∀ b o u, H b = some (.frz o u) → H' b = some (.frz o u)) (tbls : ∀ b ps, H b = some (.tbl ps) → ∃ more, H' b = some (.tbl (ps ++ more)))
    (ns : ∀ m, s.heap.Ns X.env.locals m → h'.Ns X.env.locals m) (hok : HOk X.prog X.w H' h') (hg : AllBare g') :
    Inv X pins σ H' { s with heap := h', gens := g', drawn := d', toks := t' } := by
  have neL : ∀ b o, X.s₀.heap.get? b = some o → b ≠ X.env.locals := fun b o e => Nat.ne_of_lt (Nat.lt_of_lt_of_le (Heap.lt_size e) I.ok.above)
  have neC : ∀ b o, X.s₀.heap.get? b = some o → b ∉ X.ex → b ∉ ch := fun b o e hx hb => by
    rcases (hch b hb).1 with z | z
    · exact hx z
    · exact absurd (Nat.lt_of_lt_of_le (Heap.lt_size e) z) (Nat.lt_irrefl _)
  have cellK : ∀ x c, X.env.cells.lookup x = some c → ∀ v, s.heap.IsCell c v → h'.IsCell c v := fun x c e v ⟨o, ho, hd⟩ => by
    have nch : c ∉ ch := fun z => (hch c z).2.2.1 x c e rfl
    by_cases hc : c ∈ X.fs
    · obtain ⟨sl, q⟩ := slot c o (I.cne x c e) hc nch ho (I.freeC x c e)
      exact ⟨_, q, hd⟩
    · exact ⟨o, keep c o (I.cne x c e) hc nch ho (I.freeC x c e), hd⟩
  refine ⟨I.ok, I.os, hg, ⟨fun b o e n hb hx => ?_, fun b o e n hb hx => ?_, fun b o e n hx => ?_, fun b o e hx => ?_, fun b xs e => tups b xs (I.base.tups b xs e), fun b o xs e => frzs b o xs (I.base.frzs b o xs e), fun b ps e => ?_⟩, ?_, fun x c e => ?_, ?_, fun x c e => ?_, fun p hp => ?_, hok, I.len⟩
  · exact keep b o (neL b o e) hb (neC b o e hx) (I.base.keep b o e n hb hx) (I.base.free b o e n hx)
  · obtain ⟨sl, e1⟩ := I.base.slot b o e n hb hx
    obtain ⟨sl', e2⟩ := slot b _ (neL b o e) hb (neC b o e hx) e1 (I.base.free b o e n hx)
    exact ⟨sl', e2⟩
  · obtain ⟨o', e1⟩ := I.base.there b o e hx
    exact free b o' (neC b o e hx) e1 (I.base.free b o e n hx)
  · obtain ⟨o', e1⟩ := I.base.there b o e hx
    exact there b o' (neC b o e hx) e1
  · obtain ⟨m1, e1⟩ := I.base.tbls b ps e
    obtain ⟨m2, e2⟩ := tbls b _ e1
    exact ⟨m1 ++ m2, by rw [e2, Array.append_assoc]⟩
  · obtain ⟨m, hn, hl⟩ := I.loc
    refine ⟨m, ns m hn, fun i x v e1 e2 e3 => ?_⟩
    obtain ⟨u, r, l⟩ := hl i x v e1 e2 e3
    refine ⟨u, r, ?_⟩
    rcases l with l | ⟨k, c, e, z⟩
    · exact .inl l
    · exact .inr ⟨k, c, e, cellK x c e _ z⟩
  · obtain ⟨v, z⟩ := I.cell x c e
    exact ⟨v, cellK x c e v z⟩
  · obtain ⟨m, ⟨o, _, _, ho, _⟩, _⟩ := I.loc
    exact free _ o (fun z => (hch _ z).2.1 rfl) ho I.free
  · obtain ⟨v, o, ho, hd⟩ := I.cell x c e
    exact free c o (fun z => (hch c z).2.2.1 x c e rfl) ho (I.freeC x c e)
  · obtain ⟨e, n, ne, nf, d⟩ := I.pin p hp
    have nch : p.1 ∉ ch := fun z => (hch p.1 z).2.2.2 p hp rfl
    exact ⟨keep p.1 p.2 ne nf nch e n, free p.1 p.2 nch e n, ne, nf, d⟩
/-- .. where the frame's own object is kept too -/
theorem Inv.un {t' : Nat} (I : Inv X pins σ H s) (u : Un X.fs [] H H' s.heap h') (hok : HOk X.prog X.w H' h') : Inv X pins σ H' { s with heap := h', toks := t' } := by
  obtain ⟨m, ⟨o, es, ep, ho, r⟩, _⟩ := id I.loc
  obtain ⟨sl, hL⟩ := u.any ho I.free (by simp)
  exact I.step (g' := s.gens) (d' := s.drawn) (ch := []) (fun _ z => nomatch z) (fun b o _ hb _ e n => u.keep b o e n hb (by simp)) (fun b o _ hb _ e n => u.slot b o e n hb (by simp)) (fun b o _ e n => u.free b o e n (by simp)) (fun b o _ e => u.there b o e (by simp)) u.tups u.frzs u.tbls (fun m' hm => by
    obtain ⟨o', es', ep', ho', r'⟩ := hm
    rw [ho] at ho'; cases ho'
    exact ⟨_, es', ep', hL, r'⟩) hok I.bare
/-- behind a call (or a comprehension's block): the slots of this frame may have changed too, the records at ch may have turned -/
theorem Inv.call {g' : Array GenState} {t' : Nat} {d' : Drawn} {ch : List Addr} (I : Inv X pins σ H s) (u : Un (frs X.stack) ch H H' s.heap h') (hok : HOk X.prog X.w H' h') (hg : AllBare g')
    (hch : ∀ b ∈ ch, (b ∈ X.ex ∨ X.s₀.heap.objs.size ≤ b) ∧ b ≠ X.env.locals ∧ (∀ x c, X.env.cells.lookup x = some c → c ≠ b) ∧ ∀ p ∈ X.pn ++ pins, p.1 ≠ b) :
    Inv X pins σ H' { s with heap := h', gens := g', drawn := d', toks := t' } := by
  obtain ⟨m, ⟨o, es, ep, ho, r⟩, _⟩ := id I.loc
  obtain ⟨sl, hL⟩ := u.any ho I.free fun z => (hch _ z).2.1 rfl
  exact I.step (ch := ch) hch (fun b o hL hb hc e n => u.keep b o e n (fun z => (List.mem_cons.mp (I.stkSub b z)).elim hL hb) hc) (fun b o _ _ hc e n => u.any e n hc) (fun b o hc e n => u.free b o e n hc) (fun b o hc e => u.there b o e hc) u.tups u.frzs u.tbls (fun m' hm => by
    obtain ⟨o', es', ep', ho', r'⟩ := hm
    rw [ho] at ho'; cases ho'
    exact ⟨_, es', ep', hL, r'⟩) hok hg
/-- an untracked record of ours (an iterator) has turned -/
theorem Inv.turned {t' : Nat} {it : Addr} (I : Inv X pins σ H s) (k : ∀ b o, b ≠ it → s.heap.get? b = some o → h'.get? b = some o) (hn : H it = none) (hL : it ≠ X.env.locals)
    (h1 : it ∈ X.ex ∨ X.s₀.heap.objs.size ≤ it) (h2 : ∀ x c, X.env.cells.lookup x = some c → c ≠ it) (h3 : ∀ p ∈ X.pn ++ pins, p.1 ≠ it) : Inv X pins σ H { s with heap := h', toks := t' } := by
  have nit : ∀ b u, H b = some u → b ≠ it := fun b u e z => by rw [z, hn] at e; cases e
  refine I.step (g' := s.gens) (d' := s.drawn) (ch := [it]) (fun b hb => ?_) (fun b o _ _ hc e _ => k b o (fun z => hc (by simp [z])) e) (fun b o _ _ hc e _ => ⟨o.slots, k b o (fun z => hc (by simp [z])) e⟩) (fun _ _ _ _ n => n)
    (fun b o hc e => ⟨o, k b o (fun z => hc (by simp [z])) e⟩) (fun _ _ e => e) (fun _ _ _ e => e) (fun b ps e => ⟨#[], by rw [e]; simp⟩) (fun m hm => ?_) (fun b u e => ?_) I.bare
  · have e : b = it := by simpa using hb
    subst e
    exact ⟨h1, hL, h2, h3⟩
  · obtain ⟨o, es, ep, ho, r⟩ := hm
    exact ⟨o, es, ep, k _ o (Ne.symm hL) ho, r⟩
  · refine (I.hok b u e).stay (fun c v hc q => k c v ?_ q) (fun _ q => q) fun _ _ q => q
    rcases hc with z | z
    · rw [z]; exact nit b u e
    · exact nit c _ z
theorem Inv.tok (I : Inv X pins σ H s) (t : Nat) : Inv X pins σ H { s with toks := t } := I.un (h' := s.heap) (t' := t) Un.refl I.hok
/-- all objects kept -/
theorem Inv.kept {t' : Nat} (I : Inv X pins σ H s) (k : ∀ b u, s.heap.get? b = some u → h'.get? b = some u) : Inv X pins σ H { s with heap := h', toks := t' } := I.un (Un.kept k) (I.hok.kept k)
/-- a new object laid and tracked -/
theorem Inv.laid {a : Addr} {o : HO} {t' : Nat} (I : Inv X pins σ H s) (k : ∀ b u, s.heap.get? b = some u → h'.get? b = some u) (hp : s.heap.objs.size ≤ a) (new : ObjOk X.prog X.w (upd H a o) h' a o) :
    Inv X pins σ (upd H a o) { s with heap := h', toks := t' } := I.un (Un.laid k hp (I.hok.fresh hp)) (I.hok.laid k hp new)
/-- an object written -/
theorem Inv.write {x e : Addr} {o : HO} {t' : Nat} (I : Inv X pins σ H s) (mu : Mut (H x)) (he : e = x ∨ H e = some (.own x)) (k : ∀ b u, b ≠ e → s.heap.get? b = some u → h'.get? b = some u) (heo : ∃ u, h'.get? e = some u)
    (new : ObjOk X.prog X.w (upd H x o) h' x o) : Inv X pins σ (upd H x o) { s with heap := h', toks := t' } := I.un (Un.write mu he k heo) (I.hok.write mu he k heo new)
theorem Inv.pins_of {pins' : List (Addr × Obj)} (I : Inv X pins σ H s) (h : ∀ p ∈ pins', s.heap.get? p.1 = some p.2 ∧ H p.1 = none ∧ p.1 ≠ X.env.locals ∧ p.1 ∉ X.fs ∧ ∀ v, p.2.data ≠ .cell v) : Inv X pins' σ H s :=
  ⟨I.ok, I.os, I.bare, I.base, I.loc, I.cell, I.free, I.freeC, fun p hp => (List.mem_append.mp hp).elim (fun z => I.pin p (List.mem_append_left _ z)) (h p), I.hok, I.len⟩
theorem nodup_ix {N : List Str} (hN : N.Nodup) {i j : Nat} {x : Str} (a : N[i]? = some x) (b : N[j]? = some x) : i = j := by
  obtain ⟨h1, e1⟩ := List.getElem?_eq_some_iff.mp a
  obtain ⟨h2, e2⟩ := List.getElem?_eq_some_iff.mp b
  exact (List.getElem_inj hN).mp (e1.trans e2.symm)
/-- a name is stored; what changed -/
theorem store_ok2 {M : Model} {A : Around} {E : Value → Shared → Prop} {i : Nat} {x : Str} {v : V} {u : Value} {Q : Unit → Shared → Prop} (I : Inv X pins σ H s) (hN : X.N.Nodup) (hi : X.N[i]? = some x) (hx : Loc X.env.scope x) (r : RelV v u)
    (h : ∀ s', Inv X pins (σ.set i (some v)) H s' → (∃ a, Heap.SameBut a s.heap s'.heap ∧ (a = X.env.locals ∨ X.env.cells.lookup x = some a)) → Q () s') (hf : X.fn x = true ∨ X.env.scope.names.lookup x = some .local := by first | exact .inl rfl | exact .inr rfl | assumption) : wpAny M A (storeName X.env x u) Q E s := by
  obtain ⟨m, hn, hl⟩ := id I.loc
  have hcls : (X.env.scope.kind == .class || (X.env.scope.kind == .module && X.env.locals != X.env.globals)) = false := by rw [I.ok.kind]; rfl
  have hiσ : i < σ.length := by rw [I.len]; exact (List.getElem?_eq_some_iff.mp hi).1
  have cne := I.cne
  have tracked : ∀ {a : Addr} {h' : Heap}, (∃ o, s.heap.get? a = some o ∧ H a = none) → Heap.SameBut a s.heap h' → HOk X.prog X.w H h' := fun {a h'} ha hs b ob e => by
    obtain ⟨_, _, hfree⟩ := ha
    refine (I.hok b ob e).stay (fun c w' hc q => (hs.2 c ?_).trans q) (fun _ q => q) fun _ _ q => q
    rintro rfl
    rcases hc with rfl | hc
    · rw [hfree] at e; cases e
    · rw [hfree] at hc; cases hc
  rcases hx with hk | hk
  · refine wpAny_storeName_local hk hn (fun h' hn' hs => ?_) hcls
    obtain ⟨oL, _, _, hoL, _⟩ := id hn
    refine h _ ⟨I.ok, I.os, I.bare, ⟨fun b o e n hb hx => ?_, fun b o e n hb hx => ?_, I.base.free, fun b o e hx => ?_, I.base.tups, I.base.frzs, I.base.tbls⟩, ⟨_, hn', fun j y v' e1 e2 e3 => ?_⟩, fun y c e => ?_, I.free, I.freeC, fun p hp => ?_, tracked ⟨oL, hoL, I.free⟩ hs, by simpa using I.len⟩ ⟨_, hs, .inl rfl⟩
    · exact (hs.2 b (Nat.ne_of_lt (Nat.lt_of_lt_of_le (Heap.lt_size e) I.ok.above))).trans (I.base.keep b o e n hb hx)
    · obtain ⟨sl, e1⟩ := I.base.slot b o e n hb hx
      exact ⟨sl, (hs.2 b (Nat.ne_of_lt (Nat.lt_of_lt_of_le (Heap.lt_size e) I.ok.above))).trans e1⟩
    · obtain ⟨o', e1⟩ := I.base.there b o e hx
      exact ⟨o', (hs.2 b (Nat.ne_of_lt (Nat.lt_of_lt_of_le (Heap.lt_size e) I.ok.above))).trans e1⟩
    · by_cases hj : j = i
      · subst hj
        rw [hi] at e1; cases e1
        rw [List.getElem?_set_self hiσ] at e2
        cases e2
        exact ⟨u, r, .inl ⟨hk, by simp⟩⟩
      · rw [List.getElem?_set_ne (Ne.symm hj)] at e2
        obtain ⟨u', r', q⟩ := hl j y v' e1 e2 e3
        refine ⟨u', r', ?_⟩
        rcases q with ⟨k, e⟩ | ⟨k, c, e, z⟩
        · refine .inl ⟨k, ?_⟩
          have : y ≠ x := fun e => hj (nodup_ix hN e1 (e ▸ hi))
          simp [this, e]
        · exact .inr ⟨k, c, e, z.sameBut hs (cne y c e)⟩
    · obtain ⟨w', z⟩ := I.cell y c e
      exact ⟨w', z.sameBut hs (cne y c e)⟩
    · obtain ⟨e, n, ne, nf, d⟩ := I.pin p hp
      exact ⟨(hs.2 p.1 ne).trans e, n, ne, nf, d⟩
  · have hfn : X.fn x = true := by
      rcases hf with z | z
      · exact z
      · rw [z] at hk; cases hk
    obtain ⟨c, hc⟩ := I.ok.has x (.inl hk)
    obtain ⟨w', z⟩ := I.cell x c hc
    refine wpAny_storeName_cell I.ok.kind hk hc z (fun h' hc' hs => ?_)
    obtain ⟨oc, hoc, hocd⟩ := id z
    refine h { s with heap := h' } ⟨I.ok, I.os, I.bare, ⟨fun b o e n hb hx => ?_, fun b o e n hb hx => ?_, I.base.free, fun b o e hx => ?_, I.base.tups, I.base.frzs, I.base.tbls⟩, ⟨m, hn.sameBut hs (Ne.symm (cne x c hc)), fun j y v' e1 e2 e3 => ?_⟩, fun y c' e => ?_, I.free, I.freeC, fun p hp => ?_, tracked ⟨oc, hoc, I.freeC x c hc⟩ hs, by simpa using I.len⟩ ⟨c, hs, .inr hc⟩
    · exact (hs.2 b (Nat.ne_of_lt (Nat.lt_of_lt_of_le (Heap.lt_size e) (I.ok.cab x c hfn hc)))).trans (I.base.keep b o e n hb hx)
    · obtain ⟨sl, e1⟩ := I.base.slot b o e n hb hx
      exact ⟨sl, (hs.2 b (Nat.ne_of_lt (Nat.lt_of_lt_of_le (Heap.lt_size e) (I.ok.cab x c hfn hc)))).trans e1⟩
    · obtain ⟨o', e1⟩ := I.base.there b o e hx
      exact ⟨o', (hs.2 b (Nat.ne_of_lt (Nat.lt_of_lt_of_le (Heap.lt_size e) (I.ok.cab x c hfn hc)))).trans e1⟩
    · by_cases hj : j = i
      · subst hj
        rw [hi] at e1; cases e1
        rw [List.getElem?_set_self hiσ] at e2
        cases e2
        exact ⟨u, r, .inr ⟨.inl hk, c, hc, hc'⟩⟩
      · rw [List.getElem?_set_ne (Ne.symm hj)] at e2
        obtain ⟨u', r', q⟩ := hl j y v' e1 e2 e3
        refine ⟨u', r', ?_⟩
        rcases q with q | ⟨k, c', e, z'⟩
        · exact .inl q
        · refine .inr ⟨k, c', e, z'.sameBut hs ?_⟩
          rintro rfl
          exact hj (nodup_ix hN e1 (I.ok.inj _ _ _ e hc ▸ hi))
    · by_cases hcc : c' = c
      · subst hcc; exact ⟨_, hc'⟩
      · obtain ⟨w2, z2⟩ := I.cell y c' e
        exact ⟨w2, z2.sameBut hs hcc⟩
    · obtain ⟨e, n, ne, nf, d⟩ := I.pin p hp
      refine ⟨(hs.2 p.1 ?_).trans e, n, ne, nf, d⟩
      intro q
      rw [q, hoc] at e
      have q' : oc = p.2 := Option.some.inj e
      exact d w' (by rw [← q']; exact hocd)
theorem store_ok {M : Model} {A : Around} {E : Value → Shared → Prop} {i : Nat} {x : Str} {v : V} {u : Value} {Q : Unit → Shared → Prop} (I : Inv X pins σ H s) (hN : X.N.Nodup) (hi : X.N[i]? = some x) (hx : Loc X.env.scope x) (r : RelV v u)
    (h : ∀ s', Inv X pins (σ.set i (some v)) H s' → Q () s') (hf : X.fn x = true ∨ X.env.scope.names.lookup x = some .local := by first | exact .inl rfl | exact .inr rfl | assumption) : wpAny M A (storeName X.env x u) Q E s :=
  store_ok2 I hN hi hx r (fun s' I' _ => h s' I') hf
/-- behind a call or a block, the state as it is -/
theorem Inv.call' {s' : Shared} {ch : List Addr} (I : Inv X pins σ H s) (ho : s'.os = s.os) (u : Un (frs X.stack) ch H H' s.heap s'.heap) (hok : HOk X.prog X.w H' s'.heap) (hg : AllBare s'.gens)
    (hch : ∀ b ∈ ch, (b ∈ X.ex ∨ X.s₀.heap.objs.size ≤ b) ∧ b ≠ X.env.locals ∧ (∀ x c, X.env.cells.lookup x = some c → c ≠ b) ∧ ∀ p ∈ X.pn ++ pins, p.1 ≠ b) : Inv X pins σ H' s' := by
  obtain ⟨h', g', d', t', o'⟩ := s'
  have e : o' = s.os := ho
  subst e
  exact I.call (g' := g') (t' := t') (d' := d') u hok hg hch
end
/-! ### the judgements -/
/-- an exception: its class, its own dict's address (where it has one), the abstract heap behind it -/
abbrev XK := Value → Option Addr → Hp → Prop
abbrev St := List (Option V)
abbrev VK := V → Hp → Prop
/-- an expression's reading; a test's; an argument list's -/
abbrev TE := St → Hp → VK → Prop
abbrev TT := St → Hp → (Bool → Hp → Prop) → Prop
abbrev TA := St → Hp → (List V → Hp → Prop) → Prop
/-- what is wanted behind a statement -/
structure Ends where
  nx : St → Hp → Prop
  rt : VK
  bk : St → Hp → Prop := fun _ _ => False
  ct : St → Hp → Prop := fun _ _ => False
abbrev TS := Ends → St → Hp → Prop
def EP (X : Cx) (pins : List (Addr × Obj)) (σ : St) (Q : VK) (u : Value) (s' : Shared) : Prop := ∃ v H', Inv X pins σ H' s' ∧ RelV v u ∧ Q v H'
def TP (X : Cx) (pins : List (Addr × Obj)) (σ : St) (Q : Bool → Hp → Prop) (b : Bool) (s' : Shared) : Prop := ∃ H', Inv X pins σ H' s' ∧ Q b H'
def AP (X : Cx) (pins : List (Addr × Obj)) (σ : St) (Q : List V → Hp → Prop) (us : List Value) (s' : Shared) : Prop := ∃ vs H', Inv X pins σ H' s' ∧ Vals vs us ∧ Q vs H'
def SP (X : Cx) (pins : List (Addr × Obj)) (D : Ends) (f : Flow) (s' : Shared) : Prop :=
  match f with
  | .next => ∃ σ' H', Inv X pins σ' H' s' ∧ D.nx σ' H'
  | .brk => ∃ σ' H', Inv X pins σ' H' s' ∧ D.bk σ' H'
  | .cont => ∃ σ' H', Inv X pins σ' H' s' ∧ D.ct σ' H'
  | .ret u => ∃ v σ' H', Inv X pins σ' H' s' ∧ RelV v u ∧ D.rt v H'
def PE (X : Cx) (e : Expr) (t : TE) : Prop :=
  ∀ (pins : List (Addr × Obj)) (s : Shared) (σ : St) (H : Hp) (Q : VK), Inv X pins σ H s → t σ H Q → wpAny (model X.prog X.w) X.A (eval e X.env) (EP X pins σ Q) X.xe s
def PT (X : Cx) (e : Expr) (t : TT) : Prop :=
  ∀ (pins : List (Addr × Obj)) (s : Shared) (σ : St) (H : Hp) (Q : Bool → Hp → Prop), Inv X pins σ H s → t σ H Q → wpAny (model X.prog X.w) X.A (isTrue e X.env (eval e X.env)) (TP X pins σ Q) X.xe s
/-- a test whatever its 'whole' is (and, or) -/
def PW (X : Cx) (e : Expr) (t : TT) : Prop :=
  ∀ (whole : Sem Value) (pins : List (Addr × Obj)) (s : Shared) (σ : St) (H : Hp) (Q : Bool → Hp → Prop), Inv X pins σ H s → t σ H Q → wpAny (model X.prog X.w) X.A (isTrue e X.env whole) (TP X pins σ Q) X.xe s
theorem PW.pt {X : Cx} {e : Expr} {t : TT} (h : PW X e t) : PT X e t := h _
/-- an argument list (no star), from the left -/
def PA (X : Cx) (es : List Expr) (t : TA) : Prop :=
  ∀ (pos : Pos) (pins : List (Addr × Obj)) (s : Shared) (σ : St) (H : Hp) (Q : List V → Hp → Prop), Inv X pins σ H s → t σ H Q → wpAny (model X.prog X.w) X.A (spliced (backTo pos (starEach es X.env))) (AP X pins σ Q) X.xe s
def PS (X : Cx) (st : Stmt) (t : TS) : Prop :=
  ∀ (pins : List (Addr × Obj)) (s : Shared) (σ : St) (H : Hp) (D : Ends), Inv X pins σ H s → t D σ H → wpAny (model X.prog X.w) X.A (exec st X.env) (SP X pins D) X.xe s
def PSs (X : Cx) (st : List Stmt) (t : TS) : Prop :=
  ∀ (pins : List (Addr × Obj)) (s : Shared) (σ : St) (H : Hp) (D : Ends), Inv X pins σ H s → t D σ H → wpAny (model X.prog X.w) X.A (execs st X.env) (SP X pins D) X.xe s
/-- weaken the end -/
theorem thn {α : Type} {t : Sem α} {Q Q' : α → Shared → Prop} {M : Model} {A : Around} {E : Value → Shared → Prop} {s : Shared} (h : wpAny M A t Q E s) (hQ : ∀ a s, Q a s → Q' a s) : wpAny M A t Q' E s := wpAny_mono h hQ fun _ _ x => x
end L2
namespace L2
open PySem PySem.Spec PyProof.Rows
section
variable {X : Cx}
/-! ### names and constants -/
def tVar (i : Nat) : TE := fun σ H Q => ∃ v, σ[i]? = some (some v) ∧ Q v H
def tC (v : V) : TE := fun _ H Q => Q v H
theorem pe_var {i : Nat} {x : Str} {pos : Pos} (hN : X.N[i]? = some x) (hv : Vis X.env.scope x) (hd : (x == ("__debug__" : Str)) = false := by decide) (hcd : (x == ("__classdict__" : Str)) = false := by decide) : PE X (.Name x pos) (tVar i) := by
  intro pins s σ H Q I h
  obtain ⟨v, e, h⟩ := h
  obtain ⟨m, hn, hl⟩ := I.loc
  obtain ⟨u, r, l⟩ := hl i x v hN e hv
  have fin : EP X pins σ Q u s := ⟨v, H, I, r, h⟩
  rcases l with ⟨hk, hm⟩ | ⟨hk, c, hc, hcell⟩
  · exact wpAny_Name (wpAny_loadName_local I.ok.kind hk hn hm fin) hd
  · rcases hk with hk | hk
    · exact wpAny_Name (wpAny_loadName_cell I.ok.kind hk hc hcell fin) hd
    · exact wpAny_Name (wpAny_loadName_free I.ok.kind hk hc hcell fin hcd) hd
theorem pe_int {i j pos} : PE X (.Constant (.int i) j pos) (tC (.int i)) := fun _ _ _ H _ I h => wpAny_Constant_int ⟨.int i, H, I.tok _, ⟨_, rfl⟩, h⟩
theorem pe_bl {b j pos} : PE X (.Constant (.bool b) j pos) (tC (.bl b)) := fun _ _ _ H _ I h => Constant_bool ⟨.bl b, H, I, rfl, h⟩
theorem pe_str {x j pos} : PE X (.Constant (.str x) j pos) (tC (.str x)) := fun _ _ _ H _ I h => Calls.Constant_str ⟨.str x, H, I.tok _, ⟨_, rfl⟩, h⟩
/-- a global name of the def -/
def Gl (X : Cx) (x : Str) : Prop := X.env.kindOf x = some .globalImplicit
theorem ld_glob {E : Value → Shared → Prop} {pins : List (Addr × Obj)} {s : Shared} {σ : St} {H : Hp} {x : Str} {u : Value} {pos : Pos} {Q : Value → Shared → Prop} (I : Inv X pins σ H s) (hg : Gl X x) (hm : X.mg x = some u) (h : Q u s)
    (hd : (x == ("__debug__" : Str)) = false := by decide) : wpAny (model X.prog X.w) X.A (eval (.Name x pos) X.env) Q E s :=
  Calls.Name_function_global I.ok.kind hg (Calls.loadGlobal_global (by rw [I.ok.glob]; exact I.mod.glob.keeps I.bk) hm h) hd
theorem ld_blt {E : Value → Shared → Prop} {pins : List (Addr × Obj)} {s : Shared} {σ : St} {H : Hp} {x : Str} {u : Value} {pos : Pos} {Q : Value → Shared → Prop} (I : Inv X pins σ H s) (hg : Gl X x) (hm : X.mg x = none) (hv : bootBuiltins x = some u) (h : Q u s)
    (hn : x ≠ "__name__" := by decide) (hd : (x == ("__debug__" : Str)) = false := by decide) : wpAny (model X.prog X.w) X.A (eval (.Name x pos) X.env) Q E s := by
  obtain ⟨mb, h1, h2⟩ := I.mod.blt
  exact Calls.Name_function_global I.ok.kind hg (Calls.loadGlobal_builtin (by rw [I.ok.glob]; exact I.mod.glob.keeps I.bk) hm (by rw [I.ok.blt]; exact h1.keeps I.bk) ((h2 x hn).trans hv) h) hd
/-- a module's constant, a class, a function, as a value -/
theorem pe_glob {x : Str} {v : V} {u : Value} {pos : Pos} (hg : Gl X x) (hm : X.mg x = some u) (r : RelV v u) (hd : (x == ("__debug__" : Str)) = false := by decide) : PE X (.Name x pos) (tC v) :=
  fun _ _ _ H _ I h => ld_glob I hg hm ⟨v, H, I, r, h⟩ hd
theorem pe_bltn {x : Str} {v : V} {u : Value} {pos : Pos} (hg : Gl X x) (hm : X.mg x = none) (hv : bootBuiltins x = some u) (r : RelV v u) (hn : x ≠ "__name__" := by decide) (hd : (x == ("__debug__" : Str)) = false := by decide) : PE X (.Name x pos) (tC v) :=
  fun _ _ _ H _ I h => ld_blt I hg hm hv ⟨v, H, I, r, h⟩ hn hd
/-! ### arithmetic -/
variable {a b : Expr} {ta tb : TE} {pos : Pos}
/-! ### comparisons -/
/-- a comparison as a value, as a test -/
def tB (t : TE) : TT := fun σ H Q => t σ H fun x H1 => ∃ c, x = .bl c ∧ Q c H1
/-- an expression whose value is a bool, as a test -/
theorem pt_val {e : Expr} {t : TE} (h : PE X e t) (he : ∀ whole, isTrue e X.env whole = (do let v ← whole; standAt e.pos; holding [v] (truthy v)) := by intro _; rfl) : PT X e (tB t) := by
  intro pins s σ H Q I hw
  refine isTrue_plain (thn (h pins s σ H _ I hw) fun v s1 ⟨x, H1, I1, r1, q1⟩ => ?_) (he _)
  obtain ⟨d, rfl, q⟩ := q1
  cases r1
  exact wpAny_truthy_bool ⟨H1, I1, q⟩
/-! ### and, or, not -/
variable {tA tB' : TT} {rest : List Expr}
def tAnd (t u : TT) : TT := fun σ H Q => t σ H fun c H1 => if c = true then u σ H1 Q else Q false H1
def tOr (t u : TT) : TT := fun σ H Q => t σ H fun c H1 => if c = true then Q true H1 else u σ H1 Q
def tNot (t : TT) : TT := fun σ H Q => t σ H fun c H1 => Q (!c) H1
theorem pw_and1 (ha : PT X a tA) : PW X (.BoolOp .And [a] pos) tA := by
  intro wh pins s σ H Q I h
  refine isTrue_and (thn (ha pins s σ H Q I h) fun c s1 e => ?_)
  cases c with
  | true => exact isTrue_and_nil e
  | false => exact e
theorem pw_or1 (ha : PT X a tA) : PW X (.BoolOp .Or [a] pos) tA := by
  intro wh pins s σ H Q I h
  refine isTrue_or (thn (ha pins s σ H Q I h) fun c s1 e => ?_)
  cases c with
  | false => exact isTrue_or_nil e
  | true => exact e
theorem pw_and (ha : PT X a tA) (hb : PW X (.BoolOp .And (b :: rest) pos) tB') : PW X (.BoolOp .And (a :: b :: rest) pos) (tAnd tA tB') := by
  intro wh pins s σ H Q I h
  refine isTrue_and (thn (ha pins s σ H _ I h) fun c s1 ⟨H1, I1, q1⟩ => ?_)
  cases c with
  | true => exact hb wh pins s1 σ H1 Q I1 q1
  | false => exact ⟨H1, I1, q1⟩
theorem pw_or (ha : PT X a tA) (hb : PW X (.BoolOp .Or (b :: rest) pos) tB') : PW X (.BoolOp .Or (a :: b :: rest) pos) (tOr tA tB') := by
  intro wh pins s σ H Q I h
  refine isTrue_or (thn (ha pins s σ H _ I h) fun c s1 ⟨H1, I1, q1⟩ => ?_)
  cases c with
  | true => exact ⟨H1, I1, q1⟩
  | false => exact hb wh pins s1 σ H1 Q I1 q1
theorem pt_not (ha : PT X a tA) : PT X (.UnaryOp .Not a pos) (tNot tA) := by
  intro pins s σ H Q I h
  exact isTrue_not (ha pins s σ H (fun c H1 => Q (!c) H1) I h)
/-- .. as values (bools) -/
def tAndV (ta tb : TE) : TE := fun σ H Q => ta σ H fun x H1 => ∃ c, x = .bl c ∧ if c = true then tb σ H1 Q else Q (.bl false) H1
def tNotV (ta : TE) : TE := fun σ H Q => ta σ H fun x H1 => ∃ c, x = .bl c ∧ Q (.bl (!c)) H1
theorem pe_one {op} {t : TE} (h : PE X a t) : PE X (.BoolOp op [a] pos) t := fun pins s σ H Q I hw => BoolOp_one (h pins s σ H Q I hw)
theorem pe_and (ha : PE X a ta) (hb : PE X (.BoolOp .And (b :: rest) pos) tb) : PE X (.BoolOp .And (a :: b :: rest) pos) (tAndV ta tb) := by
  intro pins s σ H Q I h
  refine BoolOp_and (thn (ha pins s σ H _ I h) fun v s1 ⟨x, H1, I1, r1, q1⟩ => ?_)
  obtain ⟨c, rfl, q1⟩ := q1
  cases r1
  refine wpAny_truthy_bool ?_
  cases c with
  | true => exact hb pins s1 σ H1 Q I1 q1
  | false => exact ⟨.bl false, H1, I1, rfl, q1⟩
theorem pe_not (ha : PE X a ta) : PE X (.UnaryOp .Not a pos) (tNotV ta) := by
  intro pins s σ H Q I h
  refine UnaryOp_ (thn (ha pins s σ H _ I h) fun v s1 ⟨x, H1, I1, r1, q1⟩ => ?_)
  obtain ⟨c, rfl, q1⟩ := q1
  cases r1
  exact not_of (wpAny_truthy_bool ⟨.bl (!c), H1, I1, rfl, q1⟩)
end
end L2
namespace L2
open PySem PySem.Spec PyProof.Rows
/-! ### a list, a tuple that is read: tracked, frozen, or an object of the module -/
def SqL (K : PySem.W.Frag) (H : Hp) (a : Addr) (xs : List V) : Prop :=
  Rd H a (.lst xs) ∨
    ∃ (o : Obj) (its : Array Value) (n : Nat), K.lookup a = some o ∧ o.cls = .type "list" ∧ o.dict = none ∧ o.data = .seq its n ∧ its.size ≤ sizeLine ∧ Vals xs its.toList
def SqT (K : PySem.W.Frag) (H : Hp) (a : Addr) (xs : List V) : Prop :=
  Rd H a (.tup xs) ∨
    ∃ (o : Obj) (its : Array Value) (n : Nat), K.lookup a = some o ∧ o.cls = .type "tuple" ∧ o.data = .seq its n ∧ its.size ≤ sizeLine ∧ Vals xs its.toList
def absV : Value → Option V
  | .none => some .non
  | .bool b => some (.bl b)
  | .int i _ => some (.int i)
  | .str x _ => some (.str x)
  | .bytes b _ => some (.byt b)
  | .float b _ => some (.flt b)
  | .ref a => some (.ref a)
  | .type n => some (.ty n)
  | _ => none
theorem RelV.abs {x : V} {u : Value} (r : RelV x u) : absV u = some x := by
  cases x with
  | non => cases r; rfl
  | bl _ => cases r; rfl
  | int _ => obtain ⟨t, rfl⟩ := r; rfl
  | str _ => obtain ⟨t, rfl⟩ := r; rfl
  | byt _ => obtain ⟨t, rfl⟩ := r; rfl
  | flt _ => obtain ⟨t, rfl⟩ := r; rfl
  | ref _ => cases r; rfl
  | ty _ => cases r; rfl
theorem RelV.inj {x y : V} {u : Value} (r : RelV x u) (q : RelV y u) : x = y := Option.some.inj (r.abs.symm.trans q.abs)
theorem Vals.inj : ∀ {xs ys : List V} {us : List Value}, Vals xs us → Vals ys us → xs = ys
  | _, _, _, .nil, .nil => rfl
  | _, _, _, .cons r t, .cons r' t' => by rw [r.inj r', Vals.inj t t']
section
variable {X : Cx} {pins : List (Addr × Obj)} {σ : St} {H : Hp} {s : Shared} {a : Addr} {xs ys : List V}
theorem SqL.of {K : PySem.W.Frag} (h : H a = some (.lst xs)) : SqL K H a xs := .inl (.inl h)
theorem SqT.of {K : PySem.W.Frag} (h : H a = some (.tup xs)) : SqT K H a xs := .inl (.inl h)
theorem Inv.list (I : Inv X pins σ H s) (h : SqL X.K H a xs) : ∃ its : List Value, Vals xs its ∧ PlainL s.heap a its.toArray ∧ xs.length ≤ sizeLine := by
  rcases h with h | ⟨o, its, n, hk, hc, hd, hs, hz, r⟩
  · obtain ⟨z, its, n, r, e⟩ := h.ok I.hok
    exact ⟨its, r, ⟨_, n, e, rfl, rfl, rfl⟩, z⟩
  · refine ⟨its.toList, r, ⟨o, n, I.kIn a o hk, hc, hd, by simpa using hs⟩, ?_⟩
    have e := r.length
    simp only [Array.length_toList] at e
    omega
theorem Inv.tuple (I : Inv X pins σ H s) (h : SqT X.K H a xs) : ∃ its : List Value, Vals xs its ∧ IsTup s.heap a its.toArray ∧ xs.length ≤ sizeLine := by
  rcases h with h | ⟨o, its, n, hk, hc, hs, hz, r⟩
  · obtain ⟨z, its, r, p⟩ := h.ok I.hok
    exact ⟨its, r, p, z⟩
  · refine ⟨its.toList, r, ⟨o, I.kIn a o hk, hc, n, by simpa using hs⟩, ?_⟩
    have e := r.length
    simp only [Array.length_toList] at e
    omega
theorem Inv.list_inj (I : Inv X pins σ H s) (h : SqL X.K H a xs) (h' : SqL X.K H a ys) : xs = ys := by
  obtain ⟨its, r, ⟨o, n, e, _, _, d⟩, _⟩ := I.list h
  obtain ⟨its', r', ⟨o', n', e', _, _, d'⟩, _⟩ := I.list h'
  rw [e] at e'; cases e'
  rw [d] at d'
  injection d' with d1 _
  have : its = its' := by simpa using congrArg Array.toList d1
  subst this
  exact r.inj r'
theorem Inv.tuple_inj (I : Inv X pins σ H s) (h : SqT X.K H a xs) (h' : SqT X.K H a ys) : xs = ys := by
  obtain ⟨its, r, ⟨o, e, _, n, d⟩, _⟩ := I.tuple h
  obtain ⟨its', r', ⟨o', e', _, n', d'⟩, _⟩ := I.tuple h'
  rw [e] at e'; cases e'
  rw [d] at d'
  injection d' with d1 _
  have : its = its' := by simpa using congrArg Array.toList d1
  subst this
  exact r.inj r'
end
/-! ### another wish about exceptions -/
abbrev Cx.wish (X : Cx) (E : Value → Shared → Prop) : Cx := { X with xe := E }
/-- no exception leaves -/
abbrev Cx.nox (X : Cx) : Cx := X.wish fun _ _ => False
theorem Cx.Ok.wish {X : Cx} (ok : X.Ok) (E : Value → Shared → Prop) : (X.wish E).Ok :=
  ⟨ok.mod, ok.kind, ok.glob, ok.blt, ok.above, ok.inj, ok.has, ok.cab, ok.hd, ok.frames, ok.stk, ok.exf, ok.bs, ok.bsz, ok.noex, ok.exfs, ok.funs, ok.frf⟩
theorem Cx.Ok.unwish {X : Cx} {E : Value → Shared → Prop} (ok : (X.wish E).Ok) : X.Ok :=
  ⟨ok.mod, ok.kind, ok.glob, ok.blt, ok.above, ok.inj, ok.has, ok.cab, ok.hd, ok.frames, ok.stk, ok.exf, ok.bs, ok.bsz, ok.noex, ok.exfs, ok.funs, ok.frf⟩
section
variable {X : Cx} {pins : List (Addr × Obj)} {σ : St} {H : Hp} {s : Shared} {E : Value → Shared → Prop}
theorem Inv.wish (I : Inv X pins σ H s) (E : Value → Shared → Prop) : Inv (X.wish E) pins σ H s := ⟨I.ok.wish E, I.os, I.bare, I.base, I.loc, I.cell, I.free, I.freeC, I.pin, I.hok, I.len⟩
theorem Inv.unwish (I : Inv (X.wish E) pins σ H s) : Inv X pins σ H s := ⟨I.ok.unwish, I.os, I.bare, I.base, I.loc, I.cell, I.free, I.freeC, I.pin, I.hok, I.len⟩
theorem SP.unwish {D : Ends} {f : Flow} {s' : Shared} (h : SP (X.wish E) pins D f s') : SP X pins D f s' := by
  cases f with
  | next => obtain ⟨σ', H', I, q⟩ := h; exact ⟨σ', H', I.unwish, q⟩
  | brk => obtain ⟨σ', H', I, q⟩ := h; exact ⟨σ', H', I.unwish, q⟩
  | cont => obtain ⟨σ', H', I, q⟩ := h; exact ⟨σ', H', I.unwish, q⟩
  | ret u => obtain ⟨v, σ', H', I, r, q⟩ := h; exact ⟨v, σ', H', I.unwish, r, q⟩
theorem PSs.nox {st : List Stmt} {t : TS} (h : PSs X.nox st t) : PSs X st t := fun pins s σ H D I hw =>
  wpAny_mono (h pins s σ H D (I.wish _) hw) (fun _ _ q => q.unwish) fun _ _ z => False.elim z
end
/-! ### blocks and small statements -/
section
variable {X : Cx} {st : Stmt} {rest : List Stmt} {t u : TS} {e : Expr} {te : TE} {pos : Pos}
def tNext : TS := fun D σ H => D.nx σ H
def tSeq (t u : TS) : TS := fun D σ H => t { D with nx := u D } σ H
theorem pss_nil : PSs X [] tNext := fun _ _ σ H _ I h => wpAny_execs_nil ⟨σ, H, I, h⟩
theorem pss_cons (h1 : PS X st t) (h2 : PSs X rest u) : PSs X (st :: rest) (tSeq t u) := by
  intro pins s σ H D I h
  refine wpAny_execs_cons (thn (h1 pins s σ H { D with nx := u D } I h) fun f s1 q => ?_)
  cases f with
  | next =>
    obtain ⟨σ', H', I', q⟩ := q
    exact h2 pins s1 σ' H' D I' q
  | ret v => exact q
  | brk => exact q
  | cont => exact q
theorem pss_one (h1 : PS X st t) : PSs X [st] t := by
  intro pins s σ H D I h
  refine wpAny_execs_cons (thn (h1 pins s σ H D I h) fun f s1 q => ?_)
  cases f with
  | next => exact wpAny_execs_nil q
  | ret v => exact q
  | brk => exact q
  | cont => exact q
/-- in a def's body nothing is shown -/
theorem Inv.quiet {pins : List (Addr × Obj)} {σ : St} {H : Hp} {s : Shared} (I : Inv X pins σ H s) : interactive X.env = false := by simp [interactive, I.ok.kind]
/-- an expression whose value is dropped -/
def tDrop (te : TE) : TS := fun D σ H => te σ H fun _ H1 => D.nx σ H1
theorem ps_expr (he : PE X e te) (hs : swapsWith e none pos.line X.env = pure false := by rfl) : PS X (.Expr e pos) (tDrop te) := by
  intro pins s σ H D I h
  exact wpAny_Expr_any (thn (he pins s σ H _ I h) fun v s1 ⟨x, H1, I1, r1, q1⟩ => ⟨σ, H1, I1, q1⟩) I.quiet hs
def tRet (te : TE) : TS := fun D σ H => te σ H D.rt
theorem ps_ret (he : PE X e te) : PS X (.Return (some e) pos) (tRet te) := by
  intro pins s σ H D I h
  exact wpAny_Return_some (thn (he pins s σ H _ I h) fun v s1 ⟨x, H1, I1, r1, q1⟩ => ⟨x, σ, H1, I1, r1, q1⟩)
def tIfS (c : TT) (t u : TS) : TS := fun D σ H => c σ H fun b H1 => if b = true then t D σ H1 else u D σ H1
theorem ps_if {c : Expr} {a b : List Stmt} {tc : TT} (hc : PT X c tc) (ha : PSs X a t) (hb : PSs X b u) : PS X (.If c a b pos) (tIfS tc t u) := by
  intro pins s σ H D I h
  refine wpAny_If (thn (hc pins s σ H _ I h) fun d s1 ⟨H1, I1, q1⟩ => ?_)
  cases d with
  | true => exact ha pins s1 σ H1 D I1 q1
  | false => exact hb pins s1 σ H1 D I1 q1
end
/-! ### targets -/
abbrev TG := V → St → Hp → (St → Hp → Prop) → Prop
abbrev TGs := List V → St → Hp → (St → Hp → Prop) → Prop
def PG (X : Cx) (target : Expr) (t : TG) : Prop :=
  ∀ (pins : List (Addr × Obj)) (s : Shared) (σ : St) (H : Hp) (v : V) (u : Value) (Q : St → Hp → Prop), Inv X pins σ H s → RelV v u → t v σ H Q →
    wpAny (model X.prog X.w) X.A (assign target X.env u) (fun _ s' => ∃ σ' H', Inv X pins σ' H' s' ∧ Q σ' H') X.xe s
/-- several targets, one after another -/
def PGs (X : Cx) (ts : List Expr) (t : TGs) : Prop :=
  ∀ (pins : List (Addr × Obj)) (s : Shared) (σ : St) (H : Hp) (vs : List V) (us : List Value) (Q : St → Hp → Prop), Inv X pins σ H s → Vals vs us → t vs σ H Q →
    wpAny (model X.prog X.w) X.A (assignInOrder ((assignEach ts X.env).map (·.2)) us) (fun _ s' => ∃ σ' H', Inv X pins σ' H' s' ∧ Q σ' H') X.xe s
/-- o[i] = v, by values -/
abbrev TSet := V → V → V → Hp → (Hp → Prop) → Prop
def PSet (X : Cx) (t : TSet) : Prop :=
  ∀ (pins : List (Addr × Obj)) (s : Shared) (σ : St) (H : Hp) (o i v : V) (ov iv u : Value) (Q : Hp → Prop), Inv X pins σ H s → RelV o ov → RelV i iv → RelV v u → t o i v H Q →
    wpAny (model X.prog X.w) X.A (setItem ov iv u) (fun _ s' => ∃ H', Inv X pins σ H' s' ∧ Q H') X.xe s
section
variable {X : Cx} {pos : Pos}
def gName (i : Nat) : TG := fun v σ H Q => Q (σ.set i (some v)) H
theorem pg_name {i : Nat} {x : Str} (hN : X.N.Nodup) (hi : X.N[i]? = some x) (hx : Loc X.env.scope x) (hf : X.fn x = true ∨ X.env.scope.names.lookup x = some .local := by first | exact .inl rfl | exact .inr rfl | assumption) : PG X (.Name x pos) (gName i) := by
  intro pins s σ H v u Q I r h
  exact wpAny_assign_Name (store_ok I hN hi hx r (fun s' I' => ⟨_, H, I', h⟩) hf)
def gNil : TGs := fun vs σ H Q => vs = [] ∧ Q σ H
def gCons (t : TG) (u : TGs) : TGs := fun vs σ H Q => ∃ v r, vs = v :: r ∧ t v σ H fun σ' H' => u r σ' H' Q
theorem pgs_nil : PGs X [] gNil := by
  intro pins s σ H vs us Q I r h
  obtain ⟨e, h⟩ := h
  subst e
  cases r
  exact assignInOrder_nil ⟨σ, H, I, h⟩
theorem pgs_cons {e : Expr} {es : List Expr} {t : TG} {u : TGs} (h1 : PG X e t) (h2 : PGs X es u)
    (hs : (assignEach (e :: es) X.env).map (·.2) = assign e X.env :: (assignEach es X.env).map (·.2) := by rfl) : PGs X (e :: es) (gCons t u) := by
  intro pins s σ H vs us Q I r h
  obtain ⟨v, vr, e1, h⟩ := h
  subst e1
  cases r with
  | cons r rr =>
    rw [hs]
    refine assignInOrder_cons (thn (h1 pins s σ H _ _ _ I r h) fun _ s1 ⟨σ1, H1, I1, q1⟩ => ?_)
    exact h2 pins s1 σ1 H1 _ _ Q I1 rr q1
/-- (a, b, ..) = a tuple of that length -/
def gTup (K : PySem.W.Frag) (n : Nat) (t : TGs) : TG := fun v σ H Q => ∃ a xs, v = .ref a ∧ SqT K H a xs ∧ xs.length = n ∧ t xs σ H Q
theorem pg_tup {es : List Expr} {k : Nat} {t : TGs} {n : Nat} (hc : X.calm = true) (h : PGs X es t)
    (hn : (assignEach es X.env).length = n := by rfl) (hst : (assignEach es X.env).findIdx? (·.1) = none := by rfl) : PG X (.Tuple es k pos) (gTup X.K n t) := by
  intro pins s σ H v u Q I r hw
  obtain ⟨a, xs, e1, hq, hl, hw⟩ := hw
  subst e1
  cases r
  obtain ⟨its, rv, ht, hz⟩ := I.tuple hq
  refine assign_Tuple_tuple (I.ok.hd hc) ht (by simp [hn, ← hl, rv.length]) hst fun h' hx => ?_
  have I1 : Inv X pins σ H { s with heap := h' } := I.kept (t' := s.toks) fun b o e => hx b o (Nat.ne_of_lt (Heap.lt_size e)) e
  exact h pins _ σ H xs _ Q I1 (by simpa using rv) hw
/-- o[i] = .. -/
def gSub (to ti : TE) (t : TSet) : TG := fun v σ H Q => to σ H fun o H1 => ti σ H1 fun i H2 => t o i v H2 fun H3 => Q σ H3
theorem pg_sub {o i : Expr} {to ti : TE} {t : TSet} (ho : PE X o to) (hi : PE X i ti) (hs : PSet X t)
    (ha : ∀ v, assign (.Subscript o i pos) X.env v = (do
      let ov ← holding [v] (eval o X.env)
      let iv ← holding [v, ov] (eval i X.env)
      standAt pos
      holding [v, ov, iv] (setItem ov iv v)
      release [v, ov, iv] []) := by intro _; rfl) : PG X (.Subscript o i pos) (gSub to ti t) := by
  intro pins s σ H v u Q I r h
  rw [ha]
  refine wpAny_bind (wpAny_holding (thn (ho pins s σ H _ I h) fun ov s1 ⟨x, H1, I1, r1, q1⟩ => ?_))
  refine wpAny_bind (wpAny_holding (thn (hi pins s1 σ H1 _ I1 q1) fun iv s2 ⟨y, H2, I2, r2, q2⟩ => ?_))
  refine wpAny_bind (wpAny_standAt (wpAny_bind (wpAny_holding (thn (hs pins s2 σ H2 x y v ov iv u _ I2 r1 r2 r q2) fun _ s3 ⟨H3, I3, q3⟩ => ?_))))
  exact wpAny_release ⟨σ, H3, I3, q3⟩
/-- target = value -/
def tAsg (te : TE) (g : TG) : TS := fun D σ H => te σ H fun x H1 => g x σ H1 D.nx
theorem ps_asg {tg e : Expr} {te : TE} {g : TG} (he : PE X e te) (hg : PG X tg g) (hs : swapsWithSole [tg] e pos.line X.env = pure false := by rfl) (hw : swappedStores [tg] e X.env = pure none := by rfl)
    (h1 : (assignEach [tg] X.env).map (·.2) = [assign tg X.env] := by rfl) : PS X (.Assign [tg] e pos) (tAsg te g) := by
  intro pins s σ H D I h
  refine wpAny_Assign_stores (thn (he pins s σ H _ I h) fun v s1 ⟨x, H1, I1, r1, q1⟩ => ?_) hs hw
  rw [h1]
  exact thn (hg pins s1 σ H1 x v _ I1 r1 q1) fun _ s2 q => q
/-- name = value -/
theorem ps_set {i : Nat} {x : Str} {e : Expr} {te : TE} {pos' : Pos} (hN : X.N.Nodup) (hi : X.N[i]? = some x) (hx : Loc X.env.scope x) (he : PE X e te) (hs : swapsWith e (some (.Name x pos')) pos.line X.env = pure false := by rfl) (hf : X.fn x = true ∨ X.env.scope.names.lookup x = some .local := by first | exact .inl rfl | exact .inr rfl | assumption) :
    PS X (.Assign [.Name x pos'] e pos) (tAsg te (gName i)) := by
  intro pins s σ H D I h
  refine wpAny_Assign_Name (thn (he pins s σ H _ I h) fun v s1 ⟨y, H1, I1, r1, q1⟩ => ?_) hs
  exact store_ok I1 hN hi hx r1 (fun s2 I2 => ⟨_, H1, I2, q1⟩) hf
end
/-! ### while -/
section
variable {X : Cx} {pos : Pos}
end
/-! ### what a loop or a comprehension walks -/
/-- at turn i: it yields x (the heap may grow), or it stops -/
structure It where
  go : Nat → Hp → Prop
  yld : Nat → Hp → V → Hp → Prop
  stop : Nat → Hp → Prop
/-- the iterator's own objects may turn: they are not the frame's, not pinned, younger than the entry (or a comprehension's own) -/
def FpOk (X : Cx) (pins : List (Addr × Obj)) (H : Hp) (b : Addr) : Prop :=
  H b = none ∧ b ≠ X.env.locals ∧ b ∉ X.fs ∧ (b ∈ X.ex ∨ X.s₀.heap.objs.size ≤ b) ∧ (∀ x c, X.env.cells.lookup x = some c → c ≠ b) ∧ ∀ p ∈ X.pn ++ pins, p.1 ≠ b
theorem Inv.fpOk {X : Cx} {pins : List (Addr × Obj)} {σ : St} {H H' : Hp} {s : Shared} {b : Addr} (I : Inv X pins σ H s) (hb : s.heap.objs.size ≤ b) (hn : H' b = none) : FpOk X pins H' b := by
  refine ⟨hn, Nat.ne_of_gt (Nat.lt_of_lt_of_le I.lt hb), I.nofs hb, .inr (Nat.le_trans I.sz hb), fun x c e z => ?_, fun p hp z => ?_⟩
  · obtain ⟨v, q⟩ := I.cell x c e
    exact absurd (Nat.lt_of_lt_of_le q.lt (by rw [z]; exact hb)) (Nat.lt_irrefl _)
  · exact absurd (Nat.lt_of_lt_of_le (Heap.lt_size (I.pin p hp).1) (by rw [z]; exact hb)) (Nat.lt_irrefl _)
structure Turn (P : Program) (w : World) (K : PySem.W.Frag) (tg : Expr) (J : It) (fp : List Addr) (it : Addr) (tn : Nat → Heap → Prop) : Prop where
  mem : it ∈ fp
  obj : ∀ i h, tn i h → ∀ b ∈ fp, ∃ o, h.get? b = some o ∧ ∀ v, o.data ≠ .cell v
  keep : ∀ i h h', tn i h → (∀ b ∈ fp, ∀ o, h.get? b = some o → h'.get? b = some o) → tn i h'
  item : ∀ (X : Cx), X.prog = P → X.w = w → X.K = K → X.calm = true → ∀ (i : Nat) (pins : List (Addr × Obj)) (s : Shared) (σ : St) (H : Hp) (E : Value → Shared → Prop), Inv X pins σ H s → (∀ b ∈ fp, FpOk X pins H b) → tn i s.heap → J.go i H →
    wpAny (model P w) X.A (pyNext (.ref it)) (fun r s1 => ∃ u, r = some u ∧
      wpAny (model P w) X.A (letOwnedTupleGo tg (.ref it) u) (fun _ s2 => ∃ x H', Inv X pins σ H' s2 ∧ RelV x u ∧ J.yld i H x H' ∧ tn (i + 1) s2.heap ∧ ∀ b ∈ fp, H' b = none) E s1) E s
  done : ∀ (X : Cx), X.prog = P → X.w = w → X.K = K → X.calm = true → ∀ (i : Nat) (pins : List (Addr × Obj)) (s : Shared) (σ : St) (H : Hp) (E : Value → Shared → Prop), Inv X pins σ H s → (∀ b ∈ fp, FpOk X pins H b) → tn i s.heap → J.stop i H →
    wpAny (model P w) X.A (pyNext (.ref it)) (fun r s1 => r = none ∧ Inv X pins σ H s1) E s
  self : ∀ (A : Around) (i : Nat) (s : Shared) (Q : Value → Shared → Prop) (E : Value → Shared → Prop), tn i s.heap → Q (.ref it) s → wpAny (model P w) A (pyIter (.ref it)) Q E s
abbrev TI := St → Hp → (It → Hp → Prop) → Prop
/-- an iterator has come -/
def PIE (X : Cx) (pins : List (Addr × Obj)) (σ : St) (tg : Expr) (R : It → Hp → Prop) (itv : Value) (s2 : Shared) : Prop :=
  ∃ (it : Addr) (fp : List Addr) (tn : Nat → Heap → Prop) (J : It) (H' : Hp), itv = .ref it ∧ Inv X pins σ H' s2 ∧ Turn X.prog X.w X.K tg J fp it tn ∧ tn 0 s2.heap ∧ (∀ b ∈ fp, FpOk X pins H' b) ∧ R J H'
def PI (X : Cx) (tg iter : Expr) (wi : TI) : Prop :=
  ∀ (pins : List (Addr × Obj)) (s : Shared) (σ : St) (H : Hp) (R : It → Hp → Prop), Inv X pins σ H s → wi σ H R →
    wpAny (model X.prog X.w) X.A (eval iter X.env) (fun v s1 => wpAny (model X.prog X.w) X.A (pyIter v) (PIE X pins σ tg R) X.xe s1) X.xe s
/-- the step ahead of the store is nothing for an iterator that keeps no tuple -/
theorem go_of {M : Model} {A : Around} {E : Value → Shared → Prop} {s : Shared} {tg : Expr} {it : Addr} {u : Value} {o : Obj} {n : String} {vs : Array Value} {Q : Unit → Shared → Prop} (ho : s.heap.get? it = some o) (hc : o.cls = .type n) (hd : o.data = .fields vs)
    (hn : ["enumerate", "zip", "dict_itemiterator", "dict_reverseitemiterator", "odict_iterator", "itertools.zip_longest", "itertools.pairwise"].contains n = false) (hQ : Q () s) : wpAny M A (letOwnedTupleGo tg (.ref it) u) Q E s := by
  unfold letOwnedTupleGo
  cases tg <;> first
    | exact wpAny_pure hQ
    | (cases u <;> first
        | exact wpAny_pure hQ
        | (refine wpAny_bind (wpAny_load ho ?_)
           rw [hc, hd]
           show wpAny M A (if (["enumerate", "zip", "dict_itemiterator", "dict_reverseitemiterator", "odict_iterator", "itertools.zip_longest", "itertools.pairwise"].contains n && vs[0]? == some (rawInt _)) = true then _ else _) Q E s
           rw [if_neg (by intro h; rw [hn, Bool.false_and] at h; cases h)]
           exact wpAny_pure hQ))
/-- the list at a, as it stands at each turn (a loop may append to it) -/
def Itl (K : PySem.W.Frag) (a : Addr) : It :=
  ⟨fun i H => ∃ xs x, SqL K H a xs ∧ xs[i]? = some x, fun i H x H' => H' = H ∧ ∀ xs, SqL K H a xs → xs[i]? = some x, fun i H => ∃ xs, SqL K H a xs ∧ xs.length ≤ i⟩
/-- lo, lo + 1, .. (n of them) -/
def Itr (lo : Int) (n : Nat) : It := ⟨fun i _ => i < n, fun i H x H' => H' = H ∧ x = .int (lo + i), fun i _ => n ≤ i⟩
theorem turn_list {P : Program} {w : World} {K : PySem.W.Frag} {tg : Expr} (a it : Addr) : Turn P w K tg (Itl K a) [it] it (fun i h => h.IsListIter it a i) where
  mem := by simp
  obj := fun i h st b hb => by
    have e : b = it := by simpa using hb
    subst e
    obtain ⟨o, e, c, d⟩ := st
    exact ⟨o, e, fun v z => by rw [d] at z; cases z⟩
  keep := fun i h h' st k => st.at fun o e => k it (by simp) o e
  item := by
    intro X hP hw hK hc i pins s σ H E I hf st hg
    subst hP hw hK
    obtain ⟨xs, x, hq, hx⟩ := hg
    obtain ⟨its, rv, p, hz⟩ := I.list hq
    obtain ⟨u, hu, ru⟩ := rv.get hx
    obtain ⟨f0, f1, f2, f3, f4, f5⟩ := hf it (by simp)
    refine wpAny_pyNext_list_item st p.isList (x := u) (by simpa using hu) fun h' st' sb => ?_
    have I1 : Inv X pins σ H { s with heap := h' } := I.turned (t' := s.toks) (fun b o hb e => (sb.2 b hb).trans e) f0 f1 f3 f4 f5
    obtain ⟨o, e, c, d⟩ := id st'
    exact ⟨u, rfl, go_of (s := { s with heap := h' }) e c d (by decide) ⟨x, H, I1, ru, ⟨rfl, fun ys hy => by rw [I.list_inj hy hq]; exact hx⟩, st', fun b hb => (hf b hb).1⟩⟩
  done := by
    intro X hP hw hK hc i pins s σ H E I hf st hg
    subst hP hw hK
    obtain ⟨xs, hq, hx⟩ := hg
    obtain ⟨its, rv, p, hz⟩ := I.list hq
    obtain ⟨f0, f1, f2, f3, f4, f5⟩ := hf it (by simp)
    have hl := rv.length
    exact wpAny_pyNext_list_end (I.ok.hd hc) st p.isList (by simp; omega) fun h' eb => ⟨rfl, I.turned (t' := s.toks) (fun b o hb e => eb b o hb e) f0 f1 f3 f4 f5⟩
  self := fun _ _ _ _ _ st h => wpAny_pyIter_listiter st h
theorem turn_range {P : Program} {w : World} {K : PySem.W.Frag} {tg : Expr} (it : Addr) (lo : Int) (n : Nat) : Turn P w K tg (Itr lo n) [it] it (fun i h => IsRangeIter h it (lo + (i : Nat) * 1) ((n : Int) - (i : Nat)) 1) where
  mem := by simp
  obj := fun i h st b hb => by
    have e : b = it := by simpa using hb
    subst e
    exact ⟨_, st, fun v z => by
      have z' : Data.fields _ = Data.cell v := z
      cases z'⟩
  keep := fun i h h' st k => k it (by simp) _ st
  item := by
    intro X hP hw hK hc i pins s σ H E I hf st hg
    subst hP hw hK
    obtain ⟨f0, f1, f2, f3, f4, f5⟩ := hf it (by simp)
    have W := Walks.range (prog := X.prog) (w := X.w) (I.ok.hd hc) it lo 1 n
    refine W.item i s _ _ hg st fun v h' tk hv st' kk => ?_
    obtain ⟨t, rfl⟩ := hv
    have I1 : Inv X pins σ H { s with heap := h', toks := tk } := I.turned (fun b o hb e => kk b o (by simpa using hb) e) f0 f1 f3 f4 f5
    refine ⟨_, rfl, go_of (s := { s with heap := h', toks := tk }) (n := "range_iterator") st' rfl rfl (by decide) ⟨.int (lo + i), H, I1, ⟨t, ?_⟩, ⟨rfl, rfl⟩, st', fun b hb => (hf b hb).1⟩⟩
    rw [Int.mul_one]
  done := by
    intro X hP hw hK hc i pins s σ H E I hf st hg
    subst hP hw hK
    obtain ⟨f0, f1, f2, f3, f4, f5⟩ := hf it (by simp)
    exact wpAny_pyNext_range_end (I.ok.hd hc) st (by have : n ≤ i := hg; omega) fun h' eb => ⟨rfl, I.turned (t' := s.toks) (fun b o hb e => eb b o hb e) f0 f1 f3 f4 f5⟩
  self := fun _ _ _ _ _ st h => wpAny_pyIter_rangeiter st h
end L2
namespace L2
open PySem PySem.Spec PyProof.Rows
section
variable {X : Cx} {tg : Expr}
def iList (K : PySem.W.Frag) (tl : TE) : TI := fun σ H R => tl σ H fun x H1 => ∃ a, x = .ref a ∧ (∃ xs, SqL K H1 a xs) ∧ R (Itl K a) H1
theorem pi_list {l : Expr} {tl : TE} (hl : PE X l tl) : PI X tg l (iList X.K tl) := by
  intro pins s σ H R I h
  refine thn (hl pins s σ H _ I h) fun v s1 ⟨x, H1, I1, r1, q1⟩ => ?_
  obtain ⟨a, e, ⟨xs, hq⟩, q⟩ := q1
  subst e
  cases r1
  obtain ⟨its, rv, p, hz⟩ := I1.list hq
  refine wpAny_pyIter_list p.isList ?_
  refine ⟨s1.heap.objs.size, [s1.heap.objs.size], _, _, H1, rfl, I1.kept (t' := s1.toks) fun b o e => Heap.get?_push_of_some _ e, turn_list a _, ⟨_, Heap.get?_push_size _ rfl, rfl, rfl⟩, fun b hb => ?_, q⟩
  have e : b = s1.heap.objs.size := by simpa using hb
  subst e
  exact I1.fpOk (Nat.le_refl _) (I1.hok.fresh (Nat.le_refl _))
/-- a range object just made, walked -/
theorem range_it {pins : List (Addr × Obj)} {σ : St} {H : Hp} {s : Shared} {R : It → Hp → Prop} {E : Value → Shared → Prop} {lo hi : Int} {t u v : Tok} {tk : Nat} (I : Inv X pins σ H s) (h1 : -(2 ^ 62) ≤ lo) (h2 : lo < 2 ^ 62) (h3 : -(2 ^ 62) ≤ hi) (h4 : hi < 2 ^ 62)
    (q : R (Itr lo (hi - lo).toNat) H) : wpAny (model X.prog X.w) X.A (pyIter (.ref s.heap.objs.size)) (PIE X pins σ tg R) E { s with heap := s.heap.push { cls := .type "range", data := .fields #[.int lo t, .int hi u, .int 1 v] }, toks := tk } := by
  refine wpAny_pyIter_range (IsRange.new ..) (small_one h1 h2 h3 h4) ?_
  have I1 : Inv X pins σ H { s with heap := s.heap.push { cls := .type "range", data := .fields #[.int lo t, .int hi u, .int 1 v] }, toks := tk } := I.kept fun b o e => Heap.get?_push_of_some _ e
  refine ⟨(s.heap.push { cls := .type "range", data := .fields #[.int lo t, .int hi u, .int 1 v] }).objs.size, [(s.heap.push { cls := .type "range", data := .fields #[.int lo t, .int hi u, .int 1 v] }).objs.size], _, _, H, rfl,
    I1.kept (t' := tk) fun b o e => Heap.get?_push_of_some _ e, turn_range _ lo (hi - lo).toNat, ?_, fun b hb => ?_, q⟩
  · have e1 : lo + ((0 : Nat) : Int) * 1 = lo := by simp
    have e2 : (((hi - lo).toNat : Nat) : Int) - ((0 : Nat) : Int) = Builtin.Range.rangeSize lo hi 1 := by rw [rangeSize_one]; split <;> omega
    show IsRangeIter _ _ (lo + ((0 : Nat) : Int) * 1) ((((hi - lo).toNat : Nat) : Int) - ((0 : Nat) : Int)) 1
    rw [e1, e2]
    exact Heap.get?_push_size _ rfl
  · have e : b = (s.heap.push { cls := .type "range", data := .fields #[.int lo t, .int hi u, .int 1 v] }).objs.size := by simpa using hb
    subst e
    exact I1.fpOk (Nat.le_refl _) (I1.hok.fresh (Nat.le_refl _))
def iRng1 (ta : TA) : TI := fun σ H R => ta σ H fun vs H1 => ∃ j : Int, vs = [.int j] ∧ -(2 ^ 62) ≤ j ∧ j < 2 ^ 62 ∧ R (Itr 0 j.toNat) H1
theorem pi_range1 {a : Expr} {ta : TA} {p pos : Pos} (hg : Gl X "range") (hm : X.mg "range" = none) (ha : PA X [a] ta) (hs : starEach [a] X.env = [(false, eval a X.env)] := by rfl) : PI X tg (.Call (.Name "range" p) [a] [] pos) (iRng1 ta) := by
  intro pins s σ H R I h
  refine Call_ (ld_blt I hg hm boot_range (PyProof.Rows.callWith_type1 (thn (ha pos pins s σ H _ I h) fun us s1 ⟨vs, H1, I1, r1, q1⟩ => ?_) hs rfl))
  obtain ⟨j, e, q1, q2, q⟩ := q1
  subst e
  cases r1 with
  | cons r rr =>
    cases rr
    obtain ⟨t, rfl⟩ := r
    exact call_range_1 (range_it I1 (by omega) (by omega) q1 q2 (by simpa using q))
/-! ### for -/
/-- W: the invariant by the turn and a measure; N: what the body is to reach -/
def tFor (wi : TI) (g : TG) (tb : TS) : TS := fun D σ H => wi σ H fun J H1 => ∃ W : Nat → Nat → St → Hp → Prop, (∃ m, W 0 m σ H1) ∧ ∀ i m σ H, W i m σ H →
  (J.stop i H ∧ D.nx σ H) ∨ (J.go i H ∧ ∃ N : St → Hp → Prop, (∀ σ' H', N σ' H' → ∃ m', m' < m ∧ W (i + 1) m' σ' H') ∧ ∀ x H', J.yld i H x H' → g x σ H' fun σ2 H2 => tb { D with nx := N, ct := N, bk := D.nx } σ2 H2)
/-- the records at fp as they stand -/
def pinsAt (fp : List Addr) (h : Heap) : List (Addr × Obj) := fp.filterMap fun b => (h.get? b).map fun o => (b, o)
theorem mem_pinsAt {fp : List Addr} {h : Heap} {b : Addr} {o : Obj} (hb : b ∈ fp) (e : h.get? b = some o) : (b, o) ∈ pinsAt fp h := List.mem_filterMap.mpr ⟨b, hb, by rw [e]; rfl⟩
theorem of_pinsAt {fp : List Addr} {h : Heap} {p : Addr × Obj} (hp : p ∈ pinsAt fp h) : p.1 ∈ fp ∧ h.get? p.1 = some p.2 := by
  obtain ⟨b, hb, e⟩ := List.mem_filterMap.mp hp
  cases q : h.get? b with
  | none => rw [q] at e; cases e
  | some o =>
    rw [q] at e
    have e' : (b, o) = p := Option.some.inj e
    subst e'
    exact ⟨hb, q⟩
theorem Inv.pinned {pins : List (Addr × Obj)} {σ : St} {H : Hp} {s : Shared} {fp : List Addr} (I : Inv X pins σ H s) (hf : ∀ b ∈ fp, FpOk X pins H b) (ho : ∀ b ∈ fp, ∃ o, s.heap.get? b = some o ∧ ∀ v, o.data ≠ .cell v) : Inv X (pins ++ pinsAt fp s.heap) σ H s :=
  I.pins_of fun p hp => (List.mem_append.mp hp).elim (fun z => I.pin p (List.mem_append_right _ z)) fun z => by
    obtain ⟨hb, e⟩ := of_pinsAt z
    obtain ⟨f0, f1, f2, _⟩ := hf p.1 hb
    obtain ⟨o, e', d⟩ := ho p.1 hb
    rw [e] at e'; cases e'
    exact ⟨e, f0, f1, f2, d⟩
theorem Inv.unpinned {pins pl : List (Addr × Obj)} {σ : St} {H : Hp} {s : Shared} (I : Inv X (pins ++ pl) σ H s) : Inv X pins σ H s := I.pins_of fun p hp => I.pin p (List.mem_append_right _ (List.mem_append_left _ hp))
theorem ps_for {iter : Expr} {body : List Stmt} {wi : TI} {g : TG} {tb : TS} {pos : Pos} (hp : PassesOwn (model X.prog X.w) X.A X.env X.xe) (hc : X.calm = true) (hi : PI X tg iter wi) (hg : PG X tg g) (hb : PSs X body tb)
    (hs : ∀ x, foldedSetIterable iter X.env x = pure x := by intro _; rfl) : PS X (.For tg iter body [] pos) (tFor wi g tb) := by
  intro pins s σ H D I h
  refine wpAny_For (thn (hi pins s σ H _ I h) fun v s1 h1 => thn h1 fun itv s2 h2 => ?_) hs
  obtain ⟨it, fp, tn, J, H2, e, I2, T, st2, f2, W, ⟨m0, w0⟩, turn⟩ := h2
  subst e
  -- what stays true of the iterator's objects through the loop
  have stat : ∀ {H' : Hp}, (∀ b ∈ fp, H' b = none) → ∀ b ∈ fp, FpOk X pins H' b := fun hn b hb => ⟨hn b hb, (f2 b hb).2⟩
  refine codeAny_forLoop_any (fun n s' => ∃ i σ' H', Inv X pins σ' H' s' ∧ tn i s'.heap ∧ (∀ b ∈ fp, H' b = none) ∧ W i n σ' H') ?_ m0 ⟨0, σ, H2, I2, st2, fun b hb => (f2 b hb).1, w0⟩
  rintro n s3 ⟨i, σ3, H3, I3, st3, fr3, w3⟩
  rcases turn i n σ3 H3 w3 with ⟨stop, qn⟩ | ⟨go, N, hN, step⟩
  · refine wpAny_passesOwn hp (thn (T.done X rfl rfl rfl hc i pins s3 σ3 H3 X.xe I3 (stat fr3) st3 stop) fun r s4 ⟨hr, I4⟩ => ?_)
    subst hr
    exact wpAny_execs_nil ⟨σ3, H3, I4, qn⟩
  · refine wpAny_passesOwn hp (thn (T.item X rfl rfl rfl hc i pins s3 σ3 H3 X.xe I3 (stat fr3) st3 go) fun r s4 ⟨u, hr, h4⟩ => ?_)
    subst hr
    refine wpAny_passesOwn hp (thn h4 fun _ s5 ⟨x, H5, I5, r5, y5, st5, fr5⟩ => ?_)
    have I5' := I5.pinned (stat fr5) (T.obj _ _ st5)
    refine wpAny_passesOwn hp (thn (hg _ s5 σ3 H5 x u _ I5' r5 (step x H5 y5)) fun _ s6 ⟨σ6, H6, I6, q6⟩ => ?_)
    refine wpAny_passesOwn hp (thn (hb _ s6 σ6 H6 _ I6 q6) fun f s7 q7 => ?_)
    have again : ∀ {σ7 : St} {H7 : Hp}, Inv X (pins ++ pinsAt fp s5.heap) σ7 H7 s7 → N σ7 H7 → ∃ m, m < n ∧ ∃ i σ' H', Inv X pins σ' H' s7 ∧ tn i s7.heap ∧ (∀ b ∈ fp, H' b = none) ∧ W i m σ' H' := fun {σ7 H7} I7 n7 => by
      obtain ⟨m', hm, w7⟩ := hN σ7 H7 n7
      refine ⟨m', hm, i + 1, σ7, H7, I7.unpinned, T.keep _ _ _ st5 fun b hb o e => (I7.pin (b, o) (List.mem_append_right _ (List.mem_append_right _ (mem_pinsAt hb e)))).1, fun b hb => ?_, w7⟩
      obtain ⟨o, e, d⟩ := T.obj _ _ st5 b hb
      exact (I7.pin (b, o) (List.mem_append_right _ (List.mem_append_right _ (mem_pinsAt hb e)))).2.1
    cases f with
    | next => obtain ⟨σ7, H7, I7, n7⟩ := q7; exact again I7 n7
    | cont => obtain ⟨σ7, H7, I7, n7⟩ := q7; exact again I7 n7
    | brk => obtain ⟨σ7, H7, I7, q7⟩ := q7; exact ⟨σ7, H7, I7.unpinned, q7⟩
    | ret v => obtain ⟨x7, σ7, H7, I7, r7, q7⟩ := q7; exact ⟨x7, σ7, H7, I7.unpinned, r7, q7⟩
end
/-! ### the forms one uses -/
/-- over a list that the body leaves as it is -/
theorem for_list {K : PySem.W.Frag} {a : Addr} {xs : List V} {g : TG} {tb : TS} {D : Ends} {σ : St} {H : Hp} (Pv : Nat → St → Hp → Prop) (h0 : Pv 0 σ H) (hl : ∀ i σ H, i ≤ xs.length → Pv i σ H → SqL K H a xs)
    (hs : ∀ i x σ H, xs[i]? = some x → Pv i σ H → g x σ H fun σ2 H2 => tb { D with nx := Pv (i + 1), ct := Pv (i + 1), bk := D.nx } σ2 H2) (hd : ∀ σ H, Pv xs.length σ H → D.nx σ H) :
    ∃ W : Nat → Nat → St → Hp → Prop, (∃ m, W 0 m σ H) ∧ ∀ i m σ H, W i m σ H →
      ((Itl K a).stop i H ∧ D.nx σ H) ∨ ((Itl K a).go i H ∧ ∃ N : St → Hp → Prop, (∀ σ' H', N σ' H' → ∃ m', m' < m ∧ W (i + 1) m' σ' H') ∧ ∀ x H', (Itl K a).yld i H x H' → g x σ H' fun σ2 H2 => tb { D with nx := N, ct := N, bk := D.nx } σ2 H2) := by
  refine ⟨fun i m σ H => m = xs.length - i ∧ i ≤ xs.length ∧ Pv i σ H, ⟨xs.length, by simp, Nat.zero_le _, h0⟩, ?_⟩
  rintro i m σ H ⟨rfl, hi, p⟩
  have q := hl i σ H hi p
  by_cases hlt : i < xs.length
  · refine .inr ⟨⟨xs, xs[i], q, by simp [hlt]⟩, Pv (i + 1), fun σ' H' p' => ⟨xs.length - (i + 1), by omega, rfl, hlt, p'⟩, fun x H' y => ?_⟩
    obtain ⟨e, y⟩ := y
    subst e
    exact hs i x σ _ (y xs q) p
  · have e : i = xs.length := by omega
    subst e
    exact .inl ⟨⟨xs, q, Nat.le_refl _⟩, hd σ H p⟩
theorem for_range {lo : Int} {n : Nat} {g : TG} {tb : TS} {D : Ends} {σ : St} {H : Hp} (Pv : Nat → St → Hp → Prop) (h0 : Pv 0 σ H)
    (hs : ∀ i σ H, i < n → Pv i σ H → g (.int (lo + i)) σ H fun σ2 H2 => tb { D with nx := Pv (i + 1), ct := Pv (i + 1), bk := D.nx } σ2 H2) (hd : ∀ σ H, Pv n σ H → D.nx σ H) :
    ∃ W : Nat → Nat → St → Hp → Prop, (∃ m, W 0 m σ H) ∧ ∀ i m σ H, W i m σ H →
      ((Itr lo n).stop i H ∧ D.nx σ H) ∨ ((Itr lo n).go i H ∧ ∃ N : St → Hp → Prop, (∀ σ' H', N σ' H' → ∃ m', m' < m ∧ W (i + 1) m' σ' H') ∧ ∀ x H', (Itr lo n).yld i H x H' → g x σ H' fun σ2 H2 => tb { D with nx := N, ct := N, bk := D.nx } σ2 H2) := by
  refine ⟨fun i m σ H => m = n - i ∧ i ≤ n ∧ Pv i σ H, ⟨n, by simp, Nat.zero_le _, h0⟩, ?_⟩
  rintro i m σ H ⟨rfl, hi, p⟩
  by_cases hlt : i < n
  · refine .inr ⟨hlt, Pv (i + 1), fun σ' H' p' => ⟨n - (i + 1), by omega, rfl, hlt, p'⟩, fun x H' y => ?_⟩
    obtain ⟨e, y⟩ := y
    subst e y
    exact hs i σ _ hlt p
  · have e : i = n := by omega
    subst e
    exact .inl ⟨Nat.le_refl _, hd σ H p⟩
end L2
namespace L2
open PySem PySem.Spec PyProof.Rows
abbrev R2 := V → V → Hp → VK → Prop
/-- a two-place operation on values: f is binaryOp op, inplaceOp op or compareOp op -/
def OpR (X : Cx) (f : Value → Value → Sem Value) (r : R2) : Prop :=
  ∀ (pins : List (Addr × Obj)) (s : Shared) (σ : St) (H : Hp) (x y : V) (v u : Value) (Q : VK), Inv X pins σ H s → RelV x v → RelV y u → r x y H Q →
    wpAny (model X.prog X.w) X.A (f v u) (EP X pins σ Q) X.xe s
/-- a one-place operation -/
def UnR (X : Cx) (f : Value → Sem Value) (r : V → Hp → VK → Prop) : Prop :=
  ∀ (pins : List (Addr × Obj)) (s : Shared) (σ : St) (H : Hp) (x : V) (v : Value) (Q : VK), Inv X pins σ H s → RelV x v → r x H Q →
    wpAny (model X.prog X.w) X.A (f v) (EP X pins σ Q) X.xe s
/-- a call of a value that is known (a builtin, a type) with values -/
def CallR (X : Cx) (f : Value) (r : List V → Hp → VK → Prop) : Prop :=
  ∀ (pins : List (Addr × Obj)) (s : Shared) (σ : St) (H : Hp) (xs : List V) (us : List Value) (Q : VK), Inv X pins σ H s → Vals xs us → r xs H Q →
    wpAny (model X.prog X.w) X.A (call f us) (EP X pins σ Q) X.xe s
def tOp (r : R2) (ta tb : TE) : TE := fun σ H Q => ta σ H fun x H1 => tb σ H1 fun y H2 => r x y H2 Q
def tUn (r : V → Hp → VK → Prop) (ta : TE) : TE := fun σ H Q => ta σ H fun x H1 => r x H1 Q
/-- ints in, under C, and a value out -/
def rI (C : Int → Int → Prop) (g : Int → Int → V) : R2 := fun x y H Q => ∃ i j, x = .int i ∧ y = .int j ∧ C i j ∧ Q (g i j) H
def rI0 (g : Int → Int → V) : R2 := fun x y H Q => ∃ i j, x = .int i ∧ y = .int j ∧ Q (g i j) H
def rU (g : Int → V) : V → Hp → VK → Prop := fun x H Q => ∃ i, x = .int i ∧ Q (g i) H
section
variable {X : Cx} {a b c : Expr} {ta tb tc : TE} {pos : Pos}
theorem binT (ha : PE X a ta) (hb : PE X b tb) {pins : List (Addr × Obj)} {s : Shared} {σ : St} {H : Hp} {R : V → V → Hp → Prop} (I : Inv X pins σ H s)
    (h : ta σ H fun x H1 => tb σ H1 fun y H2 => R x y H2) {Q : Value → Shared → Prop} {f : Value → Value → Sem Value}
    (hf : ∀ v u s2 x y H2, Inv X pins σ H2 s2 → RelV x v → RelV y u → R x y H2 → wpAny (model X.prog X.w) X.A (f v u) Q X.xe s2) :
    wpAny (model X.prog X.w) X.A (eval a X.env) (fun v s₁ => wpAny (model X.prog X.w) X.A (eval b X.env) (fun u s₂ => wpAny (model X.prog X.w) X.A (f v u) Q X.xe s₂) X.xe s₁) X.xe s := by
  refine thn (ha pins s σ H _ I h) fun v s1 ⟨x, H1, I1, r1, q1⟩ => ?_
  refine thn (hb pins s1 σ H1 _ I1 q1) fun u s2 ⟨y, H2, I2, r2, q2⟩ => ?_
  exact hf v u s2 x y H2 I2 r1 r2 q2
theorem pe_op {op : Operator} {r : R2} (ho : OpR X (binaryOp op) r) (ha : PE X a ta) (hb : PE X b tb) : PE X (.BinOp a op b pos) (tOp r ta tb) := by
  intro pins s σ H Q I h
  exact wpAny_BinOp (binT ha hb I h fun v u s2 x y H2 I2 rx ry q => ho pins s2 σ H2 x y v u Q I2 rx ry q)
theorem pe_un {op : UnaryOp} {r : V → Hp → VK → Prop} (ho : UnR X (unaryOp op) r) (ha : PE X a ta) : PE X (.UnaryOp op a pos) (tUn r ta) := by
  intro pins s σ H Q I h
  exact UnaryOp_ (thn (ha pins s σ H _ I h) fun v s1 ⟨x, H1, I1, r1, q1⟩ => ho pins s1 σ H1 x v Q I1 r1 q1)
/-! ### ints -/
theorem opI {f : Value → Value → Sem Value} {C : Int → Int → Prop} {g : Int → Int → Int}
    (rule : ∀ (i j : Int) (t u : Tok) (s : Shared) (Q : Value → Shared → Prop) (E : Value → Shared → Prop), C i j → Q (.int (g i j) s.toks) { s with toks := s.toks + 1 } → wpAny (model X.prog X.w) X.A (f (.int i t) (.int j u)) Q E s) :
    OpR X f (rI C fun i j => .int (g i j)) := by
  intro pins s σ H x y v u Q I rx ry h
  obtain ⟨i, j, rfl, rfl, hc, q⟩ := h
  obtain ⟨t, rfl⟩ := rx
  obtain ⟨t', rfl⟩ := ry
  exact rule i j t t' s _ _ hc ⟨.int (g i j), H, I.tok _, ⟨_, rfl⟩, q⟩
theorem opI0 {f : Value → Value → Sem Value} {g : Int → Int → Int}
    (rule : ∀ (i j : Int) (t u : Tok) (s : Shared) (Q : Value → Shared → Prop) (E : Value → Shared → Prop), Q (.int (g i j) s.toks) { s with toks := s.toks + 1 } → wpAny (model X.prog X.w) X.A (f (.int i t) (.int j u)) Q E s) :
    OpR X f (rI0 fun i j => .int (g i j)) := by
  intro pins s σ H x y v u Q I rx ry h
  obtain ⟨i, j, rfl, rfl, q⟩ := h
  obtain ⟨t, rfl⟩ := rx
  obtain ⟨t', rfl⟩ := ry
  exact rule i j t t' s _ _ ⟨.int (g i j), H, I.tok _, ⟨_, rfl⟩, q⟩
theorem opB0 {f : Value → Value → Sem Value} {g : Int → Int → Bool}
    (rule : ∀ (i j : Int) (t u : Tok) (s : Shared) (Q : Value → Shared → Prop) (E : Value → Shared → Prop), Q (.bool (g i j)) s → wpAny (model X.prog X.w) X.A (f (.int i t) (.int j u)) Q E s) :
    OpR X f (rI0 fun i j => .bl (g i j)) := by
  intro pins s σ H x y v u Q I rx ry h
  obtain ⟨i, j, rfl, rfl, q⟩ := h
  obtain ⟨t, rfl⟩ := rx
  obtain ⟨t', rfl⟩ := ry
  exact rule i j t t' s _ _ ⟨.bl (g i j), H, I, rfl, q⟩
def CDiv (i j : Int) : Prop := 0 < j ∧ j < 1073741824
def CMul (i j : Int) : Prop := (-(2 ^ 64) < i ∧ i < 2 ^ 64) ∨ (-(2 ^ 64) < j ∧ j < 2 ^ 64)
theorem CMul.ok {i j : Int} (h : CMul i j) : IntMulOk i j := by
  rcases h with ⟨h1, h2⟩ | ⟨h1, h2⟩
  · exact .of_left (intBits_le_64 h1 h2)
  · exact .of_right (intBits_le_64 h1 h2)
theorem op_add : OpR X (binaryOp .Add) (rI0 fun i j => .int (i + j)) := opI0 fun _ _ _ _ _ _ _ q => add_int q
theorem op_sub : OpR X (binaryOp .Sub) (rI0 fun i j => .int (i - j)) := opI0 fun _ _ _ _ _ _ _ q => sub_int q
theorem op_mul : OpR X (binaryOp .Mult) (rI CMul fun i j => .int (i * j)) := opI fun _ _ _ _ _ _ _ hc q => mul_int q hc.ok
/-- // by a positive divisor -/
theorem op_fdiv : OpR X (binaryOp .FloorDiv) (rI CDiv fun i j => .int (i / j)) := opI fun i j _ _ _ _ _ hc q => by
  have h1 : (0 : Int) < j := hc.1
  have h2 : j < 1073741824 := hc.2
  exact floordiv_int (by omega) (by rw [Int.fdiv_eq_ediv_of_nonneg i (by omega)]; exact q) (.inl (PyProof.noPylong_small (by omega)))
/-- % by a positive divisor of any size -/
theorem op_mod : OpR X (binaryOp .Mod) (rI (fun _ j => 0 < j) fun i j => .int (i % j)) := opI fun i j _ _ _ _ _ hc q => by
  have h1 : (0 : Int) < j := hc
  exact mod_int' (by omega) (by rw [Int.fmod_eq_emod_of_nonneg i (by omega)]; exact q)
theorem unI {f : Value → Sem Value} {g : Int → Int}
    (rule : ∀ (i : Int) (t : Tok) (s : Shared) (Q : Value → Shared → Prop) (E : Value → Shared → Prop), Q (.int (g i) s.toks) { s with toks := s.toks + 1 } → wpAny (model X.prog X.w) X.A (f (.int i t)) Q E s) :
    UnR X f (rU fun i => .int (g i)) := by
  intro pins s σ H x v Q I rx h
  obtain ⟨i, rfl, q⟩ := h
  obtain ⟨t, rfl⟩ := rx
  exact rule i t s _ _ ⟨.int (g i), H, I.tok _, ⟨_, rfl⟩, q⟩
theorem un_neg : UnR X (unaryOp .USub) (rU fun i => .int (-i)) := unI fun _ _ _ _ _ q => neg_int q
/-! ### bools among ints: n += (a < b) -/
end
/-! ### comparisons -/
/-- the scalars that == tells apart as data does -/
def scal : V → V → Bool
  | .non, .non => true | .non, .int _ => true | .int _, .non => true | .non, .bl _ => true | .bl _, .non => true | .non, .str _ => true | .str _, .non => true
  | .int _, .int _ => true | .bl _, .bl _ => true | .str _, .str _ => true | .byt _, .byt _ => true
  | .int _, .str _ => true | .str _, .int _ => true | .bl _, .str _ => true | .str _, .bl _ => true
  | _, _ => false
def rEq : R2 := fun x y H Q => scal x y = true ∧ Q (.bl (decide (x = y))) H
def rNe : R2 := fun x y H Q => scal x y = true ∧ Q (.bl (!decide (x = y))) H
theorem dec_int {i j : Int} : decide (V.int i = V.int j) = (i == j) := by
  rw [Bool.eq_iff_iff]
  simp
theorem dec_bl {i j : Bool} : decide (V.bl i = V.bl j) = (i == j) := by
  rw [Bool.eq_iff_iff]
  simp
theorem dec_str {i j : Str} : decide (V.str i = V.str j) = (i == j) := by
  rw [Bool.eq_iff_iff]
  simp
theorem dec_byt {i j : Array UInt8} : decide (V.byt i = V.byt j) = (i.toList == j.toList) := by
  rw [Bool.eq_iff_iff]
  cases i
  cases j
  simp
section
variable {X : Cx} {a b c : Expr} {ta tb tc : TE} {pos : Pos}
theorem fin_bl {pins : List (Addr × Obj)} {σ : St} {H : Hp} {s : Shared} {Q : VK} {k k' : Bool} (I : Inv X pins σ H s) (q : Q (.bl k) H) (e : k = k') : EP X pins σ Q (.bool k') s := by
  subst e
  exact ⟨.bl k, H, I, rfl, q⟩
theorem op_eq : OpR X (compareOp .Eq) rEq := by
  intro pins s σ H x y v u Q I rx ry h
  obtain ⟨hs, q⟩ := h
  cases x with
  | non =>
    cases rx
    cases y with
    | non => cases ry; exact PySem.EqNone.eq_none_none (fin_bl I q (by simp))
    | bl j => cases ry; exact PySem.EqNone.eq_none_bool (fin_bl I q (by simp))
    | int j => obtain ⟨t', rfl⟩ := ry; exact PySem.EqNone.eq_none_int (fin_bl I q (by simp))
    | str j => obtain ⟨t', rfl⟩ := ry; exact PySem.EqNone.eq_none_str (fin_bl I q (by simp))
    | _ => exact absurd (show false = true from hs) Bool.false_ne_true
  | bl i =>
    cases rx
    cases y with
    | non => cases ry; exact PySem.EqNone.eq_bool_none (fin_bl I q (by simp))
    | bl j => cases ry; exact eq_bool (fin_bl I q dec_bl)
    | str j => obtain ⟨t', rfl⟩ := ry; exact PySem.EqMixed.eq_bool_str (fin_bl I q (by simp))
    | _ => exact absurd (show false = true from hs) Bool.false_ne_true
  | int i =>
    obtain ⟨t, rfl⟩ := rx
    cases y with
    | non => cases ry; exact PySem.EqNone.eq_int_none (fin_bl I q (by simp))
    | int j => obtain ⟨t', rfl⟩ := ry; exact eq_int (fin_bl I q dec_int)
    | str j => obtain ⟨t', rfl⟩ := ry; exact PySem.EqMixed.eq_int_str (fin_bl I q (by simp))
    | _ => exact absurd (show false = true from hs) Bool.false_ne_true
  | str i =>
    obtain ⟨t, rfl⟩ := rx
    cases y with
    | non => cases ry; exact PySem.EqNone.eq_str_none (fin_bl I q (by simp))
    | bl j => cases ry; exact PySem.EqMixed.eq_str_bool (fin_bl I q (by simp))
    | int j => obtain ⟨t', rfl⟩ := ry; exact PySem.EqMixed.eq_str_int (fin_bl I q (by simp))
    | str j => obtain ⟨t', rfl⟩ := ry; exact eq_str (fin_bl I q dec_str)
    | _ => exact absurd (show false = true from hs) Bool.false_ne_true
  | byt i =>
    obtain ⟨t, rfl⟩ := rx
    cases y with
    | byt j => obtain ⟨t', rfl⟩ := ry; exact PySem.W.eq_bytes (fin_bl I q dec_byt)
    | _ => exact absurd (show false = true from hs) Bool.false_ne_true
  | _ => cases y <;> exact absurd (show false = true from hs) Bool.false_ne_true
theorem op_ne : OpR X (compareOp .NotEq) rNe := by
  intro pins s σ H x y v u Q I rx ry h
  obtain ⟨hs, q⟩ := h
  cases x with
  | non =>
    cases rx
    cases y with
    | non => cases ry; exact PySem.EqNone.ne_none_none (fin_bl I q (by simp))
    | bl j => cases ry; exact PySem.EqNone.ne_none_bool (fin_bl I q (by simp))
    | int j => obtain ⟨t', rfl⟩ := ry; exact PySem.EqNone.ne_none_int (fin_bl I q (by simp))
    | str j => obtain ⟨t', rfl⟩ := ry; exact PySem.EqNone.ne_none_str (fin_bl I q (by simp))
    | _ => exact absurd (show false = true from hs) Bool.false_ne_true
  | bl i =>
    cases rx
    cases y with
    | non => cases ry; exact PySem.EqNone.ne_bool_none (fin_bl I q (by simp))
    | bl j => cases ry; exact ne_bool (fin_bl I q (congrArg not dec_bl))
    | str j => obtain ⟨t', rfl⟩ := ry; exact PySem.EqMixed.ne_bool_str (fin_bl I q (by simp))
    | _ => exact absurd (show false = true from hs) Bool.false_ne_true
  | int i =>
    obtain ⟨t, rfl⟩ := rx
    cases y with
    | non => cases ry; exact PySem.EqNone.ne_int_none (fin_bl I q (by simp))
    | int j => obtain ⟨t', rfl⟩ := ry; exact ne_int (fin_bl I q (congrArg not dec_int))
    | str j => obtain ⟨t', rfl⟩ := ry; exact PySem.EqMixed.ne_int_str (fin_bl I q (by simp))
    | _ => exact absurd (show false = true from hs) Bool.false_ne_true
  | str i =>
    obtain ⟨t, rfl⟩ := rx
    cases y with
    | non => cases ry; exact PySem.EqNone.ne_str_none (fin_bl I q (by simp))
    | bl j => cases ry; exact PySem.EqMixed.ne_str_bool (fin_bl I q (by simp))
    | int j => obtain ⟨t', rfl⟩ := ry; exact PySem.EqMixed.ne_str_int (fin_bl I q (by simp))
    | str j => obtain ⟨t', rfl⟩ := ry; exact ne_str (fin_bl I q (congrArg not dec_str))
    | _ => exact absurd (show false = true from hs) Bool.false_ne_true
  | byt i =>
    obtain ⟨t, rfl⟩ := rx
    cases y with
    | byt j => obtain ⟨t', rfl⟩ := ry; exact PySem.W.ne_bytes (fin_bl I q (congrArg not dec_byt))
    | _ => exact absurd (show false = true from hs) Bool.false_ne_true
  | _ => cases y <;> exact absurd (show false = true from hs) Bool.false_ne_true
theorem op_lt : OpR X (compareOp .Lt) (rI0 fun i j => .bl (decide (i < j))) := opB0 fun _ _ _ _ _ _ _ q => lt_int q
theorem op_gt : OpR X (compareOp .Gt) (rI0 fun i j => .bl (decide (j < i))) := opB0 fun _ _ _ _ _ _ _ q => gt_int q
theorem op_ge : OpR X (compareOp .GtE) (rI0 fun i j => .bl (decide (j ≤ i))) := opB0 fun _ _ _ _ _ _ _ q => ge_int q
theorem nomark (b : Expr) {op : CmpOp} (h : op ≠ .In := by decide) (h2 : op ≠ .NotIn := by decide) : behindInMarks op b = false := by
  have e1 : (op == CmpOp.In) = false := by cases op <;> first | rfl | exact absurd rfl h
  have e2 : (op == CmpOp.NotIn) = false := by cases op <;> first | rfl | exact absurd rfl h2
  cases b <;> simp [behindInMarks, e1, e2]
/-- a comparison as a value; hm: nomark b, or (for in, not in) by with_unfolding_all rfl -/
theorem pe_cmpR {op : CmpOp} {r : R2} (ho : OpR X (compareOp op) r) (ha : PE X a ta) (hb : PE X b tb) (hm : behindInMarks op b = false) : PE X (.Compare a [op] [b] pos) (tOp r ta tb) := by
  intro pins s σ H Q I h
  exact wpAny_Compare1 (binT ha hb I h fun v u s2 x y H2 I2 rx ry q => ho pins s2 σ H2 x y v u Q I2 rx ry q) hm
/-- a reading of a value as a test -/
def tTest (t : TE) : TT := fun σ H Q => t σ H fun x H' => ∃ k, x = .bl k ∧ Q k H'
theorem pt_cmpR {op : CmpOp} {r : R2} (ho : OpR X (compareOp op) r) (ha : PE X a ta) (hb : PE X b tb) (hm : behindInMarks op b = false) : PT X (.Compare a [op] [b] pos) (tTest (tOp r ta tb)) := by
  intro pins s σ H Q I h
  refine wpAny_isTrue_Compare1 (thn (ha pins s σ H _ I h) fun v s1 ⟨x, H1, I1, r1, q1⟩ => thn (hb pins s1 σ H1 _ I1 q1) fun u s2 ⟨y, H2, I2, r2, q2⟩ =>
    thn (ho pins s2 σ H2 x y v u _ I2 r1 r2 q2) fun c s3 ⟨z, H3, I3, r3, k, e, q3⟩ => ?_) hm
  subst e
  cases r3
  exact wpAny_truthy_bool ⟨H3, I3, q3⟩
/-! ### truth -/
theorem line63 : (sizeLine : Nat) < 2 ^ 63 := by rw [sizeLine_eq]; decide
/-! ### strs and bytes -/
/-! ### scalar builtins, by CallR -/
theorem vals1 {x : V} {us : List Value} (r : Vals [x] us) : ∃ u, us = [u] ∧ RelV x u := by
  cases r with
  | cons r1 r2 => cases r2; exact ⟨_, rfl, r1⟩
theorem vals2 {x y : V} {us : List Value} (r : Vals [x, y] us) : ∃ u w', us = [u, w'] ∧ RelV x u ∧ RelV y w' := by
  cases r with
  | cons r1 r2 =>
    cases r2 with
    | cons r3 r4 => cases r4; exact ⟨_, _, rfl, r1, r3⟩
theorem call_min2 (hc : X.calm = true) : CallR X (.builtin "min") (fun xs H Q => ∃ i j, xs = [.int i, .int j] ∧ Q (.int (if j < i then j else i)) H) := by
  intro pins s σ H xs us Q I r h
  obtain ⟨i, j, rfl, q⟩ := h
  obtain ⟨u, w', rfl, ⟨t, rfl⟩, ⟨t', rfl⟩⟩ := vals2 r
  refine min_two_ints (I.ok.hd hc) fun h' tk k => ⟨_, H, I.kept k, ?_, q⟩
  by_cases hj : j < i
  · rw [if_pos hj, if_pos hj]; exact ⟨_, rfl⟩
  · rw [if_neg hj, if_neg hj]; exact ⟨_, rfl⟩
end
end L2
namespace L2
open PySem PySem.Spec PyProof.Rows
/-! ### an instance, its attributes a map -/
structure ObjM (h : Heap) (x dx C : Addr) (mA : Str → Option Value) : Prop where
  obj : h.get? x = some (PySem.W.instObj C dx)
  ns : h.Ns1 dx mA
  ne : dx ≠ x
theorem lookIn_ns {h : Heap} {dx : Addr} {mA : Str → Option Value} (n : h.Ns1 dx mA) : ∃ od, h.get? dx = some od ∧ ∀ name, PySem.W.lookIn name od = some (mA name) := by
  obtain ⟨o, es, ep, ho, hd, hk, _, hm⟩ := n
  refine ⟨o, ho, fun name => ?_⟩
  have e := hm name
  unfold nsFind findBy at e
  rw [← Array.find?_toList] at e
  unfold PySem.W.lookIn
  rw [hd]
  dsimp only
  split
  · rename_i y q
    rw [q] at e
    exact congrArg some e
  · rename_i q
    rw [q] at e
    have a : es.toList.any (·.refKey) = false := by
      rw [List.any_eq_false]
      intro y hy
      obtain ⟨z, t, hkey⟩ := hk y (Array.mem_toList_iff.mp hy)
      simp [DictEntry.refKey, hkey]
    have a' : ¬ es.toList.any (·.refKey) = true := by rw [a]; exact Bool.false_ne_true
    rw [if_neg a']
    exact congrArg some e
theorem ObjM.look {h : Heap} {x dx C : Addr} {mA : Str → Option Value} (I : ObjM h x dx C mA) : ∃ od, PySem.W.InstAt h x (PySem.W.instObj C dx) C (some od) ∧ ∀ name, PySem.W.lookIn name od = some (mA name) :=
  let ⟨od, ho, hl⟩ := lookIn_ns I.ns
  ⟨od, ⟨I.obj, rfl, rfl, ho⟩, hl⟩
section
variable {prog : Program} {w : World} {A : Around} {E : Value → Shared → Prop} {s : Shared} {K : PySem.W.Frag} {x dx C f : Addr} {mA : Str → Option Value} {name : Str} {v : Value}
end
/-! ### the attributes as a list of pairs -/
theorem RelO.some_of {v : V} {o : Option Value} (r : RelO (some v) o) : ∃ u, o = some u ∧ RelV v u := by
  cases o with
  | none => exact (show False from r).elim
  | some u => exact ⟨u, rfl, r⟩
section
variable {P : Program} {w : World} {H H' : Hp} {h h' : Heap} {a C dx : Addr} {fs fs' : List (Str × V)}
theorem ins_get (hok : HOk P w H h) (e : H a = some (.ins C dx fs)) : ∃ mA, ObjM h a dx C mA ∧ (∀ f, RelO (fs.lookup f) (mA f)) ∧ PySem.Within mA (fs.map (·.1)) ∧ fs.length ≤ 1000 ∧ H dx = some (.own a) := by
  obtain ⟨d, z, ne, ob, mA, n, r, q⟩ := (show ObjOk P w H h a (.ins C dx fs) from hok a _ e)
  exact ⟨mA, ⟨ob, n, ne⟩, r, q, z, d⟩
end
/-! ### what of the text a class must have -/
structure Cls (K : PySem.W.Frag) (C : Addr) : Prop where
  pg : PySem.W.plainGet K C Str.empty = true
  hd : PySem.W.hasDictIn K C = true
  po : PySem.W.plainOver K C = true
  sa : PySem.W.findIn K (.ref C) "__setattr__" = some (some (.builtin "object.__setattr__"))
theorem Cls.get {K : PySem.W.Frag} {C : Addr} (c : Cls K C) (f : Str) : PySem.W.plainGet K C f = true := c.pg
section
variable {X : Cx} {pins : List (Addr × Obj)} {σ : St} {H : Hp} {s : Shared} {a C dx : Addr} {fs : List (Str × V)} {f : Str} {v : V} {A : Around} {E : Value → Shared → Prop}
end
/-! ### readings and rules -/
section
variable {X : Cx} {o e value : Expr} {f : Str} {pos pos' tpos : Pos} {ta tv : TE}
end
/-! ### isinstance -/
section
variable {X : Cx} {pins : List (Addr × Obj)} {σ : St} {H : Hp} {s : Shared} {A : Around} {E : Value → Shared → Prop} {Q : Value → Shared → Prop} {c : Value} {b : Bool}
/-- the type of a value, as the fragment's deciders take it; for an instance its class -/
inductive TyOf (K : PySem.W.Frag) (H : Hp) : V → Value → Prop where
  | non : TyOf K H .non (.type "NoneType")
  | bl (x : Bool) : TyOf K H (.bl x) (.type "bool")
  | int (i : Int) : TyOf K H (.int i) (.type "int")
  | str (x : Str) : TyOf K H (.str x) (.type "str")
  | flt (x : UInt64) : TyOf K H (.flt x) (.type "float")
  | lst {a : Addr} {xs : List V} (e : H a = some (.lst xs)) : TyOf K H (.ref a) (.type "list")
  | frz {a : Addr} {o : Obj} {xs : List V} (e : H a = some (.frz o (.lst xs))) : TyOf K H (.ref a) (.type "list")
  | tup {a : Addr} {xs : List V} (e : H a = some (.tup xs)) : TyOf K H (.ref a) (.type "tuple")
  | dK {a : Addr} {kvs : List (Key × V)} (e : H a = some (.dK kvs)) : TyOf K H (.ref a) (.type "dict")
  | dT {a : Addr} {kvs : List (List Key × V)} (e : H a = some (.dT kvs)) : TyOf K H (.ref a) (.type "dict")
  | ins {a C dx : Addr} {fs : List (Str × V)} (e : H a = some (.ins C dx fs)) (cl : Cls K C) (ha : PySem.W.findIn K (.ref C) "__class__" = some (some (.builtin "object.__class__")))
      (hn : PySem.W.specialIn K (.builtin "object.__class__") "__get__" = some (some (.builtin "getset_descriptor.__get__"))) (htk : PySem.W.takesIn K (.builtin "object.__class__") = some true)
      (hm : PySem.W.mroIn K C (.type "object") = some true) : TyOf K H (.ref a) (.ref C)
/-- isinstance(x, c) for one class c, a built-in or an own one: kitOne's answer -/
theorem isinst_ok {x : V} {u t : Value} (I : Inv X pins σ H s) (rx : RelV x u) (ty : TyOf X.K H x t) (e : PySem.W.kitOne X.K t c = some b) (h : ∀ tk, Q (.bool b) { s with toks := tk }) :
    wpAny (model X.prog X.w) A (call (.builtin "isinstance") [u, c]) Q E s := by
  cases ty with
  | non => cases (show u = Value.none from rx); exact PySem.W.kia_one PySem.W.kitx_none I.kIn True.intro e (fun z => nomatch z) h
  | bl y => cases (show u = Value.bool y from rx); exact PySem.W.kia_one PySem.W.kitx_bool I.kIn True.intro e (fun z => nomatch z) h
  | int i => obtain ⟨t, q⟩ := (show ∃ t, u = Value.int i t from rx); cases q; exact PySem.W.kia_one PySem.W.kitx_int I.kIn True.intro e (fun z => nomatch z) h
  | str y => obtain ⟨t, q⟩ := (show ∃ t, u = Value.str y t from rx); cases q; exact PySem.W.kia_one PySem.W.kitx_str I.kIn True.intro e (fun z => nomatch z) h
  | flt y => obtain ⟨t, q⟩ := (show ∃ t, u = Value.float y t from rx); cases q; exact PySem.W.kia_one PySem.W.kitx_float I.kIn True.intro e (fun z => nomatch z) h
  | @lst a xs ea =>
    cases (show u = Value.ref a from rx)
    obtain ⟨_, _, n, _, h1⟩ := (show ObjOk X.prog X.w H s.heap a (.lst xs) from I.hok a _ ea)
    exact PySem.W.kia_one PySem.W.kitx_list I.kIn ⟨_, h1, rfl⟩ e (fun z => nomatch z) h
  | @frz a ob xs ea =>
    cases (show u = Value.ref a from rx)
    obtain ⟨_, _, _, n, _, h1⟩ := (show ObjOk X.prog X.w H s.heap a (.frz ob (.lst xs)) from I.hok a _ ea)
    exact PySem.W.kia_one PySem.W.kitx_list I.kIn ⟨_, h1, rfl⟩ e (fun z => nomatch z) h
  | @tup a xs ea =>
    cases (show u = Value.ref a from rx)
    obtain ⟨_, _, _, p⟩ := (show ObjOk X.prog X.w H s.heap a (.tup xs) from I.hok a _ ea)
    obtain ⟨o, h1, h2, _⟩ := p
    exact PySem.W.kia_one PySem.W.kitx_tuple I.kIn ⟨o, h1, h2⟩ e (fun z => nomatch z) h
  | @dK a kvs ea =>
    cases (show u = Value.ref a from rx)
    obtain ⟨_, _, vs, _, p⟩ := (show ObjOk X.prog X.w H s.heap a (.dK kvs) from I.hok a _ ea)
    obtain ⟨o, es, ep, h1, h2, _⟩ := p
    exact PySem.W.kia_one PySem.W.kitx_dict I.kIn ⟨o, h1, h2.1⟩ e (fun z => nomatch z) h
  | @dT a kvs ea =>
    cases (show u = Value.ref a from rx)
    obtain ⟨_, _, xs, _, o, es, ep, h1, h2, _⟩ := (show ObjOk X.prog X.w H s.heap a (.dT kvs) from I.hok a _ ea)
    exact PySem.W.kia_one PySem.W.kitx_dict I.kIn ⟨o, h1, h2.1⟩ e (fun z => nomatch z) h
  | @ins a C dx fs ea cl ha hn htk hm =>
    cases (show u = Value.ref a from rx)
    obtain ⟨mA, O, _⟩ := ins_get I.hok ea
    obtain ⟨od, J, _⟩ := O.look
    exact PySem.W.kia_one (PySem.W.kitx_own (cl.get _) cl.hd ha hn htk hm) I.kIn J e (fun z => nomatch z) h
end
end L2
namespace L2
open PySem PySem.Spec PyProof.Rows
/-! ### room -/
structure Room (k : Nat) (A : Around) : Prop where
  hd : A.handled = none
  dp : A.depth + 3 * k + 5 < recursionLimit
  un : A.units + 16 * k + 200 < cLine
theorem Room.mono {j k : Nat} {A : Around} (r : Room k A) (h : j ≤ k) : Room j A := ⟨r.hd, by have := r.dp; omega, by have := r.un; omega⟩
theorem Room.deeper {k : Nat} {A : Around} (r : Room (k + 1) A) (env : Env) : Room k (A.deeper env) :=
  ⟨r.hd, by have := r.dp; show A.depth + 1 + 3 * k + 5 < _; omega, by have := r.un; show A.units + 3 + 16 * k + 200 < _; omega⟩
theorem Room.depth {k : Nat} {A : Around} (r : Room k A) : A.depth < recursionLimit := by have := r.dp; omega
theorem Room.units {k : Nat} {A : Around} (r : Room k A) : A.units + 64 < cLine := by have := r.un; omega
/-! ### argument lists and displays -/
def tNil : TA := fun _ H Q => Q [] H
def tCons (ta : TE) (tr : TA) : TA := fun σ H Q => ta σ H fun x H1 => tr σ H1 fun xs H2 => Q (x :: xs) H2
section
variable {X : Cx} {e : Expr} {es : List Expr} {te : TE} {t : TA} {pos : Pos}
theorem pa_nil : PA X [] tNil := fun _ _ _ _ H Q I h => Calls.spliced_nil ⟨[], H, I, .nil, h⟩
theorem pa_cons (ha : PE X e te) (hr : PA X es t) (hs : starEach (e :: es) X.env = (false, eval e X.env) :: starEach es X.env := by rfl) : PA X (e :: es) (tCons te t) := by
  intro pos pins s σ H Q I h
  rw [hs]
  show wpAny _ _ (spliced ((false, eval e X.env) :: backTo pos (starEach es X.env))) _ _ s
  refine Calls.spliced_cons (thn (ha pins s σ H _ I h) fun u s1 ⟨x, H1, I1, r1, q1⟩ => ?_)
  exact thn (hr pos pins s1 σ H1 _ I1 q1) fun us s2 ⟨xs, H2, I2, r2, q2⟩ => ⟨x :: xs, H2, I2, .cons r1 r2, q2⟩
/-- a tuple, a list of written items -/
def tTup (t : TA) : TE := fun σ H Q => t σ H fun xs H1 => xs.length ≤ sizeLine ∧ ∀ p, H1 p = none → Q (.ref p) (upd H1 p (.tup xs))
def tLst (t : TA) : TE := fun σ H Q => t σ H fun xs H1 => xs.length ≤ sizeLine ∧ ∀ p, H1 p = none → Q (.ref p) (upd H1 p (.lst xs))
theorem pe_tup {x1} (h : PA X es t) : PE X (.Tuple es x1 pos) (tTup t) := by
  intro pins s σ H Q I hq
  refine wpAny_Tuple_spliced (thn (h pos pins s σ H _ I hq) fun us s1 ⟨xs, H1, I1, r, z, q⟩ => ⟨by rw [← r.length]; exact z, ?_⟩)
  have hf : H1 s1.heap.objs.size = none := I1.hok.fresh (Nat.le_refl _)
  refine ⟨.ref s1.heap.objs.size, upd H1 s1.heap.objs.size (.tup xs), I1.laid (t' := s1.toks) (fun b u e => Heap.get?_push_of_some _ e) (Nat.le_refl _) ?_, rfl, q _ hf⟩
  exact ⟨z, us, r, ⟨_, Heap.get?_push_size _ rfl, rfl, _, rfl⟩⟩
theorem pe_lst (h : PA X es t) : PE X (.List es pos) (tLst t) := by
  intro pins s σ H Q I hq
  refine wpAny_List_spliced (thn (h pos pins s σ H _ I hq) fun us s1 ⟨xs, H1, I1, r, z, q⟩ => ⟨by rw [← r.length]; exact z, ?_⟩)
  have hf : H1 s1.heap.objs.size = none := I1.hok.fresh (Nat.le_refl _)
  refine ⟨.ref s1.heap.objs.size, upd H1 s1.heap.objs.size (.lst xs), I1.laid (t' := s1.toks) (fun b u e => Heap.get?_push_of_some _ e) (Nat.le_refl _) ?_, rfl, q _ hf⟩
  exact ⟨z, us, 0, r, Heap.get?_push_size _ rfl⟩
end
/-! ### what a def promises -/
/-- a def's promise: the bound arguments in the parameters' order, the heap, the wanted end, the wanted exception -/
abbrev Sp := List V → Hp → VK → XK → Prop
/-- how an exception lies behind a call (file 08 gives it): the callers' frames, abstract heap and state ahead of the call, the wish, the exception, the state -/
abbrev CXT := List Env → Hp → Shared → XK → Value → Shared → Prop
/-- the state at a call -/
structure Env0 (P : Program) (w : World) (K : PySem.W.Frag) (mg : Str → Option Value) (base : Heap) (A : Around) (outer : List Env) (s : Shared) (H : Hp) : Prop where
  frames : A.frames = some outer
  mod : Mod K mg base
  bs : ∀ b o, base.get? b = some o → s.heap.get? b = some o ∧ H b = none
  bsz : base.objs.size ≤ s.heap.objs.size
  funs : s.heap.FunFrames base outer
  frf : ∀ b ∈ frs outer, H b = none
  hok : HOk P w H s.heap
  bare : AllBare s.gens
/-- a call's end -/
def CE (outer : List Env) (P : Program) (w : World) (H : Hp) (s : Shared) (Q : VK) (u : Value) (s' : Shared) : Prop :=
  ∃ v H', s'.os = s.os ∧ AllBare s'.gens ∧ Un (frs outer) [] H H' s.heap s'.heap ∧ HOk P w H' s'.heap ∧ RelV v u ∧ Q v H'
def CR (CX : CXT) (outer : List Env) (P : Program) (w : World) (H : Hp) (s : Shared) (Q : VK) (E : XK) (r : Result) (s' : Shared) : Prop :=
  match r with
  | .ok (.ret u) => CE outer P w H s Q u s'
  | .ok _ => False
  | .error e => CX outer H s E e s'
structure FnOk (P : Program) (w : World) (K : PySem.W.Frag) (mg : Str → Option Value) (base : Heap) (CX : CXT) (k : Nat) (f : Addr) (fd : FuncData) (ps : List Str) (sp : Sp) : Prop where
  len : ∀ vs H Q E, sp vs H Q E → vs.length = ps.length
  run : ∀ (A : Around) (outer : List Env) (s : Shared) (H : Hp) (args : Args) (us : List Value) (vs : List V) (Q : VK) (E : XK), Room k A → Env0 P w K mg base A outer s H → BindsTo s fd args (ps.zip us) → Vals vs us → sp vs H Q E →
    codeAny (model P w) A (.call (.ref f) args) (CR CX outer P w H s Q E) s
section
variable {X : Cx} {pins : List (Addr × Obj)} {σ : St} {H : Hp} {s s' : Shared}
/-- from a body: what a callee wants -/
theorem Inv.env0 (I : Inv X pins σ H s) : Env0 X.prog X.w X.K X.mg X.base X.A X.stack s H :=
  ⟨I.ok.frames, I.ok.mod, I.bs, Nat.le_trans I.ok.bsz I.sz, I.stack, I.stkFree, I.hok, I.bare⟩
/-- behind a call -/
theorem Inv.after {Q : VK} {u : Value} (I : Inv X pins σ H s) (h : CE X.stack X.prog X.w H s Q u s') : EP X pins σ Q u s' := by
  obtain ⟨v, H', os, bare, un, hok, r, q⟩ := h
  obtain ⟨hh, g, d, t, os'⟩ := s'
  obtain rfl : os' = s.os := os
  exact ⟨v, H', I.call (h' := hh) (g' := g) (d' := d) (t' := t) (ch := []) un hok bare (fun b z => absurd z (by simp)), r, q⟩
end
/-! ### calls -/
/-- f(..): the written arguments, then the defaults dvs; E: what is wanted of an exception -/
def tCall (sp : Sp) (dvs : List V) (E : XK) (t : TA) : TE := fun σ H Q => t σ H fun vs H1 => sp (vs ++ dvs) H1 Q E
/-- how the parameters are bound: us the positional arguments, kw the keywords' values by name, ds the defaults that fill up -/
def Binds (K : PySem.W.Frag) (fd : FuncData) (ps : List Str) (ds : List Value) : Prop :=
  ∀ (s : Shared) (us : List Value), K.In s.heap → (us ++ ds).length = ps.length → BindsTo s fd ⟨us, []⟩ (ps.zip (us ++ ds))
/-- every parameter is given -/
theorem Binds.all {K : PySem.W.Frag} {fd : FuncData} {ps : List Str} (h : ∀ us : List Value, us.length = ps.length → bindArgs fd ⟨us, []⟩ = pure (ps.zip us)) : Binds K fd ps [] := fun s us _ hl => by
  rw [List.append_nil] at hl ⊢
  exact .of_eq (h us hl)
/-- an exception of a callee reaches what this body wants of exceptions -/
def Passes (CX : CXT) (X : Cx) (E : XK) : Prop := ∀ (pins : List (Addr × Obj)) (σ : St) (H : Hp) (s : Shared) (e : Value) (s' : Shared), Inv X pins σ H s → CX X.stack H s E e s' → X.xe e s'
section
variable {X : Cx} {CX : CXT} {k : Nat} {f C : Addr} {fd : FuncData} {ps : List Str} {sp : Sp} {dvs : List V} {ds : List Value} {E : XK} {x m : Str} {p pos apos : Pos} {e o : Expr} {es : List Expr} {ta : TE} {t : TA}
/-- the callee runs -/
theorem run_fn {pins : List (Addr × Obj)} {σ : St} {H : Hp} {s : Shared} {Q : VK} {us : List Value} {vs : List V} (F : FnOk X.prog X.w X.K X.mg X.base CX k f fd ps sp) (hr : Room k X.A) (hb : Binds X.K fd ps ds) (hd : Vals dvs ds) (hx : Passes CX X E)
    (I : Inv X pins σ H s) (r : Vals vs us) (h : sp (vs ++ dvs) H Q E) : wpAny (model X.prog X.w) X.A (call (.ref f) us) (EP X pins σ Q) X.xe s := by
  have r2 : Vals (vs ++ dvs) (us ++ ds) := r.append hd
  have hl : (us ++ ds).length = ps.length := by rw [← r2.length]; exact F.len _ _ _ _ h
  refine wpAny_call (codeAny_mono (F.run X.A X.stack s H ⟨us, []⟩ (us ++ ds) (vs ++ dvs) Q E hr I.env0 (hb s us I.kIn hl) r2 h) fun r s' hq => ?_)
  cases r with
  | error e => exact hx pins σ H s e s' I hq
  | ok fl =>
    cases fl with
    | ret u => exact I.after hq
    | next => exact False.elim hq
    | brk => exact False.elim hq
    | cont => exact False.elim hq
theorem pe_call (F : FnOk X.prog X.w X.K X.mg X.base CX k f fd ps sp) (hr : Room k X.A) (hg : Gl X x) (hm : X.mg x = some (.ref f)) (hk : PySem.W.keepIn X.K (.ref f) = true) (hb : Binds X.K fd ps ds) (hd : Vals dvs ds) (hx : Passes CX X E)
    (ha : PA X (e :: es) t) (hdb : (x == ("__debug__" : Str)) = false := by decide) (he : starEach (e :: es) X.env = (false, eval e X.env) :: starEach es X.env := by rfl) (hpl : (backTo pos (starEach es X.env)).any (·.1) = false := by rfl) :
    PE X (.Call (.Name x p) (e :: es) [] pos) (tCall sp dvs E t) := by
  intro pins s σ H Q I h
  refine wpAny_Call_Name_kw (ld_glob I hg hm ?_ hdb)
  refine PySem.W.callWith_K (h₀ := X.base) I.ok.mod.kin hk (thn (ha pos pins s σ H _ I h) fun us s1 ⟨vs, H1, I1, r, q⟩ => ⟨I1.kIn, ?_⟩) he hpl
  exact run_fn F hr hb hd hx I1 r q
end
/-! ### keywords -/
section
variable {X : Cx} {CX : CXT} {k : Nat} {f C : Addr} {fd : FuncData} {ps ks : List Str} {sp : Sp} {E : XK} {x m : Str} {p pos apos kpos : Pos} {e o : Expr} {es : List Expr} {kws : List Keyword} {te ta : TE} {t tk : TA} {nm : Option Str}
variable {g : List Value → List Value → List Value} {gV : List V → List V → List V}
end
/-! ### a def's body keeps its promise -/
/-- names: the parameters first -/
structure FnScope (N P : List Str) (sc : Scope) : Prop where
  kind : sc.kind = .function
  co : sc.isCoroutine = false
  gen : sc.isGenerator = false
  nd : N.Nodup
  pre : N.take P.length = P
  par : ∀ x ∈ P, sc.names.lookup x = some .local ∨ sc.names.lookup x = some .cell
  nofree : ∀ y ∈ sc.names, y.2 ≠ .free
theorem bindL_out {kindOf : Str → Option NameKind} {x : Str} : ∀ {binds : List (Str × Value)} {m : Str → Option Value}, (∀ v, (x, v) ∉ binds) → bindL kindOf binds m x = m x
  | [], _, _ => rfl
  | (n, v) :: r, m, h => by
    unfold bindL
    rw [bindL_out fun w hw => h w (List.mem_cons_of_mem _ hw)]
    split
    · have : x ≠ n := by rintro rfl; exact h v List.mem_cons_self
      simp [this]
    · rfl
theorem bindC_out {kindOf : Str → Option NameKind} {x : Str} : ∀ {binds : List (Str × Value)} {m : Str → Option Value}, (∀ v, (x, v) ∉ binds) → bindC kindOf binds m x = m x
  | [], _, _ => rfl
  | (n, v) :: r, m, h => by
    unfold bindC
    rw [bindC_out fun w hw => h w (List.mem_cons_of_mem _ hw)]
    split
    · rfl
    · have : x ≠ n := by rintro rfl; exact h v List.mem_cons_self
      simp [this]
theorem bindL_get {kindOf : Str → Option NameKind} {x : Str} {v : Value} : ∀ {P : List Str} {vs : List Value} {i : Nat} {m : Str → Option Value}, P.Nodup → P[i]? = some x → vs[i]? = some v → kindOf x = some .local →
    bindL kindOf (P.zip vs) m x = some v
  | [], _, _, _, _, h, _, _ => by simp at h
  | _ :: _, [], _, _, _, _, h, _ => by simp at h
  | p :: P, w :: vs, 0, m, nd, h1, h2, hk => by
    simp at h1 h2; subst h1; subst h2
    show bindL kindOf ((p, w) :: P.zip vs) m p = _
    unfold bindL
    rw [bindL_out fun v hv => (List.nodup_cons.mp nd).1 (List.of_mem_zip hv).1, if_pos hk]
    simp
  | p :: P, w :: vs, i + 1, m, nd, h1, h2, hk => by
    show bindL kindOf ((p, w) :: P.zip vs) m x = _
    unfold bindL
    exact bindL_get (i := i) (List.nodup_cons.mp nd).2 (by simpa using h1) (by simpa using h2) hk
theorem bindC_get {kindOf : Str → Option NameKind} {x : Str} {v : Value} : ∀ {P : List Str} {vs : List Value} {i : Nat} {m : Str → Option Value}, P.Nodup → P[i]? = some x → vs[i]? = some v → kindOf x ≠ some .local →
    bindC kindOf (P.zip vs) m x = some v
  | [], _, _, _, _, h, _, _ => by simp at h
  | _ :: _, [], _, _, _, _, h, _ => by simp at h
  | p :: P, w :: vs, 0, m, nd, h1, h2, hk => by
    simp at h1 h2; subst h1; subst h2
    show bindC kindOf ((p, w) :: P.zip vs) m p = _
    unfold bindC
    rw [bindC_out fun v hv => (List.nodup_cons.mp nd).1 (List.of_mem_zip hv).1, if_neg hk]
    simp
  | p :: P, w :: vs, i + 1, m, nd, h1, h2, hk => by
    show bindC kindOf ((p, w) :: P.zip vs) m x = _
    unfold bindC
    exact bindC_get (i := i) (List.nodup_cons.mp nd).2 (by simpa using h1) (by simpa using h2) hk
/-- the names' values at the entry -/
def start (N : List Str) (vs : List V) : St := vs.map some ++ List.replicate (N.length - vs.length) none
/-- the context of a def's body, at its entry; an exception leaves the frame, then lies as CX says -/
def cxOf (CX : CXT) (P : Program) (w : World) (K : PySem.W.Frag) (mg : Str → Option Value) (base : Heap) (N : List Str) (qual : Str) (scope : Scope) (f : Addr) (cd : Value) (A : Around) (outer : List Env) (s : Shared) (H : Hp) (E : XK) : Cx where
  prog := P
  w := w
  K := K
  mg := mg
  base := base
  A := A.deeper (envOfC qual scope s.heap.objs.size f cd)
  N := N
  s₀ := s
  H₀ := H
  env := envOfC qual scope s.heap.objs.size f cd
  outer := outer
  stack := envOfC qual scope s.heap.objs.size f cd :: outer
  ex := []
  calm := true
  fn := fun _ => true
  pn := []
  xe := fun e s' => wpAny (model P w) (A.deeper (envOfC qual scope s.heap.objs.size f cd)) (leaving (envOfC qual scope s.heap.objs.size f cd) e) (fun _ s'' => CX outer H s E e s'') (fun e' s'' => CX outer H s E e' s'') s'
theorem cell_has {sc : Scope} {n : Nat} {x : Str} (h : sc.names.lookup x = some .cell) : ∃ c, (cellsFrom n sc.names []).lookup x = some c := by
  have q := PySem.W.cellsFrom_some sc.names n [] (.inl h)
  exact Option.isSome_iff_exists.mp q
theorem inv_start {CX : CXT} {P : Program} {w : World} {K : PySem.W.Frag} {mg : Str → Option Value} {base : Heap} {N ps : List Str} {qual : Str} {scope : Scope} {f : Addr} {cd : Value} {A : Around} {outer : List Env} {s s1 : Shared} {H : Hp} {E : XK} {us : List Value} {vs : List V}
    (S : FnScope N ps scope) (hd : A.handled = none) (e0 : Env0 P w K mg base A outer s H) (hl : vs.length = ps.length) (r : Vals vs us)
    (x : InCallC s s.heap.objs.size (bindL (envOfC qual scope s.heap.objs.size f cd).kindOf (ps.zip us) fun _ => none) (cellsFrom (s.heap.objs.size + 1) scope.names []) (bindC (envOfC qual scope s.heap.objs.size f cd).kindOf (ps.zip us) fun _ => none) s1) :
    Inv (cxOf CX P w K mg base N qual scope f cd A outer s H E) [] (start N vs) H s1 := by
  have hpl : ps.length ≤ N.length := by have := congrArg List.length S.pre; rw [List.length_take] at this; omega
  obtain ⟨h1, tk, rfl, hk⟩ := x.done
  have noA : ∀ b : Addr, b ∉ (cxOf CX P w K mg base N qual scope f cd A outer s H E).ex := fun b z => absurd (show b ∈ ([] : List Addr) from z) (by simp)
  refine ⟨⟨e0.mod, S.kind, rfl, rfl, Nat.le_refl _, fun y z c h1 h2 => ?_, fun y hy => ?_, fun y c _ h => ?_, fun _ => hd, Around.frames_deeper e0.frames, .inr ⟨rfl, rfl⟩, fun b z => absurd z (noA b), e0.bs, e0.bsz, fun b _ _ => noA b, fun b z => absurd z (noA b), e0.funs, e0.frf⟩,
    rfl, e0.bare, Un.kept hk, ⟨_, x.toInCall.ns, fun i y v h1 h2 h3 => ?_⟩, fun y c h => ⟨_, x.cell y c h⟩, e0.hok.fresh (Nat.le_refl _), fun y c h => ?_, fun p hp => absurd (show p ∈ ([] : List (Addr × Obj)) from hp) (by simp), e0.hok.kept hk, ?_⟩
  · exact name_of_addr x.apart (PySem.mem_of_lookup h1) (PySem.mem_of_lookup h2)
  · have hy : scope.names.lookup y = some .cell ∨ scope.names.lookup y = some .free := hy
    rcases hy with hy | hy
    · exact cell_has hy
    · exact absurd rfl (S.nofree _ (PySem.mem_of_lookup hy))
  · exact Nat.le_of_lt (x.above y c (PySem.mem_of_lookup h))
  · have hi : i < vs.length := by
      unfold start at h2
      by_cases hi : i < vs.length
      · exact hi
      · rw [List.getElem?_append_right (by simpa using hi)] at h2
        rw [List.getElem?_replicate] at h2
        split at h2 <;> cases h2
    have ha : vs[i]? = some v := by
      unfold start at h2
      rw [List.getElem?_append_left (by simpa using hi), List.getElem?_map] at h2
      cases e : vs[i]? with
      | none => rw [e] at h2; cases h2
      | some a => rw [e] at h2; cases h2; rfl
    obtain ⟨u, hu, rv⟩ := r.get ha
    have hp : ps[i]? = some y := by
      rw [← S.pre, List.getElem?_take_of_lt (by omega)]; exact h1
    have ndP : ps.Nodup := by rw [← S.pre]; exact S.nd.sublist (List.take_sublist _ _)
    refine ⟨u, rv, ?_⟩
    rcases S.par y (List.mem_of_getElem? hp) with k | k
    · exact .inl ⟨k, bindL_get ndP hp hu k⟩
    · obtain ⟨c, e⟩ := cell_has (n := s.heap.objs.size + 1) k
      refine .inr ⟨.inl k, c, e, ?_⟩
      have q := x.cell y c e
      rw [bindC_get ndP hp hu (by show scope.names.lookup y ≠ _; rw [k]; decide)] at q
      exact q
  · exact e0.hok.fresh (Nat.le_of_lt (x.above y c (PySem.mem_of_lookup h)))
  · unfold start
    show _ = N.length
    rw [List.length_append, List.length_map, List.length_replicate]
    omega
/-- THE RULE: a def (or a method) of the text, by its body. The body's reading t is chosen for each entry; it is run at the parameters' values -/
theorem fn_of {CX : CXT} {P : Program} {w : World} {K : PySem.W.Frag} {mg : Str → Option Value} {base : Heap} {k : Nat} {f : Addr} {name qual : Str} {params : Arguments} {body : List Stmt} {scope : Scope} {dV kV doc pm cdv ct oc : Value} {an od : Option Addr}
    {osl : Array (Option Value)} {N ps : List Str} {sp : Sp} (lk : K.lookup f = some ⟨oc, od, .func (PySem.W.fnOf name qual params body scope dV kV doc pm an cdv ct), osl⟩) (hcd : PySem.W.codeIn K cdv qual = true) (S : FnScope N ps scope)
    (len : ∀ vs H Q E, sp vs H Q E → vs.length = ps.length)
    (hbody : ∀ (A : Around) (outer : List Env) (s : Shared) (H : Hp) (vs : List V) (Q : VK) (E : XK), Room k (A.deeper (envOfC qual scope s.heap.objs.size f cdv)) → sp vs H Q E →
      ∃ t, PSs (cxOf CX P w K mg base N qual scope f cdv A outer s H E) body t ∧ t { nx := fun _ H' => Q .non H', rt := Q } (start N vs) H) :
    FnOk P w K mg base CX (k + 1) f (PySem.W.fnOf name qual params body scope dV kV doc pm an cdv ct) ps sp := by
  refine ⟨len, fun A outer s H args us vs Q E hr e0 hb r hsp => ?_⟩
  have hl := len _ _ _ _ hsp
  have KX : K.In s.heap := e0.mod.kin.keeps fun b o e => (e0.bs b o e).1
  have lim : s.heap.NoLimit := e0.mod.nolimit.keeps fun b o e => (e0.bs b o e).1
  have hkind : ∀ y ∈ ps.zip us, scope.names.lookup y.1 = some .local ∨ (scope.names.lookup y.1 = some .cell ∧ ((cellsFrom (s.heap.objs.size + 1) scope.names []).lookup y.1).isSome = true) := fun ⟨n, v⟩ hy => by
    rcases S.par n (List.of_mem_zip hy).1 with q | q
    · exact .inl q
    · exact .inr ⟨q, PySem.W.cellsFrom_some _ _ _ (.inl q)⟩
  refine codeAny_call_function hr.depth (KX _ _ lk) rfl S.co S.gen rfl (PySem.W.codeRec_of KX hcd) (hb _ _ _ _ ?_)
  refine wpAny_newFunctionEnv_cells S.kind hkind fun env he s1 x => ?_
  subst he
  refine ⟨lim.keeps x.toInCall.keep, codeAny_func ?_⟩
  obtain ⟨t, ht, hq⟩ := hbody A outer s H vs Q E (hr.deeper _) hsp
  have I : Inv (cxOf CX P w K mg base N qual scope f cdv A outer s H E) [] (start N vs) H s1 := inv_start S hr.hd e0 hl r x
  refine wpAny_mono (ht [] s1 (start N vs) H _ I hq) (fun fl s' hs => ?_) fun e s' hs => hs
  have fin : ∀ {σ' : St} {H' : Hp} {v : V} {u : Value}, Inv (cxOf CX P w K mg base N qual scope f cdv A outer s H E) [] σ' H' s' → RelV v u → Q v H' → CE outer P w H s Q u s' :=
    fun {σ' H' v u} J rv q => ⟨v, H', J.os, J.bare, J.base, J.hok, rv, q⟩
  cases fl with
  | ret u =>
    obtain ⟨v, σ', H', J, rv, q⟩ := hs
    exact fin J rv q
  | next =>
    obtain ⟨σ', H', J, q⟩ := hs
    exact fin (v := V.non) (u := Value.none) J rfl q
  | brk =>
    obtain ⟨_, _, _, q⟩ := hs
    exact False.elim q
  | cont =>
    obtain ⟨_, _, _, q⟩ := hs
    exact False.elim q
end L2
namespace L2
open PySem PySem.Spec PyProof.Rows
section
variable {X : Cx} {x : Str} {p pos : Pos} {e : Expr} {es : List Expr} {t : TA} {id T : String} {r : List V → Hp → VK → Prop}
def tCB (r : List V → Hp → VK → Prop) (t : TA) : TE := fun σ H Q => t σ H fun vs H1 => r vs H1 Q
/-- f(e, ..), f a built-in function -/
theorem pe_callB (hc : CallR X (.builtin id) r) (hg : Gl X x) (hm : X.mg x = none) (hv : bootBuiltins x = some (.builtin id)) (ha : PA X (e :: es) t) (hn : x ≠ "__name__" := by decide) (hdb : (x == ("__debug__" : Str)) = false := by decide)
    (he : starEach (e :: es) X.env = (false, eval e X.env) :: starEach es X.env := by rfl) (hpl : (backTo pos (starEach es X.env)).any (·.1) = false := by rfl) : PE X (.Call (.Name x p) (e :: es) [] pos) (tCB r t) := by
  intro pins s σ H Q I h
  refine wpAny_Call_Name_kw (ld_blt I hg hm hv ?_ hn hdb)
  exact PyProof.Rows.callWith_builtin1 (thn (ha pos pins s σ H _ I h) fun us s1 ⟨vs, H1, I1, r1, q1⟩ => hc pins s1 σ H1 vs us Q I1 r1 q1) he hpl
/-- T(e, ..), T a built-in type -/
theorem pe_callTy (hc : CallR X (.type T) r) (hg : Gl X x) (hm : X.mg x = none) (hv : bootBuiltins x = some (.type T)) (ha : PA X (e :: es) t) (hn : x ≠ "__name__" := by decide) (hdb : (x == ("__debug__" : Str)) = false := by decide)
    (he : starEach (e :: es) X.env = (false, eval e X.env) :: starEach es X.env := by rfl) (hpl : (backTo pos (starEach es X.env)).any (·.1) = false := by rfl) : PE X (.Call (.Name x p) (e :: es) [] pos) (tCB r t) := by
  intro pins s σ H Q I h
  refine wpAny_Call_Name_kw (ld_blt I hg hm hv ?_ hn hdb)
  exact PyProof.Rows.callWith_type1 (thn (ha pos pins s σ H _ I h) fun us s1 ⟨vs, H1, I1, r1, q1⟩ => hc pins s1 σ H1 vs us Q I1 r1 q1) he hpl
end
end L2
namespace HT
open PySem PyProof.Rows
section
open PySem.SeqAt
open PySem.AutoSeq1 (wpAny_loadPart')
open PySem.MeetsSeq PySem.MeetsSeq2 PySem.MeetsSeq3
end
section
variable {prog : Program} {w : World} {A : Around} {E : Value → Shared → Prop} {s : Shared}
/-! ### t[a:b], not the whole -/
/-- a slice's bound as a place among n (d where it is left out) -/
def sIx (n d : Nat) : Option Int → Nat
  | none => d
  | some v => if v < 0 then (v + (n : Int)).toNat else min v.toNat n
theorem sIx_none (n d : Nat) : sIx n d none = d := rfl
theorem sIx_nat (n d k : Nat) : sIx n d (some (k : Int)) = min k n := by
  show (if (k : Int) < 0 then ((k : Int) + (n : Int)).toNat else min (k : Int).toNat n) = min k n
  rw [if_neg (by omega), Int.toNat_natCast]
end
end HT
namespace L2
open PySem PySem.Spec PyProof.Rows
/-! ### the parts of a slice -/
abbrev TO := St → Hp → (Option Int → Hp → Prop) → Prop
/-- a slice's part (left out, or an int) -/
def PO (X : Cx) (e : Option Expr) (t : TO) : Prop :=
  ∀ (pins : List (Addr × Obj)) (s : Shared) (σ : St) (H : Hp) (Q : Option Int → Hp → Prop), Inv X pins σ H s → t σ H Q →
    wpAny (model X.prog X.w) X.A (evalPart e X.env) (fun u s' => ∃ o H', Inv X pins σ H' s' ∧ IsPart u o ∧ Q o H') X.xe s
def tNoPart : TO := fun _ H Q => Q none H
def tPart (t : TE) : TO := fun σ H Q => t σ H fun x H1 => ∃ i, x = .int i ∧ Q (some i) H1
section
variable {X : Cx} {e : Expr} {te : TE} {lo hi : Option Expr} {tl th : TO} {pos p2 : Pos}
theorem po_none : PO X none tNoPart := by
  intro pins s σ H Q I h
  rw [evalPart_none]
  exact wpAny_pure ⟨none, H, I, .none, h⟩
theorem po_some (h : PE X e te) : PO X (some e) (tPart te) := by
  intro pins s σ H Q I hw
  rw [evalPart_some]
  refine thn (h pins s σ H _ I hw) fun u s1 ⟨x, H1, I1, r1, q1⟩ => ?_
  obtain ⟨i, rfl, q⟩ := q1
  obtain ⟨t, rfl⟩ := r1
  exact ⟨some i, H1, I1, .int i t, q⟩
/-- what a slice of a value is, by values: the slice object stands at sl -/
def SlR (X : Cx) (r : V → Option Int → Option Int → Hp → VK → Prop) : Prop :=
  ∀ (pins : List (Addr × Obj)) (s : Shared) (σ : St) (H : Hp) (x : V) (v vl vu : Value) (lo hi : Option Int) (sl : Addr) (Q : VK), Inv X pins σ H s → RelV x v → s.heap.IsSliceOf sl vl vu .none → IsPart vl lo → IsPart vu hi → r x lo hi H Q →
    ∃ T id, typeLookup (.type T) "__getitem__" = pure (some (.builtin id)) ∧ s.TypeIs v T ∧ wpAny (model X.prog X.w) X.A (getItem v (.ref sl)) (EP X pins σ Q) X.xe s
def tSl (r : V → Option Int → Option Int → Hp → VK → Prop) (te : TE) (tl th : TO) : TE := fun σ H Q => te σ H fun x H1 => tl σ H1 fun l H2 => th σ H2 fun u H3 => r x l u H3 Q
/-- a[lo:hi], any a -/
theorem pe_slice {r : V → Option Int → Option Int → Hp → VK → Prop} (hr : SlR X r) (he : PE X e te) (hl : PO X lo tl) (hu : PO X hi th) : PE X (.Subscript e (.Slice lo hi none p2) pos) (tSl r te tl th) := by
  intro pins s σ H Q I h
  refine Subscript_ (thn (he pins s σ H _ I h) fun v s1 ⟨x, H1, I1, r1, q1⟩ => ?_)
  refine wpAny_Slice (thn (hl pins s1 σ H1 _ I1 q1) fun vl s2 ⟨l, H2, I2, pl, q2⟩ => thn (hu pins s2 σ H2 _ I2 q2) fun vu s3 ⟨u, H3, I3, pu, q3⟩ => ?_)
  rw [evalPart_none]
  refine wpAny_pure ?_
  have I4 : Inv X pins σ H3 { s3 with heap := s3.heap.push { cls := .type "slice", data := .fields #[vl, vu, .none] } } := I3.kept (t' := s3.toks) fun b ob q => Heap.get?_push_of_some _ q
  obtain ⟨T, id, hT, ht, hg⟩ := hr pins { s3 with heap := s3.heap.push { cls := .type "slice", data := .fields #[vl, vu, .none] } } σ H3 x v vl vu l u s3.heap.objs.size Q I4 r1 (Heap.IsSliceOf.new ..) pl pu q3
  show wpAny (model X.prog X.w) X.A (subscriptTail e (.Slice lo hi none p2) v (.ref s3.heap.objs.size)) (EP X pins σ Q) X.xe { s3 with heap := s3.heap.push { cls := .type "slice", data := .fields #[vl, vu, .none] } }
  exact tail_any (ops := [.ref s3.heap.objs.size, v]) ht hT hg (by with_unfolding_all rfl)
/-- the items of xs[lo:hi] -/
def cutV (xs : List V) (lo hi : Option Int) : List V := (xs.drop (HT.sIx xs.length 0 lo)).take (HT.sIx xs.length xs.length hi - HT.sIx xs.length 0 lo)
theorem cutV_length (xs : List V) (lo hi : Option Int) : (cutV xs lo hi).length ≤ xs.length := by
  unfold cutV
  rw [List.length_take, List.length_drop]
  omega
/-! ### t < u, t + u -/
end
end L2
namespace L2
open PySem PySem.Spec PyProof.Rows
/-! ### places -/
/-- the place that an index of any sign means -/
def ixN (n : Nat) (i : Int) : Option Nat := if 0 ≤ i then (if i < n then some i.toNat else none) else if -(n : Int) ≤ i then some (i + n).toNat else none
def atI {α : Type} (xs : List α) (i : Int) : Option α := (ixN xs.length i).bind fun j => xs[j]?
theorem ixN_seq {n : Nat} {i : Int} {j : Nat} (h : ixN n i = some j) : seqIndex? i n = some j ∧ j < n ∧ -(n : Int) ≤ i ∧ i < n := by
  unfold ixN at h
  by_cases h0 : 0 ≤ i
  · rw [if_pos h0] at h
    by_cases h1 : i < n
    · rw [if_pos h1] at h
      have e : i.toNat = j := Option.some.inj h
      exact ⟨by rw [seqIndex_of h0 h1, e], by omega, by omega, h1⟩
    · rw [if_neg h1] at h; cases h
  · rw [if_neg h0] at h
    by_cases h1 : -(n : Int) ≤ i
    · rw [if_pos h1] at h
      have e : (i + n).toNat = j := Option.some.inj h
      exact ⟨by rw [seqIndex_neg (by omega) h1, e], by omega, h1, by omega⟩
    · rw [if_neg h1] at h; cases h
theorem atI_get {α : Type} {xs : List α} {i : Int} {v : α} (h : atI xs i = some v) : ∃ j, seqIndex? i xs.length = some j ∧ xs[j]? = some v ∧ j < xs.length ∧ -(xs.length : Int) ≤ i ∧ i < xs.length := by
  unfold atI at h
  cases e : ixN xs.length i with
  | none => rw [e] at h; cases h
  | some j =>
    rw [e] at h
    obtain ⟨h1, h2, h3, h4⟩ := ixN_seq e
    exact ⟨j, h1, h, h2, h3, h4⟩
theorem atI_nat {α : Type} {xs : List α} {j : Nat} {v : α} (h : xs[j]? = some v) : atI xs (j : Int) = some v := by
  have hj : j < xs.length := (List.getElem?_eq_some_iff.mp h).1
  have e : ixN xs.length (j : Int) = some j := by
    unfold ixN
    rw [if_pos (by omega), if_pos (by omega)]; simp
  unfold atI; rw [e]; exact h
theorem atI_last {α : Type} (xs : List α) (v : α) : atI (xs ++ [v]) (-1) = some v := by
  have hl : (xs ++ [v]).length = xs.length + 1 := by simp
  have e : ixN (xs ++ [v]).length (-1) = some xs.length := by
    unfold ixN
    rw [hl, if_neg (by decide), if_pos (by omega)]
    congr 1
    omega
  unfold atI
  rw [e]
  show (xs ++ [v])[xs.length]? = some v
  simp
/-! ### what may be subscripted -/
/-- what stands as an index of a plain subscript -/
def PlainIx (b : Expr) : Prop := ∀ o i, subscripted b false o i = operate [o, i] (getItem o i)
/-- a subscript by values -/
def IxR (X : Cx) (r : R2) : Prop :=
  ∀ (value slice : Expr) (pins : List (Addr × Obj)) (s : Shared) (σ : St) (H : Hp) (x y : V) (v u : Value) (Q : VK), Inv X pins σ H s → RelV x v → RelV y u → r x y H Q →
    subscripted slice false v u = operate [v, u] (getItem v u) → wpAny (model X.prog X.w) X.A (subscriptTail value slice v u) (EP X pins σ Q) X.xe s
/-- a call of a builtin's method by values: the receiver, the arguments -/
def MtR (X : Cx) (id : String) (r : V → List V → Hp → VK → Prop) : Prop :=
  ∀ (pins : List (Addr × Obj)) (s : Shared) (σ : St) (H : Hp) (x : V) (xs : List V) (v : Value) (us : List Value) (Q : VK), Inv X pins σ H s → RelV x v → Vals xs us → r x xs H Q →
    wpAny (model X.prog X.w) X.A (call (.builtin id) (v :: us)) (EP X pins σ Q) X.xe s
section
variable {X : Cx} {a b : Expr} {ta tb : TE} {pos : Pos}
/-- a[b] -/
theorem pe_ix {r : R2} (hr : IxR X r) (ha : PE X a ta) (hb : PE X b tb) (hs : PlainIx b) : PE X (.Subscript a b pos) (tOp r ta tb) := by
  intro pins s σ H Q I h
  exact Subscript_ (binT ha hb I h fun v u s2 x y H2 I2 rx ry q => hr a b pins s2 σ H2 x y v u Q I2 rx ry q (hs _ _))
def rIxL (K : PySem.W.Frag) : R2 := fun x y H Q => ∃ p xs i v, x = .ref p ∧ y = .int i ∧ SqL K H p xs ∧ atI xs i = some v ∧ Q v H
def rIxT (K : PySem.W.Frag) : R2 := fun x y H Q => ∃ p xs i v, x = .ref p ∧ y = .int i ∧ SqT K H p xs ∧ atI xs i = some v ∧ Q v H
theorem ix_list : IxR X (rIxL X.K) := by
  intro value slice pins s σ H x y v u Q I rx ry h hs
  obtain ⟨p, xs, i, z, rfl, rfl, hq, he, q⟩ := h
  cases rx
  obtain ⟨t, rfl⟩ := ry
  obtain ⟨its, r, pl, hz⟩ := I.list hq
  obtain ⟨j, h1, h2, h3, h4, h5⟩ := atI_get he
  obtain ⟨w, ew, rw'⟩ := r.get h2
  have hl := r.length
  have hn := line63
  have fin : EP X pins σ Q w s := ⟨z, H, I, rw', q⟩
  by_cases h0 : 0 ≤ i
  · have hj : i.toNat = j := by
      rw [seqIndex_of h0 h5] at h1
      exact Option.some.inj h1
    exact item_listR pl.isList h0 (by omega) (by rw [hj]; simpa using ew) fin hs
  · have hj : (i + (its.toArray.size : Int)).toNat = j := by
      rw [seqIndex_neg (by omega) h4] at h1
      rw [List.size_toArray, ← hl]
      exact Option.some.inj h1
    exact subscriptTail_builtinR (x := w) pl.isList.typeIs slot_list_getitem.lookup
      (wpAny_getItem_list_neg (Q := fun r s' => r = w ∧ EP X pins σ Q r s') pl.isList (by omega) (by rw [List.size_toArray] <;> omega) (by omega) (by rw [hj]; simpa using ew) ⟨rfl, fin⟩) hs
theorem ix_tup : IxR X (rIxT X.K) := by
  intro value slice pins s σ H x y v u Q I rx ry h hs
  obtain ⟨p, xs, i, z, rfl, rfl, hq, he, q⟩ := h
  cases rx
  obtain ⟨t, rfl⟩ := ry
  obtain ⟨its, r, pl, hz⟩ := I.tuple hq
  obtain ⟨j, h1, h2, h3, h4, h5⟩ := atI_get he
  obtain ⟨w, ew, rw'⟩ := r.get h2
  have hl := r.length
  have hn := line63
  have fin : EP X pins σ Q w s := ⟨z, H, I, rw', q⟩
  exact subscriptTail_builtinR (x := w) pl.typeIs slot_tuple_getitem.lookup
    (getItem_tuple (j := j) (Q := fun r s' => r = w ∧ EP X pins σ Q r s') pl (by omega) (by omega) (by rw [List.size_toArray, ← hl]; exact h1) (by simpa using ew) ⟨rfl, fin⟩) hs
/-! ### xs[i] = v, any sign -/
/-- the list's object behind a store -/
theorem mapSeq_set (its : List Value) (n j : Nat) (u : Value) : Obj.mapSeq (·.setIfInBounds j u) { cls := .type "list", data := .seq its.toArray n } = { cls := .type "list", data := .seq (its.set j u).toArray n } := by
  simp [Obj.mapSeq]
theorem Inv.lst {pins : List (Addr × Obj)} {σ : St} {H : Hp} {s : Shared} {p : Addr} {xs : List V} (I : Inv X pins σ H s) (h : H p = some (.lst xs)) :
    ∃ (its : List Value) (n : Nat), Vals xs its ∧ s.heap.get? p = some { cls := .type "list", data := .seq its.toArray n } ∧ xs.length ≤ sizeLine := by
  obtain ⟨z, its, n, r, e⟩ := I.hok p _ h
  exact ⟨its, n, r, e, z⟩
/-- the list at p is written by an update of its object -/
theorem Inv.lstUpd {pins : List (Addr × Obj)} {σ : St} {H : Hp} {s : Shared} {p : Addr} {xs ys : List V} {its its' : List Value} {n n' : Nat} {f : Obj → Obj} (I : Inv X pins σ H s) (h : H p = some (.lst xs))
    (ho : s.heap.get? p = some { cls := .type "list", data := .seq its.toArray n }) (hf : f { cls := .type "list", data := .seq its.toArray n } = { cls := .type "list", data := .seq its'.toArray n' }) (r : Vals ys its') (hz : ys.length ≤ sizeLine) (t : Nat) :
    Inv X pins σ (upd H p (.lst ys)) { s with heap := s.heap.update p f, toks := t } := by
  have e : (s.heap.update p f).get? p = some { cls := .type "list", data := .seq its'.toArray n' } := by
    rw [Heap.get?_update_self f ho (by rw [hf] <;> rfl), hf]
  refine I.write (x := p) (e := p) (by rw [h]; trivial) (.inl rfl) (fun b u hb q => (Heap.get?_update_other _ _ (Ne.symm hb)).trans q) ⟨_, e⟩ ?_
  exact ⟨hz, its', n', r, e⟩
def rSetL : V → V → V → Hp → (Hp → Prop) → Prop := fun o i v H Q => ∃ p xs k j, o = .ref p ∧ i = .int k ∧ H p = some (.lst xs) ∧ ixN xs.length k = some j ∧ Q (upd H p (.lst (xs.set j v)))
theorem set_list : PSet X rSetL := by
  intro pins s σ H o i v ov iv u Q I ro ri rv h
  obtain ⟨p, xs, k, j, rfl, rfl, hp, hj, q⟩ := h
  cases ro
  obtain ⟨t, rfl⟩ := ri
  obtain ⟨its, n, r, ho, hz⟩ := I.lst hp
  obtain ⟨h1, h2, h3, h4⟩ := ixN_seq hj
  have hl := r.length
  have hn := line63
  have I' : Inv X pins σ (upd H p (.lst (xs.set j v))) { s with heap := s.heap.update p (Obj.mapSeq (·.setIfInBounds j u)) } :=
    I.lstUpd hp ho (mapSeq_set its n j u) (r.set rv j) (by rw [List.length_set]; exact hz) s.toks
  by_cases h0 : 0 ≤ k
  · have hk : k.toNat = j := by
      rw [seqIndex_of h0 h4] at h1
      exact Option.some.inj h1
    exact PySem.W.ki_setAt ho h0 (by omega) (by rw [List.size_toArray, ← hl]; exact h4) (by rw [hk]; exact ⟨_, I', q⟩)
  · have hk : (k + (its.toArray.size : Int)).toNat = j := by
      rw [seqIndex_neg (by omega) h3] at h1
      rw [List.size_toArray, ← hl]
      exact Option.some.inj h1
    exact PySem.W.ki_setBack ho (by omega) (by rw [List.size_toArray, ← hl]; exact h3) (by omega) (by rw [hk]; exact ⟨_, I', q⟩)
/-! ### slices -/
theorem slice_bounds (lo hi : Option Int) (n : Nat) : (sliceBounds lo hi none n).1 = ((HT.sIx n 0 lo : Nat) : Int) ∧ (sliceBounds lo hi none n).2.1 = ((HT.sIx n n hi : Nat) : Int) ∧ (sliceBounds lo hi none n).2.2 = 1 := by
  refine ⟨?_, ?_, rfl⟩
  · cases lo with
    | none => simp [sliceBounds, HT.sIx]
    | some i =>
      simp only [sliceBounds, HT.sIx, Option.getD_none, show (1 : Int) > 0 by decide, if_true]
      by_cases h : i < 0
      · simp only [h, if_true] <;> omega
      · simp only [h, if_false] <;> omega
  · cases hi with
    | none => simp [sliceBounds, HT.sIx]
    | some i =>
      simp only [sliceBounds, HT.sIx, Option.getD_none, show (1 : Int) > 0 by decide, if_true]
      by_cases h : i < 0
      · simp only [h, if_true] <;> omega
      · simp only [h, if_false] <;> omega
theorem slicePick_cut (its : List Value) (lo hi : Option Int) : slicePick its.toArray lo hi none = ((its.drop (HT.sIx its.length 0 lo)).take (HT.sIx its.length its.length hi - HT.sIx its.length 0 lo)).toArray := by
  obtain ⟨h1, h2, h3⟩ := slice_bounds lo hi its.toArray.size
  unfold slicePick
  rw [h1, h2, h3]
  simp only [sliceRange_one, pick_run, List.size_toArray] <;> rfl
/-- xs[lo:hi] of a list: a new list -/
def rSlL (K : PySem.W.Frag) : V → Option Int → Option Int → Hp → VK → Prop := fun x lo hi H Q => ∃ a xs, x = .ref a ∧ SqL K H a xs ∧ ∀ p, H p = none → Q (.ref p) (upd H p (.lst (cutV xs lo hi)))
theorem sl_list : SlR X (rSlL X.K) := by
  intro pins s σ H x v vl vu lo hi sl Q I rx hs pl pu h
  obtain ⟨a, xs, rfl, hx, q⟩ := h
  cases rx
  obtain ⟨its, r, ht, hz⟩ := I.list hx
  have hlen := r.length
  refine ⟨"list", _, slot_list_getitem.lookup, ht.isList.typeIs, ?_⟩
  refine wpAny_getItem_list_slice ht.isList hs pl pu .none (by simp) ?_ (by rw [List.size_toArray] <;> omega)
  rw [slicePick_cut, ← hlen]
  refine ⟨.ref s.heap.objs.size, _, I.laid (t' := s.toks) (o := .lst (cutV xs lo hi)) (fun b ob q => Heap.get?_push_of_some _ q) (Nat.le_refl _) ?_, rfl, q _ (I.hok.fresh (Nat.le_refl _))⟩
  exact ⟨Nat.le_trans (cutV_length xs lo hi) hz, _, 0, (r.drop (HT.sIx xs.length 0 lo)).take (HT.sIx xs.length xs.length hi - HT.sIx xs.length 0 lo), Heap.get?_push_size _ rfl⟩
/-! ### in, not in: flat items -/
def flatV : V → Bool
  | .non => true
  | .bl _ => true
  | .int _ => true
  | .str _ => true
  | _ => false
/-- == of flat values -/
def eqV : V → V → Bool
  | .non, .non => true
  | .bl a, .bl b => a == b
  | .bl a, .int b => (if a then 1 else 0) == b
  | .int a, .bl b => a == (if b then 1 else 0)
  | .int a, .int b => a == b
  | .str a, .str b => a == b
  | _, _ => false
theorem eqAt_V {A : Around} {s : Shared} {y x : V} {u v : Value} (ry : RelV y u) (rx : RelV x v) (fy : flatV y = true) (fx : flatV x = true) : SeqAt.EqAt A s u v (eqV y x) := by
  cases y with
  | non =>
    cases ry
    cases x with
    | non => cases rx; exact SeqAt.EqAt.same _
    | bl b => cases rx; exact SeqAt.EqAt.none_bool b
    | int b => obtain ⟨t, rfl⟩ := rx; exact SeqAt.EqAt.none_int b t
    | str b => obtain ⟨t, rfl⟩ := rx; exact SeqAt.EqAt.none_str b t
    | _ => exact absurd (show false = true from fx) Bool.false_ne_true
  | bl a =>
    cases ry
    cases x with
    | non => cases rx; exact SeqAt.EqAt.bool_none a
    | bl b => cases rx; exact SeqAt.EqAt.bool_bool a b
    | int b => obtain ⟨t, rfl⟩ := rx; exact SeqAt.EqAt.bool_int a b t
    | str b => obtain ⟨t, rfl⟩ := rx; exact SeqAt.EqAt.bool_str a b t
    | _ => exact absurd (show false = true from fx) Bool.false_ne_true
  | int a =>
    obtain ⟨t', rfl⟩ := ry
    cases x with
    | non => cases rx; exact SeqAt.EqAt.int_none a t'
    | bl b => cases rx; exact SeqAt.EqAt.int_bool a t' b
    | int b => obtain ⟨t, rfl⟩ := rx; exact SeqAt.EqAt.int_int a t' b t
    | str b => obtain ⟨t, rfl⟩ := rx; exact SeqAt.EqAt.int_str a t' b t
    | _ => exact absurd (show false = true from fx) Bool.false_ne_true
  | str a =>
    obtain ⟨t', rfl⟩ := ry
    cases x with
    | non => cases rx; exact SeqAt.EqAt.str_none a t'
    | bl b => cases rx; exact SeqAt.EqAt.str_bool a t' b
    | int b => obtain ⟨t, rfl⟩ := rx; exact SeqAt.EqAt.str_int a t' b t
    | str b => obtain ⟨t, rfl⟩ := rx; exact SeqAt.EqAt.str_str a t' b t
    | _ => exact absurd (show false = true from fx) Bool.false_ne_true
  | _ => exact absurd (show false = true from fy) Bool.false_ne_true
/-! ### len, list(x), tuple(x) of any list or tuple that is read -/
theorem call_len_seq : CallR X (.builtin "len") (fun xs H Q => ∃ p ys, xs = [.ref p] ∧ (SqL X.K H p ys ∨ SqT X.K H p ys) ∧ Q (.int ys.length) H) := by
  intro pins s σ H xs us Q I r h
  obtain ⟨p, ys, rfl, hq, q⟩ := h
  obtain ⟨u, rfl, rx⟩ := vals1 r
  cases rx
  have hn := line63
  rcases hq with hq | hq
  · obtain ⟨its, r', pl, hz⟩ := I.list hq
    have hlen := r'.length
    exact Calls.call_len_list pl.isList (by simp only [List.size_toArray] <;> omega) ⟨.int ys.length, H, I.tok _, ⟨s.toks + 1, by rw [List.size_toArray, hlen]⟩, q⟩
  · obtain ⟨its, r', pl, hz⟩ := I.tuple hq
    have hlen := r'.length
    exact len_tuple pl (by simp only [List.size_toArray] <;> omega) ⟨.int ys.length, H, I.tok _, ⟨s.toks + 1, by rw [List.size_toArray, hlen]⟩, q⟩
theorem call_list_of : CallR X (.type "list") (fun xs H Q => ∃ p ys, xs = [.ref p] ∧ (SqL X.K H p ys ∨ SqT X.K H p ys) ∧ ∀ l, H l = none → Q (.ref l) (upd H l (.lst ys))) := by
  intro pins s σ H xs us Q I r h
  obtain ⟨p, ys, rfl, hq, q⟩ := h
  obtain ⟨u, rfl, rx⟩ := vals1 r
  cases rx
  have fin : ∀ (its : List Value), Vals ys its → ys.length ≤ sizeLine → ∀ (h' : Heap) (c' : Nat), (∀ b o', s.heap.get? b = some o' → h'.get? b = some o') →
      h'.get? s.heap.objs.size = some { cls := .type "list", dict := none, data := .seq its.toArray c', slots := #[] } → EP X pins σ Q (.ref s.heap.objs.size) { s with heap := h' } := fun its r' hz h' c' kp e =>
    ⟨.ref s.heap.objs.size, _, I.laid (t' := s.toks) kp (Nat.le_refl _) (show ObjOk X.prog X.w _ h' _ (.lst ys) from ⟨hz, its, c', r', e⟩), rfl, q _ (I.hok.fresh (Nat.le_refl _))⟩
  rcases hq with hq | hq
  · obtain ⟨its, r', pl, hz⟩ := I.list hq
    have hlen := r'.length
    obtain ⟨o, ho, hc, n, hd⟩ := pl.isList
    exact call_list_seq p (.inl rfl) ho hc hd (fun h' c' kp e => fin its r' hz h' c' kp e) (by simp only [List.size_toArray] <;> omega)
  · obtain ⟨its, r', pl, hz⟩ := I.tuple hq
    have hlen := r'.length
    obtain ⟨o, ho, hc, n, hd⟩ := pl
    exact call_list_seq p (.inr rfl) ho hc hd (fun h' c' kp e => fin its r' hz h' c' kp e) (by simp only [List.size_toArray] <;> omega)
theorem call_tuple_of : CallR X (.type "tuple") (fun xs H Q => ∃ p ys, xs = [.ref p] ∧ ((SqL X.K H p ys ∧ ∀ l, H l = none → Q (.ref l) (upd H l (.tup ys))) ∨ (SqT X.K H p ys ∧ Q (.ref p) H))) := by
  intro pins s σ H xs us Q I r h
  obtain ⟨p, ys, rfl, h⟩ := h
  obtain ⟨u, rfl, rx⟩ := vals1 r
  cases rx
  rcases h with ⟨hq, q⟩ | ⟨hq, q⟩
  · obtain ⟨its, r', pl, hz⟩ := I.list hq
    have hlen := r'.length
    refine call_tuple_list pl.isList (fun h' kp => ?_) (by simp only [List.size_toArray] <;> omega)
    have I1 : Inv X pins σ H { s with heap := h' } := I.kept (t' := s.toks) kp
    have I2 : Inv X pins σ (upd H h'.objs.size (.tup ys)) { s with heap := h'.push { cls := .type "tuple", data := .seq its.toArray } } :=
      I1.laid (t' := s.toks) (fun b o e => Heap.get?_push_of_some _ e) (Nat.le_refl _) (show ObjOk X.prog X.w _ _ _ (.tup ys) from ⟨hz, its, r', IsTup.new _ _⟩)
    exact ⟨.ref h'.objs.size, _, I2, rfl, q _ (I1.hok.fresh (Nat.le_refl _))⟩
  · obtain ⟨its, r', pl, hz⟩ := I.tuple hq
    exact call_tuple_same pl ⟨.ref p, H, I, rfl, q⟩
/-! ### the call of a builtin's method: o.m(..) -/
/-- the value is of that builtin type -/
def tyV (K : PySem.W.Frag) (T : String) (x : V) (H : Hp) : Prop := match x with
  | .str _ => T = "str"
  | .int _ => T = "int"
  | .ref p => (T = "list" ∧ ∃ xs, SqL K H p xs) ∨ (T = "tuple" ∧ ∃ o, K.lookup p = some o ∧ o.cls = .type "tuple" ∧ o.dict = none) ∨
      (T = "dict" ∧ ((∃ kvs, H p = some (.dK kvs)) ∨ ∃ kvs, H p = some (.dT kvs))) ∨ (T = "set" ∧ ∃ S n, H p = some (.set S n))
  | _ => False
theorem tyV_is {pins : List (Addr × Obj)} {σ : St} {H : Hp} {s : Shared} {T : String} {x : V} {v : Value} (I : Inv X pins σ H s) (r : RelV x v) (ty : tyV X.K T x H) :
    s.TypeIs v T ∧ ∀ a, v = .ref a → ∃ ob, s.heap.get? a = some ob ∧ ob.dict = none := by
  cases x with
  | str z =>
    obtain ⟨t, rfl⟩ := r
    cases (show T = "str" from ty)
    exact ⟨typeIs_str s z t, fun _ e => nomatch e⟩
  | int i =>
    obtain ⟨t, rfl⟩ := r
    cases (show T = "int" from ty)
    exact ⟨typeIs_int s i t, fun _ e => nomatch e⟩
  | ref p =>
    cases r
    rcases ty with ⟨rfl, xs, hq⟩ | ⟨rfl, o, hk, hc, hd⟩ | ⟨rfl, hk⟩ | ⟨rfl, S, n, hk⟩
    · obtain ⟨its, _, pl, _⟩ := I.list hq
      refine ⟨pl.isList.typeIs, fun a e => ?_⟩
      cases e
      obtain ⟨o, n, e, c, hd, _⟩ := pl
      exact ⟨o, e, hd⟩
    · refine ⟨⟨o, I.kIn p o hk, hc⟩, fun a e => ?_⟩
      cases e
      exact ⟨o, I.kIn _ o hk, hd⟩
    · have z : ∃ o, s.heap.get? p = some o ∧ o.ExactDict := by
        rcases hk with ⟨kvs, hk⟩ | ⟨kvs, hk⟩
        · obtain ⟨_, _, _, _, o, _, _, e, ex, _⟩ := I.hok p _ hk
          exact ⟨o, e, ex⟩
        · obtain ⟨_, _, _, _, o, _, _, e, ex, _⟩ := I.hok p _ hk
          exact ⟨o, e, ex⟩
      obtain ⟨o, e, ex⟩ := z
      refine ⟨⟨o, e, ex.1⟩, fun a e2 => ?_⟩
      cases e2
      exact ⟨o, e, ex.2.1⟩
    · obtain ⟨o, _, _, _, e, ex, _⟩ := I.hok p _ hk
      refine ⟨⟨o, e, ex.1⟩, fun a e2 => ?_⟩
      cases e2
      exact ⟨o, e, ex.2.1⟩
  | _ => exact False.elim ty
def tBM (K : PySem.W.Frag) (T : String) (r : V → List V → Hp → VK → Prop) (to : TE) (t : TA) : TE := fun σ H Q => to σ H fun x H1 => tyV K T x H1 ∧ t σ H1 fun xs H2 => r x xs H2 Q
variable {o e : Expr} {es : List Expr} {to : TE} {t : TA} {name : Str} {apos cpos : Pos} {T id : String} {r : V → List V → Hp → VK → Prop}
theorem pe_bm (pa : PlainAttrs T) (slot : Slot T name id) (hty : typeOf (.builtin id) = pure (.type "method_descriptor")) (hm : MtR X id r) (ho : PE X o to) (ha : PA X (e :: es) t)
    (hbase : attributeBase o name X.env (eval o X.env) = eval o X.env := by rfl)
    (hfew : ((backTo cpos (starEach (e :: es) X.env)).all (fun x => !x.1) && (backToKw cpos (keywordEach [] X.env)).all (fun x => x.1.isSome)
      && decide ((e :: es).length + ([] : List Keyword).length + (if ([] : List Keyword).isEmpty then 0 else 1) < 30)) = true := by rfl)
    (hline : (apos.endLine == cpos.line) = true := by rfl) (hs : starEach (e :: es) X.env = (false, eval e X.env) :: starEach es X.env := by rfl) (hplain : (backTo cpos (starEach es X.env)).any (·.1) = false := by rfl) :
    PE X (.Call (.Attribute o name apos) (e :: es) [] cpos) (tBM X.K T r to t) := by
  intro pins s σ H Q I h
  refine wpAny_Call_method_late hbase hfew hline rfl (thn (ho pins s σ H _ I h) fun v s1 ⟨x, H1, I1, r1, ty, q1⟩ => ?_)
  obtain ⟨h1, h2⟩ := tyV_is I1 r1 ty
  refine ⟨T, id, pa, slot, hty, h1, h2, ?_⟩
  have hA := ha cpos pins s1 σ H1 _ I1 q1
  rw [hs] at hA ⊢
  refine Calls.callWith_builtin (by show (false || (backTo cpos (starEach es X.env)).any (·.1)) = false; rw [hplain] <;> rfl) (Calls.evalArgs_plain ?_)
  exact thn hA fun us s2 ⟨vs, H2, I2, r2, q2⟩ => hm pins s2 σ H2 x vs v us Q I2 r1 r2 q2
/- xs.append(e), list.index on a module's tuple .. are MtR facts of 06m -/
end
end L2
namespace L2
open PySem PySem.Spec PyProof.Rows
def MtM (X : Cx) (id : String) (r : V → List V → Hp → VK → Prop) : Prop :=
  ∀ (pins : List (Addr × Obj)) (s : Shared) (σ : St) (H : Hp) (x : V) (xs : List V) (v : Value) (us : List Value) (Q : VK), Inv X pins σ H s → RelV x v → Vals xs us → r x xs H Q →
    wpAny (model X.prog X.w) X.A (call (.builtin id) (v :: us)) (EP X pins σ Q) X.xe s
/-! ### lists of values -/
theorem Vals.one : ∀ {x : V} {us : List Value}, Vals [x] us → ∃ u, us = [u] ∧ RelV x u
  | _, _, .cons r .nil => ⟨_, rfl, r⟩
theorem Vals.two : ∀ {x y : V} {us : List Value}, Vals [x, y] us → ∃ u v, us = [u, v] ∧ RelV x u ∧ RelV y v
  | _, _, _, .cons r (.cons q .nil) => ⟨_, _, rfl, r, q⟩
theorem Vals.reverse {xs : List V} {us : List Value} (h : Vals xs us) : Vals xs.reverse us.reverse := by
  induction h with
  | nil => exact .nil
  | cons r t ih => rw [List.reverse_cons, List.reverse_cons]; exact Vals.append ih (.cons r .nil)
section
variable {X : Cx} {pins : List (Addr × Obj)} {σ : St} {H : Hp} {s : Shared} {l b : Addr} {xs ys zs : List V}
/-! ### the two steps: a tracked list is rewritten, a new list is laid -/
theorem Inv.lset {its its' : List Value} {n : Nat} {f : Array Value → Array Value} {t' : Nat} (I : Inv X pins σ H s) (hH : H l = some (.lst xs))
    (e : s.heap.get? l = some { cls := .type "list", data := .seq its.toArray n }) (hf : f its.toArray = its'.toArray) (hv : Vals ys its') (hz : ys.length ≤ sizeLine) :
    Inv X pins σ (upd H l (.lst ys)) { s with heap := s.heap.update l (Obj.mapSeq f), toks := t' } := by
  have q := PySem.IsL.update e f
  rw [hf] at q
  refine I.write (x := l) (e := l) (by rw [hH]; exact trivial) (.inl rfl) (fun b' u hb hu => (Heap.get?_update_other s.heap (Obj.mapSeq f) (Ne.symm hb)).trans hu) ⟨_, q⟩ ?_
  exact ⟨hz, its', _, hv, q⟩
theorem Inv.lnew {its : List Value} {t' : Nat} (I : Inv X pins σ H s) (hv : Vals ys its) (hz : ys.length ≤ sizeLine) :
    Inv X pins σ (upd H s.heap.objs.size (.lst ys)) { s with heap := s.heap.push { cls := .type "list", data := .seq its.toArray }, toks := t' } :=
  I.laid (fun _ _ q => Heap.get?_push_of_some _ q) (Nat.le_refl _) ⟨hz, its, 0, hv, Heap.get?_push_size _ rfl⟩
theorem Inv.fresh (I : Inv X pins σ H s) : H s.heap.objs.size = none := I.hok.fresh (Nat.le_refl _)
theorem Inv.lstM (I : Inv X pins σ H s) (hH : H l = some (.lst xs)) : xs.length ≤ sizeLine ∧ ∃ (its : List Value) (n : Nat), Vals xs its ∧ xs.length = its.length ∧ s.heap.get? l = some { cls := .type "list", data := .seq its.toArray n } := by
  obtain ⟨z, its, n, r, e⟩ := I.hok l _ hH
  exact ⟨z, its, n, r, r.length, e⟩
theorem notLongL {n : Nat} (h : n ≤ sizeLine) : Builtin.List.listTooLong n = false := by
  unfold Builtin.List.listTooLong
  exact decide_eq_false (by omega)
end
section
variable {X : Cx}
/-! ### methods -/
def rAppend : V → List V → Hp → VK → Prop := fun x vs H Q => ∃ l xs y, x = .ref l ∧ vs = [y] ∧ H l = some (.lst xs) ∧ xs.length < sizeLine ∧ Q .non (upd H l (.lst (xs ++ [y])))
theorem mt_append : MtM X "list.append" rAppend := by
  intro pins s σ H x vs v us Q I rx rv h
  obtain ⟨l, xs, y, rfl, rfl, hH, hz, q⟩ := h
  cases rx
  obtain ⟨u, rfl, ru⟩ := rv.one
  obtain ⟨z, its, n, r, hl, e⟩ := I.lstM hH
  refine call_meets F.slot_list_append ⟨_, e, rfl⟩ F.entry_list_append (F.args_list_append_2 _ _) (PySem.list_append l its.toArray n u (by rw [List.size_toArray]; omega)) ⟨e, ?_⟩
  refine ⟨.non, _, I.lset (its' := its ++ [u]) hH e (by simp) (r.append (.cons ru .nil)) ?_, rfl, q⟩
  rw [List.length_append, List.length_singleton]
  omega
def rExtend : V → List V → Hp → VK → Prop := fun x vs H Q => ∃ l b xs zs, x = .ref l ∧ vs = [.ref b] ∧ H l = some (.lst xs) ∧ H b = some (.lst zs) ∧ xs.length + zs.length ≤ sizeLine ∧ Q .non (upd H l (.lst (xs ++ zs)))
theorem mt_extend : MtM X "list.extend" rExtend := by
  intro pins s σ H x vs v us Q I rx rv h
  obtain ⟨l, b, xs, zs, rfl, rfl, hH, hB, hz, q⟩ := h
  cases rx
  obtain ⟨u, rfl, ru⟩ := rv.one
  cases ru
  obtain ⟨z, its, n, r, hl, e⟩ := I.lstM hH
  obtain ⟨z2, its2, n2, r2, hl2, e2⟩ := I.lstM hB
  have hsz : its.toArray.size + its2.toArray.size ≤ sizeLine := by rw [List.size_toArray, List.size_toArray]; omega
  have hlong : ¬ (!its.toArray.isEmpty && Builtin.List.listTooLong (its.toArray.size + its2.toArray.size)) = true := by
    rw [notLongL hsz, Bool.and_false]
    exact Bool.false_ne_true
  refine call_meets F.slot_list_extend ⟨_, e, rfl⟩ F.entry_list_extend (F.args_list_extend_2 _ _)
    (AutoSeq1.list_extend_list_list_0 l its.toArray n b its2.toArray n2 hlong (by rw [List.size_toArray]; omega) (by omega)) ⟨e, e2, ?_⟩
  refine ⟨.non, _, I.lset (its' := its ++ its2) hH e (by simp) (r.append r2) ?_, rfl, q⟩
  rw [List.length_append]
  omega
/-! ### list + list, list += list, list * int -/
def rCat : R2 := fun x y H Q => ∃ l b xs zs, x = .ref l ∧ y = .ref b ∧ H l = some (.lst xs) ∧ H b = some (.lst zs) ∧ xs.length + zs.length ≤ sizeLine ∧ ∀ p, H p = none → Q (.ref p) (upd H p (.lst (xs ++ zs)))
theorem op_cat : OpR X (binaryOp .Add) rCat := by
  intro pins s σ H x y v u Q I rx ry h
  obtain ⟨l, b, xs, zs, rfl, rfl, hH, hB, hz, q⟩ := h
  cases rx
  cases ry
  obtain ⟨z, its, n, r, hl, e⟩ := I.lstM hH
  obtain ⟨z2, its2, n2, r2, hl2, e2⟩ := I.lstM hB
  refine PySem.P.add_list e e2 ?_ (by rw [List.size_toArray, List.size_toArray]; omega)
  have ea : its.toArray ++ its2.toArray = (its ++ its2).toArray := by simp
  rw [ea]
  exact ⟨.ref _, _, I.lnew (t' := s.toks) (r.append r2) (by rw [List.length_append]; omega), rfl, q _ I.fresh⟩
/-! ### del xs[i] -/
end
/-! ### xs[a:b] = ys -/
section
variable {prog : Program} {w : World} {A : Around} {E : Value → Shared → Prop} {s : Shared}
end
section
variable {X : Cx}
end
end L2
namespace Att
open PySem PySem.W PySem.Calls PyProof.Rows
/-! ### the script -/
theorem ints_of_wellAll {P : Params} {h : Heap} : ∀ (ns : List Int) (vs : List Value), WellAll P h vs (ns.map WData.int) → IntsAre vs ns := by
  intro ns
  induction ns with
  | nil =>
    intro vs w
    rw [List.map_nil] at w
    cases w
    exact .nil
  | cons n ns ih =>
    intro vs w
    rw [List.map_cons] at w
    cases w with
    | cons a b =>
      cases a
      exact .cons _ _ (ih _ b)
theorem script_of {l : OpenLaw} {n : Nat} (hn : l.most = some n) {P : Params} {h : Heap} {args : List WData} {vals : List Value}
    (hpre : l.row.toRowW.claim.pre args = true) (hwl : WellAll P h vals args) :
    ∃ a vs ns, vals = [Value.ref a] ∧ args = [WData.list (ns.map WData.int)] ∧ h.get? a = some { cls := .type "list", data := .seq vs.toArray } ∧ IntsAre vs ns ∧ ns.length ≤ n := by
  have hsh : WShape.hasAll [] args [.list .int] = true := (pre_splitW hpre).1
  have hc : l.pre.holds [] { args := args } = true := (pre_splitW hpre).2
  obtain ⟨d, r, rfl, h1, h2⟩ := hasAllW_cons hsh
  obtain rfl := hasAllW_nil h2
  obtain ⟨xs, rfl, h3⟩ := hasW_list h1
  obtain ⟨ns, rfl⟩ := items_int h3
  have hlen : ns.length ≤ n := by
    unfold OpenLaw.pre at hc
    have h4 : (WTm.not (.lt (.lit (.int (n : Int))) (.len (.arg 0)))).holds [] { args := [.list (ns.map .int)] } = true := by
      have h4 := (holds_andW hc).1
      rw [hn] at h4
      exact h4
    have h5 := condW_of h4 (w_not (w_lt w_lit (w_len_list (w_arg rfl))))
    rw [List.length_map] at h5
    refine Nat.le_of_not_lt fun q => ?_
    have q' : (n : Int) < ((ns.length : Nat) : Int) := by omega
    first
      | (rw [decide_eq_true q'] at h5; exact absurd h5 (by decide))
      | (simp at h5; omega)
  cases hwl with
  | cons w1 w2 =>
    cases w2
    cases w1 with
    | list ho hall => exact ⟨_, _, ns, rfl, rfl, ho, ints_of_wellAll ns _ hall, hlen⟩
theorem post_true (l : OpenLaw) (args : List WData) : l.row.toRowW.claim.post args (.bool true) args = true :=
  postW_of (r := l.row.toRowW) (X := (true == true))
    (show WShape.has [] (.bool true) .bool = true by first | rfl | decide | simp [WShape.has, WShape.arms, WShape.armsAll])
    (show (WTm.eq .res (.lit (.bool true))).value [] { args := args, res := some (.bool true), after := args } = some (.bool (true == true)) from w_eq_bool (w_res rfl) w_lit) rfl
/-! ### the attachment: holds_open's last premise (the goal 'hc' behind k_head) from a wpAny of the law's body -/
/-- the same from a codeAny of the CALL (for a layer whose function contracts speak of calls) -/
theorem attach_call {l : OpenLaw} {n : Nat} {q : Program} {loose : List Str} {XP : (Str → Option Value) → Heap → Prop} {YP : World → Heap → Prop} {d : DefRec}
    (hn : l.most = some n) (hdf : d.params.defaults = [])
    (call : ∀ (w : World) (s₀ s₁ : Shared) (mg mb : Str → Option Value) (fa : Addr) (o : Obj) (pm cd doc : Value) (a : Addr) (vs : List Value) (ns : List Int),
      Ground q loose [] XP w s₀ mg mb s₁.heap → YP w s₁.heap →
      s₁.heap.get? fa = some o → o.data = .func (docDef d.name d.params d.body d.scope pm cd doc) → s₁.heap.CodeRec cd d.name → mg d.name = some (.ref fa) →
      s₁.heap.get? a = some { cls := .type "list", data := .seq vs.toArray } → IntsAre vs ns → ns.length ≤ n → s₁.gens = #[] →
      codeAny (model l.prog w) callerA (.call (.ref fa) ⟨[.ref a], []⟩) (fun r s' => r = .ok (.ret (.bool true)) ∧ OldK s₁.heap s'.heap ∧ s'.os = s₁.os ∧ AllBare s'.gens) s₁) :
    WalkO q loose XP YP l.row.toRowW d [] (fun f vs => PySem.call f vs) := by
  intro w s₀ s₁ mg mb G Y fa o pm cd doc dV kV ho hd hcd hD hmg hg args vals as hpre hlay hrd hwl hlo
  obtain rfl : dV = .none := Dflts.none hD hdf
  obtain rfl : kV = .none := Dflts.noKw hD
  obtain ⟨a, vs, ns, rfl, rfl, hobj, hints, hlen⟩ := script_of hn hpre hwl
  refine enter_call (codeAny_mono (call w s₀ s₁ mg mb fa o pm cd doc a vs ns G Y ho (fd_plain hd) hcd hmg hobj hints hlen hg) fun r s' hq => ?_)
  obtain ⟨rfl, h2, h3, h4⟩ := hq
  exact ⟨.inl ⟨.bool true, .bool true, [], rfl, fun _ => rfl, .bool true, post_true l _, fun _ => ⟨List.Pairwise.nil, fun _ hm => (nomatch hm)⟩⟩, h2, h3, h4⟩
/-! ### rules over ANY heap (no ledger) from facts about the written part K: the library's own take a ledger (News) for what they write -/
section
variable {prog : Program} {w : World} {A : Around} {E : Value → Shared → Prop} {s : Shared} {K : Frag}
/-! the whole heap as the ledger: makes every rule that writes through a ledger a rule over any heap -/
end
end Att
namespace L2
open PySem PySem.Spec PyProof.Rows
theorem vals_ints : ∀ {vs : List Value} {ns : List Int}, IntsAre vs ns → Vals (ns.map V.int) vs
  | _, _, .nil => .nil
  | _, _, .cons n t h => .cons ⟨t, rfl⟩ (vals_ints h)
/-- nothing is tracked but the script, known to the object (or it is an object of the module) -/
def Only (H : Hp) : Prop := ∀ b, H b = none ∨ ∃ o xs, H b = some (.frz o (.lst xs))
/-- THE HEAD: the law's promise, at the heap behind the top. F, the promise of the law's def, may use that base is part of the heap (so K.In base, base.Ns mainGlobals mg stand in Mod) -/
theorem law_call {P : Program} {w : World} {K : PySem.W.Frag} {mg mb : Str → Option Value} {CX : CXT} {k : Nat} {fa a : Addr} {fd : FuncData} {x : Str} {sp : Sp} {s₁ : Shared} {vs : List Value} {ns : List Int}
    (KX : K.In s₁.heap) (hns : s₁.heap.Ns mainGlobals mg) (hb : s₁.heap.Ns builtinsNs mb) (hbb : ∀ x : Str, x ≠ "__name__" → mb x = bootBuiltins x) (hlim : s₁.heap.NoLimit) (hg : s₁.gens = #[])
    (ha : s₁.heap.get? a = some { cls := .type "list", data := .seq vs.toArray }) (hi : IntsAre vs ns) (hl : ns.length ≤ sizeLine) (hr : Room k callerA)
    (F : ∀ base : Heap, K.In base → base.Ns mainGlobals mg → FnOk P w K mg base CX k fa fd [x] sp) (hbind : ∀ (s : Shared) (u : Value), BindsTo s fd ⟨[u], []⟩ [(x, u)])
    (hsp : ∀ H : Hp, Only H → SqL K H a (ns.map V.int) → sp [.ref a] H (fun v _ => v = .bl true) fun _ _ _ => False)
    (hCX : ∀ H e s', CX [] H s₁ (fun _ _ _ => False) e s' → False) :
    codeAny (model P w) callerA (.call (.ref fa) ⟨[.ref a], []⟩) (fun r s' => r = .ok (.ret (.bool true)) ∧ OldK s₁.heap s'.heap ∧ s'.os = s₁.os ∧ AllBare s'.gens) s₁ := by
  have rv := vals_ints hi
  have lenV := hi.length
  -- from an abstract heap in which nothing but the script may be tracked
  have core : ∀ H : Hp, Only H → SqL K H a (ns.map V.int) → HOk P w H s₁.heap → (∀ b, H b ≠ none → b = a) → (H a ≠ none → K.lookup a = none) →
      codeAny (model P w) callerA (.call (.ref fa) ⟨[.ref a], []⟩) (fun r s' => r = .ok (.ret (.bool true)) ∧ OldK s₁.heap s'.heap ∧ s'.os = s₁.os ∧ AllBare s'.gens) s₁ := by
    intro H hO hS hok hA hK
    have base_of : ∀ {b : Addr} {o : Obj}, s₁.heap.get? b = some o → H b = none → (hidT s₁.heap H).get? b = some o := fun e n => hidT_get e n
    have noA : ∀ {b : Addr} {o : Obj} {es : Array DictEntry} {ep : Nat}, s₁.heap.get? b = some o → o.data = .dict es ep → H b = none := fun {b o es ep} e d => by
      cases q : H b with
      | none => rfl
      | some u =>
        have e' : b = a := hA b (by rw [q]; simp)
        subst e'
        rw [ha] at e; cases e
        have d' : Data.seq vs.toArray _ = Data.dict es ep := d
        cases d'
    have nsK : ∀ {b : Addr} {m : Str → Option Value}, s₁.heap.Ns b m → (hidT s₁.heap H).Ns b m := fun {b m} ⟨o, es, ep, e, d, r⟩ => ⟨o, es, ep, base_of e (noA e d), d, r⟩
    have hKb : K.In (hidT s₁.heap H) := fun b o e => base_of (KX b o e) (by
      cases q : H b with
      | none => rfl
      | some u =>
        have e' : b = a := hA b (by rw [q]; simp)
        subst e'
        rw [hK (by rw [q]; simp)] at e; cases e)
    have hM : Mod K mg (hidT s₁.heap H) := ⟨hKb, nsK hns, ⟨mb, nsK hb, hbb⟩, let ⟨mc, h1, h2⟩ := hlim; ⟨mc, nsK h1, h2⟩⟩
    have e0 : Env0 P w K mg (hidT s₁.heap H) callerA [] s₁ H := ⟨rfl, hM, fun b o e => of_hidT e, Nat.le_of_eq (hidT_size _ _), trivial, fun b hb => absurd (show b ∈ ([] : List Addr) from hb) (by simp), hok, .of_eq hg⟩
    refine codeAny_mono ((F _ hKb (nsK hns)).run callerA [] s₁ H ⟨[.ref a], []⟩ [.ref a] [.ref a] _ _ hr e0 (hbind s₁ (.ref a)) (.cons rfl .nil) (hsp H hO hS)) fun r s' h => ?_
    cases r with
    | error e => exact (hCX H e s' h).elim
    | ok fl =>
      cases fl with
      | next => exact False.elim h
      | brk => exact False.elim h
      | cont => exact False.elim h
      | ret u =>
        obtain ⟨v, H', os, bare, un, hok', r', q⟩ := h
        have q' : v = .bl true := q
        subst q'
        obtain rfl : u = Value.bool true := r'
        refine ⟨rfl, OldK.of_keep fun b o e => ?_, os, bare⟩
        cases q : H b with
        | none => exact un.keep b o e q (by intro z; exact absurd (show b ∈ ([] : List Addr) from z) (by simp)) (by simp)
        | some u =>
          rcases hO b with z | ⟨ob, xs, z⟩
          · rw [q] at z; cases z
          · have z2 := un.frzs b ob _ z
            obtain ⟨e1, _⟩ := hok b _ z
            obtain ⟨e2, _⟩ := hok' b _ z2
            rw [e] at e1; cases e1
            exact e2
  cases hk : K.lookup a with
  | some o =>
    -- the script is one of the module's own objects
    have e := KX a o hk
    rw [ha] at e
    cases e
    refine core (fun _ => none) (fun _ => .inl rfl) (.inr ⟨_, vs.toArray, _, hk, rfl, rfl, rfl, by rw [List.size_toArray, lenV]; exact hl, by simpa using rv⟩) (fun b u z => by have z' : (none : Option HO) = some u := z; cases z') (fun b z => absurd rfl z) fun z => absurd rfl z
  | none =>
    refine core (fun b => if b = a then some (.frz { cls := .type "list", data := .seq vs.toArray } (.lst (ns.map V.int))) else none) (fun b => ?_) (.inl (.inr ⟨{ cls := .type "list", data := .seq vs.toArray }, if_pos rfl⟩)) (fun b u z => ?_) (fun b z => ?_) fun _ => hk
    · by_cases hb : b = a
      · exact .inr ⟨_, _, if_pos hb⟩
      · exact .inl (if_neg hb)
    · by_cases hb : b = a
      · have z' := (if_pos hb).symm.trans z
        cases z'
        subst hb
        exact ⟨ha, by rw [List.length_map]; exact hl, vs, _, rv, ha⟩
      · have z' := (if_neg hb).symm.trans z
        cases z'
    · by_cases hb : b = a
      · exact hb
      · exact absurd (if_neg hb) z
end L2
namespace L2
open PySem PySem.Spec PyProof.Rows
/-- the goal that k_head leaves (case hc), from the law's promise. F gives the function object fd (K's own) once, then the promise over every base -/
theorem walk_of {l : PySem.W.OpenLaw} {n k : Nat} {q : Program} {loose : List Str} {XP : (Str → Option Value) → Heap → Prop} {YP : World → Heap → Prop} {d : DefRec} {K : Params → PySem.W.Frag} {CX : World → CXT} {sp : World → Sp} {x : Str}
    (hn : l.most = some n) (hn2 : n ≤ sizeLine) (hdf : d.params.defaults = []) (hr : Room k callerA)
    (hY : ∀ (w : World) (h : Heap), YP w h → (K w.params).In h)
    (F : ∀ (w : World) (mg : Str → Option Value) (fa : Addr) (h : Heap), (K w.params).In h → h.Ns mainGlobals mg → mg d.name = some (.ref fa) →
      ∃ fd : FuncData, (∀ (s : Shared) (u : Value), BindsTo s fd ⟨[u], []⟩ [(x, u)]) ∧
        ∀ base : Heap, (K w.params).In base → base.Ns mainGlobals mg → FnOk l.prog w (K w.params) mg base (CX w) k fa fd [x] (sp w))
    (hsp : ∀ (w : World) (H : Hp) (a : Addr) (ns : List Int), ns.length ≤ n → Only H → SqL (K w.params) H a (ns.map V.int) → sp w [.ref a] H (fun v _ => v = .bl true) fun _ _ _ => False)
    (hCX : ∀ (w : World) (H : Hp) (s : Shared) (e : Value) (s' : Shared), CX w [] H s (fun _ _ _ => False) e s' → False) :
    PySem.W.WalkO q loose XP YP l.row.toRowW d [] (fun f vs => PySem.call f vs) := by
  refine Att.attach_call hn hdf fun w s₀ s₁ mg mb fa o pm cd doc a vs ns G Y ho hd hcd hmg hobj hints hlen hg => ?_
  have KX := hY w _ Y
  obtain ⟨fd, hb, hF⟩ := F w mg fa _ KX G.T.g hmg
  exact law_call KX G.T.g G.T.b G.T.builtins G.T.nolimit hg hobj hints (Nat.le_trans hlen hn2) hr hF hb (fun H hO hS => hsp w H a ns hlen hO hS) fun H e s' => hCX w H s₁ e s'
end L2
/- THE LAST THEOREM (shape; LID, My.* are yours):
   My.Adr: a structure of the addresses that your layer names (classes, functions); My.Txt K t: a structure (Prop) of the equations over K;
   My.txt_mk : {K} {implicit addresses ..} (e1 : nsIn K mainGlobals "law" = some (some (.ref f))) (e2 : K.lookup f = some ⟨oc, od, .func (fnOf "law" "law" params body scope dV kV doc pm an cdv ct), sl⟩) (e3 : codeIn K cdv "law" = true) .. : ∃ t, My.Txt K t
set_option maxRecDepth 100000 in
set_option maxHeartbeats 0 in
theorem PySem.Challenge.cw_LID_holds : PySem.Challenge.rw_LID.Holds := by
  w_on; o_law; k_head; (case hw => w_witness2)
  k_fill
  refine L2.walk_of (l := PySem.Challenge.rw_LID) (n := 63) (k := 40) (x := "script") (CX := fun w => ..) (sp := fun _ => My.sp_law) rfl (by decide) rfl ⟨rfl, by decide, by decide⟩ (fun w h Y => PySem.W.kIn_of Y) ?F ?S ?C
  case F =>
    intro w mg fa h KX G hmg
    have T : ∃ t, My.Txt (L2.KOf KX) t := by
      dsimp only [L2.KOf]                          -- K must stand as «<heap const> w.params» for k_is
      refine' My.txt_mk ?e1 ?e2 ?e3 ..
      (case e1 => PySem.W.k_is)                    -- in the order: a name -> its address -> its object -> its parts
      (case e2 => PySem.W.k_is)
      ..
    obtain ⟨t, T⟩ := T
    have e0 := hmg.symm.trans (PySem.W.mg_of KX G T.law)
    cases e0                                       -- fa is the law's own address
    exact ⟨_, fun s u => .of_eq rfl, fun base kb nb => My.law_fn T kb nb⟩     -- if «.of_eq rfl» comes too early: refine' ⟨_, ?b, fun base kb nb => My.law_fn T kb nb⟩; exact fun s u => .of_eq rfl
  case S => exact fun w H a ns hl hO hS => ..
  case C => exact ..
(the tactic k_is has no namespace: write k_is) -/
/-! SHORT WORDS over the layer: a def of the text, its body, what a loop and a test want. -/
namespace L2
open PySem PySem.Spec PyProof.Rows
/-! ### the text by places -/
def defArgs (s : Stmt) : Arguments := match s with
  | .FunctionDef _ a _ _ _ _ _ _ _ _ => a
  | _ => { posonlyargs := [], args := [], vararg := none, kwonlyargs := [], kw_defaults := [], kwarg := none, defaults := [] }
def defBody (s : Stmt) : List Stmt := match s with
  | .FunctionDef _ _ b _ _ _ _ _ _ _ => b
  | _ => []
def defScope (s : Stmt) : Scope := match s with
  | .FunctionDef _ _ _ _ _ _ sc _ _ _ => sc
  | _ => { kind := .function, names := [], isGenerator := false, isCoroutine := false }
/-! ### no exception leaves a def -/
abbrev CX0 : CXT := fun _ _ _ _ _ _ => False
abbrev E0 : XK := fun _ _ _ => False
theorem pass0 {X : Cx} : Passes CX0 X E0 := fun _ _ _ _ _ _ _ h => h.elim
/-! ### a def (or method) of the text as it stands behind the top -/
structure Fun (K : PySem.W.Frag) (x qual : Str) (st : Stmt) (f : Addr) (fd : FuncData) : Prop where
  ex : ∃ (oc : Value) (od : Option Addr) (kV doc pm : Value) (an : Option Addr) (cdv ct : Value) (osl : Array (Option Value)),
    fd = PySem.W.fnOf x qual (defArgs st) (defBody st) (defScope st) .none kV doc pm an cdv ct ∧ K.lookup f = some ⟨oc, od, .func fd, osl⟩ ∧ PySem.W.codeIn K cdv qual = true
  kp : PySem.W.keepIn K (.ref f) = true
section
variable {P : Program} {w : World} {K : PySem.W.Frag} {mg : Str → Option Value} {base : Heap}
/-- THE RULE for a def: its body as a term of rules, and the reading of that term -/
theorem Fun.ok {x qual : Str} {st : Stmt} {f : Addr} {fd : FuncData} {N ps : List Str} {k : Nat} {sp : Sp} (F : Fun K x qual st f fd) (S : FnScope N ps (defScope st)) (len : ∀ vs H Q E, sp vs H Q E → vs.length = ps.length)
    (hbody : ∀ (cdv : Value) (A : Around) (outer : List Env) (s : Shared) (H : Hp) (vs : List V) (Q : VK) (E : XK), Room k (A.deeper (envOfC qual (defScope st) s.heap.objs.size f cdv)) → sp vs H Q E →
      ∃ t, PSs (cxOf CX0 P w K mg base N qual (defScope st) f cdv A outer s H E).nox (defBody st) t ∧ t { nx := fun _ H' => Q .non H', rt := Q } (start N vs) H) : FnOk P w K mg base CX0 (k + 1) f fd ps sp := by
  obtain ⟨oc, od, kV, doc, pm, an, cdv, ct, osl, rfl, lk, hcd⟩ := F.ex
  refine fn_of lk hcd S len fun A outer s H vs Q E hr hsp => ?_
  obtain ⟨t, h, q⟩ := hbody cdv A outer s H vs Q E hr hsp
  exact ⟨t, h.nox, q⟩
/-- how its arguments bind (no defaults): h is «fun _ _ _ _ _ _ us hl => match us, hl with | [_, _], _ => rfl», one _ a parameter -/
theorem Fun.binds {x qual : Str} {st : Stmt} {f : Addr} {fd : FuncData} {ps : List Str} (F : Fun K x qual st f fd)
    (h : ∀ (kV doc pm : Value) (an : Option Addr) (cdv ct : Value) (us : List Value), us.length = ps.length → bindArgs (PySem.W.fnOf x qual (defArgs st) (defBody st) (defScope st) .none kV doc pm an cdv ct) ⟨us, []⟩ = pure (ps.zip us)) : Binds K fd ps [] := by
  obtain ⟨oc, od, kV, doc, pm, an, cdv, ct, osl, rfl, lk, hcd⟩ := F.ex
  exact .all (h kV doc pm an cdv ct)
theorem fun_mk {x qual : Str} {st : Stmt} {f : Addr} {oc : Value} {od an : Option Addr} {osl : Array (Option Value)} {kV doc pm cdv ct : Value} (l : K.lookup f = some ⟨oc, od, .func (PySem.W.fnOf x qual (defArgs st) (defBody st) (defScope st) .none kV doc pm an cdv ct), osl⟩)
    (c : PySem.W.codeIn K cdv qual = true) (k : PySem.W.keepIn K (.ref f) = true) : Fun K x qual st f (PySem.W.fnOf x qual (defArgs st) (defBody st) (defScope st) .none kV doc pm an cdv ct) := ⟨⟨oc, od, kV, doc, pm, an, cdv, ct, osl, rfl, l, c⟩, k⟩
end
theorem hu_of {A : Around} {k : Nat} (hr : Room k A) : A.units + 1 < cLine := Nat.lt_of_le_of_lt (Nat.add_le_add_left (by decide : 1 ≤ 64) _) hr.units
theorem small1000 {n : Nat} (h : n ≤ 1000) : n < sizeLine := Nat.lt_of_le_of_lt h (by decide)
/-! ### expressions in short: the name that stands in the i-th slot -/
section
variable {X : Cx}
theorem pv (i : Nat) {x : Str} {pos : Pos} (hN : X.N[i]? = some x := by rfl) (hv : Vis X.env.scope x := by first | exact Or.inl rfl | exact Or.inr (Or.inl rfl) | exact Or.inr (Or.inr rfl)) (hd : (x == ("__debug__" : Str)) = false := by decide)
    (hcd : (x == ("__classdict__" : Str)) = false := by decide) : PE X (.Name x pos) (tVar i) := pe_var hN hv hd hcd
end
/-! ### tests -/
theorem iteF {A B : Prop} (h : B) : if false = true then A else B := by
  rw [if_neg Bool.false_ne_true]
  exact h
theorem iteT {A B : Prop} (h : A) : if true = true then A else B := by
  rw [if_pos rfl]
  exact h
theorem ite2 {c A B : Prop} [Decidable c] (h1 : c → A) (h2 : ¬ c → B) : if c then A else B := by
  by_cases h : c
  · rw [if_pos h]
    exact h1 h
  · rw [if_neg h]
    exact h2 h
/-! ### heaps -/
/-- all that was tracked is as it was -/
def Same (H H' : Hp) : Prop := ∀ b o, H b = some o → H' b = some o
theorem Same.refl (H : Hp) : Same H H := fun _ _ h => h
theorem Same.trans {H H1 H2 : Hp} (a : Same H H1) (b : Same H1 H2) : Same H H2 := fun c o h => b c o (a c o h)
theorem Same.free {H H' : Hp} (e : Same H H') {l : Addr} (h : H' l = Option.none) : H l = Option.none := by
  cases q : H l with
  | none => rfl
  | some o =>
    rw [e l o q] at h
    cases h
theorem Same.seq {K : PySem.W.Frag} {H H' : Hp} {a : Addr} {xs : List V} (e : Same H H') (h : SqL K H a xs) : SqL K H' a xs := by
  rcases h with (h | ⟨o, h⟩) | h
  · exact .inl (.inl (e _ _ h))
  · exact .inl (.inr ⟨o, e _ _ h⟩)
  · exact .inr h
end L2
set_option maxRecDepth 10000
namespace RS
/-! ### rows -/
/-! ### tables -/
theorem getD_some {r : List Int} {i : Nat} (h : i < r.length) : r[i]? = some (r.getD i 0) := by
  rw [List.getD_eq_getElem?_getD, List.getElem?_eq_getElem h]; rfl
/-! ### a row of numbers becomes a table -/
end RS
set_option maxRecDepth 10000
namespace RS
theorem set_getD {r : List Int} {i : Nat} (h : i < r.length) : r.set i (r.getD i 0) = r := by
  apply List.ext_getElem?
  intro j
  rw [List.getElem?_set]
  split
  · next e => subst e; first | (rw [if_pos h]; exact (getD_some h).symm) | exact (getD_some h).symm
  · rfl
/-! ### reading out -/
end RS
set_option maxRecDepth 10000
namespace RS
/-! ### one line as a machine: letters in, bumped letters out -/
/-! ### lines without equal numbers, as sets -/
/-! ### two letters change about: the lines stay, the letters that come out change about in the same way -/
end RS
set_option maxRecDepth 10000
namespace RS
/-! ### what stands in the line and what came out are the letters -/
/-! ### rows of numbers that are alike -/
/-! ### a row is alike what is read out of its table -/
/-! ### turned about -/
end RS
set_option maxRecDepth 10000
namespace RS
/-! ### columns -/
end RS
set_option maxRecDepth 10000
namespace RS
/-! ### places and numbers: points (place, number), put in from the left -/
/-! ### changed about: places for numbers -/
end RS
set_option maxRecDepth 10000
namespace RS
/-! ### table and marks together -/
/-! ### rows of numbers: their places from nought on -/
end RS
set_option maxRecDepth 10000
namespace RS
/-! ### the program's own test of a table, and the law's -/
def ngB (ns : List Int) : Bool := ((ns.zip (ns.drop 1)).map fun p => decide (p.2 ≤ p.1)).all id
def shB (ns : List Int) : Bool := ngB ns && (ns.map fun n => decide (1 ≤ n)).all id
/-! the program's test -/
theorem adjB {α : Type} (f : α → α → Bool) : ∀ (l : List α), ((l.zip (l.drop 1)).map fun p => f p.1 p.2).all id = true ↔ ∀ j x y, l[j]? = some x → l[j + 1]? = some y → f x y = true
  | [] => by simp
  | [a] => by
    simp only [List.drop_succ_cons, List.drop_nil, List.zip_nil_right, List.map_nil, List.all_nil, true_iff]
    intro j x y h1 h2
    simp at h2
  | a :: b :: l => by
    have ih := adjB f (b :: l)
    have e : ((a :: b :: l).zip ((a :: b :: l).drop 1)) = (a, b) :: ((b :: l).zip ((b :: l).drop 1)) := rfl
    rw [e, List.map_cons, List.all_cons, Bool.and_eq_true, ih]
    constructor
    · rintro ⟨h1, h2⟩ j x y hx hy
      cases j with
      | zero => simp at hx hy; subst hx hy; exact h1
      | succ j => exact h2 j x y (by simpa using hx) (by simpa using hy)
    · intro h
      exact ⟨h 0 a b rfl rfl, fun j x y hx hy => h (j + 1) x y (by simpa using hx) (by simpa using hy)⟩
/-! ### bumping line by line: what is done, and what comes to the rest -/
/-! ### marks -/
end RS
set_option maxRecDepth 10000
namespace RS
end RS
set_option Elab.async false
namespace RS
end RS
set_option Elab.async false
namespace RS
end RS
set_option Elab.async false
namespace RS
end RS
set_option Elab.async false
namespace RS
/-! ### columns, place by place -/
end RS
set_option Elab.async false
namespace RS
/-! ### marks are a table, each number once -/
/-! ### taking out: the number told stands in the first line -/
end RS
set_option Elab.async false
namespace RS
end RS
set_option Elab.async false
namespace RS
def crn (ns : List Int) : List Int := ((List.range ns.length).filter fun i => decide (ns.getD i 0 > (ns.drop 1 ++ [0]).getD i 0)).map fun (i : Nat) => (i : Int)
end RS
set_option Elab.async false
namespace RS
end RS
set_option Elab.async false
namespace RS
/-! ### sizes that run out -/
end RS
set_option Elab.async false
namespace RS
/-! ### rising and falling parts; the first line -/
end RS
set_option Elab.async false
namespace RS
/-! ### equal numbers told apart by their places: the shape stays -/
section
variable (f : Int → Int)
end
/-! ### numbers with their places -/
end RS
set_option Elab.async false
namespace RS
/-! ### a line put into the lines below it, one number left out: sliding -/
end RS
set_option Elab.async false
namespace RS
/-! ### the marks of a row without its first number -/
end RS
set_option Elab.async false
namespace RS
/-! ### the line that gets shorter -/
/-! ### the row turned about, every number on the other side of nought -/
end RS
set_option Elab.async false
namespace RS
/-! ### how many marks a shape has: the hooks -/
def sm (f : Nat → Int) : Nat → Int
  | 0 => 0
  | n + 1 => f 0 + sm (fun j => f (j + 1)) n
theorem sm_congr : ∀ {n : Nat} {f g : Nat → Int}, (∀ j, j < n → f j = g j) → sm f n = sm g n
  | 0, _, _, _ => rfl
  | n + 1, f, g, h => by rw [sm, sm, h 0 (by omega), sm_congr (n := n) fun j hj => h (j + 1) (by omega)]
theorem sm_lin : ∀ (n : Nat) (f g : Nat → Int) (a b : Int), sm (fun j => a * f j + b * g j) n = a * sm f n + b * sm g n
  | 0, _, _, _, _ => by simp [sm]
  | n + 1, f, g, a, b => by
    rw [sm, sm, sm, sm_lin n (fun j => f (j + 1)) (fun j => g (j + 1))]
    grind
def Pv (x : Int) : List Int → Int
  | [] => 1
  | y :: ys => (x - y) * Pv x ys
def Dv : List Int → Int
  | [] => 1
  | x :: xs => Pv x xs * Dv xs
def Qv (x : Int) (ys : List Int) (j : Nat) : Int := Pv x (ys.eraseIdx j)
theorem Pv_set (x v : Int) : ∀ (ys : List Int) (j : Nat), j < ys.length → Pv x (ys.set j v) = (x - v) * Qv x ys j
  | [], j, h => by simp at h
  | y :: ys, 0, _ => by simp [Pv, Qv]
  | y :: ys, j + 1, h => by
    have := Pv_set x v ys j (by simpa using h)
    simp only [List.set_cons_succ, Pv, Qv, List.eraseIdx_cons_succ] at this ⊢
    rw [this]
    grind
theorem Pv_at (x : Int) (ys : List Int) {j : Nat} (h : j < ys.length) : Pv x ys = (x - ys.getD j 0) * Qv x ys j := by
  have := Pv_set x (ys.getD j 0) ys j h
  rw [set_getD h] at this
  exact this
def dn (ys : List Int) (j : Nat) : List Int := ys.set j (ys.getD j 0 - 1)
theorem Pv_dn (x : Int) (ys : List Int) {j : Nat} (h : j < ys.length) : Pv x (dn ys j) = Pv x ys + Qv x ys j := by
  rw [dn, Pv_set x _ ys j h, Pv_at x ys h]
  grind
def Av (x : Int) (ys : List Int) : Int := sm (fun j => ys.getD j 0 * Qv x ys j * Dv (dn ys j)) ys.length
theorem Av_is : ∀ (ys : List Int) (x : Int), Av x ys = ((x - (ys.length : Int)) * Pv x ys - x * Pv (x - 1) ys) * Dv ys
  | [], x => by simp [Av, sm, Pv, Dv]
  | y :: ys, x => by
    have h1 := Av_is ys x
    have h2 := Av_is ys y
    have e : Av x (y :: ys) = y * Pv x ys * (Pv (y - 1) ys * Dv ys) + sm (fun j => ((x - y - 1) * Pv y ys) * (ys.getD j 0 * Qv x ys j * Dv (dn ys j)) + Pv x ys * (ys.getD j 0 * Qv y ys j * Dv (dn ys j))) ys.length := by
      unfold Av
      rw [List.length_cons, sm]
      congr 1
      refine sm_congr fun j hj => ?_
      have q1 : Qv x (y :: ys) (j + 1) = (x - y) * Qv x ys j := by simp [Qv, Pv]
      have q2 : dn (y :: ys) (j + 1) = y :: dn ys j := by simp [dn]
      have q3 : (y :: ys).getD (j + 1) 0 = ys.getD j 0 := by simp
      have q4 := Pv_dn y ys hj
      have q5 := Pv_at x ys hj
      have q6 := Pv_at y ys hj
      show (y :: ys).getD (j + 1) 0 * Qv x (y :: ys) (j + 1) * Dv (dn (y :: ys) (j + 1)) = _
      rw [q1, q2, q3]
      show _ * (Pv y (dn ys j) * Dv (dn ys j)) = _
      rw [q4]
      generalize ys.getD j 0 = t at *
      generalize Qv x ys j = a at *
      generalize Qv y ys j = b at *
      generalize Dv (dn ys j) = d at *
      rw [q5, q6]
      grind
    rw [e, sm_lin]
    show _ + (((x - y - 1) * Pv y ys) * Av x ys + Pv x ys * Av y ys) = _
    rw [h1, h2, List.length_cons, Pv, Pv, Dv]
    generalize Pv x ys = p
    generalize Pv y ys = q
    generalize Pv (x - 1) ys = r
    generalize Pv (y - 1) ys = t
    generalize Dv ys = d
    have : ((ys.length + 1 : Nat) : Int) = (ys.length : Int) + 1 := by omega
    rw [this]
    generalize (ys.length : Int) = m
    grind
def tri : Nat → Int
  | 0 => 0
  | k + 1 => tri k + k
def Ev (xs : List Int) : Int := sm (fun j => xs.getD j 0 * Dv (dn xs j)) xs.length
theorem Ev_is : ∀ (xs : List Int), Ev xs = (xs.sum - tri xs.length) * Dv xs
  | [] => by simp [Ev, sm, tri]
  | x :: xs => by
    have h1 := Ev_is xs
    have h2 := Av_is xs x
    have e : Ev (x :: xs) = x * (Pv (x - 1) xs * Dv xs) + sm (fun j => Pv x xs * (xs.getD j 0 * Dv (dn xs j)) + 1 * (xs.getD j 0 * Qv x xs j * Dv (dn xs j))) xs.length := by
      unfold Ev
      rw [List.length_cons, sm]
      congr 1
      refine sm_congr fun j hj => ?_
      have q2 : dn (x :: xs) (j + 1) = x :: dn xs j := by simp [dn]
      have q3 : (x :: xs).getD (j + 1) 0 = xs.getD j 0 := by simp
      have q4 := Pv_dn x xs hj
      show (x :: xs).getD (j + 1) 0 * Dv (dn (x :: xs) (j + 1)) = _
      rw [q2, q3]
      show _ * (Pv x (dn xs j) * Dv (dn xs j)) = _
      rw [q4]
      grind
    rw [e, sm_lin]
    show _ + (Pv x xs * Ev xs + 1 * Av x xs) = _
    rw [h1, h2, List.sum_cons, List.length_cons, tri, Dv]
    grind
/-! ### shapes -/
def fac : Nat → Int
  | 0 => 1
  | n + 1 => (n + 1 : Int) * fac n
theorem fac_pos : ∀ (n : Nat), 0 < fac n
  | 0 => by decide
  | n + 1 => by
    rw [fac]
    exact Int.mul_pos (by omega) (fac_pos n)
def lv : List Nat → List Int
  | [] => []
  | a :: m => ((a : Int) + (m.length : Int)) :: lv m
def pf : List Nat → Int
  | [] => 1
  | a :: m => fac (a + m.length) * pf m
theorem lv_len : ∀ (l : List Nat), (lv l).length = l.length
  | [] => rfl
  | a :: m => by simp [lv, lv_len m]
def dnN (l : List Nat) (i : Nat) : List Nat := l.set i (l.getD i 0 - 1)
theorem lv_dn : ∀ (l : List Nat) (i : Nat), 0 < l.getD i 0 → lv (dnN l i) = dn (lv l) i ∧ pf l = (lv l).getD i 0 * pf (dnN l i)
  | [], i, h => by simp at h
  | a :: m, 0, h => by
    have h : 0 < a := by simpa using h
    constructor
    · simp [dnN, lv, dn]; omega
    · simp only [dnN, lv, pf, List.set_cons_zero, List.getD_cons_zero]
      obtain ⟨b, rfl⟩ : ∃ b, a = b + 1 := ⟨a - 1, by omega⟩
      rw [show b + 1 + m.length = b + m.length + 1 by omega, fac, show b + 1 - 1 + m.length = b + m.length by omega]
      push_cast
      grind
  | a :: m, i + 1, h => by
    obtain ⟨h1, h2⟩ := lv_dn m i (by simpa using h)
    constructor
    · have : dnN (a :: m) (i + 1) = a :: dnN m i := by simp [dnN]
      rw [this, lv, h1]
      simp [lv, dn, dnN]
    · have : dnN (a :: m) (i + 1) = a :: dnN m i := by simp [dnN]
      rw [this, pf, pf, h2]
      have e : (dnN m i).length = m.length := by simp [dnN]
      rw [e]
      simp only [lv, List.getD_cons_succ]
      grind
def Niz : List Nat → Prop
  | [] => True
  | [_] => True
  | a :: b :: m => b ≤ a ∧ Niz (b :: m)
theorem Niz.tail {a : Nat} {m : List Nat} (h : Niz (a :: m)) : Niz m := by
  cases m with
  | nil => trivial
  | cons b m => exact h.2
theorem Niz.le {a : Nat} : ∀ {m : List Nat}, Niz (a :: m) → ∀ x ∈ m, x ≤ a
  | [], _, x, hx => by simp at hx
  | b :: m, h, x, hx => by
    rcases List.mem_cons.mp hx with e | e
    · rw [e]; exact h.1
    · have := Niz.le (a := b) h.2 x e
      have := h.1
      omega
theorem Pv_zero {x : Int} : ∀ {ys : List Int}, x ∈ ys → Pv x ys = 0
  | [], h => by simp at h
  | y :: ys, h => by
    rw [Pv]
    rcases List.mem_cons.mp h with e | e
    · rw [e]; simp
    · rw [Pv_zero e]; simp
theorem Dv_adj : ∀ {xs : List Int} {i : Nat} {x : Int}, xs[i]? = some x → xs[i + 1]? = some x → Dv xs = 0
  | [], i, _, h, _ => by simp at h
  | y :: ys, 0, x, h1, h2 => by
    have e : y = x := by simpa using h1
    rw [Dv, Pv_zero (x := y) (ys := ys) (by rw [e]; exact List.mem_of_getElem? (by simpa using h2))]
    simp
  | y :: ys, i + 1, x, h1, h2 => by
    rw [Dv, Dv_adj (xs := ys) (i := i) (x := x) (by simpa using h1) (by simpa using h2)]
    simp
theorem lv_at : ∀ {l : List Nat} {i : Nat}, i < l.length → (lv l)[i]? = some ((l.getD i 0 : Int) + ((l.length - 1 - i : Nat) : Int))
  | [], i, h => by simp at h
  | a :: m, 0, _ => by simp [lv]
  | a :: m, i + 1, h => by
    have := lv_at (l := m) (i := i) (by simpa using h)
    simp only [lv, List.getElem?_cons_succ, List.getD_cons_succ, List.length_cons]
    rw [this]
    congr 2
    simp only [List.length_cons] at h
    omega
theorem Niz.adj : ∀ {l : List Nat} {i : Nat}, Niz l → l.getD (i + 1) 0 ≤ l.getD i 0
  | [], i, _ => by simp
  | [a], i, _ => by simp
  | a :: b :: m, 0, h => by simpa using h.1
  | a :: b :: m, i + 1, h => by simpa using Niz.adj (l := b :: m) (i := i) h.2
theorem term_zero {l : List Nat} {i : Nat} (hn : Niz l) (hi : i < l.length) (hc : ¬ l.getD (i + 1) 0 < l.getD i 0) : (lv l).getD i 0 * Dv (dn (lv l) i) = 0 := by
  have hle := hn.adj (i := i)
  have hg := lv_at hi
  have hgd : (lv l).getD i 0 = (l.getD i 0 : Int) + ((l.length - 1 - i : Nat) : Int) := by rw [List.getD_eq_getElem?_getD, hg]; rfl
  by_cases h1 : i + 1 < l.length
  · have hg1 := lv_at h1
    have : Dv (dn (lv l) i) = 0 := by
      refine Dv_adj (i := i) (x := (lv l).getD i 0 - 1) ?_ ?_
      · rw [dn, List.getElem?_set_self (by rw [lv_len]; exact hi)]
      · rw [dn, List.getElem?_set_ne (by omega), hg1, hgd]
        congr 1
        omega
    rw [this]; simp
  · have h0 : l.getD (i + 1) 0 = 0 := by rw [List.getD_eq_getElem?_getD, List.getElem?_eq_none (by omega)]; rfl
    have : (lv l).getD i 0 = 0 := by rw [hgd]; omega
    rw [this]; simp
/-- the ways to take away corners until nothing is left -/
def nw : Nat → List Nat → Int
  | 0, _ => 1
  | n + 1, l => sm (fun i => if l.getD (i + 1) 0 < l.getD i 0 then nw n (dnN l i) else 0) l.length
theorem lv_sum : ∀ (l : List Nat), (lv l).sum - tri l.length = (l.sum : Int)
  | [] => rfl
  | a :: m => by
    have := lv_sum m
    simp only [lv, List.sum_cons, List.length_cons, tri]
    push_cast
    omega
theorem dnN_niz : ∀ {l : List Nat} {i : Nat}, Niz l → l.getD (i + 1) 0 < l.getD i 0 → Niz (dnN l i)
  | [], i, _, h => by simp at h
  | [a], 0, _, _ => trivial
  | [a], i + 1, _, h => by simp at h
  | a :: b :: m, 0, hn, h => by
    have h : b < a := by simpa using h
    exact ⟨by show b ≤ a - 1; omega, hn.2⟩
  | a :: b :: m, i + 1, hn, h => by
    have ih := dnN_niz (l := b :: m) (i := i) hn.2 (by simpa using h)
    have e : dnN (a :: b :: m) (i + 1) = a :: dnN (b :: m) i := by simp [dnN]
    rw [e]
    cases i with
    | zero => exact ⟨by show b - 1 ≤ a; have := hn.1; omega, ih⟩
    | succ i => exact ⟨hn.1, ih⟩
theorem dnN_sum : ∀ {l : List Nat} {i : Nat}, 0 < l.getD i 0 → (dnN l i).sum + 1 = l.sum
  | [], i, h => by simp at h
  | a :: m, 0, h => by
    have h : 0 < a := by simpa using h
    simp [dnN]; omega
  | a :: m, i + 1, h => by
    have := dnN_sum (l := m) (i := i) (by simpa using h)
    have e : dnN (a :: m) (i + 1) = a :: dnN m i := by simp [dnN]
    rw [e]; simp; omega
theorem ff_shift : ∀ (k : Nat) (x : Int), Pv (x + 1) (lv (List.replicate (k + 1) 0)) = (x + 1) * Pv x (lv (List.replicate k 0))
  | 0, x => by simp [lv, Pv]
  | k + 1, x => by
    have ih := ff_shift k x
    have e : ∀ k : Nat, lv (List.replicate (k + 1) 0) = (k : Int) :: lv (List.replicate k 0) := fun k => by simp [List.replicate_succ, lv]
    rw [e (k + 1), Pv, ih, e k, Pv]
    push_cast
    grind
theorem ff_fac : ∀ (k : Nat), Pv (k : Int) (lv (List.replicate k 0)) = fac k
  | 0 => rfl
  | k + 1 => by
    have := ff_shift k (k : Int)
    rw [ff_fac k] at this
    rw [fac]
    push_cast
    exact this
theorem zeros_is : ∀ (k : Nat), pf (List.replicate k 0) = Dv (lv (List.replicate k 0))
  | 0 => rfl
  | k + 1 => by
    have e : List.replicate (k + 1) 0 = 0 :: List.replicate k (0 : Nat) := rfl
    rw [e, pf, lv, Dv, zeros_is k, List.length_replicate]
    have := ff_fac k
    rw [show ((0 : Nat) : Int) + (k : Int) = (k : Int) by omega, this, Nat.zero_add]
theorem all_zero : ∀ {l : List Nat}, l.sum = 0 → l = List.replicate l.length 0
  | [], _ => rfl
  | a :: m, h => by
    rw [List.sum_cons] at h
    have : a = 0 := by omega
    rw [List.length_cons, List.replicate_succ, ← all_zero (l := m) (by omega), this]
theorem nw_is : ∀ (n : Nat) (l : List Nat), Niz l → l.sum = n → nw n l * pf l = fac n * Dv (lv l)
  | 0, l, _, hs => by
    rw [nw, fac, all_zero hs, zeros_is]
  | n + 1, l, hn, hs => by
    have hE := Ev_is (lv l)
    rw [lv_len, lv_sum, hs] at hE
    have key : nw (n + 1) l * pf l = sm (fun i => fac n * ((lv l).getD i 0 * Dv (dn (lv l) i)) + 0 * 0) l.length := by
      rw [nw]
      have : sm (fun i => if l.getD (i + 1) 0 < l.getD i 0 then nw n (dnN l i) else 0) l.length * pf l = sm (fun i => pf l * (if l.getD (i + 1) 0 < l.getD i 0 then nw n (dnN l i) else 0) + 0 * 0) l.length := by
        rw [sm_lin l.length (fun i => if l.getD (i + 1) 0 < l.getD i 0 then nw n (dnN l i) else 0) (fun _ => 0) (pf l) 0]
        grind
      rw [this]
      refine sm_congr fun i hi => ?_
      by_cases hc : l.getD (i + 1) 0 < l.getD i 0
      · rw [if_pos hc]
        obtain ⟨h1, h2⟩ := lv_dn l i (by omega)
        have ih := nw_is n (dnN l i) (dnN_niz hn hc) (by have := dnN_sum (l := l) (i := i) (by omega); omega)
        rw [h1] at ih
        rw [h2]
        grind
      · rw [if_neg hc, term_zero hn hi hc]
        grind
    rw [key, sm_lin l.length (fun i => (lv l).getD i 0 * Dv (dn (lv l) i)) (fun _ => 0) (fac n) 0]
    have : sm (fun i => (lv l).getD i 0 * Dv (dn (lv l) i)) l.length = Ev (lv l) := by unfold Ev; rw [lv_len]
    rw [this, hE, fac]
    push_cast
    grind
end RS
set_option Elab.async false
namespace RS
/-! ### the hooks of a shape -/
def pr (f : Nat → Int) : Nat → Int
  | 0 => 1
  | n + 1 => pr f n * f n
theorem pr_congr : ∀ {n : Nat} {f g : Nat → Int}, (∀ j, j < n → f j = g j) → pr f n = pr g n
  | 0, _, _, _ => rfl
  | n + 1, f, g, h => by rw [pr, pr, h n (by omega), pr_congr (n := n) fun j hj => h j (by omega)]
theorem pr_split (f : Nat → Int) (c : Nat) : ∀ (d : Nat), pr f (c + d) = pr f c * pr (fun j => f (c + j)) d
  | 0 => by simp [pr]
  | d + 1 => by
    rw [show c + (d + 1) = c + d + 1 by omega, pr, pr, pr_split f c d]
    grind
theorem pr_pos : ∀ {n : Nat} {f : Nat → Int}, (∀ j, j < n → 0 < f j) → 0 < pr f n
  | 0, _, _ => by simp [pr]
  | n + 1, f, h => by
    rw [pr]
    exact Int.mul_pos (pr_pos fun j hj => h j (by omega)) (h n (by omega))
theorem pr_shift (N : Int) : ∀ (c : Nat), pr (fun j => N + 1 - (j : Int)) c * (N + 1 - (c : Int)) = (N + 1) * pr (fun j => N - (j : Int)) c
  | 0 => by simp [pr]
  | c + 1 => by
    have := pr_shift N c
    rw [pr, pr]
    push_cast
    grind
def gt (m : List Nat) (j : Nat) : Nat := (m.filter fun x => decide (j < x)).length
def rowH (a : Nat) (m : List Nat) : Int := pr (fun j => (a : Int) - (j : Int) + (gt m j : Int)) a
def hk : List Nat → Int
  | [] => 1
  | a :: m => rowH a m * hk m
theorem gt_snoc (m : List Nat) (c j : Nat) : gt (m ++ [c]) j = gt m j + if j < c then 1 else 0 := by
  unfold gt
  rw [List.filter_append, List.length_append]
  by_cases h : j < c <;> simp [h]
theorem gt_all {m : List Nat} {j : Nat} (h : ∀ x ∈ m, j < x) : gt m j = m.length := by
  unfold gt
  rw [List.filter_eq_self.mpr fun x hx => decide_eq_true (h x hx)]
theorem lv_snoc : ∀ (m : List Nat) (c : Nat), lv (m ++ [c]) = (lv m).map (fun x => x + 1) ++ [(c : Int)]
  | [], c => by simp [lv]
  | a :: m, c => by
    rw [List.cons_append, lv, lv_snoc m c, lv, List.map_cons]
    simp
    omega
theorem Pv_app (x : Int) : ∀ (l l' : List Int), Pv x (l ++ l') = Pv x l * Pv x l'
  | [], l' => by simp [Pv]
  | y :: l, l' => by rw [List.cons_append, Pv, Pv, Pv_app x l l']; grind
theorem Pv_up (x : Int) : ∀ (l : List Int), Pv (x + 1) (l.map fun y => y + 1) = Pv x l
  | [] => rfl
  | y :: l => by rw [List.map_cons, Pv, Pv, Pv_up x l]; grind
theorem snoc_ind {p : List Nat → Prop} (h0 : p []) (h1 : ∀ m c, p m → p (m ++ [c])) : ∀ m, p m := fun m => by
  have key : ∀ n (m : List Nat), m.length = n → p m := by
    intro n
    induction n with
    | zero => intro m h; rw [List.length_eq_zero_iff.mp h]; exact h0
    | succ n ih =>
      intro m h
      have hne : m ≠ [] := fun e => by rw [e] at h; simp at h
      rw [← List.dropLast_concat_getLast hne]
      exact h1 _ _ (ih _ (by rw [List.length_dropLast]; omega))
  exact key _ m rfl
theorem rowH_nil (a : Nat) : rowH a [] = fac a := by
  have key : ∀ c : Nat, c ≤ a → pr (fun j => (a : Int) - (j : Int)) c * fac (a - c) = fac a := by
    intro c
    induction c with
    | zero => intro _; simp [pr]
    | succ c ih =>
      intro hc
      have h := ih (by omega)
      rw [pr, ← h]
      have e : a - c = (a - (c + 1)) + 1 := by omega
      rw [e, fac]
      have e2 : ((a - (c + 1) : Nat) : Int) + 1 = (a : Int) - (c : Int) := by omega
      rw [e2]
      grind
  have := key a (Nat.le_refl _)
  rw [Nat.sub_self, fac, Int.mul_one] at this
  unfold rowH
  rw [← this]
  exact pr_congr fun j _ => by simp [gt]
theorem row_hooks {a : Nat} : ∀ (m : List Nat), (∀ x ∈ m, x ≤ a) → m.Pairwise (fun x y => y ≤ x) → rowH a m * Pv ((a : Int) + (m.length : Int)) (lv m) = fac (a + m.length) := by
  refine snoc_ind ?_ ?_
  · intro _ _
    simp [lv, Pv, rowH_nil]
  · intro m c ih hle hpw
    obtain ⟨p1, _, p3⟩ := List.pairwise_append.mp hpw
    have hc : c ≤ a := hle c (by simp)
    have hm : ∀ x ∈ m, c ≤ x := fun x hx => p3 x hx c (by simp)
    have ih := ih (fun x hx => hle x (by simp [hx])) p1
    obtain ⟨d, rfl⟩ : ∃ d, a = c + d := ⟨a - c, by omega⟩
    have e1 : rowH (c + d) (m ++ [c]) = pr (fun j => ((c + d : Nat) : Int) + (m.length : Int) + 1 - (j : Int)) c * pr (fun j => ((c + d : Nat) : Int) - ((c + j : Nat) : Int) + (gt m (c + j) : Int)) d := by
      unfold rowH
      rw [pr_split _ c d]
      congr 1
      · refine pr_congr fun j hj => ?_
        rw [gt_snoc, if_pos hj, gt_all fun x hx => by have := hm x hx; omega]
        push_cast
        omega
      · refine pr_congr fun j _ => ?_
        rw [gt_snoc, if_neg (by omega)]
        simp
    have e2 : rowH (c + d) m = pr (fun j => ((c + d : Nat) : Int) + (m.length : Int) - (j : Int)) c * pr (fun j => ((c + d : Nat) : Int) - ((c + j : Nat) : Int) + (gt m (c + j) : Int)) d := by
      unfold rowH
      rw [pr_split _ c d]
      congr 1
      refine pr_congr fun j hj => ?_
      rw [gt_all fun x hx => by have := hm x hx; omega]
      omega
    have e3 := pr_shift (((c + d : Nat) : Int) + (m.length : Int)) c
    have e4 : Pv (((c + d : Nat) : Int) + ((m ++ [c]).length : Int)) (lv (m ++ [c])) = Pv (((c + d : Nat) : Int) + (m.length : Int)) (lv m) * (((c + d : Nat) : Int) + (m.length : Int) + 1 - (c : Int)) := by
      rw [lv_snoc, Pv_app, List.length_append, List.length_singleton]
      have : ((c + d : Nat) : Int) + ((m.length + 1 : Nat) : Int) = (((c + d : Nat) : Int) + (m.length : Int)) + 1 := by push_cast; omega
      rw [this, Pv_up, Pv, Pv]
      grind
    have e5 : fac (c + d + (m ++ [c]).length) = (((c + d : Nat) : Int) + (m.length : Int) + 1) * fac (c + d + m.length) := by
      rw [List.length_append, List.length_singleton, show c + d + (m.length + 1) = c + d + m.length + 1 by omega, fac]
      congr 1
    have hpos : 0 < pr (fun j => ((c + d : Nat) : Int) + (m.length : Int) - (j : Int)) c := pr_pos fun j hj => by omega
    rw [e1, e4, e5, ← ih, e2]
    generalize pr (fun j => ((c + d : Nat) : Int) + (m.length : Int) - (j : Int)) c = A at *
    generalize pr (fun j => ((c + d : Nat) : Int) + (m.length : Int) + 1 - (j : Int)) c = B at *
    generalize pr (fun j => ((c + d : Nat) : Int) - ((c + j : Nat) : Int) + (gt m (c + j) : Int)) d = C at *
    generalize Pv (((c + d : Nat) : Int) + (m.length : Int)) (lv m) = D at *
    generalize ((c + d : Nat) : Int) + (m.length : Int) = N at *
    grind
theorem niz_pw : ∀ {l : List Nat}, Niz l → l.Pairwise fun x y => y ≤ x
  | [], _ => List.Pairwise.nil
  | a :: m, h => List.pairwise_cons.mpr ⟨h.le, niz_pw h.tail⟩
theorem hk_is : ∀ {l : List Nat}, Niz l → hk l * Dv (lv l) = pf l
  | [], _ => rfl
  | a :: m, h => by
    have ih := hk_is h.tail
    have hr := row_hooks m h.le (niz_pw h.tail)
    rw [hk, lv, Dv, pf, ← ih, ← hr]
    grind
theorem Pv_pos {x : Int} : ∀ {l : List Int}, (∀ y ∈ l, y < x) → 0 < Pv x l
  | [], _ => by simp [Pv]
  | y :: l, h => by
    rw [Pv]
    exact Int.mul_pos (by have := h y (by simp); omega) (Pv_pos fun z hz => h z (by simp [hz]))
theorem lv_lt : ∀ {a : Nat} {m : List Nat}, Niz (a :: m) → ∀ y ∈ lv m, y < (a : Int) + (m.length : Int)
  | a, [], _, y, hy => by simp [lv] at hy
  | a, b :: m, h, y, hy => by
    rw [lv] at hy
    have hb := h.1
    rcases List.mem_cons.mp hy with e | e
    · rw [e]; simp; omega
    · have := lv_lt h.2 y e
      simp; omega
theorem Dv_pos : ∀ {l : List Nat}, Niz l → 0 < Dv (lv l)
  | [], _ => by simp [lv, Dv]
  | a :: m, h => by
    rw [lv, Dv]
    exact Int.mul_pos (Pv_pos (lv_lt h)) (Dv_pos h.tail)
/-- the ways, times all hooks, are all orders of the numbers -/
theorem hooks {l : List Nat} (h : Niz l) : nw l.sum l * hk l = fac l.sum := by
  have h1 := nw_is l.sum l h rfl
  have h2 := hk_is h
  have h3 := Dv_pos h
  rw [← h2] at h1
  have h4 : (nw l.sum l * hk l) * Dv (lv l) = fac l.sum * Dv (lv l) := by rw [← h1]; grind
  exact Int.eq_of_mul_eq_mul_right (by omega) h4
end RS
set_option Elab.async false
namespace RS
/-! ### the ways, counted shape by shape -/
theorem sm_snoc : ∀ (n : Nat) (f : Nat → Int), sm f (n + 1) = sm f n + f n
  | 0, f => by simp [sm]
  | n + 1, f => by
    have h := sm_snoc n fun j => f (j + 1)
    rw [sm, h, sm]
    omega
theorem sm_filter (f : Nat → Int) (p : Nat → Bool) : ∀ n, sm (fun i => if p i = true then f i else 0) n = (((List.range n).filter p).map f).sum
  | 0 => rfl
  | n + 1 => by
    rw [sm_snoc, sm_filter f p n, List.range_succ, List.filter_append, List.map_append, List.sum_append]
    cases h : p n <;> simp [h]
theorem getD_zero (l : List Nat) (j : Nat) : (l ++ [0]).getD j 0 = l.getD j 0 := by
  rw [List.getD_eq_getElem?_getD, List.getD_eq_getElem?_getD]
  by_cases h : j < l.length
  · rw [List.getElem?_append_left h]
  · rw [List.getElem?_append_right (by omega), List.getElem?_eq_none (l := l) (by omega)]
    by_cases e : j - l.length = 0
    · rw [e]; rfl
    · rw [List.getElem?_eq_none (by simp; omega)]
theorem nw_zero : ∀ (n : Nat) (l : List Nat), nw n (l ++ [0]) = nw n l
  | 0, _ => rfl
  | n + 1, l => by
    rw [nw, nw, List.length_append, List.length_singleton, sm_snoc]
    have e : (if (l ++ [0]).getD (l.length + 1) 0 < (l ++ [0]).getD l.length 0 then nw n (dnN (l ++ [0]) l.length) else 0) = 0 := by
      rw [if_neg]
      rw [getD_zero, getD_zero, List.getD_eq_getElem?_getD (i := l.length), List.getElem?_eq_none (Nat.le_refl _)]
      simp
    rw [e, Int.add_zero]
    refine sm_congr fun j hj => ?_
    rw [getD_zero, getD_zero]
    have e2 : dnN (l ++ [0]) j = dnN l j ++ [0] := by
      unfold dnN
      rw [getD_zero, List.set_append_left _ _ hj]
    rw [e2, nw_zero n]
def nz (l : List Nat) : List Nat := l.filter fun x => decide (0 < x)
def Sh (l : List Nat) : Prop := Niz l ∧ ∀ x ∈ l, 0 < x
theorem niz_init : ∀ {l : List Nat} {x : Nat}, Niz (l ++ [x]) → Niz l
  | [], _, _ => trivial
  | [a], _, _ => trivial
  | a :: b :: m, x, h => ⟨h.1, niz_init (l := b :: m) h.2⟩
theorem nz_dn {l : List Nat} {i : Nat} (h : Sh l) (hi : i < l.length) (hc : l.getD (i + 1) 0 < l.getD i 0) : Sh (nz (dnN l i)) ∧ (nz (dnN l i)).sum + 1 = l.sum ∧ ∀ n, nw n (nz (dnN l i)) = nw n (dnN l i) := by
  have hn := dnN_niz h.1 hc
  have hs := dnN_sum (l := l) (i := i) (by omega)
  have hg : l.getD i 0 = l[i] := by rw [List.getD_eq_getElem?_getD, List.getElem?_eq_getElem hi]; rfl
  by_cases h2 : 2 ≤ l.getD i 0
  · have all : ∀ x ∈ dnN l i, 0 < x := fun x hx => by
      rcases List.mem_or_eq_of_mem_set hx with q | q
      · exact h.2 x q
      · omega
    have e : nz (dnN l i) = dnN l i := List.filter_eq_self.mpr fun x hx => decide_eq_true (all x hx)
    rw [e]
    exact ⟨⟨hn, all⟩, hs, fun _ => rfl⟩
  · have hl : i + 1 = l.length := by
      by_cases q : i + 1 < l.length
      · have e : l.getD (i + 1) 0 = l[i + 1] := by rw [List.getD_eq_getElem?_getD, List.getElem?_eq_getElem q]; rfl
        have := h.2 l[i + 1] (List.getElem_mem q)
        omega
      · omega
    have hne : l ≠ [] := fun e => by rw [e] at hi; simp at hi
    obtain ⟨m, c, rfl⟩ : ∃ m c, l = m ++ [c] := ⟨_, _, (List.dropLast_concat_getLast hne).symm⟩
    have hm : i = m.length := by simpa using hl
    subst hm
    have ec : (m ++ [c]).getD m.length 0 = c := by simp
    rw [ec] at h2 hc
    have hc1 : c = 1 := by omega
    subst hc1
    have e : dnN (m ++ [1]) m.length = m ++ [0] := by
      unfold dnN
      rw [ec, List.set_append_right _ _ (Nat.le_refl _)]
      simp
    have all : ∀ x ∈ m, 0 < x := fun x hx => h.2 x (by simp [hx])
    have e2 : nz (m ++ [0]) = m := by
      unfold nz
      rw [List.filter_append, List.filter_eq_self.mpr fun x hx => decide_eq_true (all x hx)]
      simp
    rw [e, e2]
    refine ⟨⟨niz_init h.1, all⟩, by simp, fun n => (nw_zero n m).symm⟩
/-! the dict of ways -/
abbrev DW := List (List Nat × Int)
def vN (D : DW) (l : List Nat) : Option Int := (D.find? fun p => decide (p.1 = l)).map (·.2)
def pN (D : DW) (l : List Nat) (v : Int) : DW := if (D.any fun p => decide (p.1 = l)) = true then D.map (fun p => if p.1 = l then (p.1, v) else p) else D ++ [(l, v)]
def tot (n : Nat) (D : DW) : Int := (D.map fun p => p.2 * nw n p.1).sum
structure Dok (n : Nat) (D : DW) : Prop where
  nd : (D.map (·.1)).Nodup
  sh : ∀ p ∈ D, Sh p.1 ∧ p.1.sum = n
theorem vN_pos {p : List Nat × Int} {D : DW} {l : List Nat} (e : p.1 = l) : vN (p :: D) l = some p.2 := by simp [vN, List.find?_cons, e]
theorem vN_neg {p : List Nat × Int} {D : DW} {l : List Nat} (e : ¬ p.1 = l) : vN (p :: D) l = vN D l := by simp [vN, List.find?_cons, e]
theorem pN_neg {p : List Nat × Int} {D : DW} {l : List Nat} {v : Int} (e : ¬ p.1 = l) : pN (p :: D) l v = p :: pN D l v := by
  unfold pN
  rw [List.any_cons, decide_eq_false e, Bool.false_or]
  split
  · rw [List.map_cons, if_neg e]
  · rfl
theorem pN_pos {p : List Nat × Int} {D : DW} {l : List Nat} {v : Int} (e : p.1 = l) (h : l ∉ D.map (·.1)) : pN (p :: D) l v = (l, v) :: D := by
  unfold pN
  rw [List.any_cons, decide_eq_true e, Bool.true_or, if_pos rfl, List.map_cons, if_pos e, e]
  congr 1
  conv => rhs; rw [← List.map_id D]
  refine List.map_congr_left fun q hq => ?_
  rw [if_neg]
  · rfl
  · exact fun z => h (z ▸ List.mem_map.mpr ⟨q, hq, rfl⟩)
theorem tot_cons (n : Nat) (p : List Nat × Int) (D : DW) : tot n (p :: D) = p.2 * nw n p.1 + tot n D := by simp [tot]
theorem tot_put {n : Nat} {l : List Nat} {c : Int} : ∀ {D : DW}, (D.map (·.1)).Nodup → tot n (pN D l ((vN D l).getD 0 + c)) = tot n D + c * nw n l
  | [], _ => by simp [vN, pN, tot]
  | p :: D, h => by
    rw [List.map_cons, List.nodup_cons] at h
    by_cases e : p.1 = l
    · rw [vN_pos e, pN_pos e (e ▸ h.1), tot_cons, tot_cons, e]
      simp only [Option.getD_some]
      grind
    · rw [vN_neg e, pN_neg e, tot_cons, tot_cons, tot_put h.2]
      omega
theorem mem_put {l : List Nat} {v : Int} {D : DW} {q : List Nat × Int} (h : q ∈ pN D l v) : q.1 = l ∨ ∃ p ∈ D, p.1 = q.1 := by
  unfold pN at h
  split at h
  · obtain ⟨p, hp, e⟩ := List.mem_map.mp h
    refine .inr ⟨p, hp, ?_⟩
    rw [← e]
    split <;> rfl
  · rcases List.mem_append.mp h with q' | q'
    · exact .inr ⟨q, q', rfl⟩
    · rw [List.mem_singleton.mp q']; exact .inl rfl
theorem keys_put (D : DW) (l : List Nat) (v : Int) : (pN D l v).map (·.1) = if l ∈ D.map (·.1) then D.map (·.1) else D.map (·.1) ++ [l] := by
  have e : ((D.any fun p => decide (p.1 = l)) = true) ↔ l ∈ D.map (·.1) := by
    rw [List.any_eq_true, List.mem_map]
    constructor
    · rintro ⟨p, hp, e⟩; exact ⟨p, hp, of_decide_eq_true e⟩
    · rintro ⟨p, hp, e⟩; exact ⟨p, hp, decide_eq_true e⟩
  unfold pN
  by_cases h : l ∈ D.map (·.1)
  · rw [if_pos (e.mpr h), if_pos h, List.map_map]
    refine List.map_congr_left fun p _ => ?_
    show (if p.1 = l then (p.1, v) else p).1 = p.1
    split <;> rfl
  · rw [if_neg (fun z => h (e.mp z)), if_neg h, List.map_append]
    rfl
theorem Dok.put {n : Nat} {D : DW} {l : List Nat} (h : Dok n D) (hl : Sh l) (hs : l.sum = n) (v : Int) : Dok n (pN D l v) where
  nd := by
    rw [keys_put]
    split
    · exact h.nd
    · rename_i q
      rw [List.nodup_append]
      refine ⟨h.nd, by simp, fun a ha b hb e => q ?_⟩
      rw [List.mem_singleton.mp hb] at e
      exact e ▸ ha
  sh := fun q hq => by
    rcases mem_put hq with e | ⟨p, hp, e⟩
    · rw [e]; exact ⟨hl, hs⟩
    · rw [← e]; exact h.sh p hp
def cd : List Nat → Nat
  | [] => 0
  | a :: m => 2 ^ (a - 1) * (2 * cd m + 1)
theorem odd_inj : ∀ {x y u v : Nat}, 2 ^ x * (2 * u + 1) = 2 ^ y * (2 * v + 1) → x = y ∧ u = v
  | 0, 0, u, v, h => ⟨rfl, by omega⟩
  | 0, y + 1, u, v, h => by rw [Nat.pow_succ, Nat.mul_comm (2 ^ y) 2, Nat.mul_assoc] at h; omega
  | x + 1, 0, u, v, h => by rw [Nat.pow_succ, Nat.mul_comm (2 ^ x) 2, Nat.mul_assoc] at h; omega
  | x + 1, y + 1, u, v, h => by
    rw [Nat.pow_succ, Nat.pow_succ, Nat.mul_comm (2 ^ x) 2, Nat.mul_comm (2 ^ y) 2, Nat.mul_assoc, Nat.mul_assoc] at h
    have := odd_inj (x := x) (y := y) (u := u) (v := v) (by omega)
    exact ⟨by omega, this.2⟩
theorem two_pos (x : Nat) : 0 < 2 ^ x := Nat.pow_pos (by decide)
theorem cd_inj : ∀ {l m : List Nat}, (∀ x ∈ l, 0 < x) → (∀ x ∈ m, 0 < x) → cd l = cd m → l = m
  | [], [], _, _, _ => rfl
  | [], b :: m, _, _, h => by
    have := Nat.mul_pos (two_pos (b - 1)) (show 0 < 2 * cd m + 1 by omega)
    simp only [cd] at h
    omega
  | a :: l, [], _, _, h => by
    have := Nat.mul_pos (two_pos (a - 1)) (show 0 < 2 * cd l + 1 by omega)
    simp only [cd] at h
    omega
  | a :: l, b :: m, hl, hm, h => by
    obtain ⟨e1, e2⟩ := odd_inj (show 2 ^ (a - 1) * (2 * cd l + 1) = 2 ^ (b - 1) * (2 * cd m + 1) from h)
    have h1 := hl a (by simp)
    have h2 := hm b (by simp)
    rw [show a = b by omega, cd_inj (fun x hx => hl x (by simp [hx])) (fun x hx => hm x (by simp [hx])) e2]
theorem cd_lt : ∀ {l : List Nat}, (∀ x ∈ l, 0 < x) → cd l < 2 ^ l.sum
  | [], _ => by simp [cd]
  | a :: m, h => by
    have ih := cd_lt (l := m) fun x hx => h x (by simp [hx])
    have h1 := h a (by simp)
    rw [cd, List.sum_cons]
    have e : a + m.sum = (a - 1) + (m.sum + 1) := by omega
    rw [e, Nat.pow_add]
    refine Nat.mul_lt_mul_of_pos_left ?_ (two_pos _)
    rw [Nat.pow_succ]
    omega
theorem nodup_len : ∀ {B : Nat} {L : List Nat}, L.Nodup → (∀ x ∈ L, x < B) → L.length ≤ B
  | 0, [], _, _ => by simp
  | 0, a :: m, _, h => by have := h a (by simp); omega
  | B + 1, L, nd, h => by
    by_cases hB : B ∈ L
    · have := nodup_len (B := B) (L := L.erase B) (nd.erase B) fun x hx => by
        have q := (nd.mem_erase_iff).mp hx
        have := h x q.2
        have := q.1
        omega
      rw [List.length_erase_of_mem hB] at this
      omega
    · have := nodup_len (B := B) nd fun x hx => by
        have := h x hx
        have : x ≠ B := fun e => hB (e ▸ hx)
        omega
      omega
theorem Dok.len {n : Nat} {D : DW} (h : Dok n D) : D.length ≤ 2 ^ n := by
  have e : D.length = ((D.map (·.1)).map cd).length := by simp
  rw [e]
  refine nodup_len ?_ ?_
  · refine List.Pairwise.map cd (fun a b (q : Sh a ∧ Sh b ∧ a ≠ b) e => q.2.2 (cd_inj q.1.2 q.2.1.2 e)) (S := fun a b => a ≠ b) (R := fun a b => Sh a ∧ Sh b ∧ a ≠ b) ?_
    refine List.Pairwise.imp_of_mem (fun {a b} ha hb q => ?_) h.nd
    obtain ⟨p, hp, rfl⟩ := List.mem_map.mp ha
    obtain ⟨p', hp', rfl⟩ := List.mem_map.mp hb
    exact ⟨(h.sh p hp).1, (h.sh p' hp').1, q⟩
  · intro x hx
    obtain ⟨l, hl, rfl⟩ := List.mem_map.mp hx
    obtain ⟨p, hp, rfl⟩ := List.mem_map.mp hl
    have := cd_lt (h.sh p hp).1.2
    rw [(h.sh p hp).2] at this
    exact this
theorem nw_ne {l : List Nat} (h : Niz l) : nw l.sum l ≠ 0 := fun e => by
  have := hooks h
  rw [e, Int.zero_mul] at this
  have := fac_pos l.sum
  omega
/-- at the end there is but the empty shape -/
theorem ways_end {D : DW} {c : Int} (h : Dok 0 D) (hc : tot 0 D = c) (h0 : c ≠ 0) : vN D [] = some c := by
  have all : ∀ p ∈ D, p.1 = [] := fun p hp => by
    have q := h.sh p hp
    cases e : p.1 with
    | nil => rfl
    | cons a m =>
      have h1 := q.1.2 a (by rw [e]; simp)
      have h2 := q.2
      rw [e, List.sum_cons] at h2
      omega
  match D, all, h.nd, hc with
  | [], _, _, hc => exact absurd hc.symm h0
  | [p], all, _, hc =>
    rw [vN_pos (all p (by simp))]
    simpa [tot, nw] using hc
  | p :: q :: D, all, nd, _ =>
    rw [List.map_cons, List.nodup_cons] at nd
    exact absurd (by rw [all p (by simp), List.map_cons, all q (by simp)]; simp) nd.1
/-- the corners of a shape, summed up, are its ways -/
theorem nw_sum (n : Nat) (l : List Nat) (h : Sh l) : nw (n + 1) l = (((List.range l.length).filter fun i => decide (l.getD (i + 1) 0 < l.getD i 0)).map fun i => nw n (nz (dnN l i))).sum := by
  rw [← sm_filter, nw]
  refine sm_congr fun j hj => ?_
  by_cases q : l.getD (j + 1) 0 < l.getD j 0
  · rw [if_pos q, if_pos (decide_eq_true q), (nz_dn h hj q).2.2]
  · rw [if_neg q, if_neg (fun z => q (of_decide_eq_true z))]
end RS
set_option Elab.async false
namespace RS
/-! ### marks of the lines that grew -/
/-! ### sliding, step by step -/
/-! ### sliding again and again -/
end RS
set_option Elab.async false
namespace RS
/-! ### piles -/
def nIs (C : List Nat) : List Int := C.map fun (p : Nat) => (p : Int)
/-! ### one of each -/
theorem nIs_len (C : List Nat) : (nIs C).length = C.length := by simp [nIs]
end RS
set_option Elab.async false
namespace RS
/-! ### the hooks, told one by one -/
def prd : List Int → Int
  | [] => 1
  | x :: l => x * prd l
theorem prd_app : ∀ (l m : List Int), prd (l ++ m) = prd l * prd m
  | [], m => by simp [prd]
  | x :: l, m => by rw [List.cons_append, prd, prd, prd_app l m, Int.mul_assoc]
theorem prd_take {l : List Int} {i : Nat} (h : i < l.length) : prd (l.take (i + 1)) = prd (l.take i) * l.getD i 0 := by
  rw [List.take_add_one, List.getElem?_eq_getElem h, prd_app]
  show _ * prd [l[i]] = _
  rw [prd, prd, Int.mul_one, List.getD_eq_getElem?_getD, List.getElem?_eq_getElem h]
  rfl
theorem prd_range (f : Nat → Int) : ∀ n, prd ((List.range n).map f) = pr f n
  | 0 => rfl
  | n + 1 => by
    rw [List.range_succ, List.map_append, prd_app, prd_range f n, pr]
    show _ * prd [f n] = _
    rw [prd, prd, Int.mul_one]
theorem prd_fac : ∀ n, prd ((List.range n).map fun (i : Nat) => 1 + (i : Int)) = fac n
  | 0 => rfl
  | n + 1 => by
    rw [List.range_succ, List.map_append, prd_app, prd_fac n, fac]
    show _ * prd [1 + (n : Int)] = _
    rw [prd, prd, Int.mul_one, Int.mul_comm, Int.add_comm]
/-- the hooks of a line -/
def hkr (l : List Nat) (i : Nat) : List Int := (List.range (l.getD i 0)).map fun (j : Nat) => ((l.getD i 0 : Int) - (j : Int) - 1) + ((gt l j : Int) - (i : Int) - 1) + 1
theorem gt_app (m n : List Nat) (j : Nat) : gt (m ++ n) j = gt m j + gt n j := by
  unfold gt
  rw [List.filter_append, List.length_append]
theorem gt_drop {l : List Nat} (h : Niz l) {i j : Nat} (hi : i < l.length) (hj : j < l.getD i 0) : gt l j = i + 1 + gt (l.drop (i + 1)) j := by
  have e : l = l.take (i + 1) ++ l.drop (i + 1) := (List.take_append_drop _ _).symm
  conv => lhs; rw [e, gt_app]
  congr 1
  have hl : (l.take (i + 1)).length = i + 1 := by rw [List.length_take]; omega
  rw [gt_all, hl]
  intro x hx
  obtain ⟨k, hk⟩ := List.mem_iff_getElem?.mp hx
  have hk1 := (List.getElem?_eq_some_iff.mp hk).1
  rw [hl] at hk1
  rw [List.getElem?_take_of_lt hk1] at hk
  have hg : l.getD i 0 = l[i] := by rw [List.getD_eq_getElem?_getD, List.getElem?_eq_getElem hi]; rfl
  rw [hg] at hj
  obtain ⟨hk2, hk3⟩ := List.getElem?_eq_some_iff.mp hk
  rcases Nat.lt_or_eq_of_le (show k ≤ i by omega) with z | z
  · have := List.pairwise_iff_getElem.mp (niz_pw h) k i hk2 hi z
    omega
  · subst z; omega
theorem prd_hkr {l : List Nat} (h : Niz l) {i : Nat} (hi : i < l.length) : prd (hkr l i) = rowH (l.getD i 0) (l.drop (i + 1)) := by
  rw [hkr, prd_range, rowH]
  refine pr_congr fun j hj => ?_
  rw [gt_drop h hi hj]
  omega
theorem hk_drop {l : List Nat} (h : Niz l) : ∀ i, i ≤ l.length → hk l = prd (((List.range i).map (hkr l)).flatten) * hk (l.drop i)
  | 0, _ => by simp [prd]
  | i + 1, hi => by
    rw [hk_drop h i (by omega), List.range_succ, List.map_append, List.flatten_append, prd_app, Int.mul_assoc]
    congr 1
    have hlt : i < l.length := by omega
    have hg : l.getD i 0 = l[i] := by rw [List.getD_eq_getElem?_getD, List.getElem?_eq_getElem hlt]; rfl
    rw [List.drop_eq_getElem_cons hlt, hk, ← hg, ← prd_hkr h hlt]
    simp
theorem hooks_told {l : List Nat} (h : Niz l) : prd (((List.range l.length).map (hkr l)).flatten) ≠ 0 ∧ fac l.sum / prd (((List.range l.length).map (hkr l)).flatten) = nw l.sum l := by
  have e := hk_drop h l.length (Nat.le_refl _)
  rw [List.drop_length, hk, Int.mul_one] at e
  rw [← e]
  have hh := hooks h
  have hne : hk l ≠ 0 := fun z => by
    rw [z, Int.mul_zero] at hh
    have := fac_pos l.sum
    omega
  exact ⟨hne, by rw [← hh]; exact Int.mul_ediv_cancel _ hne⟩
theorem hkr_len (l : List Nat) (i : Nat) : (hkr l i).length = l.getD i 0 := by simp [hkr]
theorem hooks_len (l : List Nat) {b : Nat} (hb : ∀ x ∈ l, x ≤ b) : ∀ i, (((List.range i).map (hkr l)).flatten).length ≤ i * b
  | 0 => by simp
  | i + 1 => by
    have ih := hooks_len l hb i
    rw [List.range_succ, List.map_append, List.flatten_append, List.length_append]
    have h1 : l.getD i 0 ≤ b := by
      rw [List.getD_eq_getElem?_getD]
      cases e : l[i]? with
      | none => exact Nat.zero_le _
      | some x => exact hb x (List.mem_of_getElem? e)
    have h2 : (([i].map (hkr l)).flatten).length = l.getD i 0 := by simp [hkr_len]
    rw [h2, Nat.add_mul]
    omega
end RS
/-! Comprehensions over the layer. -/
set_option Elab.async false
set_option maxRecDepth 100000
namespace L2
open PySem PySem.Spec PyProof.Rows
/-! ### the closure of a comprehension's block -/
def clos (env : Env) : List (Str × NameKind) → List (Str × Addr) → List (Str × Addr)
  | [], cs => cs
  | (n, k) :: r, cs => if k == .free then clos env r ((n, (env.cells.lookup n).getD 0) :: cs) else clos env r cs
theorem closureFor_is {scope : Scope} {env : Env} (h : ∀ n, (n, NameKind.free) ∈ scope.names → ∃ c, env.cells.lookup n = some c) :
    closureFor scope env = pure (clos env scope.names []) := by
  unfold closureFor
  have key : ∀ (l : List (Str × NameKind)) (cs : List (Str × Addr)), (∀ n, (n, NameKind.free) ∈ l → ∃ c, env.cells.lookup n = some c) →
      (forIn l cs (fun (x : Str × NameKind) (r : List (Str × Addr)) => if (x.2 == NameKind.free) = true then do let a ← cellOf env x.1; pure (ForInStep.yield ((x.1, a) :: r)) else pure (ForInStep.yield r)) : Sem (List (Str × Addr))) = pure (clos env l cs) := by
    intro l
    induction l with
    | nil => intro cs _; rfl
    | cons x r ih =>
      intro cs hl
      obtain ⟨n, k⟩ := x
      rw [List.forIn_cons]
      by_cases hk : k = .free
      · subst hk
        obtain ⟨c, e⟩ := hl n List.mem_cons_self
        have e2 : cellOf env n = pure c := by unfold cellOf; rw [e]
        simp only [beq_self_eq_true, if_true, e2, pure_bind]
        rw [ih _ fun m hm => hl m (List.mem_cons_of_mem _ hm)]
        simp [clos, e]
      · have hb : (k == NameKind.free) = false := by simpa using hk
        simp only [hb, Bool.false_eq_true, if_false, pure_bind]
        rw [ih _ fun m hm => hl m (List.mem_cons_of_mem _ hm)]
        simp [clos, hb]
  have := key scope.names [] h
  simp only [bind_pure]
  exact this
theorem clos_lookup {env : Env} {x : Str} {c : Addr} : ∀ {l : List (Str × NameKind)} {cs : List (Str × Addr)}, (∀ n, (n, NameKind.free) ∈ l → ∃ c, env.cells.lookup n = some c) → (cs.lookup x = some c → env.cells.lookup x = some c) →
    (clos env l cs).lookup x = some c → env.cells.lookup x = some c
  | [], _, _, hc, h => hc h
  | (n, k) :: r, cs, hl, hc, h => by
    have hr : ∀ m, (m, NameKind.free) ∈ r → ∃ c, env.cells.lookup m = some c := fun m hm => hl m (List.mem_cons_of_mem _ hm)
    unfold clos at h
    by_cases hk : (k == NameKind.free) = true
    · rw [if_pos hk] at h
      refine clos_lookup hr (fun q => ?_) h
      have hk' : k = .free := by simpa using hk
      subst hk'
      obtain ⟨c', e⟩ := hl n List.mem_cons_self
      rw [List.lookup_cons] at q
      cases hx : x == n with
      | true =>
        rw [hx] at q
        have : x = n := by simpa using hx
        subst this
        simp only [e, Option.getD_some] at q
        rw [e]; exact q
      | false =>
        rw [hx] at q
        exact hc q
    · rw [if_neg hk] at h
      exact clos_lookup hr hc h
theorem clos_old {env : Env} {x : Str} {c : Addr} (hx : env.cells.lookup x = some c) : ∀ {l : List (Str × NameKind)} {cs : List (Str × Addr)}, cs.lookup x = some c → (clos env l cs).lookup x = some c
  | [], _, h => h
  | (n, k) :: r, cs, h => by
    unfold clos
    by_cases hk : (k == NameKind.free) = true
    · rw [if_pos hk]
      refine clos_old hx ?_
      rw [List.lookup_cons]
      cases hn : x == n with
      | true =>
        have : x = n := by simpa using hn
        subst this
        simp [hx]
      | false => exact h
    · rw [if_neg hk]
      exact clos_old hx h
theorem clos_has {env : Env} {x : Str} {c : Addr} (hx : env.cells.lookup x = some c) : ∀ {l : List (Str × NameKind)} {cs : List (Str × Addr)}, (x, NameKind.free) ∈ l → (clos env l cs).lookup x = some c
  | [], _, h => by cases h
  | (n, k) :: r, cs, h => by
    unfold clos
    rcases List.mem_cons.mp h with e | h
    · cases e
      rw [if_pos (beq_self_eq_true _)]
      refine clos_old hx ?_
      rw [List.lookup_cons]
      simp [hx]
    · by_cases hk : (k == NameKind.free) = true
      · rw [if_pos hk]; exact clos_has hx h
      · rw [if_neg hk]; exact clos_has hx h
/-- kinds in the block -/
theorem relabel_lookup {env : Env} : ∀ {names : List (Str × NameKind)} {x : Str} {k : NameKind},
    (names.map fun (n, k) => if (k == NameKind.free && env.scope.kind == .function && env.kindOf n == some .cell) then (n, NameKind.cell) else (n, k)).lookup x = some k →
    names.lookup x = some k ∨ (names.lookup x = some .free ∧ k = .cell)
  | [], _, _, h => by simp at h
  | (n, k') :: r, x, k, h => by
    rw [List.map_cons] at h
    by_cases hc : (k' == NameKind.free && env.scope.kind == .function && env.kindOf n == some .cell) = true
    · simp only [hc, if_true] at h
      rw [List.lookup_cons] at h
      cases hx : x == n with
      | true =>
        rw [hx] at h
        cases h
        have hk : k' = .free := by
          simp only [Bool.and_eq_true] at hc
          simpa using hc.1.1
        subst hk
        exact .inr ⟨by rw [List.lookup_cons, hx], rfl⟩
      | false =>
        rw [hx] at h
        rcases relabel_lookup h with q | q
        · exact .inl (by rw [List.lookup_cons, hx]; exact q)
        · exact .inr ⟨by rw [List.lookup_cons, hx]; exact q.1, q.2⟩
    · simp only [hc, Bool.false_eq_true, if_false] at h
      rw [List.lookup_cons] at h
      cases hx : x == n with
      | true =>
        rw [hx] at h
        exact .inl (by rw [List.lookup_cons, hx]; exact h)
      | false =>
        rw [hx] at h
        rcases relabel_lookup h with q | q
        · exact .inl (by rw [List.lookup_cons, hx]; exact q)
        · exact .inr ⟨by rw [List.lookup_cons, hx]; exact q.1, q.2⟩
theorem relabel_free {env : Env} : ∀ {names : List (Str × NameKind)} {x : Str}, names.lookup x = some .free →
    (names.map fun (n, k) => if (k == NameKind.free && env.scope.kind == .function && env.kindOf n == some .cell) then (n, NameKind.cell) else (n, k)).lookup x = some .free ∨
    (names.map fun (n, k) => if (k == NameKind.free && env.scope.kind == .function && env.kindOf n == some .cell) then (n, NameKind.cell) else (n, k)).lookup x = some .cell
  | [], _, h => by simp at h
  | (n, k') :: r, x, h => by
    rw [List.lookup_cons] at h
    rw [List.map_cons]
    cases hx : x == n with
    | true =>
      rw [hx] at h
      cases h
      by_cases hc : (NameKind.free == NameKind.free && env.scope.kind == .function && env.kindOf n == some .cell) = true
      · simp only [hc, if_true]; rw [List.lookup_cons, hx]; exact .inr rfl
      · simp only [hc, Bool.false_eq_true, if_false]; rw [List.lookup_cons, hx]; exact .inl rfl
    | false =>
      rw [hx] at h
      by_cases hc : (k' == NameKind.free && env.scope.kind == .function && env.kindOf n == some .cell) = true
      · simp only [hc, if_true]; rw [List.lookup_cons, hx]; exact relabel_free h
      · simp only [hc, Bool.false_eq_true, if_false]; rw [List.lookup_cons, hx]; exact relabel_free h
/-! ### the block's context -/
def cxComp (X : Cx) (scope : Scope) (Nc : List Str) (C : Addr) (s3 : Shared) (H3 : Hp) (ex : List Addr) : Cx where
  prog := X.prog
  w := X.w
  K := X.K
  mg := X.mg
  base := X.base
  A := X.A
  N := Nc
  s₀ := s3
  H₀ := H3
  env := compEnvC scope (clos X.env scope.names []) C X.env
  outer := X.stack
  stack := X.stack
  ex := ex
  fn := fun _ => false
  calm := X.calm
  pn := []
  xe := fun _ _ => False
/-- what of the block's scope is asked: all by decide -/
structure CompSc (X : Cx) (scope : Scope) : Prop where
  kind : scope.kind = .function
  nocell : ∀ y ∈ scope.names, y.2 ≠ .cell
  locs : ∀ y ∈ scope.names, y.2 = .local → scope.names.lookup y.1 = some .local
  fre : ∀ y ∈ scope.names, y.2 = .free → X.env.kindOf y.1 = some .cell ∨ X.env.kindOf y.1 = some .free
/-- the block's names at its entry: those of the frame that it sees, then its own -/
def cst : List Bool → St → Nat → St
  | b :: m, v :: σ, k => (if b then v else none) :: cst m σ k
  | _, _, k => List.replicate k none
theorem cst_len : ∀ {m : List Bool} {σ : St} {k : Nat}, m.length = σ.length → (cst m σ k).length = m.length + k
  | [], [], k, _ => by simp [cst]
  | [], _ :: _, _, h => by simp at h
  | _ :: _, [], _, h => by simp at h
  | b :: m, v :: σ, k, h => by
    have := @cst_len m σ k (by simpa using h)
    simp [cst, this]; omega
theorem cst_get : ∀ {m : List Bool} {σ : St} {k i : Nat} {v : V}, m.length = σ.length → (cst m σ k)[i]? = some (some v) → m[i]? = some true ∧ σ[i]? = some (some v)
  | [], [], k, i, v, _, h => by
    simp only [cst] at h
    rw [List.getElem?_replicate] at h
    split at h <;> cases h
  | [], _ :: _, _, _, _, h, _ => by simp at h
  | _ :: _, [], _, _, _, h, _ => by simp at h
  | b :: m, u :: σ, k, 0, v, hl, h => by
    simp only [cst, List.getElem?_cons_zero] at h ⊢
    cases b with
    | true => exact ⟨rfl, by simpa using h⟩
    | false => simp at h
  | b :: m, u :: σ, k, i + 1, v, hl, h => by
    simp only [cst, List.getElem?_cons_succ] at h ⊢
    exact cst_get (by simpa using hl) h
/-- the mask: which names of the frame the block sees -/
def cmask (N : List Str) (scope : Scope) : List Bool := N.map fun x => scope.names.lookup x == some .free
theorem cmask_get {N : List Str} {scope : Scope} {i : Nat} (h : (cmask N scope)[i]? = some true) : ∃ x, N[i]? = some x ∧ scope.names.lookup x = some .free := by
  unfold cmask at h
  rw [List.getElem?_map] at h
  cases e : N[i]? with
  | none => rw [e] at h; cases h
  | some x =>
    rw [e] at h
    exact ⟨x, rfl, by simpa using h⟩
theorem Inv.comp {X : Cx} {pins : List (Addr × Obj)} {σ : St} {H : Hp} {s s4 : Shared} {scope : Scope} {new : List Str} {fp : List Addr} (S : CompSc X scope) (I : Inv X pins σ H s)
    (hfp : ∀ b ∈ fp, FpOk X pins H b) (hob : ∀ b ∈ fp, ∃ o, s.heap.get? b = some o) (hns : ∃ m, s4.heap.Ns s.heap.objs.size m) (hk : ∀ b o, s.heap.get? b = some o → s4.heap.get? b = some o) (h4 : s4 = { s with heap := s4.heap, toks := s4.toks }) :
    Inv (cxComp X scope (X.N ++ new) s.heap.objs.size s H fp) [] (cst (cmask X.N scope) σ new.length) H s4 := by
  have hcl : ∀ n, (n, NameKind.free) ∈ scope.names → ∃ c, X.env.cells.lookup n = some c := fun n hn => I.ok.has n (S.fre _ hn rfl)
  have cl : ∀ {x c}, (clos X.env scope.names []).lookup x = some c → X.env.cells.lookup x = some c := fun {x c} h => clos_lookup hcl (fun q => by cases q) h
  have hlen : (cmask X.N scope).length = σ.length := by unfold cmask; rw [List.length_map]; exact I.len.symm
  obtain ⟨m4, hm4⟩ := hns
  have size4 : s.heap.objs.size < s4.heap.objs.size := hm4.lt
  refine ⟨⟨I.ok.mod, S.kind, I.ok.glob, I.ok.blt, Nat.le_refl _, fun x y c h1 h2 => I.ok.inj x y c (cl h1) (cl h2), fun x hx => ?_, fun x c hf => absurd hf (by simp [cxComp]), I.ok.hd, I.ok.frames, .inl rfl, fun b hb => ?_, fun b o e => ?_, Nat.le_trans I.ok.bsz I.sz, fun b o e hb => ?_, fun b hb => ?_, I.stack, I.stkFree⟩,
    (by rw [h4]; rfl), (by rw [h4]; exact I.bare), Un.kept hk, ⟨m4, hm4, fun i x v h1 h2 h3 => ?_⟩, fun x c h => ?_, I.hok.fresh (Nat.le_refl _), fun x c h => I.freeC x c (cl h), fun p hp => absurd (show p ∈ ([] : List (Addr × Obj)) from hp) (by simp), I.hok.kept hk, ?_⟩
  · -- has
    have hx' : (relabel scope X.env).names.lookup x = some .cell ∨ (relabel scope X.env).names.lookup x = some .free := hx
    have hf : scope.names.lookup x = some .free := by
      rcases hx' with q | q
      · rcases relabel_lookup q with z | z
        · exact absurd rfl (S.nocell _ (PySem.mem_of_lookup z))
        · exact z.1
      · rcases relabel_lookup q with z | z
        · exact z
        · exact z.1
    obtain ⟨c, e⟩ := hcl x (PySem.mem_of_lookup hf)
    exact ⟨c, clos_has e (PySem.mem_of_lookup hf)⟩
  · obtain ⟨o, ho⟩ := hob b hb
    exact ⟨Nat.ne_of_lt (Heap.lt_size ho), fun x c h => (hfp b hb).2.2.2.2.1 x c (cl h)⟩
  · exact I.bs b o e
  · rcases (hfp b hb).2.2.2.1 with z | z
    · exact I.ok.noex b o e z
    · exact absurd (Nat.lt_of_lt_of_le (Heap.lt_size e) (Nat.le_trans I.ok.bsz z)) (Nat.lt_irrefl _)
  · intro z
    rcases List.mem_cons.mp (I.stkSub b z) with e | e
    · exact (hfp b hb).2.1 e
    · exact (hfp b hb).2.2.1 e
  · -- loc
    obtain ⟨g1, g2⟩ := cst_get hlen h2
    obtain ⟨y, hy, hf⟩ := cmask_get g1
    have hiN : i < X.N.length := (List.getElem?_eq_some_iff.mp hy).1
    have hxy : x = y := by
      have h1' : (X.N ++ new)[i]? = some x := h1
      rw [List.getElem?_append_left hiN, hy] at h1'
      exact (Option.some.inj h1').symm
    subst hxy
    have hX : X.env.kindOf x = some .cell ∨ X.env.kindOf x = some .free := S.fre _ (PySem.mem_of_lookup hf) rfl
    obtain ⟨m, hn, hl⟩ := I.loc
    obtain ⟨u, ru, lk⟩ := hl i x v hy g2 (hX.elim (fun z => .inr (.inl z)) fun z => .inr (.inr z))
    refine ⟨u, ru, .inr ⟨?_, ?_⟩⟩
    · exact (relabel_free hf).symm
    · rcases lk with ⟨k, _⟩ | ⟨_, c, e, o, ho, hd⟩
      · rcases hX with z | z <;> (rw [z] at k; cases k)
      · exact ⟨c, clos_has e (PySem.mem_of_lookup hf), o, hk c o ho, hd⟩
  · obtain ⟨v, o, ho, hd⟩ := I.cell x c (cl h)
    exact ⟨v, o, hk c o ho, hd⟩
  · show (cst (cmask X.N scope) σ new.length).length = (X.N ++ new).length
    rw [cst_len hlen, List.length_append]
    unfold cmask
    rw [List.length_map]
/-- the block's end: back in the frame -/
theorem Inv.uncomp {X : Cx} {pins : List (Addr × Obj)} {σ σ' : St} {H H' : Hp} {s s' : Shared} {scope : Scope} {Nc : List Str} {fp : List Addr} {h' : Heap} (I : Inv X pins σ H s) (hfp : ∀ b ∈ fp, FpOk X pins H b)
    (J : Inv (cxComp X scope Nc s.heap.objs.size s H fp) [] σ' H' s') (hs : Heap.SameBut s.heap.objs.size s'.heap h') : Inv X pins σ H' { s' with heap := h' } := by
  have fr : H' s.heap.objs.size = none := J.free
  have old : ∀ b o, s.heap.get? b = some o → b ≠ s.heap.objs.size := fun b o e => Nat.ne_of_lt (Heap.lt_size e)
  have u := J.base
  have u' : Un (frs X.stack) fp H H' s.heap h' :=
    ⟨fun b o e n hb hx => hs.extBut b o (old b o e) (u.keep b o e n hb hx), fun b o e n hb hx => let ⟨sl, q⟩ := u.slot b o e n hb hx; ⟨sl, hs.extBut b _ (old b o e) q⟩, u.free, fun b o e hx => let ⟨o', q⟩ := u.there b o e hx; ⟨o', hs.extBut b _ (old b o e) q⟩, u.tups, u.frzs, u.tbls⟩
  have hok : HOk X.prog X.w H' h' := fun b o e => (J.hok b o e).stay (fun c v hc q => hs.extBut c v (by
    rcases hc with z | z
    · rw [z]; exact ne_of_none e fr
    · exact ne_of_none z fr) q) (fun _ q => q) fun _ _ q => q
  obtain ⟨hh, g, d, t, os'⟩ := s'
  obtain rfl : os' = s.os := J.os
  have fin := I.call (h' := h') (g' := g) (d' := d) (t' := t) (ch := fp) u' hok J.bare fun b hb => ⟨(hfp b hb).2.2.2.1, (hfp b hb).2.1, (hfp b hb).2.2.2.2.1, (hfp b hb).2.2.2.2.2⟩
  exact fin
/-! ### the tests of a comprehension -/
def PTs (X : Cx) (ifs : List Expr) (t : TT) : Prop :=
  ∀ (pins : List (Addr × Obj)) (s : Shared) (σ : St) (H : Hp) (Q : Bool → Hp → Prop), Inv X pins σ H s → t σ H Q →
    wpAny (model X.prog X.w) X.A (forIn ifs true fun c r => if r = true then do let ok ← isTrue c X.env (eval c X.env); pure (ForInStep.yield ok) else pure (ForInStep.yield r)) (TP X pins σ Q) X.xe s
def tYes : TT := fun _ H Q => Q true H
theorem pts_nil {X : Cx} : PTs X [] tYes := fun _ _ _ H _ I h => wpAny_tests_nil ⟨H, I, h⟩
theorem pts_one {X : Cx} {c : Expr} {t : TT} (h : PT X c t) : PTs X [c] t := fun pins s σ H Q I q => wpAny_tests_one (h pins s σ H Q I q)
/-! ### the rule -/
def tComp (mask : List Bool) (k : Nat) (wi : TI) (g : TG) (tc : TT) (te : TE) : TE := fun σ H Q => wi σ H fun J H1 => ∀ D, H1 D = none →
  ∃ W : Nat → Nat → List V → St → Hp → Prop, (∃ m, W 0 m [] (cst mask σ k) (upd H1 D (.lst []))) ∧ ∀ i m ys σc Hc, W i m ys σc Hc → Hc D = some (.lst ys) ∧
    ((J.stop i Hc ∧ Q (.ref D) Hc) ∨ (J.go i Hc ∧ ∃ Nx : List V → St → Hp → Prop, (∀ ys' σ' H', Nx ys' σ' H' → ∃ m', m' < m ∧ W (i + 1) m' ys' σ' H') ∧ ∀ x H', J.yld i Hc x H' → g x σc H' fun σ2 H2 => tc σ2 H2 fun b H3 =>
      if b = true then te σ2 H3 fun y H4 => H4 D = some (.lst ys) ∧ ys.length < sizeLine ∧ Nx (ys ++ [y]) σ2 (upd H4 D (.lst (ys ++ [y])))
      else Nx ys σ2 H3))
section
variable {prog : Program} {w : World} {A : Around} {R : Result → Shared → Prop} {s : Shared}
theorem codeAny_compLoop_any {elt target iter : Expr} {ifs : List Expr} {scope : Scope} {pos : Pos} {it acc : Value} {env : Env} (I : Nat → Shared → Prop)
    (turn : ∀ n s, I n s → wpAny (model prog w) A (pyNext it) (fun r s₁ => match r with
      | none => R (.ok .next) s₁
      | some v => wpAny (model prog w) A (letOwnedTupleGo target it v) (fun _ s₁ => wpAny (model prog w) A (assign target env v) (fun _ s₂ =>
          wpAny (model prog w) A (forIn ifs true fun c r => if r = true then do let ok ← isTrue c env (eval c env); pure (ForInStep.yield ok) else pure (ForInStep.yield r)) (fun ok s₃ =>
            if ok = true then wpAny (model prog w) A (eval elt env) (fun x s₄ =>
              wpAny (model prog w) A (call (.builtin "list.append") [acc, x]) (fun _ s₅ => ∃ m, m < n ∧ I m s₅) (fun _ _ => False) s₄) (fun _ _ => False) s₃
            else ∃ m, m < n ∧ I m s₃) (fun _ _ => False) s₂) (fun _ _ => False) s₁) (fun _ _ => False) s₁) (fun _ _ => False) s)
    (n : Nat) (h : I n s) :
    codeAny (model prog w) A (.compLoop (.ListComp elt [⟨target, iter, ifs, 0⟩] scope pos) 0 it acc env) R s := by
  refine codeAny_loop rfl I (fun n s hI => ?_) n h
  show wpAny _ A ((compTurn (.ListComp elt [⟨target, iter, ifs, 0⟩] scope pos) 0 it acc env).onRaise (fun x => do noteFrame x env; theTreesLotGoes x)) _ _ s
  refine wpAny_noted ?_
  rw [compTurn_list]
  refine wpAny_bind (wpAny_standAt (wpAny_bind (wpAny_mono (turn n s hI) (fun r s₁ h₁ => ?_) fun _ _ h' => h'.elim)))
  cases r with
  | none => exact wpAny_pure h₁
  | some v =>
    refine wpAny_bind (wpAny_mono h₁ (fun _ s₁ h₁ => ?_) fun _ _ h' => h'.elim)
    refine wpAny_bind (wpAny_mono h₁ (fun _ s₂ h₂ => wpAny_bind (wpAny_mono h₂ (fun ok s₃ h₃ => ?_) fun _ _ h' => h'.elim)) fun _ _ h' => h'.elim)
    cases ok with
    | false => exact wpAny_pure ⟨rfl, h₃⟩
    | true =>
      exact wpAny_bind (wpAny_bind (wpAny_mono h₃ (fun x s₄ h₄ => wpAny_bind (wpAny_mono h₄ (fun _ s₅ h₅ => wpAny_pure (wpAny_pure ⟨rfl, h₅⟩)) fun _ _ h' => h'.elim)) fun _ _ h' => h'.elim))
end
section
variable {X : Cx}
theorem comp_block {elt target iter : Expr} {ifs : List Expr} {scope : Scope} {pos : Pos} {new : List Str} {g : TG} {tc : TT} {te : TE} {pins : List (Addr × Obj)} {σ : St} {H : Hp} {s : Shared} {Q : VK} {J : It} {fp : List Addr} {it : Addr} {tn : Nat → Heap → Prop}
    {RR : Value → Addr → Result → Shared → Prop} (S : CompSc X scope) (hc : X.calm = true)
    (hb : ∀ C s3 H3 ex, PG (cxComp X scope (X.N ++ new) C s3 H3 ex) target g ∧ PTs (cxComp X scope (X.N ++ new) C s3 H3 ex) ifs tc ∧ PE (cxComp X scope (X.N ++ new) C s3 H3 ex) elt te)
    (I : Inv X pins σ H s) (T : Turn X.prog X.w X.K target J fp it tn) (st : tn 0 s.heap) (hfp : ∀ b ∈ fp, FpOk X pins H b)
    (h : ∀ D, H D = none → ∃ W : Nat → Nat → List V → St → Hp → Prop, (∃ m, W 0 m [] (cst (cmask X.N scope) σ new.length) (upd H D (.lst []))) ∧ ∀ i m ys σc Hc, W i m ys σc Hc → Hc D = some (.lst ys) ∧
      ((J.stop i Hc ∧ Q (.ref D) Hc) ∨ (J.go i Hc ∧ ∃ Nx : List V → St → Hp → Prop, (∀ ys' σ' H', Nx ys' σ' H' → ∃ m', m' < m ∧ W (i + 1) m' ys' σ' H') ∧ ∀ x H', J.yld i Hc x H' → g x σc H' fun σ2 H2 => tc σ2 H2 fun b H3 =>
        if b = true then te σ2 H3 fun y H4 => H4 D = some (.lst ys) ∧ ys.length < sizeLine ∧ Nx (ys ++ [y]) σ2 (upd H4 D (.lst (ys ++ [y])))
        else Nx ys σ2 H3)))
    (hRR : ∀ (D C : Addr) (s' : Shared) (H' : Hp), Q (.ref D) H' → (∃ m, s'.heap.Ns C m) → (∀ h', Heap.SameBut C s'.heap h' → Inv X pins σ H' { s' with heap := h' }) → C ≠ X.env.locals → (∀ x c, X.env.cells.lookup x = some c → c ≠ C) → H' C = none → s.heap.objs.size ≤ C → RR (.ref D) C (.ok .next) s') :
    wpAny (model X.prog X.w) X.A (newList []) (fun acc s₃ => wpAny (model X.prog X.w) X.A (newFunctionEnv scope X.env.globals (clos X.env scope.names []) [] X.env.qual none .none (some X.env)) (fun cenv s₄ =>
      codeAny (model X.prog X.w) X.A (.compStart (.ListComp elt [⟨target, iter, ifs, 0⟩] scope pos) 0 (.ref it) acc { cenv with scope := relabel scope X.env }) (RR acc cenv.locals) s₄) X.xe s₃) X.xe s := by
  have hD : H s.heap.objs.size = none := I.fresh
  obtain ⟨W, ⟨m0, w0⟩, turn⟩ := h _ hD
  refine wpAny_newObj_type (wpAny_newFunctionEnv S.nocell (by intro y hy; simp at hy) (fun h₁ hns₁ hsb₁ => ?_) S.kind)
  dsimp only at hns₁ hsb₁ ⊢
  have I3 : Inv X pins σ (upd H s.heap.objs.size (.lst [])) { s with heap := s.heap.push { cls := .type "list", data := .seq ([] : List Value).toArray } } := I.lnew (t' := s.toks) (its := []) .nil (Nat.zero_le _)
  generalize hH2 : s.heap.push { cls := .type "list", dict := none, data := .seq ([] : List Value).toArray } = H2 at hns₁ hsb₁ I3 ⊢
  have keep2 : ∀ b o, s.heap.get? b = some o → H2.get? b = some o := fun b o e => hH2 ▸ Heap.get?_push_of_some _ e
  have keep4 : ∀ b o, H2.get? b = some o → h₁.get? b = some o := fun b o e => hsb₁.extBut b o (Nat.ne_of_lt (Heap.lt_size e)) (Heap.get?_push_of_some _ e)
  have hob : ∀ b ∈ fp, ∃ o, H2.get? b = some o := fun b hb' => let ⟨o, e, _⟩ := T.obj _ _ st b hb'; ⟨o, keep2 b o e⟩
  have neD : ∀ b ∈ fp, b ≠ s.heap.objs.size := fun b hb' => let ⟨o, e, _⟩ := T.obj _ _ st b hb'; Nat.ne_of_lt (Heap.lt_size e)
  have hfp3 : ∀ b ∈ fp, FpOk X pins (upd H s.heap.objs.size (.lst [])) b := fun b hb' => ⟨by rw [upd_ne (neD b hb')]; exact (hfp b hb').1, (hfp b hb').2⟩
  have loop : ∀ s4 : Shared, s4 = { s with heap := h₁, toks := s.toks + ([] : List (Str × Value)).length } →
      codeAny (model X.prog X.w) X.A (.compLoop (.ListComp elt [⟨target, iter, ifs, 0⟩] scope pos) 0 (.ref it) (.ref s.heap.objs.size) (compEnvC scope (clos X.env scope.names []) H2.objs.size X.env))
        (RR (.ref s.heap.objs.size) H2.objs.size) s4 := by
    rintro s4 rfl
    have J0 := I3.comp (new := new) (fp := fp) (s4 := { s with heap := h₁, toks := s.toks + ([] : List (Str × Value)).length }) S hfp3 hob ⟨_, hns₁⟩ keep4 rfl
    generalize hXc : cxComp X scope (X.N ++ new) H2.objs.size { s with heap := H2 } (upd H s.heap.objs.size (.lst [])) fp = Xc at J0
    have hJ0 : Inv Xc [] (cst (cmask X.N scope) σ new.length) (upd H s.heap.objs.size (.lst [])) { s with heap := h₁, toks := s.toks + ([] : List (Str × Value)).length } := by
      rw [← hXc]; rw [← hXc] at J0; exact J0
    have e1 : Xc.prog = X.prog := by rw [← hXc]; rfl
    have e2 : Xc.w = X.w := by rw [← hXc]; rfl
    have e3 : Xc.K = X.K := by rw [← hXc]; rfl
    have e4 : Xc.A = X.A := by rw [← hXc]; rfl
    have e5 : Xc.calm = true := by rw [← hXc]; exact hc
    have e6 : Xc.env = compEnvC scope (clos X.env scope.names []) H2.objs.size X.env := by rw [← hXc]; rfl
    have e7 : Xc.xe = fun _ _ => False := by rw [← hXc]; rfl
    have e8 : Xc.fs = frs X.stack := by rw [← hXc]; rfl
    have e9 : Xc.ex = fp := by rw [← hXc]; rfl
    have e10 : Xc.pn = [] := by rw [← hXc]; rfl
    obtain ⟨p1, p2, p3⟩ := hb H2.objs.size { s with heap := H2 } (upd H s.heap.objs.size (.lst [])) fp
    rw [hXc] at p1 p2 p3
    have fpc : ∀ {H' : Hp}, (∀ b ∈ fp, H' b = none) → ∀ b ∈ fp, FpOk Xc [] H' b := fun {H'} hn b hb' => by
      refine ⟨hn b hb', ?_, ?_, .inl (by rw [e9]; exact hb'), fun x c hxc => ?_, fun p hp => ?_⟩
      · rw [e6]
        obtain ⟨o, ho⟩ := hob b hb'
        exact Nat.ne_of_lt (Heap.lt_size ho)
      · rw [e8]
        intro z
        rcases List.mem_cons.mp (I3.stkSub b z) with e | e
        · exact (hfp b hb').2.1 e
        · exact (hfp b hb').2.2.1 e
      · rw [e6] at hxc
        exact (hfp b hb').2.2.2.2.1 x c (clos_lookup (fun n hn => I.ok.has n (S.fre _ hn rfl)) (fun q => by cases q) hxc)
      · rw [e10] at hp
        cases hp
    have fin : ∀ {σ' : St} {H' : Hp} {s' : Shared}, Inv Xc [] σ' H' s' → Q (.ref s.heap.objs.size) H' → RR (.ref s.heap.objs.size) H2.objs.size (.ok .next) s' := fun {σ' H' s'} J q => by
      have J' : Inv (cxComp X scope (X.N ++ new) H2.objs.size { s with heap := H2 } (upd H s.heap.objs.size (.lst [])) fp) [] σ' H' s' := by rw [hXc]; exact J
      have fr : H' H2.objs.size = none := by have := J'.free; exact this
      refine hRR _ _ s' H' q ?_ (fun h' hs => I3.uncomp (s := { s with heap := H2 }) hfp3 J' hs) ?_ ?_ fr (by rw [← hH2, Heap.size_push]; exact Nat.le_succ _)
      · obtain ⟨m, hn, _⟩ := J'.loc
        exact ⟨m, hn⟩
      · exact Nat.ne_of_gt I3.lt
      · intro x c e z
        obtain ⟨v, o, ho, _⟩ := I3.cell x c e
        rw [z] at ho
        exact absurd (Heap.lt_size ho) (Nat.lt_irrefl _)
    refine codeAny_compLoop_any (fun n s' => ∃ i ys σ' H', Inv Xc [] σ' H' s' ∧ tn i s'.heap ∧ (∀ b ∈ fp, H' b = none) ∧ W i n ys σ' H') ?_ m0 ⟨0, [], _, _, hJ0, T.keep _ _ _ st fun b hb' o e => keep4 b o (keep2 b o e), fun b hb' => (hfp3 b hb').1, w0⟩
    rintro n s3 ⟨i, ys, σ3, H3, J3, st3, fr3, w3⟩
    obtain ⟨hDl, tt⟩ := turn i n ys σ3 H3 w3
    rcases tt with ⟨stop, qn⟩ | ⟨go, Nx, hNx, step⟩
    · have := T.done Xc e1 e2 e3 e5 i [] s3 σ3 H3 (fun _ _ => False) J3 (fpc fr3) st3 stop
      rw [e4] at this
      refine thn this fun r s4 ⟨hr, J4⟩ => ?_
      subst hr
      exact fin J4 qn
    · have := T.item Xc e1 e2 e3 e5 i [] s3 σ3 H3 (fun _ _ => False) J3 (fpc fr3) st3 go
      rw [e4] at this
      refine thn this fun r s4 ⟨u, hr, h4⟩ => ?_
      subst hr
      refine thn h4 fun _ s5 ⟨x, H5, J5, r5, y5, st5, fr5⟩ => ?_
      have J5' := J5.pinned (fpc fr5) (T.obj _ _ st5)
      have q1 := p1 _ s5 σ3 H5 x u _ J5' r5 (step x H5 y5)
      rw [e1, e2, e4, e6, e7] at q1
      refine thn q1 fun _ s6 ⟨σ6, H6, J6, q6⟩ => ?_
      have q2 := p2 _ s6 σ6 H6 _ J6 q6
      rw [e1, e2, e4, e6, e7] at q2
      refine thn q2 fun ok s7 ⟨H7, J7, q7⟩ => ?_
      have again : ∀ {n' : Nat} {ys' : List V} {H8 : Hp} {s8 : Shared}, Inv Xc ([] ++ pinsAt fp s5.heap) σ6 H8 s8 → n' < n → W (i + 1) n' ys' σ6 H8 → ∃ m, m < n ∧ ∃ i ys σ' H', Inv Xc [] σ' H' s8 ∧ tn i s8.heap ∧ (∀ b ∈ fp, H' b = none) ∧ W i m ys σ' H' :=
        fun {n' ys' H8 s8} J8 hn w8 => by
          refine ⟨n', hn, i + 1, ys', σ6, H8, J8.unpinned, T.keep _ _ _ st5 fun b hb' o e => (J8.pin (b, o) (List.mem_append_right _ (List.mem_append_right _ (mem_pinsAt hb' e)))).1, fun b hb' => ?_, w8⟩
          obtain ⟨o, e, d⟩ := T.obj _ _ st5 b hb'
          exact (J8.pin (b, o) (List.mem_append_right _ (List.mem_append_right _ (mem_pinsAt hb' e)))).2.1
      cases ok with
      | false =>
        rw [if_neg (by simp)] at q7 ⊢
        obtain ⟨m', hm, w7⟩ := hNx _ _ _ q7
        exact again J7 hm w7
      | true =>
        rw [if_pos rfl] at q7 ⊢
        have q3 := p3 _ s7 σ6 H7 _ J7 q7
        rw [e1, e2, e4, e6, e7] at q3
        refine thn q3 fun y s8 ⟨v8, H8, J8, r8, hl8, hz8, nx8⟩ => ?_
        obtain ⟨m', hm, w8⟩ := hNx _ _ _ nx8
        have q4 := mt_append (X := Xc) _ s8 σ6 H8 (.ref s.heap.objs.size) [v8] (.ref s.heap.objs.size) [y] (fun _ H9 => H9 = upd H8 s.heap.objs.size (.lst (ys ++ [v8]))) J8 rfl (.cons r8 .nil) ⟨_, ys, v8, rfl, rfl, hl8, hz8, rfl⟩
        rw [e1, e2, e4, e7] at q4
        refine thn q4 fun _ s9 ⟨_, H9, J9, _, e9'⟩ => ?_
        subst e9'
        exact again J9 hm w8
  exact codeAny_compStart_list (loop _ rfl) (T.self _ 0 _ _ _ (T.keep _ _ _ st fun b hb' o e => keep4 b o (keep2 b o e)) (loop _ rfl))
/-- [elt for target in iter if ..] -/
theorem pe_comp {elt target iter : Expr} {ifs : List Expr} {scope : Scope} {pos : Pos} (new : List Str) {wi : TI} {g : TG} {tc : TT} {te : TE} (S : CompSc X scope) (hc : X.calm = true) (hi : PI X target iter wi)
    (hb : ∀ C s3 H3 ex, PG (cxComp X scope (X.N ++ new) C s3 H3 ex) target g ∧ PTs (cxComp X scope (X.N ++ new) C s3 H3 ex) ifs tc ∧ PE (cxComp X scope (X.N ++ new) C s3 H3 ex) elt te)
    (hs : ∀ x, foldedSetIterable iter X.env x = pure x := by intro _; rfl) : PE X (.ListComp elt [⟨target, iter, ifs, 0⟩] scope pos) (tComp (cmask X.N scope) new.length wi g tc te) := by
  intro pins s σ H Q I h
  rw [eval_ListComp]
  have hcl : closureFor scope X.env = pure (clos X.env scope.names []) := closureFor_is fun n hn => I.ok.has n (S.fre _ hn rfl)
  refine wpAny_comprehension_free (use := none) rfl hs hcl S.kind S.locs (thn (hi pins s σ H _ I h) fun v s1 h1 => thn h1 fun itv s2 h2 => ?_)
  obtain ⟨it, fp, tn, J, H2, e, I2, T, st2, f2, q2⟩ := h2
  subst e
  refine comp_block (RR := fun acc C => compPost (model X.prog X.w) X.A X.xe none (EP X pins σ Q) acc C) S hc hb I2 T st2 f2 q2 fun D C s' H' q hn hI _ _ _ _ => ?_
  obtain ⟨m, hm⟩ := hn
  exact ⟨m, hm, fun h' hs' => ⟨.ref D, H', hI h' hs', rfl, q⟩⟩
end
end L2
/-! Iterators, built-in calls and comparisons over the layer. -/
set_option Elab.async false
set_option maxRecDepth 100000
namespace L2
open PySem PySem.Spec PyProof.Rows
/-! ### several records of an iterator turn; a new object is laid and tracked -/
theorem Inv.turnedL {X : Cx} {pins : List (Addr × Obj)} {σ : St} {H : Hp} {s : Shared} {h' : Heap} {t' : Nat} {ch : List Addr} (I : Inv X pins σ H s) (k : ∀ b o, b ∉ ch → s.heap.get? b = some o → h'.get? b = some o)
    (hf : ∀ b ∈ ch, FpOk X pins H b) : Inv X pins σ H { s with heap := h', toks := t' } := by
  have nit : ∀ b u, H b = some u → b ∉ ch := fun b u e z => by rw [(hf b z).1] at e; cases e
  refine I.step (g' := s.gens) (d' := s.drawn) (ch := ch) (fun b hb => ⟨(hf b hb).2.2.2.1, (hf b hb).2.1, (hf b hb).2.2.2.2.1, (hf b hb).2.2.2.2.2⟩) (fun b o _ _ hc e _ => k b o hc e) (fun b o _ _ hc e _ => ⟨o.slots, k b o hc e⟩) (fun _ _ _ _ n => n)
    (fun b o hc e => ⟨o, k b o hc e⟩) (fun _ _ e => e) (fun _ _ _ e => e) (fun b ps e => ⟨#[], by rw [e]; simp⟩) (fun m hm => ?_) (fun b u e => ?_) I.bare
  · obtain ⟨o, es, ep, ho, r⟩ := hm
    exact ⟨o, es, ep, k _ o (fun z => (hf _ z).2.1 rfl) ho, r⟩
  · refine (I.hok b u e).stay (fun c v hc q => k c v ?_ q) (fun _ q => q) fun _ _ q => q
    rcases hc with z | z
    · rw [z]; exact nit b u e
    · exact nit c _ z
theorem Inv.turnedNew {X : Cx} {pins : List (Addr × Obj)} {σ : St} {H : Hp} {s : Shared} {h' : Heap} {t' : Nat} {ch : List Addr} {a : Addr} {o : HO} (I : Inv X pins σ H s) (k : ∀ b o, b ∉ ch → s.heap.get? b = some o → h'.get? b = some o)
    (hf : ∀ b ∈ ch, FpOk X pins H b) (ha : s.heap.objs.size ≤ a) (new : ObjOk X.prog X.w (upd H a o) h' a o) : Inv X pins σ (upd H a o) { s with heap := h', toks := t' } := by
  have hn : H a = none := I.hok.fresh ha
  have nit : ∀ b u, H b = some u → b ∉ ch := fun b u e z => by rw [(hf b z).1] at e; cases e
  have nea : ∀ b u, H b = some u → b ≠ a := fun b u e => ne_of_none e hn
  have lta : ∀ b ob, s.heap.get? b = some ob → b ≠ a := fun b ob e => Nat.ne_of_lt (Nat.lt_of_lt_of_le (Heap.lt_size e) ha)
  refine I.step (g' := s.gens) (d' := s.drawn) (ch := ch) (fun b hb => ⟨(hf b hb).2.2.2.1, (hf b hb).2.1, (hf b hb).2.2.2.2.1, (hf b hb).2.2.2.2.2⟩) (fun b o _ _ hc e _ => k b o hc e) (fun b o _ _ hc e _ => ⟨o.slots, k b o hc e⟩) (fun b ob _ e n => by rw [upd_ne (lta b ob e)]; exact n)
    (fun b o hc e => ⟨o, k b o hc e⟩) (fun b xs e => by rw [upd_ne (nea b _ e)]; exact e) (fun b ob u e => by rw [upd_ne (nea b _ e)]; exact e) (fun b ps e => ⟨#[], by rw [upd_ne (nea b _ e), e]; simp⟩) (fun m hm => ?_) (fun b u e => ?_) I.bare
  · obtain ⟨o, es, ep, ho, r⟩ := hm
    exact ⟨o, es, ep, k _ o (fun z => (hf _ z).2.1 rfl) ho, r⟩
  · by_cases hb : b = a
    · subst hb
      rw [upd_same] at e
      cases e
      exact new
    · rw [upd_ne hb] at e
      refine (I.hok b u e).stay (fun c v hc q => k c v ?_ q) (fun c q => by rw [upd_ne (nea c _ q)]; exact q) fun c xs q => by rw [upd_ne (nea c _ q)]; exact q
      rcases hc with z | z
      · rw [z]; exact nit b u e
      · exact nit c _ z
/-! ### zip of two lists -/
def Itz (K : PySem.W.Frag) (a b : Addr) : It :=
  ⟨fun i H => ∃ xs ys x y, SqL K H a xs ∧ SqL K H b ys ∧ xs[i]? = some x ∧ ys[i]? = some y,
   fun i H v H' => ∃ T x y, H T = none ∧ v = .ref T ∧ H' = upd H T (.tup [x, y]) ∧ (∀ xs, SqL K H a xs → xs[i]? = some x) ∧ ∀ ys, SqL K H b ys → ys[i]? = some y,
   fun i H => ∃ xs ys, SqL K H a xs ∧ SqL K H b ys ∧ (xs.length ≤ i ∨ ys.length ≤ i)⟩
theorem turn_zip {P : Program} {w : World} {K : PySem.W.Frag} {es : List Expr} {k : Nat} {pos : Pos} {z TI TO i1 i2 l1 l2 : Addr} (D : ZipApart z TI TO i1 i2 l1 l2) :
    Turn P w K (.Tuple es k pos) (Itz K l1 l2) [z, TI, TO, i1, i2] z (fun i h => IsZip h z TI TO .none ∧ IsPair h TI (.ref i1) (.ref i2) ∧ (∃ a b, IsPair h TO a b) ∧ h.IsListIter i1 l1 i ∧ h.IsListIter i2 l2 i) where
  mem := by simp
  obj := fun i h st b hb => by
    obtain ⟨hz, hTI, ⟨a, c, hTO⟩, ⟨o1, e1, c1, d1⟩, o2, e2, c2, d2⟩ := st
    simp only [List.mem_cons, List.not_mem_nil, or_false] at hb
    rcases hb with rfl | rfl | rfl | rfl | rfl
    · exact ⟨_, hz, fun v q => by cases q⟩
    · exact ⟨_, hTI, fun v q => by cases q⟩
    · exact ⟨_, hTO, fun v q => by cases q⟩
    · exact ⟨o1, e1, fun v q => by rw [d1] at q; cases q⟩
    · exact ⟨o2, e2, fun v q => by rw [d2] at q; cases q⟩
  keep := fun i h h' st kk => by
    obtain ⟨hz, hTI, ⟨a, c, hTO⟩, h1, h2⟩ := st
    exact ⟨kk z (by simp) _ hz, kk TI (by simp) _ hTI, ⟨a, c, kk TO (by simp) _ hTO⟩, h1.at fun o e => kk i1 (by simp) o e, h2.at fun o e => kk i2 (by simp) o e⟩
  item := by
    intro X hP hw hK hc i pins s σ H E I hf st hg
    subst hP hw hK
    obtain ⟨xs, ys, x, y, hq1, hq2, hx, hy⟩ := hg
    obtain ⟨its1, rv1, p1, hz1⟩ := I.list hq1
    obtain ⟨its2, rv2, p2, hz2⟩ := I.list hq2
    obtain ⟨u1, hu1, ru1⟩ := rv1.get hx
    obtain ⟨u2, hu2, ru2⟩ := rv2.get hy
    obtain ⟨hz, hTI, ⟨a, c, hTO⟩, h1, h2⟩ := id st
    refine wpAny_pyNext_zip_item D hz hTI hTO h1 h2 p1.isList p2.isList (x := u1) (y := u2) (by simpa using hu1) (by simpa using hu2) fun h' a1 a2 a3 a4 a5 a6 kk => ?_
    refine ⟨_, rfl, wpAny_letOwnedTupleGo_zip a1 fun h2' hz2' sb => ?_⟩
    have lt : ∀ b o, s.heap.get? b = some o → b ≠ s.heap.objs.size := fun b o e => Nat.ne_of_lt (Heap.lt_size e)
    have hfresh : H s.heap.objs.size = none := I.fresh
    have ne_z : s.heap.objs.size ≠ z := fun q => lt _ _ hz q.symm
    have ne_TO : s.heap.objs.size ≠ TO := fun q => lt _ _ hTO q.symm
    have ne_TI : s.heap.objs.size ≠ TI := fun q => lt _ _ hTI q.symm
    have ne_i1 : s.heap.objs.size ≠ i1 := fun q => by obtain ⟨o, e, _⟩ := h1; exact lt _ _ e q.symm
    have ne_i2 : s.heap.objs.size ≠ i2 := fun q => by obtain ⟨o, e, _⟩ := h2; exact lt _ _ e q.symm
    have hpair : IsPair h2' s.heap.objs.size u1 u2 := (sb.2 _ ne_z).trans a5
    have kall : ∀ b o, b ∉ [z, TO, i1, i2] → s.heap.get? b = some o → h2'.get? b = some o := fun b o hb e => by
      simp only [List.mem_cons, List.not_mem_nil, or_false, not_or] at hb
      exact (sb.2 b hb.1).trans (kk b o hb.1 hb.2.1 hb.2.2.1 hb.2.2.2 e)
    refine ⟨.ref s.heap.objs.size, upd H s.heap.objs.size (.tup [x, y]), ?_, rfl, ⟨s.heap.objs.size, x, y, hfresh, rfl, rfl, fun zs hzs => by rw [I.list_inj hzs hq1]; exact hx, fun zs hzs => by rw [I.list_inj hzs hq2]; exact hy⟩, ⟨hz2', ?_, ⟨u1, u2, ?_⟩, ?_, ?_⟩, fun b hb => ?_⟩
    · refine I.turnedNew (t' := s.toks) (ch := [z, TO, i1, i2]) kall (fun b hb => hf b ?_) (Nat.le_refl _) ⟨by show 2 ≤ sizeLine; decide, [u1, u2], .cons ru1 (.cons ru2 .nil), ?_⟩
      · simp only [List.mem_cons, List.not_mem_nil, or_false] at hb ⊢
        rcases hb with q | q | q | q <;> simp [q]
      · exact ⟨_, hpair, rfl, _, rfl⟩
    · exact (sb.2 _ D.TIz).trans (kk _ _ D.TIz D.TITO D.TIi1 D.TIi2 hTI)
    · exact (sb.2 _ D.TOz).trans a2
    · exact a3.extBut sb.extBut D.i1z
    · exact a4.extBut sb.extBut D.i2z
    · rw [upd_ne]
      · exact (hf b hb).1
      · simp only [List.mem_cons, List.not_mem_nil, or_false] at hb
        rcases hb with rfl | rfl | rfl | rfl | rfl
        · exact ne_z.symm
        · exact ne_TI.symm
        · exact ne_TO.symm
        · exact ne_i1.symm
        · exact ne_i2.symm
  done := by
    intro X hP hw hK hc i pins s σ H E I hf st hg
    subst hP hw hK
    obtain ⟨xs, ys, hq1, hq2, hx⟩ := hg
    obtain ⟨its1, rv1, p1, hz1⟩ := I.list hq1
    obtain ⟨its2, rv2, p2, hz2⟩ := I.list hq2
    obtain ⟨hz, hTI, ⟨a, c, hTO⟩, h1, h2⟩ := id st
    have hl1 := rv1.length
    have hl2 := rv2.length
    refine wpAny_pyNext_zip_end (I.ok.hd hc) D hz hTI hTO h1 h2 p1.isList p2.isList ?_ fun h' kk => ⟨rfl, I.turnedL (t' := s.toks) (ch := [z, TO, i1, i2]) (fun b o hb e => ?_) fun b hb => hf b ?_⟩
    · rcases hx with q | q
      · exact .inl (by simp; omega)
      · exact .inr (by simp; omega)
    · simp only [List.mem_cons, List.not_mem_nil, or_false, not_or] at hb
      exact kk b o hb.1 hb.2.1 hb.2.2.1 hb.2.2.2 e
    · simp only [List.mem_cons, List.not_mem_nil, or_false] at hb ⊢
      rcases hb with q | q | q | q <;> simp [q]
  self := fun _ _ _ _ _ st h => wpAny_pyIter_zip st.1 h
theorem zipApart_of (n a b : Nat) (ha : a < n) (hb : b < n) : ZipApart (n + 4) (n + 2) (n + 3) n (n + 1) a b := by
  constructor <;> first | exact Nat.ne_of_lt (by omega) | exact Nat.ne_of_gt (by omega)
theorem zip_ge {n b : Nat} (h : b ∈ [n + 4, n + 2, n + 3, n, n + 1]) : n ≤ b := by
  simp only [List.mem_cons, List.not_mem_nil, or_false] at h
  omega
section
variable {X : Cx}
def iZip (K : PySem.W.Frag) (ta : TA) : TI := fun σ H R => ta σ H fun vs H1 => ∃ a b xs ys, vs = [.ref a, .ref b] ∧ SqL K H1 a xs ∧ SqL K H1 b ys ∧ R (Itz K a b) H1
theorem pi_zip {a b : Expr} {es : List Expr} {k : Nat} {tpos : Pos} {ta : TA} {p pos : Pos} (hg : Gl X "zip") (hm : X.mg "zip" = none) (ha : PA X [a, b] ta) (hs : starEach [a, b] X.env = [(false, eval a X.env), (false, eval b X.env)] := by rfl) (hs2 : starEach [b] X.env = [(false, eval b X.env)] := by rfl) :
    PI X (.Tuple es k tpos) (.Call (.Name "zip" p) [a, b] [] pos) (iZip X.K ta) := by
  intro pins s σ H R I h
  refine Call_ (ld_blt I hg hm boot_zip (PyProof.Rows.callWith_type1 (thn (ha pos pins s σ H _ I h) fun us s1 ⟨vs, H1, I1, r1, q1⟩ => ?_) (by rw [hs, hs2]) (by rw [hs2]; rfl)))
  obtain ⟨a, b, xs, ys, e, hq1, hq2, q⟩ := q1
  subst e
  obtain ⟨u1, u2, rfl, ru1, ru2⟩ := Vals.two r1
  cases ru1
  cases ru2
  obtain ⟨its1, rv1, p1, hz1⟩ := I1.list hq1
  obtain ⟨its2, rv2, p2, hz2⟩ := I1.list hq2
  refine call_zip_2 p1.isList p2.isList fun h' a1 a2 a3 a4 a5 a6 kk => ?_
  refine wpAny_pyIter_zip a1 ?_
  have la : a < s1.heap.objs.size := by obtain ⟨o, e, _⟩ := p1.isList; exact Heap.lt_size e
  have lb : b < s1.heap.objs.size := by obtain ⟨o, e, _⟩ := p2.isList; exact Heap.lt_size e
  have D := zipApart_of s1.heap.objs.size a b la lb
  refine ⟨_, _, _, _, H1, rfl, I1.kept (t' := s1.toks) kk, turn_zip D, ⟨a1, a2, ⟨_, _, a3⟩, a4, a5⟩, fun b' hb => I1.fpOk (zip_ge hb) (I1.hok.fresh (zip_ge hb)), q⟩
end
/-! ### the form one uses for a comprehension -/
end L2
/-! Built-in calls and comparisons of lists. -/
set_option Elab.async false
set_option maxRecDepth 100000
namespace L2
open PySem PySem.Spec PyProof.Rows
section
variable {X : Cx}
/-! ### all([..]) of bools -/
theorem all_getD : ∀ (bs : List Bool), (List.range bs.length).all (fun i => bs.getD i true) = bs.all id
  | [] => rfl
  | b :: r => by
    rw [List.length_cons, List.range_succ_eq_map, List.all_cons, List.all_map, List.all_cons, ← all_getD r]
    rfl
theorem call_allB (hc : X.calm = true) : CallR X (.builtin "all") (fun xs H Q => ∃ (a : Addr) (bs : List Bool), xs = [.ref a] ∧ SqL X.K H a (bs.map V.bl) ∧ Q (.bl (bs.all id)) H) := by
  intro pins s σ H xs us Q I rv h
  obtain ⟨a, bs, e, hq, q⟩ := h
  subst e
  obtain ⟨u, rfl, ru⟩ := Vals.one rv
  cases ru
  obtain ⟨its, rv, p, hz⟩ := I.list hq
  have hl := rv.length
  rw [List.length_map] at hl
  have la : a < s.heap.objs.size := by obtain ⟨o, e, _⟩ := p.isList; exact Heap.lt_size e
  have hh : X.A.in1.handled = none := I.ok.hd hc
  refine call_all_walk (wpAny_pyIter_list p.isList ?_)
  refine ⟨s.heap.objs.size, _, _, its.toArray.size, _, _, fun i => bs.getD i true, rfl, Walks.list hh _ a (Nat.ne_of_lt la) its.toArray, ⟨⟨_, Heap.get?_push_size _ rfl, rfl, rfl⟩, p.isList.push _⟩, fun i v s' Q' E' hP hQ => ?_, fun h' tk kk => ?_⟩
  · have hv : its[i]? = some v := by simpa using hP
    have hi : i < bs.length := by have := (List.getElem?_eq_some_iff.mp hv).1; omega
    obtain ⟨u, hu, ru⟩ := rv.get (i := i) (x := .bl bs[i]) (by simp [hi])
    rw [hv] at hu
    cases hu
    cases (show v = Value.bool bs[i] from ru)
    refine wpAny_truthy_bool ?_
    have e : bs.getD i true = bs[i] := by simp [hi]
    have hQ' : Q' (bs.getD i true) s' := hQ
    rw [e] at hQ'
    exact hQ'
  · have e : its.toArray.size = bs.length := by simp [hl]
    rw [e, all_getD]
    refine ⟨.bl (bs.all id), H, I.kept (h' := h') (t' := tk) (fun b o e => kk b o (fun z => ?_) (Heap.get?_push_of_some _ e)), rfl, q⟩
    simp only [List.mem_cons, List.not_mem_nil, or_false] at z
    exact Nat.ne_of_lt (Heap.lt_size e) z
/-! ### sorted([..]) of fewer than 64 ints -/
/-! ### range(n) as a value, list(range) -/
def rngV (lo : Int) (n : Nat) : List Int := (List.range n).map fun (i : Nat) => lo + (i : Int)
theorem call_list_rng (hc : X.calm = true) : CallR X (.type "list") (fun xs H Q => ∃ p lo hi, xs = [.ref p] ∧ H p = some (.rng lo hi) ∧ (-(2 ^ 62) ≤ lo ∧ lo < 2 ^ 62 ∧ -(2 ^ 62) ≤ hi ∧ hi < 2 ^ 62) ∧ (hi - lo).toNat ≤ sizeLine ∧
    ∀ l, H l = none → Q (.ref l) (upd H l (.lst ((rngV lo (hi - lo).toNat).map V.int)))) := by
  intro pins s σ H xs us Q I rv h
  obtain ⟨p, lo, hi, e, hp, ⟨h1, h2, h3, h4⟩, hz, q⟩ := h
  subst e
  obtain ⟨u, rfl, ru⟩ := Vals.one rv
  cases ru
  obtain ⟨t, u, v, ho⟩ := (show ObjOk X.prog X.w H s.heap p (.rng lo hi) from I.hok p _ hp)
  refine call_list_range (n := (hi - lo).toNat) (I.ok.hd hc) ho (small_one h1 h2 h3 h4) (by rw [rangeSize_one]; split <;> omega) (by rw [sizeLine_eq] at hz; exact hz) fun h' tk acc' c' kk hS hacc => ?_
  refine ⟨.ref s.heap.objs.size, upd H s.heap.objs.size (.lst ((rngV lo (hi - lo).toNat).map V.int)), I.laid (t' := tk) kk (Nat.le_refl _) ⟨?_, acc'.toList, c', ?_, ?_⟩, rfl, q _ I.fresh⟩
  · simpa [rngV] using hz
  · have key : ∀ (n : Nat) (f : Nat → Int) (l : List Value), l.length = n → (∀ (j : Nat) (v : Value), l[j]? = some v → ∃ t, v = Value.int (f j) t) → Vals (((List.range n).map f).map V.int) l := by
      intro n
      induction n with
      | zero => intro f l hl _; cases l with
        | nil => exact .nil
        | cons => simp at hl
      | succ n ih =>
        intro f l hl hv
        cases l with
        | nil => simp at hl
        | cons x r =>
          have e : ((List.range (n + 1)).map f).map V.int = V.int (f 0) :: ((List.range n).map (f ∘ Nat.succ)).map V.int := by
            rw [List.range_succ_eq_map, List.map_cons, List.map_cons]
            simp [List.map_map, Function.comp_def]
          rw [e]
          obtain ⟨t, rfl⟩ := hv 0 x rfl
          exact .cons ⟨t, rfl⟩ (ih (f ∘ Nat.succ) r (by simpa using hl) fun j v e => hv (j + 1) v (by simpa using e))
    refine key _ _ _ (by simpa using hacc.1) fun j v e => ?_
    obtain ⟨t, rfl⟩ := hacc.2 j v (by simpa using e)
    exact ⟨t, by simp⟩
  · simpa using hS
/-! ### isinstance(x, T), T a built-in type -/
theorem call_isi : CallR X (.builtin "isinstance") (fun xs H Q => ∃ x n t b, xs = [x, .ty n] ∧ TyOf X.K H x t ∧ PySem.W.kitOne X.K t (.type n) = some b ∧ Q (.bl b) H) := by
  intro pins s σ H xs us Q I rv h
  obtain ⟨x, n, t, b, e, ty, hk, q⟩ := h
  subst e
  obtain ⟨u, v, rfl, ru, rv⟩ := Vals.two rv
  cases (show v = Value.type n from rv)
  exact isinst_ok I ru ty hk fun tk => ⟨.bl b, H, I.tok tk, rfl, q⟩
end
/-! ### == and != of lists and tuples -/
inductive EqD (K : PySem.W.Frag) (H : Hp) : Nat → V → V → Bool → Prop
  | flat {d : Nat} {x y : V} : flatV x = true → flatV y = true → EqD K H d x y (eqV x y)
  | len {d : Nat} {a b : Addr} {xs ys : List V} : SqL K H a xs → SqL K H b ys → xs.length ≠ ys.length → EqD K H (d + 1) (.ref a) (.ref b) false
  | lst {d : Nat} {a b : Addr} {xs ys : List V} (e : Nat → Bool) : SqL K H a xs → SqL K H b ys → xs.length = ys.length → (∀ i x y, xs[i]? = some x → ys[i]? = some y → EqD K H d x y (e i)) →
      EqD K H (d + 1) (.ref a) (.ref b) ((List.range xs.length).all e)
  | tup {d : Nat} {a b : Addr} {xs ys : List V} (e : Nat → Bool) : SqT K H a xs → SqT K H b ys → (∀ i x y, xs[i]? = some x → ys[i]? = some y → EqD K H d x y (e i)) →
      EqD K H (d + 1) (.ref a) (.ref b) ((List.range (min xs.length ys.length)).all e && xs.length == ys.length)
theorem eqV_refl {x : V} (h : flatV x = true) : eqV x x = true := by
  cases x <;> simp_all [flatV, eqV]
section
variable {X : Cx} {pins : List (Addr × Obj)} {σ : St} {H : Hp} {s : Shared}
theorem EqD.same (I : Inv X pins σ H s) {d : Nat} {x y : V} {b : Bool} (h : EqD X.K H d x y b) (e : x = y) : b = true := by
  induction h with
  | flat f1 f2 => subst e; exact eqV_refl f1
  | len h1 h2 hn =>
    cases e
    exact absurd (congrArg List.length (I.list_inj h1 h2)) hn
  | lst e' h1 h2 hn hx ih =>
    cases e
    have := I.list_inj h1 h2
    subst this
    rw [List.all_eq_true]
    intro i hi
    have hi' : i < _ := List.mem_range.mp hi
    exact ih i _ _ (List.getElem?_eq_getElem hi') (List.getElem?_eq_getElem hi') rfl
  | tup e' h1 h2 hx ih =>
    cases e
    have := I.tuple_inj h1 h2
    subst this
    rw [Bool.and_eq_true]
    refine ⟨?_, by simp⟩
    rw [List.all_eq_true]
    intro i hi
    have hi' := List.mem_range.mp hi
    rw [Nat.min_self] at hi'
    exact ih i _ _ (List.getElem?_eq_getElem hi') (List.getElem?_eq_getElem hi') rfl
theorem EqD.both (I : Inv X pins σ H s) {d : Nat} {x y : V} {b : Bool} (h : EqD X.K H d x y b) : ∀ {A : Around} {u v : Value}, RelV x u → RelV y v → A.units + d < cLine →
    SeqAt.EqAt A s u v b ∧ ∀ {a c : Addr}, x = .ref a → y = .ref c → SeqAt.RcAt A s u v b ∧ SeqAt.RcNeAt A s u v (!b) := by
  induction h with
  | flat f1 f2 =>
    intro A u v ru rv hu
    exact ⟨eqAt_V ru rv f1 f2, fun e _ => by rw [e] at f1; cases f1⟩
  | @len d a b xs ys h1 h2 hn =>
    intro A u v ru rv hu
    cases (show u = Value.ref a from ru)
    cases (show v = Value.ref b from rv)
    obtain ⟨i1, r1, p1, _⟩ := I.list h1
    obtain ⟨i2, r2, p2, _⟩ := I.list h2
    have l1 := r1.length
    have l2 := r2.length
    have ne : (i1.toArray.size != i2.toArray.size) = true := by simp; omega
    have hne : a ≠ b := fun z => by subst z; exact hn (congrArg List.length (I.list_inj h1 h2))
    have rc := SeqAt.RcAt.lists_lengths (A := A) p1.isList p2.isList ne (by omega)
    exact ⟨.of_refs hne rc, fun _ _ => ⟨rc, SeqAt.RcNeAt.lists_lengths p1.isList p2.isList ne (by omega)⟩⟩
  | @lst d a b xs ys e h1 h2 hn hx ih =>
    intro A u v ru rv hu
    cases (show u = Value.ref a from ru)
    cases (show v = Value.ref b from rv)
    obtain ⟨i1, r1, p1, _⟩ := I.list h1
    obtain ⟨i2, r2, p2, _⟩ := I.list h2
    have l1 := r1.length
    have l2 := r2.length
    have he : ∀ j (h1 : j < i1.toArray.size) (h2 : j < i2.toArray.size), SeqAt.EqAt A.in1 s i1.toArray[j] i2.toArray[j] (e j) := fun j g1 g2 => by
      have g1' : j < i1.length := by simpa using g1
      have g2' : j < i2.length := by simpa using g2
      obtain ⟨u1, e1, q1⟩ := r1.get (i := j) (List.getElem?_eq_getElem (by omega))
      obtain ⟨u2, e2, q2⟩ := r2.get (i := j) (List.getElem?_eq_getElem (by omega))
      rw [List.getElem?_eq_getElem g1'] at e1
      rw [List.getElem?_eq_getElem g2'] at e2
      have z1 : i1.toArray[j] = u1 := by simpa using Option.some.inj e1
      have z2 : i2.toArray[j] = u2 := by simpa using Option.some.inj e2
      rw [z1, z2]
      exact (ih j _ _ (List.getElem?_eq_getElem (by omega)) (List.getElem?_eq_getElem (by omega)) q1 q2 (by rw [Around.in1_units]; omega)).1
    have sz : i1.toArray.size = i2.toArray.size := by simp; omega
    have zl : i1.toArray.size = xs.length := by simp; omega
    have rc := SeqAt.RcAt.lists (A := A) p1.isList p2.isList sz (by omega) he
    have rn := SeqAt.RcNeAt.lists (A := A) p1.isList p2.isList sz (by omega) he
    rw [zl] at rc rn
    refine ⟨?_, fun _ _ => ⟨rc, rn⟩⟩
    by_cases hne : a = b
    · subst hne
      have := EqD.same I (EqD.lst e h1 h2 hn hx) rfl
      rw [this]
      exact SeqAt.EqAt.same _
    · exact .of_refs hne rc
  | @tup d a b xs ys e h1 h2 hx ih =>
    intro A u v ru rv hu
    cases (show u = Value.ref a from ru)
    cases (show v = Value.ref b from rv)
    obtain ⟨i1, r1, p1, _⟩ := I.tuple h1
    obtain ⟨i2, r2, p2, _⟩ := I.tuple h2
    have l1 := r1.length
    have l2 := r2.length
    have he : ∀ j (h1 : j < i1.toArray.size) (h2 : j < i2.toArray.size), SeqAt.EqAt A.in1 s i1.toArray[j] i2.toArray[j] (e j) := fun j g1 g2 => by
      have g1' : j < i1.length := by simpa using g1
      have g2' : j < i2.length := by simpa using g2
      obtain ⟨u1, e1, q1⟩ := r1.get (i := j) (List.getElem?_eq_getElem (by omega))
      obtain ⟨u2, e2, q2⟩ := r2.get (i := j) (List.getElem?_eq_getElem (by omega))
      rw [List.getElem?_eq_getElem g1'] at e1
      rw [List.getElem?_eq_getElem g2'] at e2
      have z1 : i1.toArray[j] = u1 := by simpa using Option.some.inj e1
      have z2 : i2.toArray[j] = u2 := by simpa using Option.some.inj e2
      rw [z1, z2]
      exact (ih j _ _ (List.getElem?_eq_getElem (by omega)) (List.getElem?_eq_getElem (by omega)) q1 q2 (by rw [Around.in1_units]; omega)).1
    have zl : i1.toArray.size = xs.length := by simp; omega
    have zl2 : i2.toArray.size = ys.length := by simp; omega
    have rc := SeqAt.RcAt.tuples (A := A) (show s.heap.IsTuple a i1.toArray from p1) (show s.heap.IsTuple b i2.toArray from p2) (by omega) he
    have rn := SeqAt.RcNeAt.tuples (A := A) (show s.heap.IsTuple a i1.toArray from p1) (show s.heap.IsTuple b i2.toArray from p2) (by omega) he
    rw [zl, zl2] at rc rn
    refine ⟨?_, fun _ _ => ⟨rc, rn⟩⟩
    by_cases hne : a = b
    · subst hne
      have := EqD.same I (EqD.tup e h1 h2 hx) rfl
      rw [this]
      exact SeqAt.EqAt.same _
    · exact .of_refs hne rc
end
def rEqD (K : PySem.W.Frag) : R2 := fun x y H Q => ∃ a c b, x = .ref a ∧ y = .ref c ∧ EqD K H 4 x y b ∧ Q (.bl b) H
def rNeD (K : PySem.W.Frag) : R2 := fun x y H Q => ∃ a c b, x = .ref a ∧ y = .ref c ∧ EqD K H 4 x y b ∧ Q (.bl (!b)) H
section
variable {X : Cx}
theorem op_eqD {k : Nat} (hr : Room k X.A) : OpR X (compareOp .Eq) (rEqD X.K) := by
  intro pins s σ H x y v u Q I rx ry h
  obtain ⟨a, c, b, e1, e2, h, q⟩ := h
  have := hr.units
  exact ((h.both I rx ry (by omega)).2 e1 e2).1 _ _ _ _ ⟨.bl b, H, I, rfl, q⟩
theorem op_neD {k : Nat} (hr : Room k X.A) : OpR X (compareOp .NotEq) (rNeD X.K) := by
  intro pins s σ H x y v u Q I rx ry h
  obtain ⟨a, c, b, e1, e2, h, q⟩ := h
  have := hr.units
  exact ((h.both I rx ry (by omega)).2 e1 e2).2 _ _ _ _ ⟨.bl (!b), H, I, rfl, q⟩
end
/-! ### the forms one uses -/
theorem EqD.mono {K : PySem.W.Frag} {H : Hp} {d : Nat} {x y : V} {b : Bool} (h : EqD K H d x y b) : ∀ {d'}, d ≤ d' → EqD K H d' x y b := by
  induction h with
  | flat f1 f2 => intro d' _; exact .flat f1 f2
  | len h1 h2 hn => intro d' hd; cases d' with
    | zero => omega
    | succ d' => exact .len h1 h2 hn
  | lst e h1 h2 hn hx ih => intro d' hd; cases d' with
    | zero => omega
    | succ d' => exact .lst e h1 h2 hn fun i x y q1 q2 => ih i x y q1 q2 (by omega)
  | tup e h1 h2 hx ih => intro d' hd; cases d' with
    | zero => omega
    | succ d' => exact .tup e h1 h2 fun i x y q1 q2 => ih i x y q1 q2 (by omega)
theorem EqD.nil {K : PySem.W.Frag} {H : Hp} {a b : Addr} {xs : List V} (h1 : SqL K H a xs) (h2 : SqL K H b []) : EqD K H 4 (.ref a) (.ref b) xs.isEmpty := by
  cases xs with
  | nil => exact .lst (fun _ => true) h1 h2 rfl fun i x y q _ => by simp at q
  | cons x r => exact .len h1 h2 (by simp)
theorem all_range_eq {α : Type} [DecidableEq α] : ∀ (xs ys : List α), xs.length = ys.length → (List.range xs.length).all (fun i => decide (xs[i]? = ys[i]?)) = decide (xs = ys)
  | [], [], _ => by simp
  | [], _ :: _, h => by simp at h
  | _ :: _, [], h => by simp at h
  | x :: r, y :: t, h => by
    rw [List.length_cons, List.range_succ_eq_map, List.all_cons, List.all_map]
    have e : ((fun i => decide ((x :: r)[i]? = (y :: t)[i]?)) ∘ Nat.succ) = fun i => decide (r[i]? = t[i]?) := by funext i; simp
    rw [e, all_range_eq r t (by simpa using h)]
    by_cases h1 : x = y <;> by_cases h2 : r = t <;> simp [h1, h2]
theorem EqD.ints {K : PySem.W.Frag} {H : Hp} {a b : Addr} {ns ms : List Int} (h1 : SqL K H a (ns.map V.int)) (h2 : SqL K H b (ms.map V.int)) : EqD K H 1 (.ref a) (.ref b) (decide (ns = ms)) := by
  by_cases hl : ns.length = ms.length
  · rw [← all_range_eq ns ms hl]
    have q := EqD.lst (K := K) (H := H) (d := 0) (fun i => decide (ns[i]? = ms[i]?)) h1 h2 (by simpa using hl) fun i x y q1 q2 => by
      rw [List.getElem?_map] at q1 q2
      cases e1 : ns[i]? with
      | none => rw [e1] at q1; cases q1
      | some n =>
        cases e2 : ms[i]? with
        | none => rw [e2] at q2; cases q2
        | some m =>
          rw [e1] at q1
          rw [e2] at q2
          cases q1
          cases q2
          have : decide (some n = some m) = eqV (.int n) (.int m) := by
            simp only [Option.some.injEq, eqV]
            exact (Bool.beq_eq_decide_eq n m).symm
          rw [this]
          exact .flat rfl rfl
    rw [List.length_map] at q
    exact q
  · have e : decide (ns = ms) = false := decide_eq_false fun z => hl (by rw [z])
    rw [e]
    exact .len h1 h2 (by simpa using hl)
end L2
/-! Promises of defs by name; lists of ints and lines; the comprehensions that one meets. -/
set_option Elab.async false
set_option maxRecDepth 100000
namespace L2
open PySem PySem.Spec PyProof.Rows
/-! ### the block's scope, reckoned -/
def compOkB (a b : List (Str × NameKind)) : Bool := a.all fun y => y.2 != .cell && (y.2 != .local || a.lookup y.1 == some .local) && (y.2 != .free || (b.lookup y.1 == some .cell || b.lookup y.1 == some .free))
theorem CompSc.of {X : Cx} {scope : Scope} (h1 : scope.kind = .function) (h2 : compOkB scope.names X.env.scope.names = true) : CompSc X scope := by
  unfold compOkB at h2
  rw [List.all_eq_true] at h2
  refine ⟨h1, fun y hy => ?_, fun y hy e => ?_, fun y hy e => ?_⟩
  · have := h2 y hy
    simp only [Bool.and_eq_true] at this
    simpa using this.1.1
  · have := h2 y hy
    simp only [Bool.and_eq_true, e] at this
    simpa using this.1.2
  · have := h2 y hy
    simp only [Bool.and_eq_true, e] at this
    simpa [Env.kindOf] using this.2
/-! ### a def's promise, by its name -/
structure Has (P : Program) (w : World) (K : PySem.W.Frag) (mg : Str → Option Value) (base : Heap) (CX : CXT) (k : Nat) (x : Str) (ps : List Str) (sp : Sp) : Prop where
  ex : ∃ (f : Addr) (fd : FuncData), FnOk P w K mg base CX k f fd ps sp ∧ mg x = some (.ref f) ∧ PySem.W.keepIn K (.ref f) = true ∧ Binds K fd ps []
structure Fn (K : PySem.W.Frag) (mg : Str → Option Value) (x : Str) (st : Stmt) (ps : List Str) : Prop where
  ex : ∃ (f : Addr) (fd : FuncData), Fun K x x st f fd ∧ mg x = some (.ref f) ∧ Binds K fd ps []
section
variable {P : Program} {w : World} {K : PySem.W.Frag} {mg : Str → Option Value} {base : Heap}
theorem Fn.has {x : Str} {st : Stmt} {N ps : List Str} {k : Nat} {sp : Sp} (F : Fn K mg x st ps) (S : FnScope N ps (defScope st)) (len : ∀ vs H Q E, sp vs H Q E → vs.length = ps.length)
    (hbody : ∀ (f : Addr) (cdv : Value) (A : Around) (outer : List Env) (s : Shared) (H : Hp) (vs : List V) (Q : VK) (E : XK), Room k (A.deeper (envOfC x (defScope st) s.heap.objs.size f cdv)) → sp vs H Q E →
      ∃ t, PSs (cxOf CX0 P w K mg base N x (defScope st) f cdv A outer s H E).nox (defBody st) t ∧ t { nx := fun _ H' => Q .non H', rt := Q } (start N vs) H) : Has P w K mg base CX0 (k + 1) x ps sp :=
  let ⟨f, fd, a, b, c⟩ := F.ex; ⟨f, fd, a.ok S len (hbody f), b, a.kp, c⟩
theorem pe_callH {X : Cx} {CX : CXT} {k : Nat} {x : Str} {ps : List Str} {sp : Sp} {E : XK} {p pos : Pos} {e : Expr} {es : List Expr} {t : TA} (h : Has X.prog X.w X.K X.mg X.base CX k x ps sp) (hr : Room k X.A) (hg : Gl X x) (hx : Passes CX X E) (ha : PA X (e :: es) t)
    (hdb : (x == ("__debug__" : Str)) = false := by decide) (he : starEach (e :: es) X.env = (false, eval e X.env) :: starEach es X.env := by rfl) (hpl : (backTo pos (starEach es X.env)).any (·.1) = false := by rfl) :
    PE X (.Call (.Name x p) (e :: es) [] pos) (tCall sp [] E t) := by
  obtain ⟨f, fd, a, b, c, d⟩ := h.ex
  exact pe_call a hr hg b c d .nil hx ha hdb he hpl
end
/-! ### lists of ints, lines -/
/-- a list of ints stands at a -/
def IsI (H : Hp) (a : Addr) (ns : List Int) : Prop := H a = some (.lst (ns.map V.int))
theorem IsI.mono {H H' : Hp} {a : Addr} {ns : List Int} (h : IsI H a ns) (s : Same H H') : IsI H' a ns := s _ _ h
theorem IsI.sq {K : PySem.W.Frag} {H : Hp} {a : Addr} {ns : List Int} (h : IsI H a ns) : SqL K H a (ns.map V.int) := SqL.of h
theorem Same.put {H : Hp} {p : Addr} {o : HO} (h : H p = none) : Same H (upd H p o) := fun b u e => by rw [upd_ne (ne_of_none e h)]; exact e
theorem Same.put' {H H' : Hp} {p : Addr} {o : HO} (s : Same H H') (h : H p = none) : Same H (upd H' p o) := fun b u e => by rw [upd_ne (ne_of_none e h)]; exact s b u e
/-! ### comprehensions over a list, one name -/
theorem set_slot {σ0 σ : St} {j : Nat} {v : Option V} (h : σ = σ0 ∨ ∃ u, σ = σ0.set j u) : σ.set j v = σ0.set j v := by
  rcases h with e | ⟨u, e⟩
  · rw [e]
  · rw [e, List.set_set]
theorem comp_list {K : PySem.W.Frag} {a D : Addr} {xs : List V} {j : Nat} {tc : TT} {te : TE} {σ0 : St} {H0 : Hp} {Q : Hp → Prop} (Pv : Nat → List V → Hp → Prop) (h0 : Pv 0 [] H0)
    (hD : ∀ i ys H, i ≤ xs.length → Pv i ys H → H D = some (.lst ys) ∧ SqL K H a xs)
    (hs : ∀ i x ys H, xs[i]? = some x → Pv i ys H → tc (σ0.set j (some x)) H fun b H3 => if b = true then te (σ0.set j (some x)) H3 fun y H4 => H4 D = some (.lst ys) ∧ ys.length < sizeLine ∧ Pv (i + 1) (ys ++ [y]) (upd H4 D (.lst (ys ++ [y]))) else Pv (i + 1) ys H3)
    (hend : ∀ ys H, Pv xs.length ys H → Q H) :
    ∃ W : Nat → Nat → List V → St → Hp → Prop, (∃ m, W 0 m [] σ0 H0) ∧ ∀ i m ys σc Hc, W i m ys σc Hc → Hc D = some (.lst ys) ∧
      (((Itl K a).stop i Hc ∧ Q Hc) ∨ ((Itl K a).go i Hc ∧ ∃ Nx : List V → St → Hp → Prop, (∀ ys' σ' H', Nx ys' σ' H' → ∃ m', m' < m ∧ W (i + 1) m' ys' σ' H') ∧ ∀ x H', (Itl K a).yld i Hc x H' → gName j x σc H' fun σ2 H2 => tc σ2 H2 fun b H3 =>
        if b = true then te σ2 H3 fun y H4 => H4 D = some (.lst ys) ∧ ys.length < sizeLine ∧ Nx (ys ++ [y]) σ2 (upd H4 D (.lst (ys ++ [y])))
        else Nx ys σ2 H3)) := by
  refine ⟨fun i m ys σ H => m = xs.length - i ∧ i ≤ xs.length ∧ (σ = σ0 ∨ ∃ u, σ = σ0.set j u) ∧ Pv i ys H, ⟨xs.length, by simp, Nat.zero_le _, .inl rfl, h0⟩, ?_⟩
  rintro i m ys σ H ⟨rfl, hi, hσ, p⟩
  obtain ⟨d1, d2⟩ := hD i ys H hi p
  refine ⟨d1, ?_⟩
  by_cases hlt : i < xs.length
  · refine .inr ⟨⟨xs, xs[i], d2, List.getElem?_eq_getElem hlt⟩, fun ys' σ' H' => (σ' = σ0 ∨ ∃ u, σ' = σ0.set j u) ∧ Pv (i + 1) ys' H', fun ys' σ' H' q => ⟨_, by omega, rfl, hlt, q⟩, ?_⟩
    rintro x H' ⟨rfl, hx⟩
    have hx := hx xs d2
    unfold gName
    rw [set_slot hσ]
    have q := hs i x ys _ hx p
    have key : ((σ0.set j (some x)) = σ0 ∨ ∃ u, (σ0.set j (some x)) = σ0.set j u) = True := eq_true (.inr ⟨_, rfl⟩)
    simp only [key, true_and]
    exact q
  · have e : i = xs.length := by omega
    subst e
    exact .inl ⟨⟨xs, d2, Nat.le_refl _⟩, hend ys H p⟩
/-- each item a value that does not hang on the heap; the heap may grow -/
theorem comp_vals {K : PySem.W.Frag} {a D : Addr} {xs : List V} {j : Nat} {tc : TT} {te : TE} {σ0 : St} {H1 : Hp} {Q : Hp → Prop} (p : V → Bool) (f : V → V) (hz : xs.length ≤ sizeLine) (hq : SqL K H1 a xs) (hfr : H1 D = none)
    (ht : ∀ x H R, x ∈ xs → Same H1 H → (∀ H', Same H H' → R (p x) H') → tc (σ0.set j (some x)) H R)
    (he : ∀ x H R, x ∈ xs → p x = true → Same H1 H → (∀ H', Same H H' → R (f x) H') → te (σ0.set j (some x)) H R)
    (hend : ∀ H, Same H1 H → H D = some (.lst ((xs.filter p).map f)) → Q H) :
    ∃ W : Nat → Nat → List V → St → Hp → Prop, (∃ m, W 0 m [] σ0 (upd H1 D (.lst []))) ∧ ∀ i m ys σc Hc, W i m ys σc Hc → Hc D = some (.lst ys) ∧
      (((Itl K a).stop i Hc ∧ Q Hc) ∨ ((Itl K a).go i Hc ∧ ∃ Nx : List V → St → Hp → Prop, (∀ ys' σ' H', Nx ys' σ' H' → ∃ m', m' < m ∧ W (i + 1) m' ys' σ' H') ∧ ∀ x H', (Itl K a).yld i Hc x H' → gName j x σc H' fun σ2 H2 => tc σ2 H2 fun b H3 =>
        if b = true then te σ2 H3 fun y H4 => H4 D = some (.lst ys) ∧ ys.length < sizeLine ∧ Nx (ys ++ [y]) σ2 (upd H4 D (.lst (ys ++ [y])))
        else Nx ys σ2 H3)) := by
  refine comp_list (fun i ys H => Same H1 H ∧ H D = some (.lst ys) ∧ ys = ((xs.take i).filter p).map f) ⟨Same.put hfr, upd_same, by simp⟩ (fun i ys H _ ⟨s, d, _⟩ => ⟨d, s.seq hq⟩) (fun i x ys H hx ⟨s, d, e⟩ => ?_) fun ys H ⟨s, d, e⟩ => ?_
  · have hm := List.mem_of_getElem? hx
    refine ht x H _ hm s fun H3 s3 => ?_
    have e' := take_succ_filter p xs i x hx
    cases hp : p x with
    | true =>
      rw [if_pos rfl]
      refine he x H3 _ hm hp (s.trans s3) fun H4 s4 => ⟨s4 _ _ (s3 _ _ d), ?_, ?_, upd_same, ?_⟩
      · rw [e, List.length_map]
        have h1 : ((xs.take i).filter p).length ≤ (xs.take i).length := List.length_filter_le _ _
        have h2 : i < xs.length := (List.getElem?_eq_some_iff.mp hx).1
        rw [List.length_take] at h1
        omega
      · exact Same.put' ((s.trans s3).trans s4) hfr
      · rw [e', hp, e]; simp
    | false =>
      rw [if_neg (by simp)]
      exact ⟨s.trans s3, s3 _ _ d, by rw [e', hp, e]; simp⟩
  · rw [List.take_length] at e
    exact hend H s (by rw [d, e])
end L2
/-! The rules whose reading names the written part, with that part given. -/
set_option Elab.async false
set_option maxRecDepth 100000
namespace L2
open PySem PySem.Spec PyProof.Rows
section
variable {X : Cx} (K : PySem.W.Frag)
theorem pgK_tup {es : List Expr} {k : Nat} {pos : Pos} {t : TGs} {n : Nat} (hc : X.calm = true) (h : PGs X es t) (hK : X.K = K := by rfl)
    (hn : (assignEach es X.env).length = n := by rfl) (hst : (assignEach es X.env).findIdx? (·.1) = none := by rfl) : PG X (.Tuple es k pos) (gTup K n t) := hK ▸ pg_tup hc h hn hst
theorem ixK_list (hK : X.K = K := by rfl) : IxR X (rIxL K) := hK ▸ ix_list
theorem slK_list (hK : X.K = K := by rfl) : SlR X (rSlL K) := hK ▸ sl_list
theorem piK_list {tg l : Expr} {tl : TE} (hl : PE X l tl) (hK : X.K = K := by rfl) : PI X tg l (iList K tl) := hK ▸ pi_list hl
theorem piK_zip {a b : Expr} {es : List Expr} {k : Nat} {tpos : Pos} {ta : TA} {p pos : Pos} (hg : Gl X "zip") (hm : X.mg "zip" = none) (ha : PA X [a, b] ta) (hK : X.K = K := by rfl) (hs : starEach [a, b] X.env = [(false, eval a X.env), (false, eval b X.env)] := by rfl) (hs2 : starEach [b] X.env = [(false, eval b X.env)] := by rfl) :
    PI X (.Tuple es k tpos) (.Call (.Name "zip" p) [a, b] [] pos) (iZip K ta) := hK ▸ pi_zip hg hm ha hs hs2
theorem callK_len (hK : X.K = K := by rfl) : CallR X (.builtin "len") (fun xs H Q => ∃ p ys, xs = [.ref p] ∧ (SqL K H p ys ∨ SqT K H p ys) ∧ Q (.int ys.length) H) := hK ▸ call_len_seq
theorem callK_list (hK : X.K = K := by rfl) : CallR X (.type "list") (fun xs H Q => ∃ p ys, xs = [.ref p] ∧ (SqL K H p ys ∨ SqT K H p ys) ∧ ∀ l, H l = none → Q (.ref l) (upd H l (.lst ys))) := hK ▸ call_list_of
theorem callK_all (hc : X.calm = true) (hK : X.K = K := by rfl) : CallR X (.builtin "all") (fun xs H Q => ∃ (a : Addr) (bs : List Bool), xs = [.ref a] ∧ SqL K H a (bs.map V.bl) ∧ Q (.bl (bs.all id)) H) := hK ▸ call_allB hc
theorem callK_isi (hK : X.K = K := by rfl) : CallR X (.builtin "isinstance") (fun xs H Q => ∃ x n t b, xs = [x, .ty n] ∧ TyOf K H x t ∧ PySem.W.kitOne K t (.type n) = some b ∧ Q (.bl b) H) := hK ▸ call_isi
theorem opK_eq {k : Nat} (hr : Room k X.A) (hK : X.K = K := by rfl) : OpR X (compareOp .Eq) (rEqD K) := hK ▸ op_eqD hr
theorem opK_ne {k : Nat} (hr : Room k X.A) (hK : X.K = K := by rfl) : OpR X (compareOp .NotEq) (rNeD K) := hK ▸ op_neD hr
end
end L2
/-! More forms: zip, ranges, slices; rows off the heap. -/
set_option Elab.async false
set_option maxRecDepth 100000
namespace L2
open PySem PySem.Spec PyProof.Rows
theorem set_slot2 {σ0 σ : St} {i j : Nat} {v w : Option V} (hij : i ≠ j) (h : σ = σ0 ∨ ∃ u z, σ = (σ0.set i u).set j z) : (σ.set i v).set j w = (σ0.set i v).set j w := by
  rcases h with e | ⟨u, z, e⟩
  · rw [e]
  · rw [e, List.set_comm _ _ hij.symm, List.set_set, List.set_set]
/-- [f(x, y) for x, y in zip(xs, ys)], each item a value that does not hang on the heap -/
theorem comp_zip {K : PySem.W.Frag} {a b D : Addr} {xs ys : List V} {i1 i2 : Nat} {te : TE} {σ0 : St} {H1 : Hp} {Q : Hp → Prop} (f : V → V → V) (hz : xs.length ≤ sizeLine) (hx : SqL K H1 a xs) (hy : SqL K H1 b ys) (hfr : H1 D = none)
    (he : ∀ x y H R, (x, y) ∈ xs.zip ys → Same H1 H → (∀ H', Same H H' → R (f x y) H') → te ((σ0.set i1 (some x)).set i2 (some y)) H R)
    (hend : ∀ H, Same H1 H → H D = some (.lst ((xs.zip ys).map fun p => f p.1 p.2)) → Q H) (hij : i1 ≠ i2 := by decide) :
    ∃ W : Nat → Nat → List V → St → Hp → Prop, (∃ m, W 0 m [] σ0 (upd H1 D (.lst []))) ∧ ∀ i m zs σc Hc, W i m zs σc Hc → Hc D = some (.lst zs) ∧
      (((Itz K a b).stop i Hc ∧ Q Hc) ∨ ((Itz K a b).go i Hc ∧ ∃ Nx : List V → St → Hp → Prop, (∀ ys' σ' H', Nx ys' σ' H' → ∃ m', m' < m ∧ W (i + 1) m' ys' σ' H') ∧ ∀ x H', (Itz K a b).yld i Hc x H' → gTup K 2 (gCons (gName i1) (gCons (gName i2) gNil)) x σc H' fun σ2 H2 => tYes σ2 H2 fun b H3 =>
        if b = true then te σ2 H3 fun y H4 => H4 D = some (.lst zs) ∧ zs.length < sizeLine ∧ Nx (zs ++ [y]) σ2 (upd H4 D (.lst (zs ++ [y])))
        else Nx zs σ2 H3)) := by
  have lz : (xs.zip ys).length = min xs.length ys.length := List.length_zip
  refine ⟨fun i m zs σ H => m = (xs.zip ys).length - i ∧ i ≤ (xs.zip ys).length ∧ (σ = σ0 ∨ ∃ u z, σ = (σ0.set i1 u).set i2 z) ∧ Same H1 H ∧ H D = some (.lst zs) ∧ zs = ((xs.zip ys).take i).map fun p => f p.1 p.2,
    ⟨_, rfl, Nat.zero_le _, .inl rfl, Same.put hfr, upd_same, by simp⟩, ?_⟩
  rintro i m zs σ H ⟨rfl, hi, hσ, s, d, e⟩
  refine ⟨d, ?_⟩
  by_cases hlt : i < (xs.zip ys).length
  · have h1 : i < xs.length := by omega
    have h2 : i < ys.length := by omega
    refine .inr ⟨⟨xs, ys, xs[i], ys[i], s.seq hx, s.seq hy, List.getElem?_eq_getElem h1, List.getElem?_eq_getElem h2⟩,
      fun zs' σ' H' => (σ' = σ0 ∨ ∃ u z, σ' = (σ0.set i1 u).set i2 z) ∧ Same H1 H' ∧ H' D = some (.lst zs') ∧ zs' = ((xs.zip ys).take (i + 1)).map fun p => f p.1 p.2, fun zs' σ' H' q => ⟨_, by omega, rfl, hlt, q⟩, ?_⟩
    rintro v H' ⟨T, x, y, hT, rfl, rfl, gx, gy⟩
    have ex := gx xs (s.seq hx)
    have ey := gy ys (s.seq hy)
    refine ⟨T, [x, y], rfl, SqT.of upd_same, rfl, x, [y], rfl, y, [], rfl, rfl, ?_⟩
    show tYes ((σ.set i1 (some x)).set i2 (some y)) _ _
    unfold tYes
    simp only [if_true]
    rw [set_slot2 hij hσ]
    have sT : Same H (upd H T (.tup [x, y])) := Same.put hT
    have ez : (xs.zip ys)[i]? = some (x, y) := by
      rw [List.getElem?_zip_eq_some]
      exact ⟨ex, ey⟩
    refine he x y _ _ (List.mem_of_getElem? ez) (s.trans sT) fun H4 s4 => ⟨s4 _ _ (sT _ _ d), ?_, .inr ⟨_, _, rfl⟩, Same.put' ((s.trans sT).trans s4) hfr, upd_same, ?_⟩
    · rw [e, List.length_map, List.length_take]; omega
    · rw [List.take_add_one, ez, e]; simp
  · have ei : i = (xs.zip ys).length := by omega
    subst ei
    rw [List.take_length] at e
    exact .inl ⟨⟨xs, ys, s.seq hx, s.seq hy, by omega⟩, hend H s (by rw [d, e])⟩
/-! ### slices -/
theorem cut_from (xs : List V) (k : Nat) : cutV xs (some (k : Int)) none = xs.drop k := by
  unfold cutV
  rw [HT.sIx_nat, HT.sIx_none]
  by_cases h : k ≤ xs.length
  · rw [Nat.min_eq_left h, List.take_of_length_le (by simp)]
  · rw [Nat.min_eq_right (by omega), List.drop_length, List.drop_of_length_le (by omega)]
    simp
theorem cut_to (xs : List V) (k : Nat) : cutV xs none (some (k : Int)) = xs.take k := by
  unfold cutV
  rw [HT.sIx_nat, HT.sIx_none]
  simp only [List.drop_zero, Nat.sub_zero]
  by_cases h : k ≤ xs.length
  · rw [Nat.min_eq_left h]
  · rw [Nat.min_eq_right (by omega), List.take_of_length_le (Nat.le_refl _), List.take_of_length_le (by omega)]
theorem cut_mid (xs : List V) (i j : Nat) : cutV xs (some (i : Int)) (some (j : Int)) = (xs.drop i).take (j - i) := by
  unfold cutV
  rw [HT.sIx_nat, HT.sIx_nat]
  by_cases h : i ≤ xs.length
  · rw [Nat.min_eq_left h]
    by_cases h2 : j ≤ xs.length
    · rw [Nat.min_eq_left h2]
    · rw [Nat.min_eq_right (by omega), List.take_of_length_le (by simp), List.take_of_length_le (by simp; omega)]
  · have e : min i xs.length = xs.length := Nat.min_eq_right (by omega)
    rw [e, List.drop_length, List.drop_of_length_le (by omega)]
    simp
/-! ### rows off the heap -/
def intOf : V → Int
  | .int n => n
  | _ => 0
theorem small_line {n : Nat} (h : n ≤ 1000) : n ≤ sizeLine := Nat.le_of_lt (small1000 h)
/-! ### promises of common kinds -/
/-- of a list of ints, an answer that does not hang on the heap; the heap may grow -/
def spI (g : List Int → V) : Sp := fun vs H Q _ => ∃ (a : Addr) (ns : List Int), vs = [.ref a] ∧ IsI H a ns ∧ ns.length ≤ 1000 ∧ ∀ H', Same H H' → Q (g ns) H'
end L2
/-! list(reversed(xs)). -/
set_option Elab.async false
set_option maxRecDepth 100000
namespace L2
open PySem PySem.Spec PyProof.Rows
theorem nolen_lri : typeLookup (.type "list_reverseiterator") "__len__" = pure none := by rw [typeLookup_type, builtinLookup_eq_fast]; kernel_rfl
theorem hint_lri : typeLookup (.type "list_reverseiterator") "__length_hint__" = pure (some (.builtin "list_reverseiterator.__length_hint__")) := by rw [typeLookup_type, builtinLookup_eq_fast]; kernel_rfl
section
variable {prog : Program} {w : World} {A : Around} {s : Shared} {R : Result → Shared → Prop}
theorem extend_rev {I l : Addr} {items : Array Value} (hh : A.handled = none) (hne : l ≠ I) (S : Addr) (res : Value) (c₀ : Nat) (hit : s.heap.IsRevIter I l ((items.size : Int) - 1)) (hl : s.heap.IsList l items) (hSI : S ≠ I) (hSl : S ≠ l)
    (hS : s.heap.get? S = some { cls := .type "list", data := .seq #[] c₀ }) (hn : items.size ≤ sizeLine)
    (hR : ∀ h' tk acc' c', (∀ b o, b ≠ S → b ≠ I → s.heap.get? b = some o → h'.get? b = some o) → h'.get? S = some { cls := .type "list", dict := none, data := .seq acc' c', slots := #[] } →
      ItemsOf (fun i v => items[items.size - 1 - i]? = some v) acc' items.size → R (.ok (.ret res)) { s with heap := h', toks := tk }) :
    wpAny (model prog w) A.in1 (Builtin.List.listExtendWith (.ref S) (.ref I) res)
      (fun fin s' => match fin with | .done f => R (.ok f) s' | .again c' => c'.quiet = true ∧ codeAny (model prog w) A c' R s') (fun e s' => R (.error e) s') s := by
  have W := (Walks.listRev (prog := prog) (w := w) (A := A.in1) hh I l hne items).toS
  have hSf : S ∉ [I, l] := by simp [hSI, hSl]
  unfold Builtin.List.listExtendWith
  refine wpAny_bind (wpAny_typeOf hit.typeIs ?_)
  have h1 : Builtin.List.listSameRef (.ref S) (.ref I) = false := by simp [Builtin.List.listSameRef, hSI]
  have h2 : (Value.type "list_reverseiterator" == Value.type "list") = false := by decide
  have h3 : (Value.type "list_reverseiterator" == Value.type "tuple") = false := by decide
  simp only [h1, h2, h3, Bool.or_false, Bool.false_eq_true, if_false]
  refine wpAny_bind (wpAny_pyIter_revIter hit ?_)
  refine wpAny_bind (wpAny_holding ?_)
  unfold Builtin.List.listLengthHint
  refine wpAny_bind (wpAny_specialOf hit.typeIs nolen_lri ?_)
  show wpAny _ A.in1 (specialOf (Value.ref I) (Str.ofString "__length_hint__") >>= _) _ _ _
  refine wpAny_bind (wpAny_specialOf hit.typeIs hint_lri ?_)
  generalize hid : ("list_reverseiterator.__length_hint__" : String) = id0
  wp_delta
  rw [show splitId id0 = some ("list_reverseiterator", "__length_hint__") from by subst hid; decide +kernel]
  subst hid
  refine wpAny_bind (wpAny_isInstance (b := true) hit.typeIs (by rw [isSubtype_type]; kernel_rfl) ?_)
  refine wpAny_pure ?_
  rw [if_neg (by decide)]
  have st0 : (0 : Nat) ≤ items.size ∧ s.heap.IsRevIter I l ((items.size : Int) - 1 - ((0 : Nat) : Int)) ∧ s.heap.IsList l items := ⟨Nat.zero_le _, by simpa using hit, hl⟩
  refine wpAny_pure ⟨plainId_quiet F.plain_extend_loop _, codeAny_extend_loopS W hn _ hSf _ items.size 0 _ _ _ rfl (Nat.zero_le _) st0 hS (ItemsOf.nil _) fun s' acc' c' hm hS' hacc => ?_⟩
  rw [Moved.eq_with hm]
  refine hR s'.heap s'.toks acc' c' (fun b o hb hb2 e => hm.heap b o (by simp [hb, hb2]) e) hS' hacc
theorem list_init_rev {I l : Addr} {items : Array Value} (hh : A.handled = none) (hne : l ≠ I) (S : Addr) (hit : s.heap.IsRevIter I l ((items.size : Int) - 1)) (hl : s.heap.IsList l items) (hSI : S ≠ I) (hSl : S ≠ l)
    (hS : s.heap.get? S = some { cls := .type "list", data := .seq #[] }) (hn : items.size ≤ sizeLine)
    (hR : ∀ h' tk acc' c', (∀ b o, b ≠ S → b ≠ I → s.heap.get? b = some o → h'.get? b = some o) → h'.get? S = some { cls := .type "list", dict := none, data := .seq acc' c', slots := #[] } →
      ItemsOf (fun i v => items[items.size - 1 - i]? = some v) acc' items.size → R (.ok (.ret .none)) { s with heap := h', toks := tk }) :
    wpAny (model prog w) A.in1 (Builtin.«list.__init__» ⟨[.ref S, .ref I], []⟩)
      (fun fin s' => match fin with | .done f => R (.ok f) s' | .again c' => c'.quiet = true ∧ codeAny (model prog w) A c' R s') (fun e s' => R (.error e) s') s := by
  show wpAny _ A.in1 (do let old ← Builtin.List.listItems (.ref S); Builtin.List.listUpdate (.ref S) (fun _ => #[]); letGo old.toList.reverse; Builtin.List.listExtendWith (.ref S) (.ref I) .none) _ _ s
  refine wpAny_bind ?_
  unfold Builtin.List.listItems
  refine wpAny_bind (wpAny_seqItems hS rfl (wpAny_pure ?_))
  show wpAny _ A.in1 (updateSeq S (fun _ => #[]) >>= fun _ => letGo (#[] : Array Value).toList.reverse >>= fun _ => Builtin.List.listExtendWith (.ref S) (.ref I) .none) _ _ s
  refine wpAny_bind (wpAny_updateSeq hS rfl ?_)
  have hS₂ := Heap.get?_update_self (Obj.mapSeq (fun _ => (#[] : Array Value))) hS rfl
  have oth : ∀ b o, b ≠ S → s.heap.get? b = some o → (s.heap.update S (Obj.mapSeq (fun _ => (#[] : Array Value)))).get? b = some o :=
    fun b o hb e => (Heap.get?_update_other _ _ (Ne.symm hb)).trans e
  refine wpAny_bind (wpAny_letGo ?_)
  refine extend_rev hh hne S .none _ (hit.at fun o e => oth I o (Ne.symm hSI) e) (hl.at fun o e => oth l o (Ne.symm hSl) e) hSI hSl hS₂ hn fun h' tk acc' c' hk hS' hacc => ?_
  exact hR h' tk acc' c' (fun b o hb hb2 e => hk b o hb hb2 (oth b o hb e)) hS' hacc
end
section
variable {prog : Program} {w : World} {A : Around} {E : Value → Shared → Prop} {s : Shared}
theorem call_list_revIt {I l : Addr} {items : Array Value} {Q : Value → Shared → Prop} (hh : A.handled = none) (hne : l ≠ I) (hit : s.heap.IsRevIter I l ((items.size : Int) - 1)) (hl : s.heap.IsList l items) (hn : items.size ≤ sizeLine)
    (hQ : ∀ h' tk acc' c', (∀ b o, b ≠ I → s.heap.get? b = some o → h'.get? b = some o) → h'.get? s.heap.objs.size = some { cls := .type "list", dict := none, data := .seq acc' c', slots := #[] } →
      ItemsOf (fun i v => items[items.size - 1 - i]? = some v) acc' items.size → Q (.ref s.heap.objs.size) { s with heap := h', toks := tk }) :
    wpAny (model prog w) A (call (.type "list") [.ref I]) Q E s := by
  have lI : s.heap.objs.size ≠ I := fun q => by obtain ⟨o, e, _⟩ := hit; exact absurd (Heap.lt_size e) (by rw [q]; exact Nat.lt_irrefl _)
  have ll : s.heap.objs.size ≠ l := fun q => by obtain ⟨o, e, _⟩ := hl; exact absurd (Heap.lt_size e) (by rw [q]; exact Nat.lt_irrefl _)
  refine callType_codes (Q₁ := fun obj s₁ => obj = .ref s.heap.objs.size ∧ s₁ = { s with heap := s.heap.push { cls := .type "list", data := .seq #[] } }) F.called_list (F.typeCall_list_1 _) F.entry_list_init
    (code_list_new _ ⟨rfl, rfl⟩) fun obj s₁ h₁ => ?_
  obtain ⟨rfl, rfl⟩ := h₁
  have hS : (s.heap.push { cls := .type "list", data := .seq #[] }).get? s.heap.objs.size = some { cls := .type "list", data := .seq #[] } := Heap.get?_push_size _ rfl
  refine ⟨⟨_, hS, rfl⟩, F.args_list_init_2 _ _, list_init_rev (A := A.in1) hh hne _ (hit.at fun o e => Heap.get?_push_of_some _ e) (hl.push _) lI ll hS hn fun h' tk acc' c' hk hS' hacc => ?_⟩
  exact ⟨rfl, hQ h' tk acc' c' (fun b o hb e => hk b o (Nat.ne_of_lt (Heap.lt_size e)) hb (Heap.get?_push_of_some _ e)) hS' hacc⟩
end
def tLrev (K : PySem.W.Frag) (te : TE) : TE := fun σ H Q => te σ H fun x H1 => ∃ a xs, x = .ref a ∧ SqL K H1 a xs ∧ ∀ l, H1 l = none → Q (.ref l) (upd H1 l (.lst xs.reverse))
theorem vals_rev {xs : List V} {its : List Value} (r : Vals xs its) {acc : Array Value} (h : ItemsOf (fun i v => its.toArray[its.toArray.size - 1 - i]? = some v) acc its.toArray.size) : Vals xs.reverse acc.toList := by
  have e : acc.toList = its.reverse := by
    apply List.ext_getElem?
    intro i
    have hsz := h.1
    simp only [List.size_toArray] at hsz
    by_cases hi : i < its.length
    · have hi' : i < acc.size := by omega
      have q := h.2 i acc[i] (Array.getElem?_eq_getElem hi')
      rw [List.getElem?_reverse hi]
      simp only [List.size_toArray, List.getElem?_toArray] at q
      rw [q]
      simp [hi']
    · rw [List.getElem?_eq_none (by simp; omega), List.getElem?_eq_none (by simp; omega)]
  rw [e]
  exact r.reverse
section
variable {X : Cx} (K : PySem.W.Frag)
theorem pe_list_rev {e : Expr} {te : TE} {p1 p2 pos pos2 : Pos} (hg : Gl X "list") (hm : X.mg "list" = none) (hg2 : Gl X "reversed") (hm2 : X.mg "reversed" = none) (hc : X.calm = true) (he : PE X e te) (hK : X.K = K := by rfl)
    (hs1 : starEach [.Call (.Name "reversed" p2) [e] [] pos2] X.env = [(false, eval (.Call (.Name "reversed" p2) [e] [] pos2) X.env)] := by rfl) (hs2 : starEach [e] X.env = [(false, eval e X.env)] := by rfl) :
    PE X (.Call (.Name "list" p1) [.Call (.Name "reversed" p2) [e] [] pos2] [] pos) (tLrev K te) := by
  subst hK
  intro pins s σ H Q I h
  refine wpAny_Call_Name_kw (ld_blt I hg hm boot_list ?_)
  refine PyProof.Rows.callWith_type1 ?_ hs1 rfl
  rw [hs1]
  show wpAny _ _ (spliced ((false, eval _ X.env) :: backTo pos [])) _ _ s
  refine Calls.spliced_cons (wpAny_Call_Name_kw (ld_blt I hg2 hm2 boot_reversed (PyProof.Rows.callWith_type1 ?_ hs2 rfl)))
  rw [hs2]
  show wpAny _ _ (spliced ((false, eval _ X.env) :: backTo pos2 [])) _ _ s
  refine Calls.spliced_cons (thn (he pins s σ H _ I h) fun u s1 ⟨x, H1, I1, r1, q1⟩ => Calls.spliced_nil ?_)
  obtain ⟨a, xs, e0, hq, q⟩ := q1
  subst e0
  cases r1
  obtain ⟨its, rv, p, hz⟩ := I1.list hq
  have hl := rv.length
  have la : a < s1.heap.objs.size := by obtain ⟨o, e, _⟩ := p.isList; exact Heap.lt_size e
  refine call_reversed_list p.isList ?_
  refine Calls.spliced_nil ?_
  refine call_list_revIt (items := its.toArray) (I.ok.hd hc) (Nat.ne_of_lt la) ⟨_, Heap.get?_push_size _ rfl, rfl, rfl⟩ (p.isList.push _) (by simpa [← hl] using hz) fun h' tk acc' c' kk hS hacc => ?_
  have hsz : s1.heap.objs.size ≤ (s1.heap.push (revObj a ((its.toArray.size : Int) - 1))).objs.size := by rw [Heap.size_push]; exact Nat.le_succ _
  refine ⟨.ref _, upd H1 _ (.lst xs.reverse), I1.laid (t' := tk) (fun b o e => kk b o (Nat.ne_of_lt (Heap.lt_size e)) (Heap.get?_push_of_some _ e)) hsz ⟨by simpa using hz, acc'.toList, c', vals_rev rv hacc, by simpa using hS⟩, rfl, q _ (I1.hok.fresh hsz)⟩
end
end L2
/-! More comprehensions: over a range, over lines into new lines. -/
set_option Elab.async false
set_option maxRecDepth 100000
namespace L2
open PySem PySem.Spec PyProof.Rows
theorem iteN {c A B : Prop} [Decidable c] (hc : ¬ c) (h : B) : if c then A else B := by rw [if_neg hc]; exact h
theorem iteY {c A B : Prop} [Decidable c] (hc : c) (h : A) : if c then A else B := by rw [if_pos hc]; exact h
/-- a test by what comes of it -/
theorem if_via {c : TT} {t u : TS} {D : Ends} {σ : St} {H : Hp} (Z : Bool → Hp → Prop) (h1 : ∀ R : Bool → Hp → Prop, (∀ b H', Z b H' → R b H') → c σ H R) (h2 : ∀ b H', Z b H' → if b = true then t D σ H' else u D σ H') : tIfS c t u D σ H := h1 _ h2
theorem nxt {D : Ends} {σ : St} {H : Hp} (h : D.nx σ H) : tNext D σ H := h
theorem pa_Name {X : Cx} {x : Str} {p : Pos} {es : List Expr} {te : TE} {t : TA} (ha : PE X (.Name x p) te) (hr : PA X es t) : PA X (.Name x p :: es) (tCons te t) := pa_cons ha hr rfl
theorem pa_Constant {X : Cx} {c : Const} {k : Nat} {p : Pos} {es : List Expr} {te : TE} {t : TA} (ha : PE X (.Constant c k p) te) (hr : PA X es t) : PA X (.Constant c k p :: es) (tCons te t) := pa_cons ha hr rfl
theorem pa_Tuple {X : Cx} {xs : List Expr} {k : Nat} {p : Pos} {es : List Expr} {te : TE} {t : TA} (ha : PE X (.Tuple xs k p) te) (hr : PA X es t) : PA X (.Tuple xs k p :: es) (tCons te t) := pa_cons ha hr rfl
theorem pa_Call {X : Cx} {f : Expr} {a : List Expr} {k : List Keyword} {p : Pos} {es : List Expr} {te : TE} {t : TA} (ha : PE X (.Call f a k p) te) (hr : PA X es t) : PA X (.Call f a k p :: es) (tCons te t) := pa_cons ha hr rfl
theorem pa_BinOp {X : Cx} {a : Expr} {o : Operator} {b : Expr} {p : Pos} {es : List Expr} {te : TE} {t : TA} (ha : PE X (.BinOp a o b p) te) (hr : PA X es t) : PA X (.BinOp a o b p :: es) (tCons te t) := pa_cons ha hr rfl
theorem pa_Subscript {X : Cx} {a b : Expr} {p : Pos} {es : List Expr} {te : TE} {t : TA} (ha : PE X (.Subscript a b p) te) (hr : PA X es t) : PA X (.Subscript a b p :: es) (tCons te t) := pa_cons ha hr rfl
theorem pa_ListComp {X : Cx} {e : Expr} {g : List Comprehension} {s : Scope} {p : Pos} {es : List Expr} {te : TE} {t : TA} (ha : PE X (.ListComp e g s p) te) (hr : PA X es t) : PA X (.ListComp e g s p :: es) (tCons te t) := pa_cons ha hr rfl
end L2
/-! enumerate of a list. -/
set_option Elab.async false
set_option maxRecDepth 100000
namespace L2
open PySem PySem.Spec PyProof.Rows
def Ite (K : PySem.W.Frag) (l : Addr) : It :=
  ⟨fun i H => ∃ xs x, SqL K H l xs ∧ xs[i]? = some x,
   fun i H v H' => ∃ T x, H T = none ∧ v = .ref T ∧ H' = upd H T (.tup [.int i, x]) ∧ ∀ xs, SqL K H l xs → xs[i]? = some x,
   fun i H => ∃ xs, SqL K H l xs ∧ xs.length ≤ i⟩
theorem turn_enum {P : Program} {w : World} {K : PySem.W.Frag} {es : List Expr} {k : Nat} {pos : Pos} {e it l : Addr} (hne : e ≠ it) :
    Turn P w K (.Tuple es k pos) (Ite K l) [e, it] e (fun i h => (∃ old, IsEnum h e it ((i : Nat) : Int) old) ∧ h.IsListIter it l i) where
  mem := by simp
  obj := fun i h st b hb => by
    obtain ⟨⟨old, he⟩, o1, e1, c1, d1⟩ := st
    simp only [List.mem_cons, List.not_mem_nil, or_false] at hb
    rcases hb with rfl | rfl
    · exact ⟨_, he, fun v q => by cases q⟩
    · exact ⟨o1, e1, fun v q => by rw [d1] at q; cases q⟩
  keep := fun i h h' st kk => by
    obtain ⟨⟨old, he⟩, h1⟩ := st
    exact ⟨⟨old, kk e (by simp) _ he⟩, h1.at fun o q => kk it (by simp) o q⟩
  item := by
    intro X hP hw hK hc i pins s σ H E I hf st hg
    subst hP hw hK
    obtain ⟨xs, x, hq, hx⟩ := hg
    obtain ⟨its, rv, p, hz⟩ := I.list hq
    obtain ⟨u, hu, ru⟩ := rv.get hx
    obtain ⟨⟨old, he⟩, h1⟩ := id st
    refine wpAny_pyNext_enum_item he h1 p.isList (x := u) (by simpa using hu) hne fun h' a1 a2 a3 a4 kk => ?_
    refine ⟨_, rfl, wpAny_letOwnedTupleGo_enum a1 fun h2' he2 sb => ?_⟩
    have lt : ∀ b o, s.heap.get? b = some o → b ≠ s.heap.objs.size := fun b o q => Nat.ne_of_lt (Heap.lt_size q)
    have hfresh : H s.heap.objs.size = none := I.fresh
    have ne_e : s.heap.objs.size ≠ e := fun q => lt _ _ he q.symm
    have ne_it : s.heap.objs.size ≠ it := fun q => by obtain ⟨o, q2, _⟩ := h1; exact lt _ _ q2 q.symm
    have hpair := (sb.2 _ ne_e).trans a3
    have kall : ∀ b o, b ∉ [e, it] → s.heap.get? b = some o → h2'.get? b = some o := fun b o hb q => by
      simp only [List.mem_cons, List.not_mem_nil, or_false, not_or] at hb
      exact (sb.2 b hb.1).trans (kk b o hb.1 hb.2 q)
    refine ⟨.ref s.heap.objs.size, upd H s.heap.objs.size (.tup [.int i, x]), ?_, rfl, ⟨s.heap.objs.size, x, hfresh, rfl, rfl, fun zs hzs => by rw [I.list_inj hzs hq]; exact hx⟩, ⟨⟨u, ?_⟩, ?_⟩, fun b hb => ?_⟩
    · refine I.turnedNew (t' := s.toks + 1) (ch := [e, it]) kall (fun b hb => hf b hb) (Nat.le_refl _) ⟨by show 2 ≤ sizeLine; decide, [.int i s.toks, u], .cons ⟨_, rfl⟩ (.cons ru .nil), ?_⟩
      exact ⟨_, hpair, rfl, _, rfl⟩
    · have e : ((i + 1 : Nat) : Int) = (i : Int) + 1 := by push_cast; rfl
      rw [e]; exact he2
    · exact a2.extBut sb.extBut hne.symm
    · rw [upd_ne]
      · exact (hf b hb).1
      · simp only [List.mem_cons, List.not_mem_nil, or_false] at hb
        rcases hb with rfl | rfl
        · exact ne_e.symm
        · exact ne_it.symm
  done := by
    intro X hP hw hK hc i pins s σ H E I hf st hg
    subst hP hw hK
    obtain ⟨xs, hq, hx⟩ := hg
    obtain ⟨its, rv, p, hz⟩ := I.list hq
    obtain ⟨⟨old, he⟩, h1⟩ := id st
    have hl := rv.length
    refine wpAny_pyNext_enum_end (I.ok.hd hc) he h1 p.isList (by simp; omega) fun h' kk => ⟨rfl, I.turnedL (t' := s.toks) (ch := [e, it]) (fun b o hb q => ?_) fun b hb => hf b hb⟩
    simp only [List.mem_cons, List.not_mem_nil, or_false, not_or] at hb
    exact kk b o hb.2 q
  self := fun _ _ _ _ _ st h => by
    obtain ⟨⟨old, he⟩, _⟩ := st
    exact wpAny_pyIter_enum he h
section
variable {X : Cx}
def iEnum (K : PySem.W.Frag) (ta : TA) : TI := fun σ H R => ta σ H fun vs H1 => ∃ a xs, vs = [.ref a] ∧ SqL K H1 a xs ∧ R (Ite K a) H1
theorem pi_enum {a : Expr} {es : List Expr} {k : Nat} {tpos : Pos} {ta : TA} {p pos : Pos} (hg : Gl X "enumerate") (hm : X.mg "enumerate" = none) (ha : PA X [a] ta) (hs : starEach [a] X.env = [(false, eval a X.env)] := by rfl) :
    PI X (.Tuple es k tpos) (.Call (.Name "enumerate" p) [a] [] pos) (iEnum X.K ta) := by
  intro pins s σ H R I h
  refine Call_ (ld_blt I hg hm boot_enumerate (PyProof.Rows.callWith_type1 (thn (ha pos pins s σ H _ I h) fun us s1 ⟨vs, H1, I1, r1, q1⟩ => ?_) hs rfl))
  obtain ⟨a, xs, e, hq1, q⟩ := q1
  subst e
  cases r1 with
  | cons r rr =>
    cases rr
    cases r
    obtain ⟨its1, rv1, p1, hz1⟩ := I1.list hq1
    refine call_enumerate_list p1.isList fun h' a1 a2 a3 kk => ?_
    refine wpAny_pyIter_enum a1 ?_
    have ge : ∀ b ∈ [s1.heap.objs.size + 1, s1.heap.objs.size], s1.heap.objs.size ≤ b := fun b hb => by
      simp only [List.mem_cons, List.not_mem_nil, or_false] at hb
      rcases hb with rfl | rfl
      · exact Nat.le_succ _
      · exact Nat.le_refl _
    exact ⟨_, _, _, _, H1, rfl, I1.kept (t' := s1.toks) kk, turn_enum (Nat.ne_of_gt (Nat.lt_succ_self _)), ⟨⟨_, a1⟩, a2⟩, fun b' hb => I1.fpOk (ge _ hb) (I1.hok.fresh (ge _ hb)), q⟩
theorem piK_enum (K : PySem.W.Frag) {a : Expr} {es : List Expr} {k : Nat} {tpos : Pos} {ta : TA} {p pos : Pos} (hg : Gl X "enumerate") (hm : X.mg "enumerate" = none) (ha : PA X [a] ta) (hs : starEach [a] X.env = [(false, eval a X.env)] := by rfl) (hK : X.K = K := by rfl) :
    PI X (.Tuple es k tpos) (.Call (.Name "enumerate" p) [a] [] pos) (iEnum K ta) := hK ▸ pi_enum hg hm ha hs
/-- a for loop over enumerate -/
theorem for_enum {K : PySem.W.Frag} {a : Addr} {xs : List V} {i1 i2 : Nat} {tb : TS} {D : Ends} {σ0 : St} {H0 : Hp} (Pv : Nat → St → Hp → Prop) (h0 : Pv 0 σ0 H0) (hS : ∀ i σ H, i ≤ xs.length → Pv i σ H → SqL K H a xs)
    (hgo : ∀ (i : Nat) x σ H T, xs[i]? = some x → Pv i σ H → H T = none → tb { D with nx := Pv (i + 1), ct := Pv (i + 1), bk := D.nx } ((σ.set i1 (some (.int (i : Int)))).set i2 (some x)) (upd H T (.tup [.int i, x])))
    (hend : ∀ σ H, Pv xs.length σ H → D.nx σ H) :
    ∃ W : Nat → Nat → St → Hp → Prop, (∃ m, W 0 m σ0 H0) ∧ ∀ i m σ H, W i m σ H →
      ((Ite K a).stop i H ∧ D.nx σ H) ∨ ((Ite K a).go i H ∧ ∃ N : St → Hp → Prop, (∀ σ' H', N σ' H' → ∃ m', m' < m ∧ W (i + 1) m' σ' H') ∧ ∀ x H', (Ite K a).yld i H x H' → gTup K 2 (gCons (gName i1) (gCons (gName i2) gNil)) x σ H' fun σ2 H2 => tb { D with nx := N, ct := N, bk := D.nx } σ2 H2) := by
  refine ⟨fun i m σ H => m = xs.length - i ∧ i ≤ xs.length ∧ Pv i σ H, ⟨_, rfl, Nat.zero_le _, h0⟩, ?_⟩
  rintro i m σ H ⟨rfl, hi, p⟩
  have hq := hS i σ H hi p
  by_cases hlt : i < xs.length
  · refine .inr ⟨⟨xs, _, hq, List.getElem?_eq_getElem hlt⟩, Pv (i + 1), fun σ' H' q => ⟨_, by omega, rfl, hlt, q⟩, ?_⟩
    rintro v H' ⟨T, x, hT, rfl, rfl, hx⟩
    exact ⟨T, _, rfl, SqT.of upd_same, rfl, _, _, rfl, _, _, rfl, rfl, hgo i x σ H T (hx xs hq) p hT⟩
  · have e : i = xs.length := by omega
    subst e
    exact .inl ⟨⟨xs, hq, Nat.le_refl _⟩, hend σ H p⟩
end
end L2
/-! max(list, default = d). -/
set_option Elab.async false
set_option maxRecDepth 100000
namespace L2
open PySem PySem.Spec PyProof.Rows
section
variable {prog : Program} {w : World} {A : Around}
end
section
variable {X : Cx}
end
end L2
/-! A comprehension over a range whose items are new rows. -/
set_option Elab.async false
set_option maxRecDepth 100000
namespace L2
open PySem PySem.Spec PyProof.Rows
end L2
set_option linter.all false
-- CHANGE: your row's module here, as the last of these rows
set_option Elab.async false
set_option linter.all false
set_option maxRecDepth 100000
/-! THE HAND LAYER, for ints, bools, texts, own classes, DICTS (int and text keys), calls, loops. Paste it whole ahead of your own text; what your proof does not reach may be deleted. -/
namespace L2
open PySem PySem.Spec PyProof.Rows
/-! ### lists of pairs as tables -/
section
variable {κ : Type} [DecidableEq κ]
def valV (kvs : List (κ × V)) (k : κ) : Option V := (kvs.find? fun kv => decide (kv.1 = k)).map (·.2)
/-- in its place, or at the end -/
def putK (kvs : List (κ × V)) (k : κ) (v : V) : List (κ × V) :=
  if (kvs.any fun kv => decide (kv.1 = k)) = true then kvs.map (fun kv => if kv.1 = k then (kv.1, v) else kv) else kvs ++ [(k, v)]
theorem valV_pos {p : κ × V} {r : List (κ × V)} {k : κ} (e : p.1 = k) : valV (p :: r) k = some p.2 := by simp [valV, List.find?_cons, e]
theorem valV_neg {p : κ × V} {r : List (κ × V)} {k : κ} (e : ¬ p.1 = k) : valV (p :: r) k = valV r k := by simp [valV, List.find?_cons, e]
theorem valV_any (k : κ) : ∀ kvs : List (κ × V), (kvs.any fun kv => decide (kv.1 = k)) = (valV kvs k).isSome
  | [] => rfl
  | p :: r => by
    rw [List.any_cons]
    by_cases e : p.1 = k
    · simp only [valV_pos e, decide_eq_true e, Bool.true_or, Option.isSome_some]
    · rw [valV_neg e, decide_eq_false e, Bool.false_or]; exact valV_any k r
theorem length_putK (kvs : List (κ × V)) (k : κ) (v : V) : (putK kvs k v).length ≤ kvs.length + 1 := by
  unfold putK
  split
  · rw [List.length_map]; omega
  · rw [List.length_append, List.length_cons, List.length_nil]; omega
theorem RelO.isSome_eq {o : Option V} {u : Option Value} (r : RelO o u) : o.isSome = u.isSome := by
  cases o with
  | none => cases u with
    | none => rfl
    | some _ => exact (show False from r).elim
  | some _ => cases u with
    | none => exact (show False from r).elim
    | some _ => rfl
theorem RelO.getD {o : Option V} {u : Option Value} {d : V} {d' : Value} (r : RelO o u) (rd : RelV d d') : RelV (o.getD d) (u.getD d') := by
  cases o with
  | none => cases u with
    | none => exact rd
    | some _ => exact (show False from r).elim
  | some _ => cases u with
    | none => exact (show False from r).elim
    | some _ => exact r
/-- raw tables of the same keys -/
theorem KV.val {kvs : List (κ × V)} {vs : List (κ × Value)} (r : KV kvs vs) (k : κ) : RelO (valV kvs k) (valueAt vs k) := by
  unfold KV at r
  induction r with
  | nil => exact True.intro
  | @cons p q ps qs h t ih =>
    obtain ⟨h1, h2⟩ := h
    by_cases e : p.1 = k
    · have e' : q.1 = k := h1.symm.trans e
      have b : valueAt (q :: qs) k = some q.2 := by simp [valueAt, List.find?_cons, e']
      rw [valV_pos e, b]; exact h2
    · have e' : ¬ q.1 = k := fun z => e (h1.trans z)
      have b : valueAt (q :: qs) k = valueAt qs k := by simp [valueAt, List.find?_cons, e']
      rw [valV_neg e, b]; exact ih
theorem KV.any {kvs : List (κ × V)} {vs : List (κ × Value)} (r : KV kvs vs) (k : κ) : (kvs.any fun kv => decide (kv.1 = k)) = vs.any fun kv => decide (kv.1 = k) := by
  unfold KV at r
  induction r with
  | nil => rfl
  | cons h t ih => rw [List.any_cons, List.any_cons, ih, h.1]
theorem KV.repl {kvs : List (κ × V)} {vs : List (κ × Value)} (r : KV kvs vs) (k : κ) {y : V} {u : Value} (ry : RelV y u) :
    KV (kvs.map fun kv => if kv.1 = k then (kv.1, y) else kv) (vs.map fun kv => if kv.1 = k then (kv.1, u) else kv) := by
  unfold KV at r ⊢
  induction r with
  | nil => exact .nil
  | @cons p q ps qs h t ih =>
    rw [List.map_cons, List.map_cons]
    refine .cons ?_ ih
    obtain ⟨h1, h2⟩ := h
    by_cases e : p.1 = k
    · rw [if_pos e, if_pos (h1.symm.trans e)]; exact ⟨h1, ry⟩
    · rw [if_neg e, if_neg (fun z => e (h1.trans z))]; exact ⟨h1, h2⟩
theorem KV.put {kvs : List (κ × V)} {vs : List (κ × Value)} (r : KV kvs vs) (k : κ) {y : V} {u : Value} (ry : RelV y u) : KV (putK kvs k y) (stored vs k u) := by
  unfold putK stored
  rw [r.any k]
  by_cases e : (vs.any fun kv => decide (kv.1 = k)) = true
  · rw [if_pos e, if_pos e]; exact r.repl k ry
  · rw [if_neg e, if_neg e]; exact Paired.snoc r ⟨rfl, ry⟩
theorem KV.length {kvs : List (κ × V)} {vs : List (κ × Value)} (r : KV kvs vs) : kvs.length = vs.length := Paired.length r
end
/-! ### a tracked dict, its keys ints and texts or tuples of these -/
theorem kV_is {P : Program} {w : World} {k : Key} {u : Value} (r : RelV (kV k) u) : (mixKind P w).is k u = true := by
  cases k with
  | inl i => obtain ⟨t, e⟩ := (show ∃ t, u = Value.int i t from r); subst e; exact mixKind_int P w i t
  | inr x => obtain ⟨t, e⟩ := (show ∃ t, u = Value.str x t from r); subst e; exact mixKind_str P w x t
theorem items_are {P : Program} {w : World} : ∀ {ks : List Key} {us : List Value}, Vals (ks.map kV) us → ItemsAre (mixKind P w) ks us
  | [], _, r => by rw [List.map_nil] at r; cases r; exact .nil
  | k :: ks, _, r => by
    rw [List.map_cons] at r
    cases r with
    | cons h t => exact .cons (kV_is h) (items_are t)
/-- raw entries of a dict with tuple keys -/
abbrev KT (H : Hp) : List (List Key × V) → List (List Key × Addr × Value) → Prop := Paired fun p q => p.1 = q.1 ∧ H q.2.1 = some (.tup (p.1.map kV)) ∧ RelV p.2 q.2.2
theorem KT.val {H : Hp} {kvs : List (List Key × V)} {xs : List (List Key × Addr × Value)} (r : KT H kvs xs) (k : List Key) : RelO (valV kvs k) ((atKey xs k).map (·.2)) := by
  induction r with
  | nil => exact True.intro
  | @cons p q ps qs h t ih =>
    obtain ⟨h1, _, h2⟩ := h
    by_cases e : p.1 = k
    · have e' : q.1 = k := h1.symm.trans e
      have b : atKey (q :: qs) k = some q.2 := by simp [atKey, List.find?_cons, e']
      rw [valV_pos e, b]; exact h2
    · have e' : ¬ q.1 = k := fun z => e (h1.trans z)
      have b : atKey (q :: qs) k = atKey qs k := by simp [atKey, List.find?_cons, e']
      rw [valV_neg e, b]; exact ih
theorem KT.repl {H : Hp} {kvs : List (List Key × V)} {xs : List (List Key × Addr × Value)} (r : KT H kvs xs) (k : List Key) {y : V} {u : Value} (ry : RelV y u) :
    KT H (kvs.map fun kv => if kv.1 = k then (kv.1, y) else kv) (xs.map (putAt k u)) := by
  induction r with
  | nil => exact .nil
  | @cons p q ps qs h t ih =>
    rw [List.map_cons, List.map_cons]
    refine .cons ?_ ih
    obtain ⟨h1, h2, h3⟩ := h
    unfold putAt
    by_cases e : p.1 = k
    · rw [if_pos e, if_pos (h1.symm.trans e)]; exact ⟨h1, h2, ry⟩
    · rw [if_neg e, if_neg (fun z => e (h1.trans z))]; exact ⟨h1, h2, h3⟩
theorem KT.put {H : Hp} {kvs : List (List Key × V)} {xs : List (List Key × Addr × Value)} (r : KT H kvs xs) (k : List Key) {b : Addr} {y : V} {u : Value} (hb : H b = some (.tup (k.map kV))) (ry : RelV y u) :
    KT H (putK kvs k y) (storedH xs k b u) := by
  have e : (kvs.any fun kv => decide (kv.1 = k)) = (atKey xs k).isSome := by
    rw [valV_any, (r.val k).isSome_eq, Option.isSome_map]
  unfold putK storedH
  rw [e]
  by_cases q : (atKey xs k).isSome = true
  · rw [if_pos q, if_pos q]; exact r.repl k ry
  · rw [if_neg q, if_neg q]; exact Paired.snoc r ⟨rfl, hb, ry⟩
theorem KT.keeps {H H' : Hp} {kvs : List (List Key × V)} {xs : List (List Key × Addr × Value)} (r : KT H kvs xs) (ht : ∀ b ys, H b = some (.tup ys) → H' b = some (.tup ys)) : KT H' kvs xs :=
  Paired.mapP r fun _ _ z => ⟨z.1, ht _ _ z.2.1, z.2.2⟩
section
variable {P : Program} {w : World} {H : Hp} {h : Heap} {a : Addr}
theorem rd_of {u : HO} (ok : HOk P w H h) (e : Rd H a u) : ObjOk P w H h a u := e.ok ok
theorem dk_rd {kvs : List (Key × V)} (ok : HOk P w H h) (e : Rd H a (.dK kvs)) : kvs.length ≤ sizeLine ∧ (a == sysModules) = false ∧ ∃ vs, KV kvs vs ∧ h.DictOf (mixKind P w) a vs :=
  show ObjOk P w H h a (.dK kvs) from rd_of ok e
theorem dk_of {kvs : List (Key × V)} (ok : HOk P w H h) (e : H a = some (.dK kvs)) : kvs.length ≤ sizeLine ∧ (a == sysModules) = false ∧ ∃ vs, KV kvs vs ∧ h.DictOf (mixKind P w) a vs := dk_rd ok (.inl e)
/-- a tracked tuple of ints and texts is a key -/
theorem key_of {ks : List Key} (ok : HOk P w H h) (e : H a = some (.tup (ks.map kV))) : (tupleKind (mixKind P w)).is h ks a := by
  obtain ⟨_, its, r, o, h1, h2, n, h3⟩ := (show ObjOk P w H h a (.tup (ks.map kV)) from ok a _ e)
  exact ⟨o, its.toArray, n, h1, h2, h3, by simpa using items_are r⟩
theorem dt_rd {kvs : List (List Key × V)} (ok : HOk P w H h) (e : Rd H a (.dT kvs)) : kvs.length ≤ sizeLine ∧ (a == sysModules) = false ∧
    ∃ xs, KT H kvs xs ∧ h.DictOfH (tupleKind (mixKind P w)) a xs := by
  obtain ⟨z, y, xs, r, o, es, ep, h1, h2, h3, h4, h5⟩ := (show ObjOk P w H h a (.dT kvs) from rd_of ok e)
  refine ⟨z, y, xs, r, o, es, ep, h1, h2, h3, h4, fun x hx => ?_, h5⟩
  have all : ∀ {l : List (List Key × V)} {m : List (List Key × Addr × Value)}, KT H l m → ∀ x ∈ m, (tupleKind (mixKind P w)).is h x.1 x.2.1 := by
    intro l m q
    induction q with
    | nil => intro x hx; exact nomatch hx
    | @cons p q ps qs hq t ih =>
      intro x hx
      rcases List.mem_cons.mp hx with e | hx
      · subst e
        exact key_of ok (by rw [← hq.1]; exact hq.2.1)
      · exact ih x hx
  exact all r x hx
theorem dt_of {kvs : List (List Key × V)} (ok : HOk P w H h) (e : H a = some (.dT kvs)) : kvs.length ≤ sizeLine ∧ (a == sysModules) = false ∧
    ∃ xs, KT H kvs xs ∧ h.DictOfH (tupleKind (mixKind P w)) a xs := dt_rd ok (.inl e)
end
/-- what the dict at a holds at the key y -/
def DGet (H : Hp) (a : Addr) (y : V) (r : Option V) : Prop :=
  (∃ kvs k, Rd H a (.dK kvs) ∧ y = kV k ∧ r = valV kvs k) ∨ ∃ kvs k b, Rd H a (.dT kvs) ∧ y = .ref b ∧ H b = some (.tup (k.map kV)) ∧ r = valV kvs k
/-- the heap behind a[y] = v -/
def DPut (H : Hp) (a : Addr) (y v : V) (H' : Hp) : Prop :=
  (∃ kvs k, H a = some (.dK kvs) ∧ y = kV k ∧ kvs.length < sizeLine ∧ H' = upd H a (.dK (putK kvs k v))) ∨
  ∃ kvs k b, H a = some (.dT kvs) ∧ y = .ref b ∧ H b = some (.tup (k.map kV)) ∧ kvs.length < sizeLine ∧ H' = upd H a (.dT (putK kvs k v))
theorem DGet.t {H : Hp} {a b : Addr} {kvs : List (List Key × V)} {k : List Key} (e : H a = some (.dT kvs)) (eb : H b = some (.tup (k.map kV))) : DGet H a (.ref b) (valV kvs k) := .inr ⟨kvs, k, b, .inl e, rfl, eb, rfl⟩
theorem DPut.t {H : Hp} {a b : Addr} {kvs : List (List Key × V)} {k : List Key} {v : V} (e : H a = some (.dT kvs)) (eb : H b = some (.tup (k.map kV))) (hl : kvs.length < sizeLine) :
    DPut H a (.ref b) v (upd H a (.dT (putK kvs k v))) := .inr ⟨kvs, k, b, e, rfl, eb, hl, rfl⟩
section
variable {X : Cx} {pins : List (Addr × Obj)} {σ : St} {H : Hp} {s : Shared} {a : Addr} {y v : V} {u r : Value} {o : Option V} {A : Around} {E : Value → Shared → Prop}
theorem Inv.big (I : Inv X pins σ H s) : sysModules < s.heap.objs.size := by
  have h : mainGlobals < s.heap.objs.size := (I.mod.glob.keeps I.bk).lt
  exact Nat.lt_trans (by decide) h
/-- d[y], there -/
theorem d_getItem {Q : Value → Shared → Prop} (hu : A.units + 1 < cLine) (I : Inv X pins σ H s) (g : DGet H a y (some v)) (ry : RelV y u) (h : ∀ w' s', Inv X pins σ H s' → RelV v w' → Q w' s') :
    wpAny (model X.prog X.w) A (getItem (.ref a) u) Q E s := by
  rcases g with ⟨kvs, k, e, ey, l⟩ | ⟨kvs, k, b, e, ey, eb, l⟩
  · subst ey
    obtain ⟨z, hd, vs, rel, dd⟩ := dk_rd I.hok e
    obtain ⟨w', hw, rw'⟩ := RelO.some_of (v := v) (o := valueAt vs k) (by rw [l]; exact rel.val k)
    exact wpAny_getItem_of (kV_is ry) dd.mapOf hw (h w' _ (I.tok _) rw')
  · subst ey
    cases (show u = Value.ref b from ry)
    obtain ⟨z, hd, xs, rel, dd⟩ := dt_rd I.hok e
    obtain ⟨w', hw, rw'⟩ := RelO.some_of (v := v) (o := (atKey xs k).map (·.2)) (by rw [l]; exact rel.val k)
    obtain ⟨p, hp, hp2⟩ := Option.map_eq_some_iff.mp hw
    refine wpAny_getItem_heap (tupleKind_room_in1 hu) (key_of I.hok eb) dd hp ?_
    rw [hp2]
    exact h w' _ (I.tok _) rw'
/-- a dict's object is replaced -/
theorem d_write {h' : Heap} {t' : Nat} {ob : HO} (I : Inv X pins σ H s) (mu : Mut (H a)) (hs : Heap.SameBut a s.heap h') (he : ∃ q, h'.get? a = some q) (new : ObjOk X.prog X.w (upd H a ob) h' a ob) :
    Inv X pins σ (upd H a ob) { s with heap := h', toks := t' } :=
  I.write (x := a) (e := a) mu (.inl rfl) (fun b q hb z => (hs.2 b hb).trans z) he new
theorem dk_new {P : Program} {w : World} {H' : Hp} {h' : Heap} {kvs : List (Key × V)} {vs : List (Key × Value)} (z : kvs.length ≤ sizeLine) (hd : (a == sysModules) = false) (rel : KV kvs vs) (dd : h'.DictOf (mixKind P w) a vs) :
    ObjOk P w H' h' a (.dK kvs) := ⟨z, hd, vs, rel, dd⟩
/-- d[y] = v -/
theorem d_setItem {H' : Hp} {Q : Unit → Shared → Prop} (hu : A.units + 1 < cLine) (I : Inv X pins σ H s) (g : DPut H a y v H') (ry : RelV y u) (rv : RelV v r) (h : ∀ s', Inv X pins σ H' s' → Q () s') :
    wpAny (model X.prog X.w) A (setItem (.ref a) u r) Q E s := by
  rcases g with ⟨kvs, k, e, ey, l, eH⟩ | ⟨kvs, k, b, e, ey, eb, l, eH⟩
  · subst ey eH
    obtain ⟨z, hd, vs, rel, dd⟩ := dk_of I.hok e
    have hz : vs.length ≤ sizeLine := by rw [← rel.length]; exact z
    have hl : (putK kvs k v).length ≤ sizeLine := by have := length_putK kvs k v; omega
    refine wpAny_setItem_pairs (hsz := hz) (kV_is ry) dd fun h' dd' hs => h _ ?_
    have he : ∃ q, h'.get? a = some q := let ⟨q, _, _, hq, _⟩ := dd'; ⟨q, hq⟩
    exact d_write I (by rw [e]; exact True.intro) hs he (dk_new hl hd (rel.put k rv) dd')
  · subst ey eH
    cases (show u = Value.ref b from ry)
    obtain ⟨z, hd, xs, rel, dd⟩ := dt_of I.hok e
    have hz : xs.length ≤ sizeLine := by rw [← Paired.length rel]; exact z
    have hl : (putK kvs k v).length ≤ sizeLine := by have := length_putK kvs k v; omega
    refine wpAny_setItem_heap (hsz := hz) (tupleKind_room_in1 hu) (key_of I.hok eb) dd fun h' dd' hs => h _ ?_
    obtain ⟨q, es, ep, hq, h2, h3, h4, _, h5⟩ := dd'
    refine d_write I (by rw [e]; exact True.intro) hs ⟨q, hq⟩ ⟨hl, hd, _, (rel.put k eb rv).keeps fun c ys ec => ?_, q, es, ep, hq, h2, h3, h4, h5⟩
    rw [upd_ne (ne_of ec e (fun z => nomatch z))]
    exact ec
end
section
variable {X : Cx} {pins : List (Addr × Obj)} {σ : St} {H : Hp} {s : Shared} {a : Addr} {kvs : List (Key × V)} {k : Key} {u : Value} {A : Around} {E : Value → Shared → Prop}
end
/-! ### readings and rules -/
/-- the element of a subscription, not a slice -/
def NoSl (i : Expr) : Prop := ∀ ov iv, subscripted i false ov iv = operate [ov, iv] (getItem ov iv)
theorem subD_of {prog : Program} {w : World} {A : Around} {E : Value → Shared → Prop} {s : Shared} {env : Env} {value slice : Expr} {pos : Pos} {T id : String} {Q : Value → Shared → Prop}
    (hl : typeLookup (.type T) "__getitem__" = pure (some (.builtin id))) (hs : NoSl slice)
    (h : wpAny (model prog w) A (eval value env) (fun o s₁ => wpAny (model prog w) A (eval slice env) (fun i s₂ => s₂.TypeIs o T ∧ wpAny (model prog w) A (getItem o i) Q E s₂) E s₁) E s) :
    wpAny (model prog w) A (eval (.Subscript value slice pos) env) Q E s := by
  refine Subscript_ (wpAny_mono h (fun o s₁ h₁ => wpAny_mono h₁ (fun i s₂ h₂ => ?_) fun _ _ x => x) fun _ _ x => x)
  obtain ⟨hT, h₂⟩ := h₂
  unfold subscriptTail
  refine wpAny_bind ?_
  rw [getitemInPython_of_ne hT.not_modules]
  refine wpAny_bind (wpAny_specialOf hT hl ?_)
  have fin : wpAny (model prog w) A (subscripted slice false o i) (fun r s₃ => wpAny (model prog w) A (letTemporaryGo value o r >>= fun _ => pure r) Q E s₃) E s₂ := by
    rw [hs o i]
    exact wpAny_operating (wpAny_mono h₂ (fun r s₃ h₃ => wpAny_bind (wpAny_letTemporaryGo (wpAny_pure h₃))) fun _ _ x => x)
  first
    | exact wpAny_pure (wpAny_bind fin)
    | exact wpAny_bind (wpAny_pure (wpAny_bind fin))
    | exact wpAny_bind fin
theorem dict_typeIs {X : Cx} {pins : List (Addr × Obj)} {σ : St} {H : Hp} {s : Shared} {a : Addr} {y : V} {o : Option V} (I : Inv X pins σ H s) (g : DGet H a y o) : s.TypeIs (.ref a) "dict" := by
  rcases g with ⟨kvs, k, e, _, _⟩ | ⟨kvs, k, b, e, _, _, _⟩
  · obtain ⟨_, _, vs, _, dd⟩ := dk_rd I.hok e
    exact dd.typeIs
  · obtain ⟨_, _, xs, _, dd⟩ := dt_rd I.hok e
    exact dd.typeIs
/-- d[y] -/
def tDGet (td ty : TE) : TE := fun σ H Q => td σ H fun x H1 => ty σ H1 fun y H2 => ∃ a v, x = .ref a ∧ DGet H2 a y (some v) ∧ Q v H2
/-- d[y] = v -/
def sDPut (td ty tv : TE) : TS := fun D σ H => tv σ H fun v H1 => td σ H1 fun x H2 => ty σ H2 fun y H3 => ∃ a H4, x = .ref a ∧ DPut H3 a y v H4 ∧ D.nx σ H4
section
variable {X : Cx} {o i e value : Expr} {pos pos' tpos : Pos} {td ty tv : TE}
theorem pe_dget (hu : X.A.units + 1 < cLine) (ho : PE X o td) (hi : PE X i ty) (hs : NoSl i) : PE X (.Subscript o i pos) (tDGet td ty) := by
  intro pins s σ H Q I h
  refine subD_of PySem.F.slot_dict_getitem.lookup hs (thn (ho pins s σ H _ I h) fun u s1 ⟨x, H1, I1, rx, q1⟩ => thn (hi pins s1 σ H1 _ I1 q1) fun iv s2 ⟨y, H2, I2, ry, a, v, ex, g, q2⟩ => ?_)
  subst ex
  obtain rfl : u = Value.ref a := rx
  exact ⟨dict_typeIs I2 g, d_getItem hu I2 g ry fun w' s3 I3 rw' => ⟨v, H2, I3, rw', q2⟩⟩
theorem ps_dput (hu : X.A.units + 1 < cLine) (ho : PE X o td) (hi : PE X i ty) (hv : PE X value tv) (hs : swapsWith value (some (.Subscript o i pos')) pos.line X.env = pure false) :
    PS X (.Assign [.Subscript o i pos'] value pos) (sDPut td ty tv) := by
  intro pins s σ H D I h
  refine wpAny_Assign_Subscript (thn (hv pins s σ H _ I h) fun r s1 ⟨v, H1, I1, rv, q1⟩ => thn (ho pins s1 σ H1 _ I1 q1) fun u s2 ⟨x, H2, I2, rx, q2⟩ => thn (hi pins s2 σ H2 _ I2 q2) fun iv s3 ⟨y, H3, I3, ry, a, H4, ex, g, q3⟩ => ?_) hs
  subst ex
  obtain rfl : u = Value.ref a := rx
  exact d_setItem hu I3 g ry rv fun s4 I4 => ⟨σ, H4, I4, q3⟩
end
/-! ### displays -/
theorem dt_empty {P : Program} {w : World} {H : Hp} (h : Heap) (hb : sysModules < h.objs.size) : ObjOk P w H (h.push { cls := .type "dict", data := .dict #[] }) h.objs.size (.dT []) :=
  ⟨Nat.zero_le _, beq_eq_false_iff_ne.mpr (Ne.symm (Nat.ne_of_lt hb)), [], .nil, _, #[], 0, Heap.get?_push_size _ rfl, ⟨rfl, rfl, rfl⟩, rfl, rfl, List.nodup_nil⟩
def tDNewT : TE := fun _ H Q => ∀ p, H p = none → Q (.ref p) (upd H p (.dT []))
section
variable {X : Cx} {pos : Pos}
theorem pe_dnewT : PE X (.Dict [] [] pos) tDNewT := fun pins s σ H Q I h =>
  wpAny_Dict_empty ⟨.ref s.heap.objs.size, _, I.laid (a := s.heap.objs.size) (o := .dT []) (t' := s.toks) (fun _ _ q => Heap.get?_push_of_some _ q) (Nat.le_refl _) (dt_empty s.heap I.big), rfl, h _ (I.hok.fresh (Nat.le_refl _))⟩
end
/-! ### expressions in short: the name that stands in the i-th slot -/
section
variable {X : Cx}
end
section
variable {κ : Type} [DecidableEq κ]
end
end L2
/-! Ranges downward, lists turned about by a slice, what is never reached. -/
set_option Elab.async false
set_option maxRecDepth 100000
namespace L2
open PySem PySem.Spec PyProof.Rows
section
variable {X : Cx} {tg : Expr}
end
section
variable {X : Cx} {e : Expr} {te : TE} {pos p2 : Pos}
end
end L2
/-! Own exceptions: isinstance(e, C). -/
set_option Elab.async false
set_option maxRecDepth 100000
namespace L2
open PySem PySem.Spec PyProof.Rows
/-- what the walk asks of an own exception's class -/
structure ExCl (K : PySem.W.Frag) (C : Addr) : Prop where
  cl : (PySem.W.clsIn K C).isSome = true
  ga : PySem.W.findIn K (.ref C) "__getattribute__" = some (some (.builtin "BaseException.__getattribute__"))
  gt : PySem.W.findIn K (.ref C) "__getattr__" = some none
  ca : PySem.W.findIn K (.ref C) "__class__" = some (some (.builtin "object.__class__"))
  mb : PySem.W.mroIn K C (.type "BaseException") = some true
  mo : PySem.W.mroIn K C (.type "object") = some true
/-- an exception of that class stands there -/
def ExcAt (C x : Addr) (h : Heap) : Prop := ∃ o, h.get? x = some o ∧ o.cls = .ref C
theorem ExcAt.ty {C x : Addr} {h : Heap} {M : Model} (e : ExcAt C x h) : PySem.W.Looks M h (typeOf (.ref x)) (.ref C) := by
  obtain ⟨o, h1, h2⟩ := e
  exact h2 ▸ (PySem.W.Looks.ld h1).andThen .now
section
variable {prog : Program} {w : World} {A : Around} {E : Value → Shared → Prop} {K : PySem.W.Frag} {C x : Addr} {h : Heap} {g : Array GenState} {d : Drawn} {t : Nat} {os : OsState}
theorem exc_check {nameV : Value} {Q : Unit → Shared → Prop} (T : ExCl K C) (X : K.In h) (e : ExcAt C x h) (hq : Q () ⟨h, g, d, t, os⟩) : wpAny (model prog w) A (checkBuiltinCall "BaseException.__getattribute__" ⟨[.ref x, nameV], []⟩) Q E ⟨h, g, d, t, os⟩ := by
  obtain ⟨o, hx, hc⟩ := e
  have hk : builtinKind "BaseException.__getattribute__" = some .slot := by decide +kernel
  have hs : splitId "BaseException.__getattribute__" = some ("BaseException", "__getattribute__") := by decide +kernel
  have L1 : PySem.W.Looks (model prog w) h (isSubtype (.ref C) (.type "BaseException")) true := PySem.W.looks_subIn X (t := .ref C) T.mb
  have ha := F.args_bexc_ga (.ref x) nameV
  simp only [checkBuiltinCall, hk, hs]
  refine wpAny_bind ?_
  unfold isInstance
  repeat (first | (with_reducible refine wpAny_loadPart_at hx ?_; rw [hc]) | with_reducible refine L1.at ?_ | wp_step)
  exact hq
theorem exc_get {tp : Value} {R : Result → Shared → Prop} (T : ExCl K C) (X : K.In h) (e : ExcAt C x h) (hq : R (.ok (.ret (.ref C))) ⟨h, g, d, t, os⟩) :
    codeAny (model prog w) A (.call (.builtin "getset_descriptor.__get__") ⟨[.builtin "object.__class__", .ref x, tp], []⟩) R ⟨h, g, d, t, os⟩ := by
  obtain ⟨o, hx, hc⟩ := id e
  have f5 : (⟨h, g, d, t, os⟩ : Shared).TypeIs (.builtin "object.__class__") "getset_descriptor" := F.typeOf_object_class
  have L1 : PySem.W.Looks (model prog w) h (isSubtype (.ref C) (.type (".".intercalate ("object.__class__".cutAt '.').dropLast))) true := by
    rw [F.owner_object_class]; exact PySem.W.looks_subIn X (t := .ref C) T.mo
  refine codeAny_call_builtin F.slot_gs_get.plain F.entry_gs_get (F.slot_gs_get.check _ _ _ _ _ _ _ _ f5 (F.args_gs_get _ _ _) ?_)
  repeat (any_goals (first | assumption | (with_reducible refine wpAny_loadPart_at hx ?_; rw [hc]) | with_reducible refine L1.at ?_ | wp_step))
  refine ⟨Code.quiet_builtin _ (by decide +kernel), codeAny_builtin F.entry_object_class ?_⟩
  repeat (any_goals (first | assumption | (with_reducible refine wpAny_loadPart_at hx ?_; rw [hc]) | wp_step))
theorem exc_entry {tk : Tok} {Q : Fin → Shared → Prop} (T : ExCl K C) (X : K.In h) (e : ExcAt C x h) (hq : Q (.done (.ret (.ref C))) ⟨h, g, d, t, os⟩) : wpAny (model prog w) A (Builtin.«object.__getattribute__» ⟨[.ref x, .str "__class__" tk], []⟩) Q E ⟨h, g, d, t, os⟩ := by
  obtain ⟨o, hx, hc⟩ := id e
  have L4 : PySem.W.Looks (model prog w) h (typeLookup (.ref C) "__class__") (some (.builtin "object.__class__")) := PySem.W.looks_findIn X T.ca
  have f5 := F.typeOf_object_class
  have f6 := F.slot_gs_get.lookup
  have f7 := F.slot_gs_set.lookup
  repeat (any_goals (first | assumption | (with_reducible refine wpAny_loadPart_at hx ?_; rw [hc]) | with_reducible refine L4.at ?_ | wp_step))
  refine exc_get T X e ?_
  repeat (any_goals (first | assumption | wp_step))
theorem exc_by {tk : Tok} {Q : Value → Shared → Prop} (T : ExCl K C) (X : K.In h) (e : ExcAt C x h) (hq : Q (.ref C) ⟨h, g, d, t, os⟩) : wpAny (model prog w) A (getAttrBy (.ref x) (.str "__class__" tk) false) Q E ⟨h, g, d, t, os⟩ := by
  obtain ⟨o, hx, hc⟩ := id e
  have L2 : PySem.W.Looks (model prog w) h (typeLookup (.ref C) "__getattribute__") (some (.builtin "BaseException.__getattribute__")) := PySem.W.looks_findIn X T.ga
  have L3 : PySem.W.Looks (model prog w) h (typeLookup (.ref C) "__getattr__") none := PySem.W.looks_findIn X T.gt
  have f3 := F.attr_ValueError.ga.bind (.ref x)
  have hx2 : (Value.builtin "BaseException.__getattribute__" == Value.builtin "object.__getattribute__") = false := by decide +kernel
  have hx1 : (onTheHeap (Value.ref C) && Value.builtin "BaseException.__getattribute__" == Value.builtin "object.__getattribute__") = false := by rw [hx2]; rfl
  repeat (any_goals (first | assumption | (with_reducible refine wpAny_loadPart_at hx ?_; rw [hc]) | with_reducible refine L2.at ?_ | with_reducible refine L3.at ?_ | wp_step))
  refine codeAny_call_builtin F.attr_ValueError.ga.plain F.entry_bexc_ga (exc_check T X e (exc_entry T X e ?_))
  repeat (any_goals (first | assumption | wp_step))
theorem exc_class {Q : Option Value → Shared → Prop} (T : ExCl K C) (X : K.In h) (e : ExcAt C x h) (hq : Q (some (.ref C)) ⟨h, g, d, t + 1, os⟩) : wpAny (model prog w) A (getAttr? (.ref x) "__class__") Q E ⟨h, g, d, t, os⟩ := by
  unfold getAttr? getAttrBy?
  repeat (any_goals (first | assumption | with_reducible apply exc_by T X e | wp_step))
end
theorem kitx_exc {K : PySem.W.Frag} {C x : Addr} (T : ExCl K C) : PySem.W.KitX K (.ref x) (.ref C) (ExcAt C x) where
  ty := fun _ _ _ e => e.ty
  it := fun _ _ X _ => by
    obtain ⟨cd, hc⟩ := Option.isSome_iff_exists.mp T.cl
    unfold PySem.W.clsIn at hc
    split at hc
    · rename_i c' d' cd' sl' ho
      intro A' Q' E' s' k q
      unfold isType loadHead
      exact wpAny_bind (wpAny_loadPart (k _ _ (X _ _ ho)) (wpAny_pure q))
    · cases hc
  ne := fun h tp dd its n sl X htp => by
    obtain ⟨cd, hc⟩ := Option.isSome_iff_exists.mp T.cl
    refine Bool.eq_false_iff.mpr fun q => ?_
    have e : C = tp := Value.ref.inj (beq_iff_eq.mp q)
    subst e
    unfold PySem.W.clsIn at hc
    split at hc
    · rename_i c' d' cd' sl' ho
      have z := (X _ _ ho).symm.trans htp
      cases z
    · cases hc
  ca := fun {prog w A E Q s} X e k => by
    obtain ⟨hh, g, d, t, os⟩ := s
    exact exc_class T X e k
end L2
/-! An exception that leaves a def: raise, and what lies behind a call that raised. -/
set_option Elab.async false
set_option maxRecDepth 100000
namespace L2
open PySem PySem.Spec PyProof.Rows
/-- how an own exception lies behind a call: B is what it kept exactly -/
def CXE (P : Program) (w : World) : CXT := fun outer H s E e s' => ∃ (x : Addr) (cls a0 : Value) (H' : Hp) (B : Heap), e = .ref x ∧ Heap.FlyingW B outer x cls a0 s'.heap ∧ HOk P w H' B ∧ s'.os = s.os ∧ AllBare s'.gens ∧ Un (frs outer) [] H H' s.heap s'.heap ∧
  (∀ b o, s.heap.get? b = some o → H b = none → b ∉ frs outer → B.get? b = some o) ∧ (∀ b o, s.heap.get? b = some o → b ∉ frs outer → ∃ o', B.get? b = some o') ∧ E cls none H'
theorem up_frame {B h h' : Heap} {l : List Env} (fr : h.FunFrames B l) (up : h.UpToSlots h') {b : Addr} {o : Obj} (hb : b ∈ frs l) (e : h.get? b = some o) : ∃ sl, h'.get? b = some { o with slots := sl } := by
  obtain ⟨_, o', e', hd⟩ := fr.mem hb
  rw [e] at e'
  cases e'
  exact up b o e hd
section
variable {X : Cx} {pins : List (Addr × Obj)} {σ : St} {H H' : Hp} {s : Shared} {B g h' : Heap}
/-- the frame is left: what its entry knows of the end -/
theorem un_leave (hst : X.stack = X.env :: X.outer) (hf : X.env.frame = some X.env.locals) (hex : X.ex = []) (I : Inv X pins σ H s) (un : Un (frs X.stack) [] H H' s.heap g)
    (kb : ∀ b o, s.heap.get? b = some o → H b = none → b ∉ frs X.stack → B.get? b = some o) (th : ∀ b o, s.heap.get? b = some o → b ∉ frs X.stack → ∃ o', B.get? b = some o') (st : B.StaysIn h') (up : g.UpToSlots h') (fr : g.FunFrames B X.stack) :
    Un (frs X.outer) [] X.H₀ H' X.s₀.heap h' ∧ (∀ b o, X.s₀.heap.get? b = some o → X.H₀ b = none → b ∉ frs X.outer → B.get? b = some o) ∧ ∀ b o, X.s₀.heap.get? b = some o → b ∉ frs X.outer → ∃ o', B.get? b = some o' := by
  have nx : ∀ b, b ∉ X.ex := fun b => by rw [hex]; simp
  have ins : ∀ b, b ∈ frs X.outer → b ∈ frs X.stack := fun b hb => by
    rw [hst]; unfold frs; rw [List.filterMap_cons, hf]; exact List.mem_cons_of_mem _ hb
  have out : ∀ b o, X.s₀.heap.get? b = some o → b ∉ frs X.outer → b ∉ frs X.stack := fun b o e hb z => by
    rcases List.mem_cons.mp (I.stkSub b z) with y | y
    · exact absurd (Heap.lt_size e) (by rw [y]; exact Nat.not_lt.mpr I.ok.above)
    · exact hb y
  have kb' : ∀ b o, X.s₀.heap.get? b = some o → X.H₀ b = none → b ∉ frs X.outer → B.get? b = some o := fun b o e n hb => kb b o (I.base.keep b o e n hb (nx b)) (I.base.free b o e n (nx b)) (out b o e hb)
  have th' : ∀ b o, X.s₀.heap.get? b = some o → b ∉ frs X.outer → ∃ o', B.get? b = some o' := fun b o e hb => by
    obtain ⟨o', e'⟩ := I.base.there b o e (nx b)
    exact th b o' e' (out b o e hb)
  have sl' : ∀ b o, s.heap.get? b = some o → H b = none → b ∈ frs X.stack → ∃ sl, h'.get? b = some { o with slots := sl } := fun b o e n hb => by
    obtain ⟨sl, e1⟩ := un.slot b o e n hb (by simp)
    obtain ⟨sl2, e2⟩ := up_frame fr up hb e1
    exact ⟨sl2, e2⟩
  refine ⟨⟨fun b o e n hb _ => st b o (kb' b o e n hb), fun b o e n hb _ => ?_, fun b o e n _ => ?_, fun b o e _ => ?_, fun b xs e => un.tups b xs (I.base.tups b xs e), fun b o u e => un.frzs b o u (I.base.frzs b o u e), fun b ps e => ?_⟩, kb', th'⟩
  · obtain ⟨sl, e1⟩ := I.base.slot b o e n hb (nx b)
    obtain ⟨sl2, e2⟩ := sl' b _ e1 (I.base.free b o e n (nx b)) (ins b hb)
    exact ⟨sl2, e2⟩
  · obtain ⟨o', e'⟩ := I.base.there b o e (nx b)
    exact un.free b o' e' (I.base.free b o e n (nx b)) (by simp)
  · by_cases hb : b ∈ frs X.outer
    · obtain ⟨o', e'⟩ := I.base.there b o e (nx b)
      obtain ⟨sl, e2⟩ := sl' b o' e' (I.stkFree b (ins b hb)) (ins b hb)
      exact ⟨_, e2⟩
    · obtain ⟨o', e'⟩ := th' b o e hb
      exact ⟨o', st b o' e'⟩
  · obtain ⟨m1, e1⟩ := I.base.tbls b ps e
    obtain ⟨m2, e2⟩ := un.tbls b _ e1
    exact ⟨m1 ++ m2, by rw [e2, Array.append_assoc]⟩
theorem cxe_leave {E : XK} {E' : Value → Shared → Prop} {e : Value} {s' : Shared} (hst : X.stack = X.env :: X.outer) (hf : X.env.frame = some X.env.locals) (hex : X.ex = []) (I : Inv X pins σ H s) (c : CXE X.prog X.w X.stack H s E e s') :
    wpAny (model X.prog X.w) X.A (leaving X.env e) (fun _ s'' => CXE X.prog X.w X.outer X.H₀ X.s₀ E e s'') E' s' := by
  obtain ⟨x, cls, a0, H', B, rfl, fly, hok, hos, bare, un, kb, th, q⟩ := c
  have fly2 := fly
  rw [hst] at fly2
  refine wpAny_leaves_onW (by rw [← hst]; exact I.ok.frames) hf fly2 fun h' f1 up => ?_
  obtain ⟨u1, u2, u3⟩ := un_leave hst hf hex I un kb th f1.1 up fly.2.2.1
  exact ⟨x, cls, a0, H', B, rfl, f1, hok, hos.trans I.os, bare, u1, u2, u3, q⟩
/-- the heap without the frames that run -/
theorem hok_hide (I : Inv X pins σ H s) : HOk X.prog X.w H (PySem.W.hideAll s.heap (frs X.stack)) := fun a o e =>
  (I.hok a o e).stay (fun b u hb q => PySem.W.hideAll_get _ q fun z => by
    have := I.stkFree b z
    rcases hb with y | y
    · rw [y, e] at this; cases this
    · rw [y] at this; cases this) (fun _ q => q) fun _ _ q => q
theorem cxe_raise {E : XK} {E' : Value → Shared → Prop} {x C : Addr} {args : List Value} (hst : X.stack = X.env :: X.outer) (hf : X.env.frame = some X.env.locals) (hex : X.ex = []) (I : Inv X pins σ H s) (hm : Heap.MadeExcOf s.heap h' x (.ref C) args) (q : E (.ref C) none H) :
    wpAny (model X.prog X.w) X.A (leaving X.env (.ref x)) (fun _ s'' => CXE X.prog X.w X.outer X.H₀ X.s₀ E (.ref x) s'') E' { s with heap := h' } := by
  have hin : ∀ env ∈ X.stack, ∀ a, env.frame = some a → a ∈ frs X.stack := fun env he a ha => List.mem_filterMap.mpr ⟨env, he, ha⟩
  have fr : s.heap.FunFrames (PySem.W.hideAll s.heap (frs X.stack)) X.stack := PySem.W.funFrames_hide I.stack hin
  have fr2 : s.heap.FunFrames (PySem.W.hideAll s.heap (frs X.stack)) (X.env :: X.outer) := by rw [← hst]; exact fr
  refine wpAny_leaves_madeW (base := PySem.W.hideAll s.heap (frs X.stack)) (by rw [← hst]; exact I.ok.frames) hf (fun b o z => PySem.W.of_hideAll _ z) fr2 hm fun h'' t f1 _ _ up => ?_
  obtain ⟨u1, u2, u3⟩ := un_leave hst hf hex I (Un.kept hm.keeps) (fun b o e _ hb => PySem.W.hideAll_get _ e hb) (fun b o e hb => ⟨o, PySem.W.hideAll_get _ e hb⟩) f1.1 up (fr.of_keeps fun b o hb _ => ⟨o, hm.keeps b o hb, rfl⟩)
  exact ⟨x, .ref C, .ref t, H, _, rfl, f1, hok_hide I, I.os, I.bare, u1, u2, u3, q⟩
end
/-- an exception of a callee passes on -/
theorem passE {P : Program} {w : World} {K : PySem.W.Frag} {mg : Str → Option Value} {base : Heap} {N : List Str} {qual : Str} {scope : Scope} {f : Addr} {cd : Value} {A : Around} {outer : List Env} {s : Shared} {H : Hp} {E : XK} :
    Passes (CXE P w) (cxOf (CXE P w) P w K mg base N qual scope f cd A outer s H E) E := fun _ _ _ _ _ _ I c => cxe_leave (X := cxOf (CXE P w) P w K mg base N qual scope f cd A outer s H E) rfl rfl rfl I c
theorem passE0 {P : Program} {w : World} {X : Cx} : Passes (CXE P w) X E0 := fun _ _ _ _ _ _ _ c => by
  obtain ⟨_, _, _, _, _, _, _, _, _, _, _, _, _, q⟩ := c
  exact q.elim
end L2
/-! raise C('..') in a def; the except suite. -/
set_option Elab.async false
set_option maxRecDepth 100000
namespace L2
open PySem PySem.Spec PyProof.Rows
def ca (mg : Str → Option Value) (x : Str) : Addr := match mg x with
  | some (.ref a) => a
  | _ => 0
abbrev bmV : List Value := [.type "ValueError", .type "Exception", .type "BaseException", .type "object"]
/-- an own exception's class, by its name -/
structure ExN (K : PySem.W.Frag) (mg : Str → Option Value) (x : Str) : Prop where
  mgx : mg x = some (.ref (ca mg x))
  ex : PySem.W.excIn K (ca mg x) bmV "ValueError.__new__" = true
  cl : ExCl K (ca mg x)
theorem exc_obj {K : PySem.W.Frag} {h : Heap} {C : Addr} {bmB : List Value} {newId : String} (X : K.In h) (q : PySem.W.excIn K C bmB newId = true) :
    ∃ bm N nm qn bs hd sn sub ab col dd k0 k1 k2 k3 k5, h.get? C = some (excClassObj nm qn C N bs bm hd sn sub ab col dd k0 k1 k2 k3 k5 newId) ∧ h.Ns N (h.nsMap N) ∧ h.nsMap N "__init__" = none ∧ OwnTail h bmB bm := by
  unfold PySem.W.excIn at q
  split at q
  · rename_i dd cd sl ho
    split at q
    · rename_i C' bm k0 k1 k2 k3 n k5 hm hs
      simp only [Bool.and_eq_true, beq_iff_eq, Bool.not_eq_true'] at q
      obtain ⟨⟨⟨⟨⟨e1, e2⟩, hdel⟩, ht⟩, hok⟩, hni⟩ := q
      subst e1 e2
      obtain ⟨nm, bs, mro, ns, qn, hd, sn, sub, ab, col, del⟩ := cd
      dsimp only at hm hdel hok hni; subst hm hdel
      obtain rfl : sl = #[k0, k1, k2, k3, some (.builtin n), k5] := by
        obtain ⟨l⟩ := sl; simp only at hs; rw [hs]
      exact ⟨bm, ns, nm, qn, bs, hd, sn, sub, ab, col, dd, k0, k1, k2, k3, k5, X _ _ ho, .of_isNs (PySem.W.isNs_of_in X hok), PySem.W.nsMap_none_of_in X hok hni, PySem.W.tail_of_in X ht⟩
    · cases q
  · cases q
theorem tail_base {h : Heap} {bm : List Value} (T : OwnTail h bmV bm) : bm.contains (.type "BaseException") = true := T.hasType (by decide)
/-- raise C('..') -/
def tRaise (C : Addr) (E : XK) : TS := fun _ _ H => E (.ref C) none H
theorem ps_raiseX {X : Cx} {E : XK} {x : Str} {C : Addr} {e : Expr} {te : TE} {np cpos pos : Pos} (hst : X.stack = X.env :: X.outer) (hf : X.env.frame = some X.env.locals) (hex : X.ex = []) (hc : X.calm = true)
    (hxe : ∀ e s', wpAny (model X.prog X.w) X.A (leaving X.env e) (fun _ s'' => CXE X.prog X.w X.outer X.H₀ X.s₀ E e s'') (fun e' s'' => CXE X.prog X.w X.outer X.H₀ X.s₀ E e' s'') s' → X.xe e s')
    (hg : Gl X x) (hm : X.mg x = some (.ref C)) (hx : PySem.W.excIn X.K C bmV "ValueError.__new__" = true) (he : PE X e te) (hte : ∀ σ H (Q : VK), (∀ v, Q v H) → te σ H Q) (hdb : (x == ("__debug__" : Str)) = false := by decide) (hse : starEach [e] X.env = [(false, eval e X.env)] := by rfl) :
    PS X (.Raise (some (.Call (.Name x np) [e] [] cpos)) none pos) (tRaise C E) := by
  intro pins s σ H D I h
  obtain ⟨bm, N, nm, qn, bs, hd, sn, sub, ab, col, dd, k0, k1, k2, k3, k5, o1, o2, o3, o4⟩ := exc_obj I.mod.kin hx
  have ha : PA X [e] (tCons te tNil) := pa_cons he pa_nil hse
  refine wpAny_Raise_call_subU (nm := nm) (q := qn) (N := N) (bs := bs) (bm := bm) (hdct := hd) (sn := sn) (sub := sub) (ab := ab) (col := col) (dd := dd) (k0 := k0) (k1 := k1) (k2 := k2) (k3 := k3) (k5 := k5) (C := C) (mN := X.base.nsMap N) F.excBase_ValueError (bmB := bmV) (by decide) F.excBase_ValueError (tail_base o4) (I.ok.hd hc) (by rw [hse]; rfl) o3 (ld_glob I hg hm ⟨rfl, ?_⟩ hdb)
  have hq : tCons te tNil σ H fun vs H1 => vs.length = 1 ∧ H1 = H := hte σ H _ fun v => ⟨rfl, rfl⟩
  have q := ha cpos pins s σ H _ I hq
  rw [hse] at q ⊢
  refine PySem.Calls.evalArgs_plain (thn q fun us s1 ⟨vs, H1, I1, r, hl, e1⟩ => ?_)
  subst e1
  have hul : us.length = 1 := by rw [← r.length]; exact hl
  refine ⟨rfl, by rw [show (Args.mk us []).pos = us from rfl, hul, sizeLine_eq]; decide, I1.bk _ _ o1, o2.keeps I1.bk, o4.keeps I1.bk, fun h' ex hmade => hxe _ _ ?_⟩
  exact cxe_raise hst hf hex I1 hmade h
end L2
/-! try: x = f(..) except C as e: .. -/
set_option Elab.async false
set_option maxRecDepth 100000
namespace L2
open PySem PySem.Spec PyProof.Rows
theorem ObjOk.there {P : Program} {w : World} {H : Hp} {h : Heap} {a : Addr} {o : HO} (x : ObjOk P w H h a o) : ∃ ob, h.get? a = some ob := by
  cases o with
  | lst xs => obtain ⟨_, _, _, _, e⟩ := x; exact ⟨_, e⟩
  | tup xs => obtain ⟨_, _, _, _, e, _⟩ := x; exact ⟨_, e⟩
  | dK kvs => obtain ⟨_, _, _, _, o, _, _, e, _⟩ := x; exact ⟨_, e⟩
  | dT kvs => obtain ⟨_, _, _, _, o, _, _, e, _⟩ := x; exact ⟨_, e⟩
  | set S n => obtain ⟨o, _, _, _, e, _⟩ := x; exact ⟨_, e⟩
  | ins C dx fs => obtain ⟨_, _, _, e, _⟩ := x; exact ⟨_, e⟩
  | own y => exact x
  | xd fs => obtain ⟨_, ⟨_, _, _, e, _⟩, _⟩ := x; exact ⟨_, e⟩
  | rng lo hi => obtain ⟨_, _, _, e⟩ := x; exact ⟨_, e⟩
  | frz ob u => obtain ⟨e, _⟩ := x; exact ⟨_, e⟩
  | tbl ps => exact ⟨_, show h.get? a = some _ from x⟩
  | met f y => exact ⟨_, show h.get? a = some _ from x⟩
  | ext φ => obtain ⟨_, e, _⟩ := x; exact e
/-- within an except suite: e is handled, its object stays -/
def Cx.hand (X : Cx) (xa : Addr) (oe : Obj) : Cx := { X with A := X.A.mark (some (.ref xa)), calm := false, pn := X.pn ++ [(xa, oe)], xe := fun _ _ => False }
section
variable {X : Cx} {pins : List (Addr × Obj)} {σ : St} {H H' : Hp} {s : Shared} {B g h' : Heap} {xa : Addr} {oe : Obj}
theorem Inv.hand (I : Inv X pins σ H s) (ho : s.heap.get? xa = some oe) (hn : H xa = none) (hL : xa ≠ X.env.locals) (hfs : xa ∉ X.fs) (hd : ∀ v, oe.data ≠ .cell v) : Inv (X.hand xa oe) pins σ H s :=
  ⟨⟨I.ok.mod, I.ok.kind, I.ok.glob, I.ok.blt, I.ok.above, I.ok.inj, I.ok.has, I.ok.cab, (fun z => absurd (show false = true from z) (by decide)), I.ok.frames, I.ok.stk, I.ok.exf, I.ok.bs, I.ok.bsz, I.ok.noex, I.ok.exfs, I.ok.funs, I.ok.frf⟩, I.os, I.bare, I.base, I.loc, I.cell, I.free, I.freeC, fun p hp => by
    rcases List.mem_append.mp hp with z | z
    · rcases List.mem_append.mp z with y | y
      · exact I.pin p (List.mem_append_left _ y)
      · rw [List.mem_singleton.mp y]; exact ⟨ho, hn, hL, hfs, hd⟩
    · exact I.pin p (List.mem_append_right _ z), I.hok, I.len⟩
theorem Inv.unhand (J : Inv X pins σ H s) {pins' : List (Addr × Obj)} {σ' : St} {s' : Shared} (I : Inv (X.hand xa oe) pins σ' H' s') : Inv X pins σ' H' s' :=
  ⟨J.ok, I.os, I.bare, I.base, I.loc, I.cell, I.free, I.freeC, fun p hp => I.pin p (by
    rcases List.mem_append.mp hp with z | z
    · exact List.mem_append_left _ (List.mem_append_left _ z)
    · exact List.mem_append_right _ z), I.hok, I.len⟩
/-- the frame looks on: what was kept is kept -/
theorem un_on {l : List Env} (un : Un (frs l) [] H H' s.heap g) (kb : ∀ b o, s.heap.get? b = some o → H b = none → b ∉ frs l → B.get? b = some o) (th : ∀ b o, s.heap.get? b = some o → b ∉ frs l → ∃ o', B.get? b = some o') (hfr : ∀ b ∈ frs l, H b = none)
    (st : B.StaysIn h') (up : g.UpToSlots h') (fr : g.FunFrames B l) : Un (frs l) [] H H' s.heap h' := by
  have sl' : ∀ b o, s.heap.get? b = some o → b ∈ frs l → ∃ sl, h'.get? b = some { o with slots := sl } := fun b o e hb => by
    obtain ⟨sl, e1⟩ := un.slot b o e (hfr b hb) hb (by simp)
    obtain ⟨sl2, e2⟩ := up_frame fr up hb e1
    exact ⟨sl2, e2⟩
  refine ⟨fun b o e n hb _ => st b o (kb b o e n hb), fun b o e n hb _ => sl' b o e hb, un.free, fun b o e _ => ?_, un.tups, un.frzs, un.tbls⟩
  by_cases hb : b ∈ frs l
  · obtain ⟨sl, e2⟩ := sl' b o e hb; exact ⟨_, e2⟩
  · obtain ⟨o', e'⟩ := th b o e hb; exact ⟨o', st b o' e'⟩
/-- the name of an except clause goes -/
theorem name_goes {A : Around} {E : Value → Shared → Prop} {j : Nat} {n : Str} {pos : Pos} {Q : Unit → Shared → Prop} (I : Inv X pins σ H s) (hN : X.N.Nodup) (hj : X.N[j]? = some n) (hl : X.env.scope.names.lookup n = some .local)
    (h : ∀ s', Inv X pins (σ.set j none) H s' → Q () s') : wpAny (model X.prog X.w) A (do bindName X.env n .none; unbindBehindTheSuite X.env n pos) Q E s := by
  have hp : (X.env.scope.kind == .class || (X.env.scope.kind == .module && X.env.locals != X.env.globals)) = false := by rw [I.ok.kind]; rfl
  have hk : X.env.kindOf n = some .local := hl
  refine wpAny_bind (wpAny_bindName (store_ok (v := V.non) I hN hj (Or.inl hl) rfl (fun s1 I1 => ?_) (Or.inr hl)))
  obtain ⟨m, hn, hm⟩ := id I1.loc
  unfold unbindBehindTheSuite; refine wpAny_onRaise ?_; unfold unbindName; refine wpAny_bind (wpAny_point (wpAny_bind ?_))
  unfold deleteName; simp only [hk, hp]; rw [if_neg (by decide)]
  have hms : (m n).isSome = true := by
    have hjl : j < (σ.set j (some V.non)).length := by rw [I1.len]; exact (List.getElem?_eq_some_iff.mp hj).1
    obtain ⟨u, _, lk⟩ := hm j n V.non hj (by rw [List.getElem?_set_self (by simpa using hjl)]) (.inl hl)
    rcases lk with ⟨_, e⟩ | ⟨k, _⟩
    · rw [e]; rfl
    · rcases k with k | k <;> (rw [hk] at k; cases k)
  refine wpAny_bind (wpAny_nsDel_keeps hn fun h2 v hn2 hs2 => ?_)
  rw [hms]; simp only [if_true, Bool.not_true, Bool.false_eq_true, if_false]
  refine wpAny_pure (wpAny_point (h _ ?_))
  have cne := I1.cne
  obtain ⟨oL, _, _, hoL, _⟩ := id hn
  have nL : ∀ b o, X.s₀.heap.get? b = some o → b ≠ X.env.locals := fun b o e => Nat.ne_of_lt (Nat.lt_of_lt_of_le (Heap.lt_size e) I1.ok.above)
  refine ⟨I1.ok, I1.os, I1.bare, ⟨fun b o e n hb hx => (hs2.2 b (nL b o e)).trans (I1.base.keep b o e n hb hx), fun b o e n hb hx => ?_, I1.base.free, fun b o e hx => ?_, I1.base.tups, I1.base.frzs, I1.base.tbls⟩, ⟨_, hn2, fun i y v' e1 e2 e3 => ?_⟩, fun y c e => ?_, I1.free, I1.freeC, fun p hp => ?_, fun b ob e => ?_, by simpa using I1.len⟩
  · obtain ⟨sl, e1⟩ := I1.base.slot b o e n hb hx
    exact ⟨sl, (hs2.2 b (nL b o e)).trans e1⟩
  · obtain ⟨o', e1⟩ := I1.base.there b o e hx
    exact ⟨o', (hs2.2 b (nL b o e)).trans e1⟩
  · by_cases hij : i = j
    · subst hij
      rw [List.getElem?_set] at e2
      rw [if_pos rfl] at e2
      split at e2 <;> cases e2
    · rw [List.getElem?_set_ne (Ne.symm hij)] at e2
      obtain ⟨u', r', q⟩ := hm i y v' e1 (by rw [List.getElem?_set_ne (Ne.symm hij)]; exact e2) e3
      refine ⟨u', r', ?_⟩
      rcases q with ⟨k, e⟩ | ⟨k, c, e, z⟩
      · have hne : y ≠ n := fun e => hij (nodup_ix hN e1 (e ▸ hj))
        exact .inl ⟨k, by simp [hne, e]⟩
      · exact .inr ⟨k, c, e, z.sameBut hs2 (cne y c e)⟩
  · obtain ⟨w', z⟩ := I1.cell y c e
    exact ⟨w', z.sameBut hs2 (cne y c e)⟩
  · obtain ⟨e, n, ne, nf, d⟩ := I1.pin p hp
    exact ⟨(hs2.2 p.1 ne).trans e, n, ne, nf, d⟩
  · refine (I1.hok b ob e).stay (fun c w' hc q => (hs2.2 c ?_).trans q) (fun _ q => q) fun _ _ q => q
    rintro rfl
    rcases hc with rfl | hc
    · rw [I1.free] at e; cases e
    · rw [I1.free] at hc; cases hc
end
end L2
/-! The rules: try with one except clause around one call; isinstance(e, ..) in its suite; a def that may raise. -/
set_option Elab.async false
set_option maxRecDepth 100000
namespace L2
open PySem PySem.Spec PyProof.Rows
/-- a def that may raise -/
theorem Fun.okE {P : Program} {w : World} {K : PySem.W.Frag} {mg : Str → Option Value} {base : Heap} {x qual : Str} {st : Stmt} {f : Addr} {fd : FuncData} {N ps : List Str} {k : Nat} {sp : Sp} (F : Fun K x qual st f fd) (S : FnScope N ps (defScope st)) (len : ∀ vs H Q E, sp vs H Q E → vs.length = ps.length)
    (hbody : ∀ (cdv : Value) (A : Around) (outer : List Env) (s : Shared) (H : Hp) (vs : List V) (Q : VK) (E : XK), Room k (A.deeper (envOfC qual (defScope st) s.heap.objs.size f cdv)) → sp vs H Q E →
      ∃ t, PSs (cxOf (CXE P w) P w K mg base N qual (defScope st) f cdv A outer s H E) (defBody st) t ∧ t { nx := fun _ H' => Q .non H', rt := Q } (start N vs) H) : FnOk P w K mg base (CXE P w) (k + 1) f fd ps sp := by
  obtain ⟨oc, od, kV, doc, pm, an, cdv, ct, osl, rfl, lk, hcd⟩ := F.ex
  exact fn_of lk hcd S len fun A outer s H vs Q E hr hsp => hbody cdv A outer s H vs Q E hr hsp
section
variable {P : Program} {w : World} {K : PySem.W.Frag} {mg : Str → Option Value} {base : Heap}
theorem Fn.hasE {x : Str} {st : Stmt} {N ps : List Str} {k : Nat} {sp : Sp} (F : Fn K mg x st ps) (S : FnScope N ps (defScope st)) (len : ∀ vs H Q E, sp vs H Q E → vs.length = ps.length)
    (hbody : ∀ (f : Addr) (cdv : Value) (A : Around) (outer : List Env) (s : Shared) (H : Hp) (vs : List V) (Q : VK) (E : XK), Room k (A.deeper (envOfC x (defScope st) s.heap.objs.size f cdv)) → sp vs H Q E →
      ∃ t, PSs (cxOf (CXE P w) P w K mg base N x (defScope st) f cdv A outer s H E) (defBody st) t ∧ t { nx := fun _ H' => Q .non H', rt := Q } (start N vs) H) : Has P w K mg base (CXE P w) (k + 1) x ps sp :=
  let ⟨f, fd, a, b, c⟩ := F.ex; ⟨f, fd, a.okE S len (hbody f), b, a.kp, c⟩
theorem ps_raise {N : List Str} {qual : Str} {scope : Scope} {f : Addr} {cd : Value} {A : Around} {outer : List Env} {s : Shared} {H : Hp} {E : XK} {x : Str} {e : Expr} {v : V} {np cpos pos : Pos} (T : ExN K mg x) (hg : Gl (cxOf (CXE P w) P w K mg base N qual scope f cd A outer s H E) x)
    (he : PE (cxOf (CXE P w) P w K mg base N qual scope f cd A outer s H E) e (tC v)) (hdb : (x == ("__debug__" : Str)) = false := by decide) (hse : starEach [e] (cxOf (CXE P w) P w K mg base N qual scope f cd A outer s H E).env = [(false, eval e (cxOf (CXE P w) P w K mg base N qual scope f cd A outer s H E).env)] := by rfl) :
    PS (cxOf (CXE P w) P w K mg base N qual scope f cd A outer s H E) (.Raise (some (.Call (.Name x np) [e] [] cpos)) none pos) (tRaise (ca mg x) E) :=
  ps_raiseX rfl rfl rfl rfl (fun _ _ z => z) hg T.mgx T.ex he (fun _ _ _ q => q v) hdb hse
end
/-- a block of which nothing raises -/
theorem pss_nox {X : Cx} {st : List Stmt} {t : TS} (h : PSs X.nox st t) : PSs X st t := h.nox
theorem refs_are : ∀ {Cs : List Addr} {its : List Value}, Vals (Cs.map V.ref) its → its = Cs.map Value.ref
  | [], _, .nil => rfl
  | C :: Cs, _, .cons a b => by
    rw [refs_are b]
    have : _ = Value.ref C := a
    rw [this]; rfl
/-- isinstance(e, ..) of the exception at hand -/
theorem call_isx {X : Cx} {xa C : Addr} {oe : Obj} (hcl : oe.cls = .ref C) (T : ExCl X.K C) : CallR (X.hand xa oe) (.builtin "isinstance") (fun xs H Q => (∃ C' b, xs = [.ref xa, .ref C'] ∧ PySem.W.kitOne X.K (.ref C) (.ref C') = some b ∧ Q (.bl b) H) ∨
    (∃ n b, xs = [.ref xa, .ty n] ∧ PySem.W.kitOne X.K (.ref C) (.type n) = some b ∧ Q (.bl b) H) ∨ ∃ (tp : Addr) (Cs : List Addr) (b : Bool), xs = [.ref xa, .ref tp] ∧ H tp = some (.tup (Cs.map V.ref)) ∧ PySem.W.kitAny X.K (.ref C) (Cs.map Value.ref) = some b ∧ Q (.bl b) H) := by
  intro pins s σ H xs us Q I rv h
  have hat : ExcAt C xa s.heap := ⟨oe, (I.pin (xa, oe) (List.mem_append_left _ (List.mem_append_right _ (by simp)))).1, hcl⟩
  rcases h with ⟨C', b, rfl, hk, q⟩ | ⟨n, b, rfl, hk, q⟩ | ⟨tp, Cs, b, rfl, htp, hk, q⟩
  · obtain ⟨u, v, rfl, ru, rw'⟩ := Vals.two rv
    cases ru; cases rw'
    exact PySem.W.kia_one (kitx_exc T) I.kIn hat hk (fun z => nomatch z) fun tk => ⟨.bl b, H, I.tok tk, rfl, q⟩
  · obtain ⟨u, v, rfl, ru, rw'⟩ := Vals.two rv
    cases ru; cases (show v = Value.type n from rw')
    exact PySem.W.kia_one (kitx_exc T) I.kIn hat hk (fun z => nomatch z) fun tk => ⟨.bl b, H, I.tok tk, rfl, q⟩
  · obtain ⟨u, v, rfl, ru, rw'⟩ := Vals.two rv
    cases ru; cases rw'
    obtain ⟨_, its, r, o, e1, e2, n, e3⟩ := (show ObjOk X.prog X.w H s.heap tp (.tup (Cs.map V.ref)) from I.hok tp _ htp)
    have hits : its = Cs.map Value.ref := refs_are r
    subst hits
    obtain ⟨c, dd, dt, sl⟩ := o
    have e2 : c = .type "tuple" := e2
    have e3 : dt = .seq (Cs.map Value.ref).toArray n := e3
    subst e2 e3
    exact PySem.W.kia_tup (kitx_exc T) I.kIn hat e1 hk (fun z => nomatch z) fun tk => ⟨.bl b, H, I.tok tk, rfl, q⟩
end L2
/-! try: x = f(..) except C as e: suite. -/
set_option Elab.async false
set_option maxRecDepth 100000
namespace L2
open PySem PySem.Spec PyProof.Rows
section
variable {X : Cx} {pins : List (Addr × Obj)} {σ : St} {H H' : Hp} {s : Shared}
/-- the exception is caught, the suite runs, the name goes -/
theorem catch_ok {D : Ends} {j : Nat} {en cn : Str} {CS : Addr} {ts : Addr → Addr → TS} {b0 : Stmt} {suite : List Stmt} {cpos hpos : Pos} {e : Value} {s' : Shared} (hst : X.stack = X.env :: X.outer) (hf : X.env.frame = some X.env.locals) (hN : X.N.Nodup) (hj : X.N[j]? = some en) (hy : X.env.scope.names.lookup en = some .local)
    (hgc : Gl X cn) (hmc : X.mg cn = some (.ref CS)) (hsuite : ∀ (xa : Addr) (oe : Obj) (C : Addr), oe.cls = .ref C → ExCl X.K C → PSs (X.hand xa oe) (b0 :: suite) (ts C xa)) (I : Inv X pins σ H s)
    (c : CXE X.prog X.w X.stack H s (fun cls _ H2 => ∃ C, cls = .ref C ∧ ExCl X.K C ∧ PySem.W.exmOne X.K (.ref C) (.ref CS) = some true ∧ ∀ xa, H2 xa = none → ts C xa { nx := fun σ' H' => D.nx (σ'.set j none) H', rt := D.rt } (σ.set j (some (.ref xa))) H2) e s') (hdb : (cn == ("__debug__" : Str)) = false := by decide) :
    wpAny (model X.prog X.w) X.A (noteFrame e X.env) (fun _ s2 => wpAny (model X.prog X.w) X.A (setFlight e none) (fun _ s3 => wpAny (model X.prog X.w) X.A (handleBy e X.env [.ExceptHandler (some (.Name cn cpos)) (some en) (b0 :: suite) hpos]) (SP X pins D) X.xe s3) X.xe s2) X.xe s' := by
  obtain ⟨x, cls, a0, H', B, rfl, fly, hok, hos, bare, un, kb, th, C, rfl, T, hexm, hts⟩ := c
  have fly2 := fly
  rw [hst] at fly2
  have hx0 : H' x = none := by
    cases q : H' x with
    | none => rfl
    | some o => obtain ⟨ob, e⟩ := (hok x o q).there; rw [fly.2.1] at e; cases e
  -- the state behind, for every heap that kept what was to be kept
  have stt : ∀ h5 : Heap, B.StaysIn h5 → s'.heap.UpToSlots h5 → Inv X pins σ H' { s' with heap := h5 } := fun h5 st up =>
    I.call' (s' := { s' with heap := h5 }) (ch := []) hos (un_on un kb th I.stkFree st up fly.2.2.1) (hok.kept fun b u q => st b u q) bare fun b z => absurd z (by simp)
  refine wpAny_looks_onW (by rw [← hst]; exact I.ok.frames) hf fly2 fun h4 held up4 => wpAny_landsW held fun h5 fly5 up5 => ?_
  have I5 := stt h5 fly5.1 (up4.trans up5)
  -- what is known of the exception's object
  have exc : ∀ {h6 : Heap}, Heap.FlyingW B (X.env :: X.outer) x (.ref C) a0 h6 → ∃ oe, h6.get? x = some oe ∧ oe.cls = .ref C ∧ x ≠ X.env.locals ∧ x ∉ X.fs ∧ ∀ v, oe.data ≠ .cell v := fun {h6} f6 => by
    obtain ⟨_, _, fr, oe, vs, _, _, _, he, ⟨hc, _⟩, hd, _⟩ := f6
    have nf : ∀ b ∈ frs (X.env :: X.outer), x ≠ b := fun b hb z => by
      obtain ⟨_, o, ho, hnf⟩ := fr.mem hb
      rw [← z, he] at ho; cases ho
      exact hnf vs hd
    refine ⟨oe, he, hc, nf _ (by unfold frs; rw [List.filterMap_cons, hf]; exact List.mem_cons_self), fun z => nf x (by unfold frs; rw [List.filterMap_cons, hf]; exact List.mem_cons_of_mem _ z) rfl, fun v q => by rw [hd] at q; cases q⟩
  obtain ⟨oe5, he5, hc5, hL5, hfs5, hd5⟩ := exc fly5
  have J5 := I5.hand he5 hx0 hL5 hfs5 hd5
  refine wpAny_handleBy_cons (codeAny_handlers_test (ld_glob (X := X.hand x oe5) J5 hgc hmc ?_ hdb)) (by intro q; cases q)
  have LT : PySem.W.Looks (model X.prog X.w) h5 (typeOf (.ref x)) (.ref C) := ExcAt.ty (C := C) (x := x) (h := h5) ⟨oe5, he5, hc5⟩
  refine (PySem.W.exm_one I5.kIn LT hexm).here ?_
  refine codeAny_handlers_suite_as (lands_againW fly5 fun h6 fly6 up6 => ?_)
  have I6 := stt h6 fly6.1 ((up4.trans up5).trans up6)
  obtain ⟨oe, he, hc, hL, hfs, hd⟩ := exc fly6
  have J6 := I6.hand he hx0 hL hfs hd
  refine store_ok (X := X.hand x oe) (v := V.ref x) J6 hN hj (Or.inl hy) rfl (fun s7 J7 => ?_) (Or.inr hy)
  refine wpAny_mono (hsuite x oe C hc T pins s7 _ H' _ J7 (hts x hx0)) (fun f s8 q8 => ?_) fun _ _ z => False.elim z
  cases f with
  | next =>
    obtain ⟨σ8, H8, J8, q⟩ := q8
    exact name_goes (I.unhand (pins' := pins) J8) hN hj hy fun s9 I9 => ⟨_, H8, I9, q⟩
  | ret u =>
    obtain ⟨v, σ8, H8, J8, r, q⟩ := q8
    exact name_goes (I.unhand (pins' := pins) J8) hN hj hy fun s9 I9 => ⟨v, _, H8, I9, r, q⟩
  | brk =>
    obtain ⟨_, _, _, q⟩ := q8
    exact False.elim q
  | cont =>
    obtain ⟨_, _, _, q⟩ := q8
    exact False.elim q
end
theorem callK_isx (K : PySem.W.Frag) {X : Cx} {xa C : Addr} {oe : Obj} (hcl : oe.cls = .ref C) (T : ExCl X.K C) (hK : X.K = K := by rfl) : CallR (X.hand xa oe) (.builtin "isinstance") (fun xs H Q => (∃ C' b, xs = [.ref xa, .ref C'] ∧ PySem.W.kitOne K (.ref C) (.ref C') = some b ∧ Q (.bl b) H) ∨
    (∃ n b, xs = [.ref xa, .ty n] ∧ PySem.W.kitOne K (.ref C) (.type n) = some b ∧ Q (.bl b) H) ∨ ∃ (tp : Addr) (Cs : List Addr) (b : Bool), xs = [.ref xa, .ref tp] ∧ H tp = some (.tup (Cs.map V.ref)) ∧ PySem.W.kitAny K (.ref C) (Cs.map Value.ref) = some b ∧ Q (.bl b) H) := by
  subst hK; exact call_isx hcl T
theorem ca_of {mg : Str → Option Value} {x : Str} {C : Addr} (h : mg x = some (.ref C)) : ca mg x = C := by unfold ca; rw [h]
theorem exN_of {K : PySem.W.Frag} {mg : Str → Option Value} {x : Str} {C : Addr} (h : mg x = some (.ref C)) (ex : PySem.W.excIn K C bmV "ValueError.__new__" = true) (cl : ExCl K C) : ExN K mg x := by
  have e := ca_of h
  exact ⟨by rw [e]; exact h, by rw [e]; exact ex, by rw [e]; exact cl⟩
end L2
/-! A comprehension over a range with a test; in among ints. -/
set_option Elab.async false
set_option maxRecDepth 100000
namespace L2
open PySem PySem.Spec PyProof.Rows
theorem comp_rangeF {lo : Int} {n : Nat} {D : Addr} {j : Nat} {tc : TT} {te : TE} {σ0 : St} {H1 : Hp} {Q : Hp → Prop} (p : Nat → Bool) (f : Nat → V) (hz : n ≤ sizeLine) (hfr : H1 D = none)
    (ht : ∀ (i : Nat) H R, i < n → Same H1 H → (∀ H', Same H H' → R (p i) H') → tc (σ0.set j (some (.int (lo + i)))) H R)
    (he : ∀ (i : Nat) H R, i < n → p i = true → Same H1 H → (∀ H', Same H H' → R (f i) H') → te (σ0.set j (some (.int (lo + i)))) H R)
    (hend : ∀ H, Same H1 H → H D = some (.lst (((List.range n).filter p).map f)) → Q H) :
    ∃ W : Nat → Nat → List V → St → Hp → Prop, (∃ m, W 0 m [] σ0 (upd H1 D (.lst []))) ∧ ∀ i m ys σc Hc, W i m ys σc Hc → Hc D = some (.lst ys) ∧
      (((Itr lo n).stop i Hc ∧ Q Hc) ∨ ((Itr lo n).go i Hc ∧ ∃ Nx : List V → St → Hp → Prop, (∀ ys' σ' H', Nx ys' σ' H' → ∃ m', m' < m ∧ W (i + 1) m' ys' σ' H') ∧ ∀ x H', (Itr lo n).yld i Hc x H' → gName j x σc H' fun σ2 H2 => tc σ2 H2 fun b H3 =>
        if b = true then te σ2 H3 fun y H4 => H4 D = some (.lst ys) ∧ ys.length < sizeLine ∧ Nx (ys ++ [y]) σ2 (upd H4 D (.lst (ys ++ [y])))
        else Nx ys σ2 H3)) := by
  refine ⟨fun i m ys σ H => m = n - i ∧ i ≤ n ∧ (σ = σ0 ∨ ∃ u, σ = σ0.set j u) ∧ Same H1 H ∧ H D = some (.lst ys) ∧ ys = ((List.range i).filter p).map f, ⟨n, by simp, Nat.zero_le _, .inl rfl, Same.put hfr, upd_same, rfl⟩, ?_⟩
  rintro i m ys σ H ⟨rfl, hi, hσ, s, d, e⟩
  refine ⟨d, ?_⟩
  by_cases hlt : i < n
  · refine .inr ⟨hlt, fun ys' σ' H' => (σ' = σ0 ∨ ∃ u, σ' = σ0.set j u) ∧ Same H1 H' ∧ H' D = some (.lst ys') ∧ ys' = ((List.range (i + 1)).filter p).map f, fun ys' σ' H' q => ⟨_, by omega, rfl, hlt, q⟩, ?_⟩
    rintro x H' ⟨rfl, rfl⟩
    unfold gName
    rw [set_slot hσ]
    have key : ((σ0.set j (some (V.int (lo + i)))) = σ0 ∨ ∃ u, (σ0.set j (some (V.int (lo + i)))) = σ0.set j u) = True := eq_true (.inr ⟨_, rfl⟩)
    simp only [key, true_and]
    refine ht i _ _ hlt s fun H3 s3 => ?_
    cases hp : p i with
    | false =>
      refine iteF ⟨s.trans s3, s3 _ _ d, ?_⟩
      rw [e, List.range_succ, List.filter_append]
      simp [hp]
    | true =>
      refine iteT (he i _ _ hlt hp (s.trans s3) fun H4 s4 => ⟨s4 _ _ (s3 _ _ d), ?_, Same.put' ((s.trans s3).trans s4) hfr, upd_same, ?_⟩)
      · rw [e, List.length_map]
        have := List.length_filter_le p (List.range i)
        rw [List.length_range] at this
        omega
      · rw [e, List.range_succ, List.filter_append]
        simp [hp]
  · have ei : i = n := by omega
    subst ei
    exact .inl ⟨Nat.le_refl _, hend H s (by rw [d, e])⟩
end L2
/-! sum([..]) of ints; a comprehension that makes a line of each item. -/
set_option Elab.async false
set_option maxRecDepth 100000
namespace L2
open PySem PySem.Spec PyProof.Rows
section
variable {X : Cx}
theorem call_sumI (hc : X.calm = true) : CallR X (.builtin "sum") (fun xs H Q => ∃ (a : Addr) (ns : List Int), xs = [.ref a] ∧ SqL X.K H a (ns.map V.int) ∧ Q (.int ns.sum) H) := by
  intro pins s σ H xs us Q I rv h
  obtain ⟨a, ns, e, hq, q⟩ := h
  subst e
  obtain ⟨u, rfl, ru⟩ := Vals.one rv
  cases ru
  obtain ⟨its, rv, p, hz⟩ := I.list hq
  have hl := rv.length
  rw [List.length_map] at hl
  have la : a < s.heap.objs.size := by obtain ⟨o, e, _⟩ := p.isList; exact Heap.lt_size e
  have hh : X.A.in1.handled = none := I.ok.hd hc
  refine call_sum_walkG (wpAny_pyIter_list p.isList ?_)
  refine ⟨s.heap.objs.size, _, _, its.toArray.size, _, _, fun i => ns.getD i 0, rfl, Walks.list hh _ a (Nat.ne_of_lt la) its.toArray, ⟨⟨_, Heap.get?_push_size _ rfl, rfl, rfl⟩, p.isList.push _⟩, fun b hb => ?_, fun i v hP => ?_, fun h' tk t' kk => ?_⟩
  · simp only [List.mem_cons, List.not_mem_nil, or_false] at hb
    show b < (s.heap.push _).objs.size
    rw [show (s.heap.push _).objs.size = s.heap.objs.size + 1 from Array.size_push ..]
    rcases hb with z | z
    · rw [z]; exact Nat.lt_succ_self _
    · rw [z]; exact Nat.lt_succ_of_lt la
  · have hv : its[i]? = some v := by simpa using hP
    have hi : i < ns.length := by have := (List.getElem?_eq_some_iff.mp hv).1; omega
    obtain ⟨u, hu, ru⟩ := rv.get (i := i) (x := .int ns[i]) (by simp [hi])
    rw [hv] at hu
    cases hu
    obtain ⟨t, rfl⟩ := ru
    exact ⟨t, by simp [hi]⟩
  · have e : its.toArray.size = ns.length := by simp [hl]
    rw [e, preSum_getD, List.take_length]
    refine ⟨.int ns.sum, H, I.kept (h' := h') (t' := tk) (fun b o e => kk b o (fun z => ?_) (Heap.get?_push_of_some _ e)), ⟨_, rfl⟩, q⟩
    simp only [List.mem_cons, List.not_mem_nil, or_false] at z
    exact Nat.ne_of_lt (Heap.lt_size e) z
theorem callK_sum (K : PySem.W.Frag) (hc : X.calm = true) (hK : X.K = K := by rfl) : CallR X (.builtin "sum") (fun xs H Q => ∃ (a : Addr) (ns : List Int), xs = [.ref a] ∧ SqL K H a (ns.map V.int) ∧ Q (.int ns.sum) H) := by subst hK; exact call_sumI hc
end
/-! ### one statement ahead of others -/
end L2
/-! reversed(x) walked; what stands in a try. -/
set_option Elab.async false
set_option maxRecDepth 100000
namespace L2
open PySem PySem.Spec PyProof.Rows
section
variable {X : Cx} {tg : Expr}
end
/-! ### the block of a try -/
def PB (X : Cx) (body : List Stmt) (tb : (St → XK) → TS) : Prop := ∀ (pins : List (Addr × Obj)) (s : Shared) (σ : St) (H : Hp) (D : Ends) (EE : St → XK), Inv X pins σ H s → tb EE D σ H →
  wpAny (model X.prog X.w) X.A (execs body X.env) (SP X pins D) (fun e s' => ∃ (σ1 : St) (H1 : Hp) (s1 : Shared), Inv X pins σ1 H1 s1 ∧ CXE X.prog X.w X.stack H1 s1 (EE σ1) e s') s
section
variable {X : Cx}
def bCall (sp : Sp) (ta : TA) : (St → XK) → TS := fun EE D σ H => ta σ H fun vs H1 => sp (vs ++ []) H1 (fun _ H2 => D.nx σ H2) (EE σ)
theorem pb_call {k : Nat} {fn : Str} {ps : List Str} {sp : Sp} {ta : TA} {ae : Expr} {es : List Expr} {fp cp ap : Pos} (G : Has X.prog X.w X.K X.mg X.base (CXE X.prog X.w) k fn ps sp) (hr : Room k X.A) (hg : Gl X fn) (ha : PA X.nox (ae :: es) ta)
    (hdb : (fn == ("__debug__" : Str)) = false := by decide) (he : starEach (ae :: es) X.env = (false, eval ae X.env) :: starEach es X.env := by rfl) (hpl : (backTo cp (starEach es X.env)).any (·.1) = false := by rfl) (hs : swapsWith (.Call (.Name fn fp) (ae :: es) [] cp) none ap.line X.env = pure false := by rfl) :
    PB X [.Expr (.Call (.Name fn fp) (ae :: es) [] cp) ap] (bCall sp ta) := by
  intro pins s σ H D EE I h
  obtain ⟨f, fd, F, hm, hk, hb⟩ := G.ex
  refine wpAny_execs_cons (wpAny_Expr_any (wpAny_Call_Name_kw (ld_glob I hg hm ?_ hdb)) I.quiet hs)
  refine PySem.W.callWith_K (h₀ := X.base) I.ok.mod.kin hk (wpAny_mono (ha cp pins s σ H _ (I.wish _) h) (fun us s1 ⟨vs, H1, I1w, r, q⟩ => ⟨I1w.kIn, ?_⟩) fun _ _ z => False.elim z) he hpl
  have I1 : Inv X pins σ H1 s1 := I1w.unwish
  have r2 : Vals (vs ++ []) (us ++ []) := r.append .nil
  have hl : (us ++ []).length = ps.length := by rw [← r2.length]; exact F.len _ _ _ _ q
  refine wpAny_call (codeAny_mono (F.run X.A X.stack s1 H1 ⟨us, []⟩ (us ++ []) (vs ++ []) _ _ hr I1.env0 (hb s1 us I1.kIn hl) r2 q) fun r s' hq => ?_)
  cases r with
  | error e => exact ⟨σ, H1, s1, I1, hq⟩
  | ok fl =>
    cases fl with
    | ret u =>
      obtain ⟨v, H2, I2, rv, q2⟩ := I1.after hq
      exact wpAny_execs_nil ⟨_, H2, I2, q2⟩
    | next => exact False.elim hq
    | brk => exact False.elim hq
    | cont => exact False.elim hq
def bIf (tc : TT) (ta tb : (St → XK) → TS) : (St → XK) → TS := fun EE D σ H => tc σ H fun b H1 => if b = true then ta EE D σ H1 else tb EE D σ H1
theorem pb_if {c : Expr} {a b : List Stmt} {pos : Pos} {tc : TT} {ta tb : (St → XK) → TS} (hc : PT X.nox c tc) (ha : PB X a ta) (hb : PB X b tb) : PB X [.If c a b pos] (bIf tc ta tb) := by
  intro pins s σ H D EE I h
  refine wpAny_execs_cons (wpAny_If (wpAny_mono (hc pins s σ H _ (I.wish _) h) (fun v s1 ⟨H1, I1w, q⟩ => ?_) fun _ _ z => False.elim z))
  have I1 : Inv X pins σ H1 s1 := I1w.unwish
  have key : ∀ {st : List Stmt} {t : (St → XK) → TS}, PB X st t → t EE D σ H1 → wpAny (model X.prog X.w) X.A (execs st X.env) (fun f s1 => match f with | .next => wpAny (model X.prog X.w) X.A (execs [] X.env) (SP X pins D) (fun e s' => ∃ (σ1 : St) (H1 : Hp) (s1 : Shared), Inv X pins σ1 H1 s1 ∧ CXE X.prog X.w X.stack H1 s1 (EE σ1) e s') s1 | f => SP X pins D f s1)
      (fun e s' => ∃ (σ1 : St) (H1 : Hp) (s1 : Shared), Inv X pins σ1 H1 s1 ∧ CXE X.prog X.w X.stack H1 s1 (EE σ1) e s') s1 := fun {st t} hp ht => wpAny_mono (hp pins s1 σ H1 D EE I1 ht) (fun f s2 q2 => by
        cases f with
        | next => exact wpAny_execs_nil q2
        | _ => exact q2) fun _ _ z => z
  cases v with
  | true => exact key ha q
  | false => exact key hb q
/-- try: block except C as e: suite -/
def tTryB (K : PySem.W.Frag) (j : Nat) (CS : Addr) (tb : (St → XK) → TS) (ts : Addr → Addr → TS) : TS := fun D σ H => tb (fun σ1 cls _ H2 => ∃ C, cls = .ref C ∧ ExCl K C ∧ PySem.W.exmOne K (.ref C) (.ref CS) = some true ∧ ∀ xa, H2 xa = none → ts C xa { nx := fun σ' H' => D.nx (σ'.set j none) H', rt := D.rt } (σ1.set j (some (.ref xa))) H2) D σ H
theorem ps_tryb {en cn : Str} {j : Nat} {CS : Addr} {body : List Stmt} {tb : (St → XK) → TS} {ts : Addr → Addr → TS} {b0 : Stmt} {suite : List Stmt} {cpos hpos pos : Pos} (hst : X.stack = X.env :: X.outer) (hf : X.env.frame = some X.env.locals) (hN : X.N.Nodup) (hj : X.N[j]? = some en) (hy : X.env.scope.names.lookup en = some .local)
    (hb : PB X body tb) (hgc : Gl X cn) (hmc : X.mg cn = some (.ref CS)) (hsuite : ∀ (xa : Addr) (oe : Obj) (C : Addr), oe.cls = .ref C → ExCl X.K C → PSs (X.hand xa oe) (b0 :: suite) (ts C xa)) (hdc : (cn == ("__debug__" : Str)) = false := by decide) :
    PS X (.Try body [.ExceptHandler (some (.Name cn cpos)) (some en) (b0 :: suite) hpos] [] [] pos) (tTryB X.K j CS tb ts) := by
  intro pins s σ H D I h
  refine wpAny_Try_except (wpAny_mono (hb pins s σ H D _ I h) (fun f s1 q => ?_) fun e s1 ⟨σ1, H1, s2, I1, c⟩ => ?_)
  · cases f with
    | next => exact wpAny_execs_nil q
    | _ => exact q
  · exact catch_ok hst hf hN hj hy hgc hmc hsuite I1 c hdc
end
end L2
/-! An item of a list or a tuple. -/
set_option Elab.async false
set_option maxRecDepth 100000
namespace L2
open PySem PySem.Spec PyProof.Rows
def rIxQ (K : PySem.W.Frag) : R2 := fun x y H Q => ∃ p xs i v, x = .ref p ∧ y = .int i ∧ (SqL K H p xs ∨ SqT K H p xs) ∧ atI xs i = some v ∧ Q v H
theorem ixK_seq {X : Cx} (K : PySem.W.Frag) (hK : X.K = K := by rfl) : IxR X (rIxQ K) := by
  subst hK
  intro value slice pins s σ H x y v u Q I rx ry h hs
  obtain ⟨p, xs, i, z, rfl, rfl, hq | hq, he, q⟩ := h
  · exact ix_list value slice pins s σ H _ _ v u Q I rx ry ⟨p, xs, i, z, rfl, rfl, hq, he, q⟩ hs
  · exact ix_tup value slice pins s σ H _ _ v u Q I rx ry ⟨p, xs, i, z, rfl, rfl, hq, he, q⟩ hs
end L2
/-! Methods, by their class and name; a method's call in a try; d.get(k, v) of a dict with tuple keys. -/
set_option Elab.async false
set_option maxRecDepth 100000
namespace L2
open PySem PySem.Spec PyProof.Rows
section
variable {X : Cx} {C : Addr} {m : Str} {o : Expr} {ta : TE} {CX : CXT} {k : Nat} {ps : List Str} {sp : Sp} {E : XK} {apos pos : Pos}
end
/-- d.get(k, v), k a tuple -/
def rGetT : V → List V → Hp → VK → Prop := fun x vs H Q => ∃ a b kvs k d, x = .ref a ∧ vs = [.ref b, d] ∧ H a = some (.dT kvs) ∧ H b = some (.tup (k.map kV)) ∧ Q ((valV kvs k).getD d) H
theorem mt_getT {X : Cx} (hu : X.A.units + 1 < cLine) : MtR X "dict.get" rGetT := by
  intro pins s σ H x xs v us Q I rx rv h
  obtain ⟨a, b, kvs, k, d, rfl, rfl, ha, hb, q⟩ := h
  cases rx
  obtain ⟨u1, u2, rfl, r1, r2⟩ := Vals.two rv
  cases r1
  obtain ⟨z, hd, ys, rel, dd⟩ := dt_of I.hok ha
  refine call_meetsIn PySem.F.slot_dict_get dd.typeIs PySem.F.entry_dict_get (PySem.F.args_dict_get_3 _ _ _) (meetsH_dict_get_default (tupleKind (mixKind X.prog X.w)) a b hd u2) ⟨tupleKind_room_in1 hu, k, ys, key_of I.hok hb, dd, ?_⟩
  exact ⟨_, H, I.tok _, (rel.val k).getD r2, q⟩
end L2
/-! list(d) of a dict with tuple keys; a display of one pair with a tuple for its key. -/
set_option Elab.async false
set_option maxRecDepth 100000
namespace L2
open PySem PySem.Spec PyProof.Rows
/-- a dict, by its raw entries -/
def DRaw (h : Heap) (d : Addr) (es : Array DictEntry) (ep : Nat) : Prop := ∃ o, h.get? d = some o ∧ o.ExactDict ∧ o.data = .dict es ep
section
variable {prog : Program} {w : World} {A : Around} {E : Value → Shared → Prop} {s : Shared} {d it : Addr} {es : Array DictEntry} {ep i : Nat}
theorem DRaw.typeIs (x : DRaw s.heap d es ep) : s.TypeIs (.ref d) "dict" := let ⟨o, ho, hc, _⟩ := x; ⟨o, ho, hc.1⟩
theorem DRaw.at' {h h' : Heap} (x : DRaw h d es ep) (e : ∀ o, h.get? d = some o → h'.get? d = some o) : DRaw h' d es ep := let ⟨o, ho, r⟩ := x; ⟨o, e o ho, r⟩
theorem DRaw.lt {h : Heap} (x : DRaw h d es ep) : d < h.objs.size := let ⟨_, ho, _⟩ := x; Heap.lt_size ho
theorem iter_raw {Q : Value → Shared → Prop} (hd : (d == sysModules) = false) (hm : DRaw s.heap d es ep)
    (hQ : Q (.ref s.heap.objs.size) { s with heap := s.heap.push { cls := .type "dict_keyiterator", data := .fields #[.ref d, .int 0 0, .int es.size 0, .int ep 0] } }) :
    wpAny (model prog w) A (pyIter (.ref d)) Q E s := by
  obtain ⟨o, ho, hc, hdat⟩ := id hm
  have hT : s.TypeIs (.ref d) "dict" := hm.typeIs
  refine wpAny_pyIter_slot hT PySem.F.slot_dict_iter (wpAny_call_entry PySem.F.slot_dict_iter hT PySem.F.entry_dict_iter ?_ (PySem.F.args_dict_iter_1 _))
  unfold Builtin.«dict.__iter__»
  refine wpAny_bind ?_
  unfold Builtin.Dict.dictSlotNone
  refine wpAny_bind (wpAny_notOrdered_dict hT ?_)
  show wpAny _ _ (pure (Value.ref d)) _ _ s
  refine wpAny_pure ?_
  show wpAny _ _ (Builtin.Dict.showsAll d >>= _) _ _ s
  unfold Builtin.Dict.showsAll
  rw [if_neg (by rw [hd]; exact Bool.false_ne_true)]
  refine wpAny_bind (wpAny_pure ?_)
  refine wpAny_bind (wpAny_dictEntries ho hdat ?_)
  refine wpAny_bind (wpAny_dictEpoch ho hdat ?_)
  refine wpAny_bind (wpAny_newObj_type (wpAny_pure ⟨_, rfl, "dict_keyiterator", _, ⟨_, Heap.get?_push_size _ rfl, rfl⟩, PySem.F.slot_dict_keyiterator_next.lookup, ?_⟩))
  simpa [rawInt] using hQ
theorem next_raw {Q : Option Value → Shared → Prop} (hit : s.heap.IsKeyIter it d i es.size ep) (hm : DRaw s.heap d es ep) (hlt : i < es.size)
    (hQ : ∀ h', h'.IsKeyIter it d (i + 1) es.size ep → Heap.SameBut it s.heap h' → Q (some es[i].key) { s with heap := h' }) :
    wpAny (model prog w) A (pyNext (.ref it)) Q E s := by
  obtain ⟨o, ho, hc, hd⟩ := id hit
  obtain ⟨od, hod, hcd, hdd⟩ := id hm
  unfold pyNext
  refine wpAny_bind (wpAny_attempt (wpAny_callSpecial?_slot (name := Str.ofString "__next__") hit.typeIs PySem.F.slot_dict_keyiterator_next
    (wpAny_call_entry PySem.F.slot_dict_keyiterator_next hit.typeIs PySem.F.entry_dict_keyiterator_next ?_ (PySem.F.args_dict_keyiterator_next_1 _))))
  refine wpAny_bind (wpAny_pure ?_)
  refine wpAny_bind ?_
  refine wpAny_bind ?_
  first | refine wpAny_bind (wpAny_typeNameOfWhole_keyiter hit.typeIs (wpAny_pure ?_)) | refine wpAny_bind (wpAny_typeNameOf_keyiter hit.typeIs (wpAny_pure ?_))
  refine wpAny_bind (wpAny_fieldsOf ho hd ?_)
  have hown : Builtin.Dict_items.ownsTuple "dict_keyiterator" = false := by decide
  simp only [hown, Bool.false_eq_true, if_false]
  show wpAny _ _ (if (Value.ref d == Value.none) = true then _ else _) _ _ s
  rw [if_neg (show ¬ ((Value.ref d == Value.none) = true) from Bool.false_ne_true)]
  refine wpAny_bind (wpAny_pure ?_)
  refine wpAny_bind (wpAny_dictEntries hod hdd ?_)
  rw [if_neg (by simp)]
  refine wpAny_bind (wpAny_pure ?_)
  refine wpAny_bind (wpAny_dictEpoch hod hdd ?_)
  rw [if_neg (by simp)]
  refine wpAny_pure ?_
  simp only [show ¬ ((i : Int) < 0) from by omega, if_false, Int.toNat_natCast, Array.getElem?_eq_getElem hlt]
  refine wpAny_bind ?_
  first | refine wpAny_bind (wpAny_typeNameOfWhole_keyiter hit.typeIs (wpAny_pure ?_)) | refine wpAny_bind (wpAny_typeNameOf_keyiter hit.typeIs (wpAny_pure ?_))
  refine wpAny_bind (wpAny_isOneOf_keyiter hit.typeIs ?_)
  show wpAny _ _ (setField (.ref it) 1 (rawInt ((i : Int) + 1)) >>= _) _ _ s
  refine wpAny_bind (wpAny_setField ho hd (by simp) ?_)
  have hit' : (s.heap.update it (Obj.mapFields (·.setIfInBounds 1 (rawInt ((i : Int) + 1))))).IsKeyIter it d (i + 1) es.size ep :=
    ⟨_, Heap.get?_update_self _ ho (Obj.isFreed_of_fields (Obj.data_mapFields hd _)), (Obj.cls_mapFields ..).trans hc, by rw [Obj.data_mapFields hd]; simp [rawInt]⟩
  refine wpAny_bind (wpAny_holding ?_)
  refine wpAny_bind (wpAny_isOneOf_keyiter (s := { s with heap := s.heap.update it (Obj.mapFields (·.setIfInBounds 1 (rawInt ((i : Int) + 1)))) }) hit'.typeIs ?_)
  show wpAny _ _ (pure es[i].key) _ _ _
  exact wpAny_pure (wpAny_pure ⟨_, rfl, wpAny_pure (hQ _ hit' (Heap.SameBut.update ..))⟩)
theorem end_raw {Q : Option Value → Shared → Prop} (hh : A.handled = none) (hit : s.heap.IsKeyIter it d i es.size ep) (hm : DRaw s.heap d es ep) (hge : es.size ≤ i)
    (hQ : ∀ h', Heap.ExtBut it s.heap h' → Q none { s with heap := h' }) : wpAny (model prog w) A (pyNext (.ref it)) Q E s := by
  obtain ⟨o, ho, hc, hd⟩ := id hit
  obtain ⟨od, hod, hcd, hdd⟩ := id hm
  unfold pyNext
  refine wpAny_bind (wpAny_attempt (wpAny_callSpecial?_slot (name := Str.ofString "__next__") hit.typeIs PySem.F.slot_dict_keyiterator_next
    (wpAny_call_entry PySem.F.slot_dict_keyiterator_next hit.typeIs PySem.F.entry_dict_keyiterator_next ?_ (PySem.F.args_dict_keyiterator_next_1 _))))
  refine wpAny_bind (wpAny_pure ?_)
  refine wpAny_bind ?_
  refine wpAny_bind ?_
  first | refine wpAny_bind (wpAny_typeNameOfWhole_keyiter hit.typeIs (wpAny_pure ?_)) | refine wpAny_bind (wpAny_typeNameOf_keyiter hit.typeIs (wpAny_pure ?_))
  refine wpAny_bind (wpAny_fieldsOf ho hd ?_)
  have hown : Builtin.Dict_items.ownsTuple "dict_keyiterator" = false := by decide
  simp only [hown, Bool.false_eq_true, if_false]
  show wpAny _ _ (if (Value.ref d == Value.none) = true then _ else _) _ _ s
  rw [if_neg (show ¬ ((Value.ref d == Value.none) = true) from Bool.false_ne_true)]
  refine wpAny_bind (wpAny_pure ?_)
  refine wpAny_bind (wpAny_dictEntries hod hdd ?_)
  rw [if_neg (by simp)]
  refine wpAny_bind (wpAny_pure ?_)
  refine wpAny_bind (wpAny_dictEpoch hod hdd ?_)
  rw [if_neg (by simp)]
  refine wpAny_pure ?_
  simp only [show ¬ ((i : Int) < 0) from by omega, if_false, Int.toNat_natCast, Array.getElem?_eq_none hge]
  refine wpAny_bind ?_
  first | refine wpAny_bind (wpAny_typeNameOfWhole_keyiter hit.typeIs (wpAny_pure ?_)) | refine wpAny_bind (wpAny_typeNameOf_keyiter hit.typeIs (wpAny_pure ?_))
  show wpAny _ _ (setField (.ref it) 0 .none >>= _) _ _ s
  refine wpAny_bind (wpAny_setField ho hd (by simp) ?_)
  show wpAny _ _ (newExc (.type "StopIteration") [] >>= _) _ _ _
  refine wpAny_bind ?_
  simp only [newExc, newTuple]
  refine wpAny_bind (wpAny_newObj_type ?_ (by size_fits))
  refine wpAny_bind (m := firstArgMember _ _) (wpAny_of_eq (a := Value.none) (by first | rfl | (simp only [firstArgMember]; rfl)) ?_)
  refine wpAny_newObj_type ?_ (by size_fits)
  simp only [raiseNew]
  refine wpAny_bind (wpAny_handled ?_)
  rw [show A.in1.handled = none from hh]
  refine wpAny_bind (wpAny_pure (wpAny_throw ?_))
  refine wpAny_bind (wpAny_isInstance (T := "StopIteration") (b := true) ⟨_, Heap.get?_push_size _ rfl, rfl⟩ isSubtype_stop ?_)
  exact wpAny_pure (hQ _ (((Heap.SameBut.update ..).extBut.push _).push _))
theorem walks_raw (hh : A.handled = none) (I d : Addr) (hne : d ≠ I) (es : Array DictEntry) (ep : Nat) :
    Walks prog w A I [I, d] [I] es.size (fun i v => ∃ e, es[i]? = some e ∧ v = e.key) (fun i h => h.IsKeyIter I d i es.size ep ∧ DRaw h d es ep) where
  sub := fun b hb => by simp at hb; simp [hb]
  frame := fun _ _ _ st hk => ⟨st.1.at fun o e => hk I (by simp) o e, st.2.at' fun o e => hk d (by simp) o e⟩
  item := fun i s Q E hi st hQ => by
    refine next_raw st.1 st.2 hi fun h' hit' hs' => ?_
    exact hQ _ h' s.toks ⟨es[i], by simp [hi], rfl⟩ ⟨hit', st.2.at' fun o e => hs'.extBut d o hne e⟩ fun b o hb e => hs'.extBut b o (fun h => hb (by simp [h])) e
  done := fun s Q E st hQ => end_raw hh st.1 st.2 (Nat.le_refl _) fun h' he' => hQ h' s.toks fun b o hb e => he' b o (fun h => hb (by simp [h])) e
  self := fun _ _ _ _ st hQ => wpAny_pyIter_keyiter st.1 hQ
theorem src_raw (lo : (d == sysModules) = false) : PySem.W.KdlSrc prog w "dict" d d es.size (fun i v => ∃ e, es[i]? = some e ∧ v = e.key) (fun h => DRaw h d es ep) where
  type := fun _ hm => hm.typeIs
  there := fun _ hm => ⟨hm.lt, hm.lt⟩
  keep := fun _ _ hm hk => hm.at' fun o e => hk d (.inl rfl) o e
  notList := by decide
  notTuple := by decide
  hint := fun _ _ _ _ hm hq => PySem.W.kdl_hint_dict hm.typeIs hq
  iter := fun _ _ hh hm => ⟨_, _, (fun _ _ hq => iter_raw lo hm hq), walks_raw hh _ d (Nat.ne_of_lt hm.lt) es ep, ⟨⟨_, Heap.get?_push_size _ rfl, rfl, rfl⟩, hm.at' fun o e => Heap.get?_push_of_some _ e⟩⟩
end
/-- the tuples at these places are the keys, in order -/
inductive KeysAt (H : Hp) : List (List Key) → List Addr → Prop
  | nil : KeysAt H [] []
  | cons {k : List Key} {b : Addr} {ks : List (List Key)} {bs : List Addr} : H b = some (.tup (k.map kV)) → KeysAt H ks bs → KeysAt H (k :: ks) (b :: bs)
theorem KT.keys {H : Hp} {kvs : List (List Key × V)} {xs : List (List Key × Addr × Value)} (r : KT H kvs xs) : KeysAt H (kvs.map (·.1)) (xs.map (·.2.1)) := by
  induction r with
  | nil => exact .nil
  | cons h _ ih => exact .cons h.2.1 ih
theorem vals_refs : ∀ bs : List Addr, Vals (bs.map V.ref) (bs.map Value.ref)
  | [] => .nil
  | _ :: bs => .cons rfl (vals_refs bs)
section
variable {X : Cx}
/-- list(d), d a dict with tuple keys -/
theorem call_listT (hc : X.calm = true) : CallR X (.type "list") (fun xs H Q => ∃ a kvs, xs = [V.ref a] ∧ H a = some (.dT kvs) ∧ ∀ bs l, KeysAt H (kvs.map (·.1)) bs → H l = none → Q (.ref l) (upd H l (.lst (bs.map V.ref)))) := by
  intro pins s σ H xs us Q I r h
  obtain ⟨a, kvs, rfl, ha, q⟩ := h
  obtain ⟨u, rfl, ru⟩ := Vals.one r
  cases ru
  obtain ⟨z, hd, ys, rel, o, es, ep, ho, h2, h3, h4, h5, h6⟩ := dt_of I.hok ha
  have hl : es.size = kvs.length := (size_of_entries h4).trans (Paired.length rel).symm
  refine PySem.W.kdl_call (src_raw hd) (I.ok.hd hc) ⟨o, ho, h2, h3⟩ (by rw [hl]; exact z) fun h' tk acc' c' kk hS hacc => ?_
  have e : acc'.toList = (ys.map (·.2.1)).map Value.ref := by
    apply List.ext_getElem?
    intro i
    have hsz := hacc.1
    by_cases hi : i < es.size
    · have hi' : i < acc'.size := by omega
      obtain ⟨e0, q1, q2⟩ := hacc.2 i acc'[i] (Array.getElem?_eq_getElem hi')
      rw [entry_at h4 i] at q1
      rw [Array.getElem?_toList, Array.getElem?_eq_getElem hi', q2, List.getElem?_map, List.getElem?_map]
      cases hy : ys[i]? with
      | none => rw [hy] at q1; cases q1
      | some y => rw [hy] at q1; injection q1 with q1; rw [← q1]; rfl
    · have hy : ys.length = es.size := (size_of_entries h4).symm
      rw [List.getElem?_eq_none (by simp; omega), List.getElem?_eq_none (by simp; omega)]
  have hv : Vals ((ys.map (·.2.1)).map V.ref) acc'.toList := by rw [e]; exact vals_refs _
  have hy : ys.length ≤ sizeLine := by rw [← Paired.length rel]; exact z
  exact ⟨.ref _, upd H _ (.lst ((ys.map (·.2.1)).map V.ref)), I.laid (t' := tk) kk (Nat.le_refl _) ⟨by simpa using hy, acc'.toList, c', hv, by simpa using hS⟩, rfl, q _ _ rel.keys (I.hok.fresh (Nat.le_refl _))⟩
theorem callK_tuple (K : PySem.W.Frag) (hK : X.K = K := by rfl) : CallR X (.type "tuple") (fun xs H Q => ∃ p ys, xs = [.ref p] ∧ ((SqL K H p ys ∧ ∀ l, H l = none → Q (.ref l) (upd H l (.tup ys))) ∨ (SqT K H p ys ∧ Q (.ref p) H))) := hK ▸ call_tuple_of
/-- {key: v}, the key a tuple -/
def tDisp1 (te tv : TE) : TE := fun σ H Q => ∀ p, H p = none → te σ (upd H p (.dT [])) fun x H1 => tv σ H1 fun y H2 => ∃ b k, x = .ref b ∧ H2 p = some (.dT []) ∧ H2 b = some (.tup (k.map kV)) ∧ Q (.ref p) (upd H2 p (.dT [(k, y)]))
theorem pe_disp1 {e1 e2 : Expr} {te tv : TE} {pos : Pos} (hu : X.A.units + 1 < cLine) (he : PE X e1 te) (hv : PE X e2 tv) : PE X (.Dict [some e1] [e2] pos) (tDisp1 te tv) := by
  intro pins s σ H Q I h
  have I1 := I.laid (a := s.heap.objs.size) (o := .dT []) (t' := s.toks) (fun _ _ q => Heap.get?_push_of_some _ q) (Nat.le_refl _) (dt_empty s.heap I.big)
  refine wpAny_Dict_any rfl rfl (by simp) (by simp) ?_
  show wpAny _ _ (evalPairs [(eval e1 X.env, do let x ← eval e2 X.env; standAt pos; pure x)]) _ _ _
  refine wpAny_bind (thn (he pins _ σ _ _ I1 (h _ (I.hok.fresh (Nat.le_refl _)))) fun u s1 ⟨x, H1, I2, rx, q1⟩ => ?_)
  refine wpAny_bind (wpAny_holding (wpAny_bind (thn (hv pins _ σ _ _ I2 q1) fun u2 s2 ⟨y, H2, I3, ry, b, k, ex, hp, hb, q⟩ => wpAny_bind (wpAny_standAt (wpAny_pure ?_)))))
  subst ex
  cases (show u = Value.ref b from rx)
  refine wpAny_bind (wpAny_holding (wpAny_pure (wpAny_pure ?_)))
  show wpAny _ _ (storeAll _ _) _ _ _
  unfold storeAll
  rw [List.forIn_cons]
  obtain ⟨z, hd, xs, rel, dd⟩ := dt_of I3.hok hp
  cases rel
  refine wpAny_bind (wpAny_bind (wpAny_dictSet_heap (hsz := Nat.zero_le _) (show X.A.units < cLine from Nat.lt_of_succ_lt hu) (key_of I3.hok hb) dd fun h' dd' hs => wpAny_pure ?_))
  simp only [List.forIn_nil]
  refine wpAny_pure ?_
  obtain ⟨o, es, ep, ho, h2, h3, h4, _, h5⟩ := dd'
  have rel2 : KT H2 [] [] := .nil
  refine ⟨.ref _, upd H2 _ (.dT [(k, y)]), d_write I3 (by rw [hp]; exact True.intro) hs ⟨o, ho⟩ ⟨(show 1 ≤ sizeLine by decide), hd, _, (rel2.put k hb ry).keeps fun c ys ec => ?_, o, es, ep, ho, h2, h3, h4, h5⟩, rfl, q⟩
  rw [upd_ne (ne_of ec hp (fun z => nomatch z))]
  exact ec
end
end L2
/-! A def that is handed in, called; range(a, b) as a value; // by a divisor of many digits; return o.m() in a try whose clause names nothing. -/
set_option Elab.async false
set_option maxRecDepth 100000
namespace L2
open PySem PySem.Spec PyProof.Rows
section
variable {X : Cx}
theorem op_fdivL : OpR X (binaryOp .FloorDiv) (rI (fun _ j => 0 < j ∧ j.natAbs.log2 < 9000) fun i j => .int (i / j)) := opI fun i j _ _ _ _ _ hc q => by
  have h1 : (0 : Int) < j := hc.1
  exact floordiv_int (by omega) (by rw [Int.fdiv_eq_ediv_of_nonneg i (by omega)]; exact q) (.inl (PyProof.noPylong_of_log2 hc.2))
theorem call_rng2 : CallR X (.type "range") (fun xs H Q => ∃ i j, xs = [.int i, .int j] ∧ ∀ p, H p = none → Q (.ref p) (upd H p (.rng i j))) := by
  intro pins s σ H xs us Q I rv h
  obtain ⟨i, j, e, q⟩ := h
  subst e
  obtain ⟨u, v, rfl, ru, rw'⟩ := Vals.two rv
  obtain ⟨t, rfl⟩ := ru
  obtain ⟨t', rfl⟩ := rw'
  exact call_range_2 ⟨.ref s.heap.objs.size, upd H s.heap.objs.size (.rng i j), I.laid (fun b o e => Heap.get?_push_of_some _ e) (Nat.le_refl _) ⟨_, _, _, Heap.get?_push_size _ rfl⟩, rfl, q _ I.fresh⟩
end
/-! ### methods, by their class's text -/
section
variable {P : Program} {w : World} {K : PySem.W.Frag} {mg : Str → Option Value} {base : Heap}
end
/-! ### a def that is handed in -/
/-! ### except C: suite, without a name -/
section
variable {X : Cx} {pins : List (Addr × Obj)} {σ : St} {H H' : Hp} {s : Shared}
end
section
variable {X : Cx} {C : Addr} {m : Str} {o : Expr} {ta : TE} {k : Nat} {ps : List Str} {sp : Sp} {apos pos : Pos}
end
end L2
set_option Elab.async false
set_option maxRecDepth 100000
namespace K
open PySem L2 RS
seal PE PT PW PA PS PSs PG PGs PI PO PTs
def top (i : Nat) : Stmt := PySem.Challenge.pw_stairtable_k13_counted.main.body.getD i (.Pass ⟨0, 0, 0, 0⟩)
structure Bi (mg : Str → Option Value) : Prop where
  len : mg "len" = none
  range : mg "range" = none
  list : mg "list" = none
  zip : mg "zip" = none
  all : mg "all" = none
  sorted : mg "sorted" = none
  isinstance : mg "isinstance" = none
  int : mg "int" = none
  bool : mg "bool" = none
  reversed : mg "reversed" = none
  enumerate : mg "enumerate" = none
  max : mg "max" = none
  min : mg "min" = none
  sum : mg "sum" = none
  tuple : mg "tuple" = none
  ValueError : mg "ValueError" = none
  str : mg "str" = none
/-! ### the program's own text: stairs -/
theorem zip_ints (ns ms : List Int) (f : Int → Int → Bool) : ((ns.map V.int).zip (ms.map V.int)).map (fun p => V.bl (f (intOf p.1) (intOf p.2))) = ((ns.zip ms).map fun p => f p.1 p.2).map V.bl := by
  rw [List.zip_map, List.map_map, List.map_map]
  rfl
theorem map_drop_int (ns : List Int) (k : Nat) : (ns.map V.int).drop k = (ns.drop k).map V.int := (List.map_drop).symm
theorem cut_ints (ns : List Int) : cutV (ns.map V.int) (some 1) none = (ns.drop 1).map V.int := by
  rw [← map_drop_int]; exact cut_from _ 1
section
variable {P : Program} {w : World} {K : PySem.W.Frag} {mg : Str → Option Value} {base : Heap}
abbrev st_never_grows : Stmt := top 9
theorem sc_never_grows : FnScope ["numbers"] ["numbers"] (defScope st_never_grows) := ⟨rfl, rfl, rfl, by decide +kernel, rfl, by decide +kernel, by decide +kernel⟩
theorem ok_never_grows (F : Fn K mg "never_grows" st_never_grows ["numbers"]) (B : Bi mg) : Has P w K mg base CX0 1 "never_grows" ["numbers"] (spI fun ns => .bl (ngB ns)) := by
  refine F.has sc_never_grows (fun vs H Q E h => ?_) (fun f cdv A outer s H vs Q E hr h => ?_)
  · obtain ⟨a, ns, rfl, _⟩ := h
    rfl
  · obtain ⟨a, ns, rfl, hI, hS, k⟩ := h
    refine ⟨_, (pss_one (ps_ret (pe_callB (callK_all K rfl) (by rfl) B.all PyProof.Rows.boot_all (pa_ListComp (pe_comp ["ahead", "behind"] (CompSc.of rfl rfl) rfl (piK_zip K rfl B.zip (pa_Name (pv 0) (pa_Subscript (pe_slice (slK_list K) (pv 0) (po_some pe_int) po_none) pa_nil))) (fun C s3 H3 ex => ⟨(pgK_tup K (n := 2) rfl (pgs_cons (pg_name (i := 1) (by show (["numbers", "ahead", "behind"] : List Str).Nodup; decide +kernel) rfl (Or.inl rfl)) (pgs_cons (pg_name (i := 2) (by show (["numbers", "ahead", "behind"] : List Str).Nodup; decide +kernel) rfl (Or.inl rfl)) pgs_nil))), pts_nil, (pe_cmpR op_ge (pv 1) (pv 2) (nomark _))⟩)) pa_nil)))), ?_⟩
    refine ⟨_, rfl, _, rfl, 1, rfl, a, _, rfl, hI.sq, fun p hp => ⟨a, p, _, _, rfl, (Same.put hp).seq hI.sq, SqL.of upd_same, fun D hD => comp_zip (fun x y => .bl (decide (intOf y ≤ intOf x))) ?_ ((Same.put hp).seq hI.sq) (SqL.of upd_same) hD ?_ ?_⟩⟩
    · rw [List.length_map]; exact small_line hS
    · intro x y H1 R hm _ hR
      have hx := (List.of_mem_zip hm).1
      have hy := (List.of_mem_zip hm).2
      rw [cut_ints] at hy
      obtain ⟨n, _, rfl⟩ := List.mem_map.mp hx
      obtain ⟨m, _, rfl⟩ := List.mem_map.mp hy
      exact ⟨_, rfl, _, rfl, n, m, rfl, rfl, hR H1 (Same.refl _)⟩
    · intro H1 s1 hd
      rw [cut_ints, zip_ints ns (ns.drop 1) fun x y => decide (y ≤ x)] at hd
      exact ⟨D, _, rfl, SqL.of hd, k H1 ((Same.put hp).trans s1)⟩
abbrev st_is_shape : Stmt := top 10
theorem sc_is_shape : FnScope ["lengths"] ["lengths"] (defScope st_is_shape) := ⟨rfl, rfl, rfl, by decide +kernel, rfl, by decide +kernel, by decide +kernel⟩
theorem ok_is_shape (F : Fn K mg "is_shape" st_is_shape ["lengths"]) (B : Bi mg) (G_never_grows : Has P w K mg base CX0 1 "never_grows" ["numbers"] (spI fun ns => .bl (ngB ns))) : Has P w K mg base CX0 2 "is_shape" ["lengths"] (spI fun ns => .bl (shB ns)) := by
  refine F.has sc_is_shape (fun vs H Q E h => ?_) (fun f cdv A outer s H vs Q E hr h => ?_)
  · obtain ⟨a, ns, rfl, _⟩ := h
    rfl
  · obtain ⟨a, ns, rfl, hI, hS, k⟩ := h
    refine ⟨_, (pss_one (ps_ret (pe_and (pe_callH G_never_grows (hr.mono (by decide)) rfl pass0 (pa_Name (pv 0) pa_nil)) (pe_one (pe_callB (callK_all K rfl) (by rfl) B.all PyProof.Rows.boot_all (pa_ListComp (pe_comp ["length"] (CompSc.of rfl rfl) rfl (piK_list K (pv 0)) (fun C s3 H3 ex => ⟨(pg_name (i := 1) (by show (["lengths", "length"] : List Str).Nodup; decide +kernel) rfl (Or.inl rfl)), pts_nil, (pe_cmpR op_ge (pv 1) pe_int (nomark _))⟩)) pa_nil)))))), ?_⟩
    refine ⟨_, rfl, a, ns, rfl, hI, hS, fun H1 s1 => ⟨_, rfl, ?_⟩⟩
    cases hb : ngB ns with
    | false =>
      refine iteF ?_
      have q : Q (.bl (shB ns)) H1 := k H1 s1
      rw [shB, hb] at q
      exact q
    | true =>
      refine iteT ?_
      refine ⟨_, rfl, a, rfl, ⟨_, (hI.mono s1).sq⟩, fun D hD => comp_vals (fun _ => true) (fun v => .bl (decide (1 ≤ intOf v))) ?_ (hI.mono s1).sq hD ?_ ?_ ?_⟩
      · rw [List.length_map]; exact small_line hS
      · intro x H2 R _ _ hR
        exact hR H2 (Same.refl _)
      · intro x H2 R hx _ s2 hR
        obtain ⟨n, _, rfl⟩ := List.mem_map.mp hx
        exact ⟨_, rfl, n, 1, rfl, rfl, hR H2 (Same.refl _)⟩
      · intro H2 s2 hd
        have e : ((ns.map V.int).filter fun _ => true).map (fun v => V.bl (decide (1 ≤ intOf v))) = (ns.map fun n => decide (1 ≤ n)).map V.bl := by
          rw [List.filter_eq_self.mpr (by simp), List.map_map, List.map_map]
          rfl
        rw [e] at hd
        refine ⟨D, _, rfl, SqL.of hd, ?_⟩
        have q : Q (.bl (shB ns)) H2 := k H2 (s1.trans s2)
        rw [shB, hb, Bool.true_and] at q
        exact q
end
section
variable {P : Program} {w : World} {K : PySem.W.Frag} {mg : Str → Option Value} {base : Heap}
end
/-! ### the law's own helpers -/
def spWhole : Sp := fun vs H Q _ => ∃ n : Int, vs = [.int n] ∧ Q (.bl true) H
def spAt : Sp := fun vs H Q _ => ∃ (a : Addr) (ns : List Int) (j : Nat), vs = [.ref a, .int (j : Int)] ∧ IsI H a ns ∧ Q (.int (ns.getD j 0)) H
def spWholeRow : Sp := fun vs H Q _ => ∃ (a : Addr) (ns : List Int), vs = [.ref a] ∧ IsI H a ns ∧ Q (.bl true) H
section
variable {P : Program} {w : World} {K : PySem.W.Frag} {mg : Str → Option Value} {base : Heap}
abbrev st_l_whole : Stmt := top 20
theorem sc_l_whole : FnScope ["_law_found"] ["_law_found"] (defScope st_l_whole) := ⟨rfl, rfl, rfl, by decide +kernel, rfl, by decide +kernel, by decide +kernel⟩
theorem ok_l_whole (F : Fn K mg "_law_whole" st_l_whole ["_law_found"]) (B : Bi mg) : Has P w K mg base CX0 1 "_law_whole" ["_law_found"] spWhole := by
  refine F.has sc_l_whole (fun vs H Q E h => ?_) (fun f cdv A outer s H vs Q E hr h => ?_)
  · obtain ⟨n, rfl, _⟩ := h
    rfl
  · obtain ⟨n, rfl, k⟩ := h
    refine ⟨_, (pss_one (ps_ret (pe_and (pe_callB (callK_isi K) (by rfl) B.isinstance PyProof.Rows.boot_isinstance (pa_Name (pv 0) (pa_Name (pe_bltn (v := .ty "int") rfl B.int PyProof.Rows.boot_int rfl) pa_nil))) (pe_one (pe_not (pe_callB (callK_isi K) (by rfl) B.isinstance PyProof.Rows.boot_isinstance (pa_Name (pv 0) (pa_Name (pe_bltn (v := .ty "bool") rfl B.bool PyProof.Rows.boot_bool rfl) pa_nil)))))))), ?_⟩
    refine ⟨_, rfl, _, "int", _, true, rfl, .int n, rfl, _, rfl, iteT ?_⟩
    exact ⟨_, rfl, _, "bool", _, false, rfl, .int n, rfl, _, rfl, k⟩
abbrev st_l_at : Stmt := top 21
theorem sc_l_at : FnScope ["_law_script", "_law_k"] ["_law_script", "_law_k"] (defScope st_l_at) := ⟨rfl, rfl, rfl, by decide +kernel, rfl, by decide +kernel, by decide +kernel⟩
theorem ok_l_at (F : Fn K mg "_law_at" st_l_at ["_law_script", "_law_k"]) (B : Bi mg) : Has P w K mg base CX0 1 "_law_at" ["_law_script", "_law_k"] spAt := by
  refine F.has sc_l_at (fun vs H Q E h => ?_) (fun f cdv A outer s H vs Q E hr h => ?_)
  · obtain ⟨a, ns, j, rfl, _⟩ := h
    rfl
  · obtain ⟨a, ns, j, rfl, hI, k⟩ := h
    refine ⟨_, (pss_cons (ps_if (pt_cmpR op_lt (pv 1) (pe_callB (callK_len K) (by rfl) B.len PySem.boot_len (pa_Name (pv 0) pa_nil)) (nomark _))
 (pss_one (ps_ret (pe_ix (ixK_list K) (pv 0) (pv 1) (fun _ _ => rfl))))
 pss_nil) (pss_one (ps_ret pe_int))), ?_⟩
    refine ⟨_, rfl, _, rfl, a, _, rfl, .inl hI.sq, _, _, rfl, rfl, _, rfl, ?_⟩
    refine ite2 (fun h => ?_) (fun h => ?_)
    · have hj : j < ns.length := by simpa using h
      refine ⟨_, rfl, _, rfl, a, _, _, .int ns[j], rfl, rfl, hI.sq, atI_nat (by simp [hj]), ?_⟩
      have e : ns.getD j 0 = ns[j] := by simp [hj]
      rw [e] at k
      exact k
    · have hj : ¬ j < ns.length := by simpa using h
      have e : ns.getD j 0 = 0 := by simp [List.getElem?_eq_none (by omega : ns.length ≤ j)]
      rw [e] at k
      exact k
abbrev st_l_whole_row : Stmt := top 22
theorem sc_l_whole_row : FnScope ["_law_found", "_law_one"] ["_law_found"] (defScope st_l_whole_row) := ⟨rfl, rfl, rfl, by decide +kernel, rfl, by decide +kernel, by decide +kernel⟩
theorem ok_l_whole_row (F : Fn K mg "_law_whole_row" st_l_whole_row ["_law_found"]) (B : Bi mg) (G_l_whole : Has P w K mg base CX0 1 "_law_whole" ["_law_found"] spWhole) : Has P w K mg base CX0 2 "_law_whole_row" ["_law_found"] spWholeRow := by
  refine F.has sc_l_whole_row (fun vs H Q E h => ?_) (fun f cdv A outer s H vs Q E hr h => ?_)
  · obtain ⟨a, ns, rfl, _⟩ := h
    rfl
  · obtain ⟨a, ns, rfl, hI, k⟩ := h
    refine ⟨_, (pss_cons (ps_if (pt_not (pt_val (pe_callB (callK_isi K) (by rfl) B.isinstance PyProof.Rows.boot_isinstance (pa_Name (pv 0) (pa_Name (pe_bltn (v := .ty "list") rfl B.list PyProof.Rows.boot_list rfl) pa_nil)))))
 (pss_one (ps_ret pe_bl))
 pss_nil) (pss_cons (ps_for PassesOwn.never rfl (piK_list K (pv 0)) (pg_name (i := 1) sc_l_whole_row.nd rfl (by first | exact Or.inl rfl | exact Or.inr rfl))
 (pss_one (ps_if (pt_not (pt_val (pe_callH G_l_whole (hr.mono (by decide)) rfl pass0 (pa_Name (pv 1) pa_nil))))
 (pss_one (ps_ret pe_bl))
 pss_nil))) (pss_one (ps_ret pe_bl)))), ?_⟩
    refine ⟨_, rfl, _, "list", _, true, rfl, .lst hI, rfl, _, rfl, iteF ?_⟩
    refine ⟨_, rfl, a, rfl, ⟨_, hI.sq⟩, for_list (K := K) (a := a) (xs := ns.map V.int) (fun i σ H2 => ∃ v : Option V, σ = [some (.ref a), v] ∧ H2 = H) ⟨none, rfl, rfl⟩ (fun i σ H2 _ ⟨_, _, e⟩ => by rw [e]; exact hI.sq) ?_ ?_⟩
    · rintro i y σ H2 hi ⟨v, rfl, rfl⟩
      obtain ⟨n, _, rfl⟩ := List.mem_map.mp (List.mem_of_getElem? hi)
      exact ⟨_, rfl, n, rfl, _, rfl, iteF ⟨_, rfl, rfl⟩⟩
    · rintro σ H2 ⟨v, rfl, rfl⟩
      exact k
end
theorem at0 {xs : List V} {i : Nat} {v : V} (h : xs[i]? = some v) : atI xs (0 + (i : Int)) = some v := by rw [Int.zero_add]; exact atI_nat h
theorem int_at {r : List Int} {j : Nat} (h : j < r.length) : (r.map V.int)[j]? = some (.int (r.getD j 0)) := by
  rw [List.getElem?_map, getD_some h]; rfl
section
variable {P : Program} {w : World} {K : PySem.W.Frag} {mg : Str → Option Value} {base : Heap}
end
section
variable {P : Program} {w : World} {K : PySem.W.Frag} {mg : Str → Option Value} {base : Heap}
end
section
variable {P : Program} {w : World} {K : PySem.W.Frag} {mg : Str → Option Value} {base : Heap}
end
theorem last_at {r : List Int} (h : r ≠ []) : atI (r.map V.int) (-1) = some (.int (r.getLast h)) := by
  have e : r.map V.int = r.dropLast.map V.int ++ [.int (r.getLast h)] := by
    conv => lhs; rw [← List.dropLast_concat_getLast h]
    simp
  rw [e]; exact atI_last _ _
theorem seq_via {t u : TS} {D : Ends} {σ : St} {H : Hp} (Mid : St → Hp → Prop) (h1 : ∀ N : St → Hp → Prop, (∀ σ' H', Mid σ' H' → N σ' H') → t { D with nx := N } σ H) (h2 : ∀ σ' H', Mid σ' H' → u D σ' H') : tSeq t u D σ H := h1 _ h2
/-! ### the program's own text: bumping in place, both -/
theorem nat_at {gs : List Nat} {i : Nat} (h : i < gs.length) : ((nIs gs).map V.int)[i]? = some (.int ((gs.getD i 0 : Nat) : Int)) := by
  rw [List.getElem?_map, nIs, List.getElem?_map, List.getElem?_eq_getElem h, List.getD_eq_getElem?_getD, List.getElem?_eq_getElem h]
  rfl
section
variable {P : Program} {w : World} {K : PySem.W.Frag} {mg : Str → Option Value} {base : Heap}
end
/-! ### what is refused -/
section
variable {P : Program} {w : World} {K : PySem.W.Frag} {mg : Str → Option Value} {base : Heap}
end
/-! ### refusals told; columns of one's own -/
abbrev ItIs (K : PySem.W.Frag) (mg : Str → Option Value) (x y : Str) (b : Bool) : Prop := PySem.W.kitOne K (.ref (ca mg x)) (.ref (ca mg y)) = some b
abbrev ItVe (K : PySem.W.Frag) (mg : Str → Option Value) (x : Str) : Prop := PySem.W.kitOne K (.ref (ca mg x)) (.type "ValueError") = some true
abbrev ItEx (K : PySem.W.Frag) (mg : Str → Option Value) (x y : Str) : Prop := PySem.W.exmOne K (.ref (ca mg x)) (.ref (ca mg y)) = some true
abbrev ItIn (K : PySem.W.Frag) (mg : Str → Option Value) (x : Str) (ys : List Str) (b : Bool) : Prop := PySem.W.kitAny K (.ref (ca mg x)) ((ys.map (ca mg)).map Value.ref) = some b
section
variable {P : Program} {w : World} {K : PySem.W.Frag} {mg : Str → Option Value} {base : Heap}
end
/-! ### corners, refused or not -/
def spMustSE (mg : Str → Option Value) : Sp := fun vs H Q E => ∃ (a : Addr) (ns : List Int), vs = [.ref a] ∧ IsI H a ns ∧ ns.length ≤ 1000 ∧ (shB ns = true → ∀ H', Same H H' → Q .non H') ∧ (shB ns = false → ∀ H', Same H H' → E (.ref (ca mg "NoShape")) none H')
def spCornE (mg : Str → Option Value) : Sp := fun vs H Q E => ∃ (a : Addr) (ns : List Int), vs = [.ref a] ∧ IsI H a ns ∧ ns.length ≤ 1000 ∧ (shB ns = true → ∀ (p : Addr) (H' : Hp), H p = none → Same H H' → IsI H' p (crn ns) → Q (.ref p) H') ∧ (shB ns = false → ∀ H', Same H H' → E (.ref (ca mg "NoShape")) none H')
theorem crn_vals (ns : List Int) : (((List.range ns.length).filter fun i => decide (ns.getD i 0 > (ns.drop 1 ++ [0]).getD i 0)).map fun (i : Nat) => V.int (0 + (i : Int))) = (crn ns).map V.int := by
  unfold crn
  rw [List.map_map]
  refine List.map_congr_left fun i _ => ?_
  show V.int (0 + (i : Int)) = V.int (i : Int)
  rw [Int.zero_add]
section
variable {P : Program} {w : World} {K : PySem.W.Frag} {mg : Str → Option Value} {base : Heap}
abbrev st_must_be_shape : Stmt := top 11
theorem sc_must_be_shape : FnScope ["lengths"] ["lengths"] (defScope st_must_be_shape) := ⟨rfl, rfl, rfl, by decide +kernel, rfl, by decide +kernel, by decide +kernel⟩
theorem ok_must_be_shape (F : Fn K mg "must_be_shape" st_must_be_shape ["lengths"]) (Cl_NoShape : ExN K mg "NoShape") (G_is_shape : Has P w K mg base CX0 2 "is_shape" ["lengths"] (spI fun ns => .bl (shB ns))) : Has P w K mg base (CXE P w) 3 "must_be_shape" ["lengths"] (spMustSE mg) := by
  refine F.hasE sc_must_be_shape (fun vs H Q E h => ?_) (fun f cdv A outer s H vs Q E hr h => ?_)
  · obtain ⟨a, ns, rfl, _⟩ := h
    rfl
  · obtain ⟨a, ns, rfl, hI, hl, k1, k2⟩ := h
    refine ⟨_, (pss_one (ps_if (pt_not (pt_val (pe_callH G_is_shape (hr.mono (by decide)) rfl pass0 (pa_Name (pv 0) pa_nil))))
 (pss_one (ps_raise Cl_NoShape rfl pe_str))
 pss_nil)), ?_⟩
    refine ⟨_, rfl, a, ns, rfl, hI, hl, fun H1 s1 => ⟨_, rfl, ?_⟩⟩
    cases hsh : shB ns with
    | false => exact iteT (k2 hsh H1 s1)
    | true => exact iteF (nxt (k1 hsh H1 s1))
abbrev st_corners : Stmt := top 12
theorem sc_corners : FnScope ["shape", "behind"] ["shape"] (defScope st_corners) := ⟨rfl, rfl, rfl, by decide +kernel, rfl, by decide +kernel, by decide +kernel⟩
theorem ok_corners (F : Fn K mg "corners" st_corners ["shape"]) (B : Bi mg) (G_must_be_shape : Has P w K mg base (CXE P w) 3 "must_be_shape" ["lengths"] (spMustSE mg)) : Has P w K mg base (CXE P w) 4 "corners" ["shape"] (spCornE mg) := by
  refine F.hasE sc_corners (fun vs H Q E h => ?_) (fun f cdv A outer s H vs Q E hr h => ?_)
  · obtain ⟨a, ns, rfl, _⟩ := h
    rfl
  · obtain ⟨a, ns, rfl, hI, hl, k1, k2⟩ := h
    refine ⟨_, (pss_cons (ps_expr (pe_callH G_must_be_shape (hr.mono (by decide)) rfl passE (pa_Name (pv 0) pa_nil))) (pss_nox (pss_cons (ps_set (i := 1) sc_corners.nd rfl (by first | exact Or.inl rfl | exact Or.inr rfl) (pe_op op_cat (pe_slice (slK_list K) (pv 0) (po_some pe_int) po_none) (pe_lst (pa_Constant pe_int pa_nil)))) (pss_one (ps_ret (pe_comp ["at"] (CompSc.of rfl rfl) rfl (pi_range1 rfl B.range (pa_Call (pe_callB (callK_len K) (by rfl) B.len PySem.boot_len (pa_Name (pv 0) pa_nil)) pa_nil)) (fun C s3 H3 ex => ⟨(pg_name (i := 2) (by show (["shape", "behind", "at"] : List Str).Nodup; decide +kernel) rfl (Or.inl rfl)), (pts_one (pt_cmpR op_gt (pe_ix (ixK_list K) (pv 0) (pv 2) (fun _ _ => rfl)) (pe_ix (ixK_list K) (pv 1) (pv 2) (fun _ _ => rfl)) (nomark _))), (pv 2)⟩))))))), ?_⟩
    refine ⟨_, rfl, a, ns, rfl, hI, hl, fun hsh H1 s1 => ?_, fun hsh H1 s1 => k2 hsh H1 s1⟩
    · have k := k1 hsh
      have hI1 := hI.mono s1
      refine ⟨_, rfl, _, rfl, a, _, rfl, hI1.sq, fun c hc => ?_⟩
      rw [cut_ints]
      refine ⟨(by show 1 ≤ sizeLine; decide), fun l hl0 => ?_⟩
      have v1 := Same.put (o := .lst ((ns.drop 1).map V.int)) hc
      have v2 := Same.put (o := .lst [.int 0]) hl0
      refine ⟨c, l, _, _, rfl, rfl, v2 _ _ upd_same, upd_same, ?_, fun b hb => ?_⟩
      · rw [List.length_map, List.length_drop, sizeLine_eq]
        simp only [List.length_cons, List.length_nil]
        omega
      have v3 := Same.put (o := .lst ((ns.drop 1).map V.int ++ [.int 0])) hb
      have hbI : IsI (upd (upd (upd H1 c (.lst ((ns.drop 1).map V.int))) l (.lst [.int 0])) b (.lst ((ns.drop 1).map V.int ++ [.int 0]))) b (ns.drop 1 ++ [0]) := by
        show upd _ b _ b = _
        rw [upd_same, List.map_append]; rfl
      have s4 := v1.trans (v2.trans v3)
      generalize upd (upd (upd H1 c (.lst ((ns.drop 1).map V.int))) l (.lst [.int 0])) b (.lst ((ns.drop 1).map V.int ++ [.int 0])) = H4 at *
      have hI4 := hI1.mono s4
      have hcnt : ((((ns.map V.int).length : Int))).toNat = ns.length := by simp
      have hbl : (ns.drop 1 ++ [0]).length = ns.length - 1 + 1 := by simp
      refine ⟨_, rfl, a, _, rfl, .inl hI4.sq, _, rfl, by omega, by simp only [List.length_map]; omega, fun D hD => comp_rangeF (fun i => decide (ns.getD i 0 > (ns.drop 1 ++ [0]).getD i 0)) (fun i => .int (0 + (i : Int))) ?_ hD ?_ ?_ ?_⟩
      · rw [hcnt]; exact small_line hl
      · intro i Hx R hi sx hR
        rw [hcnt] at hi
        exact ⟨_, rfl, _, rfl, a, _, _, _, rfl, rfl, (hI4.mono sx).sq, at0 (int_at hi), _, rfl, _, rfl, b, _, _, _, rfl, rfl, (hbI.mono sx).sq, at0 (int_at (by omega)), _, _, rfl, rfl, _, rfl, hR Hx (Same.refl _)⟩
      · intro i Hx R _ _ _ hR
        exact ⟨_, rfl, hR Hx (Same.refl _)⟩
      · intro Hx sx hd
        rw [hcnt, crn_vals] at hd
        exact k D Hx (s1.free (s4.free hD)) (s1.trans (s4.trans sx)) hd
end
end K
set_option Elab.async false
set_option maxRecDepth 100000
namespace K
open PySem L2 RS
seal PE PT PW PA PS PSs PG PGs PI PO PTs
/-! ### parts of a row -/
def nI (ps : List Nat) : List Int := ps.map fun (p : Nat) => (p : Int)
theorem nI_len (ps : List Nat) : (nI ps).length = ps.length := by simp [nI]
theorem nI_getD (ps : List Nat) (j : Nat) : (nI ps).getD j 0 = (ps.getD j 0 : Int) := by
  unfold nI
  rw [List.getD_eq_getElem?_getD, List.getD_eq_getElem?_getD, List.getElem?_map]
  cases ps[j]? <;> rfl
section
variable {P : Program} {w : World} {K : PySem.W.Frag} {mg : Str → Option Value} {base : Heap}
end
/-! ### shapes judged, hooks multiplied -/
def spOne : Sp := fun vs H Q _ => ∃ (a : Addr) (ns : List Int), vs = [.ref a] ∧ IsI H a ns ∧ ns.length ≤ 1000 ∧ Q (.bl (shB ns)) H
def OneOk (ns : List Int) (k : Nat) : Prop := 1 ≤ ns.getD k 0 ∧ (0 < k → ns.getD k 0 ≤ ns.getD (k - 1) 0)
theorem shB_iff (ns : List Int) : shB ns = true ↔ ∀ k, k < ns.length → OneOk ns k := by
  unfold shB ngB
  rw [Bool.and_eq_true, adjB (fun x y => decide (y ≤ x)), List.all_eq_true]
  constructor
  · rintro ⟨h1, h2⟩ k hk
    refine ⟨?_, fun h0 => ?_⟩
    · have := h2 (decide (1 ≤ ns.getD k 0)) (List.mem_map.mpr ⟨ns.getD k 0, List.mem_of_getElem? (getD_some hk), rfl⟩)
      exact of_decide_eq_true this
    · obtain ⟨j, rfl⟩ : ∃ j, k = j + 1 := ⟨k - 1, by omega⟩
      exact of_decide_eq_true (h1 j _ _ (getD_some (by omega)) (getD_some hk))
  · intro h
    refine ⟨fun j x y hx hy => ?_, fun b hb => ?_⟩
    · have hj := (List.getElem?_eq_some_iff.mp hy).1
      have h1 := (h (j + 1) hj).2 (by omega)
      rw [getD_some (by omega)] at hx
      rw [getD_some hj] at hy
      cases hx
      cases hy
      exact decide_eq_true h1
    · obtain ⟨x, hx, rfl⟩ := List.mem_map.mp hb
      obtain ⟨k, hk⟩ := List.getElem?_of_mem hx
      have hl := (List.getElem?_eq_some_iff.mp hk).1
      have := (h k hl).1
      rw [getD_some hl] at hk
      cases hk
      exact decide_eq_true this
def spHooks : Sp := fun vs H Q _ => ∃ (a : Addr) (l : List Nat) (m : Int), vs = [.ref a, .int m] ∧ IsI H a (nI l) ∧ l.length ≤ 63 ∧ (∀ x ∈ l, x ≤ 63) ∧ ∀ H', Same H H' → Q (.bl (decide (m * hk l = fac l.sum))) H'
def hkT (l : List Nat) : Nat → Int
  | 0 => 1
  | i + 1 => hkT l i * rowH (l.getD i 0) (l.drop (i + 1))
theorem hkT_cons (a : Nat) (m : List Nat) : ∀ i, hkT (a :: m) (i + 1) = rowH a m * hkT m i
  | 0 => by simp [hkT]
  | i + 1 => by
    rw [hkT, hkT_cons a m i, hkT]
    simp only [List.getD_cons_succ, List.drop_succ_cons]
    grind
theorem hkT_all : ∀ (l : List Nat), hkT l l.length = hk l
  | [] => rfl
  | a :: m => by rw [List.length_cons, hkT_cons, hkT_all m, hk]
theorem take_sum {l : List Nat} {i : Nat} (h : i < l.length) : (l.take (i + 1)).sum = (l.take i).sum + l.getD i 0 := by
  rw [List.take_add_one, List.getElem?_eq_getElem h, List.sum_append, List.getD_eq_getElem?_getD, List.getElem?_eq_getElem h]
  simp
theorem sum_le {l : List Nat} {b : Nat} (h : ∀ x ∈ l, x ≤ b) : l.sum ≤ l.length * b := by
  induction l with
  | nil => simp
  | cons a m ih =>
    have := ih fun x hx => h x (by simp [hx])
    have := h a (by simp)
    rw [List.sum_cons, List.length_cons, Nat.add_mul]
    omega
theorem below_vals (m : List Nat) (j : Nat) : ((((nI m).map V.int).filter fun v => decide (intOf v > (0 + (j : Int)))).map id).length = gt m j := by
  unfold nI gt
  rw [List.map_id, List.map_map, List.filter_map, List.length_map]
  congr 1
  refine List.filter_congr fun x _ => ?_
  show decide ((x : Int) > 0 + (j : Int)) = decide (j < x)
  rw [decide_eq_decide]
  omega
section
variable {P : Program} {w : World} {K : PySem.W.Frag} {mg : Str → Option Value} {base : Heap}
abbrev st_l_is_one : Stmt := top 26
theorem sc_l_is_one : FnScope ["_law_shape", "_law_k"] ["_law_shape"] (defScope st_l_is_one) := ⟨rfl, rfl, rfl, by decide +kernel, rfl, by decide +kernel, by decide +kernel⟩
theorem ok_l_is_one (F : Fn K mg "_law_is_one" st_l_is_one ["_law_shape"]) (B : Bi mg) : Has P w K mg base CX0 1 "_law_is_one" ["_law_shape"] spOne := by
  refine F.has sc_l_is_one (fun vs H Q E h => ?_) (fun f cdv A outer s H vs Q E hr h => ?_)
  · obtain ⟨a, ns, rfl, _⟩ := h
    rfl
  · obtain ⟨a, ns, rfl, hA, hl, k⟩ := h
    refine ⟨_, (pss_cons (ps_for PassesOwn.never rfl (pi_range1 rfl B.range (pa_Call (pe_callB (callK_len K) (by rfl) B.len PySem.boot_len (pa_Name (pv 0) pa_nil)) pa_nil)) (pg_name (i := 1) sc_l_is_one.nd rfl (by first | exact Or.inl rfl | exact Or.inr rfl))
 (pss_one (ps_if (PW.pt (pw_or (pt_cmpR op_lt (pe_ix (ixK_list K) (pv 0) (pv 1) (fun _ _ => rfl)) pe_int (nomark _)) (pw_or1 (PW.pt (pw_and (pt_cmpR op_gt (pv 1) pe_int (nomark _)) (pw_and1 (pt_cmpR op_lt (pe_ix (ixK_list K) (pv 0) (pe_op op_sub (pv 1) pe_int) (fun _ _ => rfl)) (pe_ix (ixK_list K) (pv 0) (pv 1) (fun _ _ => rfl)) (nomark _))))))))
 (pss_one (ps_ret pe_bl))
 pss_nil))) (pss_one (ps_ret pe_bl))), ?_⟩
    have hcnt : (((ns.map V.int).length : Int)).toNat = ns.length := by simp
    refine ⟨_, rfl, a, _, rfl, .inl hA.sq, _, rfl, by omega, by rw [List.length_map]; omega, for_range (fun i σ H2 => ∃ (v1 : Option V), σ = [some (.ref a), v1] ∧ H = H2 ∧ ∀ j, j < i → OneOk ns j) ⟨none, rfl, rfl, fun _ z => by omega⟩ ?_ ?_⟩
    · rintro j σ H2 hj ⟨v1, rfl, rfl, hok⟩
      rw [hcnt] at hj
      have hat := at0 (int_at hj)
      try dsimp only [gName]
      first | refine if_via (fun c H' => (c = true ↔ ¬ OneOk ns j) ∧ H = H') (fun R hR => ?_) (fun c' H' ⟨hc', e⟩ => ?_) | refine ifs_via (fun c H' => (c = true ↔ ¬ OneOk ns j) ∧ H = H') (fun R hR => ?_) (fun c' H' ⟨hc', e⟩ => ?_)
      · refine ⟨_, rfl, _, rfl, a, _, _, _, rfl, rfl, hA.sq, hat, _, _, rfl, rfl, _, rfl, ite2 (fun h1 => hR _ _ ⟨⟨fun _ q => ?_, fun _ => rfl⟩, rfl⟩) (fun h1 => ?_)⟩
        · have := of_decide_eq_true h1
          have := q.1
          omega
        have h1 : ¬ ns.getD j 0 < 1 := fun q => h1 (decide_eq_true q)
        refine ⟨_, rfl, _, _, rfl, rfl, _, rfl, ite2 (fun h0 => ?_) (fun h0 => hR _ _ ⟨⟨(fun q => nomatch q), fun q => ?_⟩, rfl⟩)⟩
        · have h0 := of_decide_eq_true h0
          obtain ⟨i, rfl⟩ : ∃ i, j = i + 1 := ⟨j - 1, by omega⟩
          have hat2 : atI (ns.map V.int) (0 + ((i + 1 : Nat) : Int) - 1) = some (.int (ns.getD i 0)) := by
            have e : 0 + ((i + 1 : Nat) : Int) - 1 = (i : Int) := by omega
            rw [e]
            exact atI_nat (int_at (by omega))
          refine ⟨_, rfl, _, rfl, _, _, rfl, rfl, a, _, _, _, rfl, rfl, hA.sq, hat2, _, rfl, _, rfl, a, _, _, _, rfl, rfl, hA.sq, hat, _, _, rfl, rfl, _, rfl, hR _ _ ⟨?_, rfl⟩⟩
          rw [decide_eq_true_iff]
          constructor
          · intro q z
            have := z.2 (by omega)
            rw [Nat.add_sub_cancel] at this
            omega
          · intro q
            by_cases z : ns.getD i 0 < ns.getD (i + 1) 0
            · exact z
            · exact absurd ⟨by omega, fun _ => by rw [Nat.add_sub_cancel]; omega⟩ q
        · have h0 : ¬ (0 + (j : Int) > 0) := fun z => h0 (decide_eq_true z)
          exact absurd ⟨by omega, fun z => by omega⟩ q
      subst e
      cases c' with
      | true =>
        refine iteT ?_
        have : shB ns = false := by
          cases e : shB ns with
          | false => rfl
          | true => exact absurd ((shB_iff ns).mp e j hj) (hc'.mp rfl)
        rw [this] at k
        exact k
      | false =>
        refine iteF (nxt ⟨_, rfl, rfl, fun i hi => ?_⟩)
        rcases Nat.lt_succ_iff_lt_or_eq.mp hi with q | q
        · exact hok i q
        · rw [q]
          by_cases z : OneOk ns j
          · exact z
          · exact absurd (hc'.mpr z) (by simp)
    · rintro σ H2 ⟨v1, rfl, rfl, hok⟩
      rw [hcnt] at hok
      rw [(shB_iff ns).mpr hok] at k
      exact k
abbrev st_l_by_hooks : Stmt := top 25
theorem sc_l_by_hooks : FnScope ["_law_shape", "_law_many", "_law_upper", "_law_turn", "_law_line", "_law_place", "_law_below"] ["_law_shape", "_law_many"] (defScope st_l_by_hooks) := ⟨rfl, rfl, rfl, by decide +kernel, rfl, by decide +kernel, by decide +kernel⟩
set_option maxHeartbeats 1000000 in
theorem ok_l_by_hooks (F : Fn K mg "_law_by_hooks" st_l_by_hooks ["_law_shape", "_law_many"]) (B : Bi mg) : Has P w K mg base CX0 1 "_law_by_hooks" ["_law_shape", "_law_many"] spHooks := by
  refine F.has sc_l_by_hooks (fun vs H Q E h => ?_) (fun f cdv A outer s H vs Q E hr h => ?_)
  · obtain ⟨a, l, m, rfl, _⟩ := h
    rfl
  · obtain ⟨a, l, m, rfl, hA, hl, hb, k⟩ := h
    refine ⟨_, (pss_cons (ps_set (i := 2) sc_l_by_hooks.nd rfl (by first | exact Or.inl rfl | exact Or.inr rfl) pe_int) (pss_cons (ps_set (i := 3) sc_l_by_hooks.nd rfl (by first | exact Or.inl rfl | exact Or.inr rfl) pe_int) (pss_cons (ps_for PassesOwn.never rfl (pi_range1 rfl B.range (pa_Call (pe_callB (callK_len K) (by rfl) B.len PySem.boot_len (pa_Name (pv 0) pa_nil)) pa_nil)) (pg_name (i := 4) sc_l_by_hooks.nd rfl (by first | exact Or.inl rfl | exact Or.inr rfl))
 (pss_one (ps_for PassesOwn.never rfl (pi_range1 rfl B.range (pa_Subscript (pe_ix (ixK_list K) (pv 0) (pv 4) (fun _ _ => rfl)) pa_nil)) (pg_name (i := 5) sc_l_by_hooks.nd rfl (by first | exact Or.inl rfl | exact Or.inr rfl))
 (pss_cons (ps_set (i := 6) sc_l_by_hooks.nd rfl (by first | exact Or.inl rfl | exact Or.inr rfl) (pe_callB (callK_len K) (by rfl) B.len PySem.boot_len (pa_ListComp (pe_comp ["_law_size"] (CompSc.of rfl rfl) rfl (piK_list K (pe_slice (slK_list K) (pv 0) (po_some (pv 4)) po_none)) (fun C s3 H3 ex => ⟨(pg_name (i := 7) (by show (["_law_shape", "_law_many", "_law_upper", "_law_turn", "_law_line", "_law_place", "_law_below", "_law_size"] : List Str).Nodup; decide +kernel) rfl (Or.inl rfl)), (pts_one (pt_cmpR op_gt (pv 7) (pv 5) (nomark _))), (pv 7)⟩)) pa_nil))) (pss_cons (ps_set (i := 3) sc_l_by_hooks.nd rfl (by first | exact Or.inl rfl | exact Or.inr rfl) (pe_op op_add (pv 3) pe_int)) (pss_cons (ps_set (i := 2) sc_l_by_hooks.nd rfl (by first | exact Or.inl rfl | exact Or.inr rfl) (pe_op op_mul (pv 2) (pv 3))) (pss_one (ps_set (i := 1) sc_l_by_hooks.nd rfl (by first | exact Or.inl rfl | exact Or.inr rfl) (pe_op op_mul (pv 1) (pe_op op_sub (pe_op op_add (pe_op op_sub (pe_ix (ixK_list K) (pv 0) (pv 4) (fun _ _ => rfl)) (pv 5)) (pv 6)) pe_int)))))))))) (pss_one (ps_ret (pe_cmpR op_eq (pv 1) (pv 2) (nomark _))))))), ?_⟩
    have hcnt : ((((nI l).map V.int).length : Int)).toNat = l.length := by simp [nI_len]
    have hst : ∀ i, (l.take i).sum ≤ 63 * 63 := fun i => by
      have h1 := sum_le (l := l.take i) (b := 63) fun x hx => hb x (List.mem_of_mem_take hx)
      have h2 : (l.take i).length ≤ 63 := by rw [List.length_take]; omega
      have h3 : (l.take i).length * 63 ≤ 63 * 63 := Nat.mul_le_mul_right _ h2
      omega
    refine ⟨_, rfl, a, _, rfl, .inl hA.sq, _, rfl, by omega, by rw [List.length_map, nI_len]; omega, for_range (fun i σ H2 => ∃ (v4 v5 v6 : Option V), σ = [some (.ref a), some (.int (m * hkT l i)), some (.int (fac (l.take i).sum)), some (.int ((l.take i).sum : Int)), v4, v5, v6] ∧ Same H H2)
      ⟨none, none, none, by simp [hkT, fac]; rfl, Same.refl _⟩ ?_ ?_⟩
    · rintro i σ H2 hi ⟨v4, v5, v6, rfl, s2⟩
      rw [hcnt] at hi
      have hA2 := hA.mono s2
      have hiI : i < (nI l).length := by rw [nI_len]; exact hi
      have hat : atI ((nI l).map V.int) (0 + (i : Int)) = some (.int (l.getD i 0 : Int)) := by
        have := at0 (int_at hiI)
        rw [nI_getD] at this
        exact this
      have hx : l.getD i 0 ≤ 63 := hb _ (by rw [List.getD_eq_getElem?_getD, List.getElem?_eq_getElem hi]; exact List.getElem_mem hi)
      have hdrop : l.drop i = l.getD i 0 :: l.drop (i + 1) := by
        rw [List.drop_eq_getElem_cons hi, List.getD_eq_getElem?_getD, List.getElem?_eq_getElem hi]; rfl
      have hS := hst i
      have hcut : cutV ((nI l).map V.int) (some (0 + (i : Int))) none = (nI (l.drop i)).map V.int := by
        rw [Int.zero_add, cut_from]
        unfold nI
        simp only [List.map_drop]
      rw [take_sum hi]
      generalize hSi : (l.take i).sum = S at *
      generalize hxe : l.getD i 0 = x at *
      refine ⟨_, rfl, _, rfl, a, _, _, _, rfl, rfl, hA2.sq, hat, _, rfl, by omega, by omega, for_range (fun j σ H3 => ∃ (v5 v6 : Option V), σ = [some (.ref a), some (.int (m * hkT l i * pr (fun j => (x : Int) - (j : Int) + (gt (l.drop (i + 1)) j : Int)) j)), some (.int (fac (S + j))), some (.int ((S + j : Nat) : Int)), some (.int (0 + (i : Int))), v5, v6] ∧ Same H H3)
        ⟨v5, v6, by simp [pr], s2⟩ ?_ ?_⟩
      · rintro j σ H3 hj ⟨v5, v6, rfl, s3⟩
        have hj : j < x := by simpa using hj
        have hA3 := hA.mono s3
        refine ⟨_, rfl, _, rfl, _, rfl, a, _, rfl, hA3.sq, fun d hd => ?_⟩
        rw [hcut]
        have vd := Same.put (o := .lst ((nI (l.drop i)).map V.int)) hd
        have hDd : IsI (upd H3 d (.lst ((nI (l.drop i)).map V.int))) d (nI (l.drop i)) := upd_same
        generalize upd H3 d (.lst ((nI (l.drop i)).map V.int)) = H4 at *
        refine ⟨d, rfl, ⟨_, hDd.sq⟩, fun D hD => comp_vals (fun v => decide (intOf v > (0 + (j : Int)))) id ?_ hDd.sq hD ?_ ?_ ?_⟩
        · rw [List.length_map, nI_len, List.length_drop]; exact small_line (by omega)
        · intro v Hx R hv _ hR
          obtain ⟨n, _, rfl⟩ := List.mem_map.mp hv
          exact ⟨_, rfl, _, rfl, _, _, rfl, rfl, _, rfl, hR Hx (Same.refl _)⟩
        · intro v Hx R _ _ _ hR
          exact ⟨_, rfl, hR Hx (Same.refl _)⟩
        intro H5 s5 hd5
        have s35 := s3.trans (vd.trans s5)
        have hA5 := hA.mono s35
        refine ⟨D, _, rfl, .inl (SqL.of hd5), ?_⟩
        have hbl := below_vals (l.drop i) j
        rw [hdrop] at hbl
        have hg1 : gt (x :: l.drop (i + 1)) j = gt (l.drop (i + 1)) j + 1 := by
          unfold gt
          rw [List.filter_cons, if_pos (decide_eq_true hj)]
          rfl
        rw [hg1] at hbl
        rw [hdrop, hbl]
        have hgl : gt (l.drop (i + 1)) j ≤ 63 := by
          unfold gt
          have := List.length_filter_le (fun y => decide (j < y)) (l.drop (i + 1))
          rw [List.length_drop] at this
          omega
        try dsimp only [gName]
        refine ⟨_, rfl, _, _, rfl, rfl, ?_⟩
        refine ⟨_, rfl, _, rfl, _, _, rfl, rfl, .inr ⟨by omega, by omega⟩, ?_⟩
        refine ⟨_, rfl, _, rfl, _, rfl, a, _, _, _, rfl, rfl, hA5.sq, hat, _, rfl, _, _, rfl, rfl, _, rfl, _, _, rfl, rfl, _, _, rfl, rfl, _, _, rfl, rfl, .inr ⟨by omega, by omega⟩, ?_⟩
        refine ⟨some (.int (0 + (j : Int))), some (.int ((gt (l.drop (i + 1)) j + 1 : Nat) : Int)), ?_, s35⟩
        have e1 : (x : Int) - (0 + (j : Int)) + ((gt (l.drop (i + 1)) j + 1 : Nat) : Int) - 1 = (x : Int) - (j : Int) + (gt (l.drop (i + 1)) j : Int) := by omega
        have e2 : ((S + j : Nat) : Int) + 1 = ((S + (j + 1) : Nat) : Int) := by omega
        have e3 : fac (S + j) * ((S + (j + 1) : Nat) : Int) = fac (S + (j + 1)) := by
          rw [show S + (j + 1) = S + j + 1 by omega, fac]
          push_cast
          grind
        show [some (V.ref a), some (V.int (m * hkT l i * pr (fun j => (x : Int) - (j : Int) + (gt (l.drop (i + 1)) j : Int)) j * ((x : Int) - (0 + (j : Int)) + ((gt (l.drop (i + 1)) j + 1 : Nat) : Int) - 1))), some (V.int (fac (S + j) * (((S + j : Nat) : Int) + 1))), some (V.int (((S + j : Nat) : Int) + 1)), some (V.int (0 + (i : Int))), some (V.int (0 + (j : Int))), some (V.int ((gt (l.drop (i + 1)) j + 1 : Nat) : Int))] = _
        rw [e1, e2, e3, pr, ← Int.mul_assoc]
      · rintro σ H3 ⟨v5, v6, rfl, s3⟩
        refine ⟨some (.int (0 + (i : Int))), v5, v6, ?_, s3⟩
        rw [hkT]
        have : ((x : Int)).toNat = x := by omega
        rw [this, hxe]
        unfold rowH
        rw [← Int.mul_assoc]
    · rintro σ H2 ⟨v4, v5, v6, rfl, s2⟩
      rw [hcnt, List.take_of_length_le (Nat.le_refl _), hkT_all]
      refine ⟨_, rfl, _, rfl, rfl, ?_⟩
      have := k H2 s2
      have e : decide (V.int (m * hk l) = V.int (fac l.sum)) = decide (m * hk l = fac l.sum) := by
        rw [decide_eq_decide]
        exact ⟨fun q => V.int.inj q, fun q => by rw [q]⟩
      rw [e]
      exact this
end
def crB (ns : List Int) (k : Nat) : Bool := decide (k + 1 = ns.length ∨ ns.getD (k + 1) 0 < ns.getD k 0)
def crnL (ns : List Int) : List Int := ((List.range ns.length).filter (crB ns)).map fun (k : Nat) => (k : Int)
def spCof (K : PySem.W.Frag) : Sp := fun vs H Q _ => ∃ (a : Addr) (ns : List Int), vs = [.ref a] ∧ (SqL K H a (ns.map V.int) ∨ SqT K H a (ns.map V.int)) ∧ (∀ H', Same H H' → SqL K H' a (ns.map V.int) ∨ SqT K H' a (ns.map V.int)) ∧ ns.length ≤ 1000 ∧ ∀ (p : Addr) (H' : Hp), H p = none → Same H H' → IsI H' p (crnL ns) → Q (.ref p) H'
theorem crnL_snoc (ns : List Int) (j : Nat) : (((List.range (j + 1)).filter (crB ns)).map fun (k : Nat) => (k : Int)) = (((List.range j).filter (crB ns)).map fun (k : Nat) => (k : Int)) ++ if crB ns j = true then [(j : Int)] else [] := by
  rw [List.range_succ, List.filter_append, List.map_append]
  congr 1
  cases h : crB ns j <;> simp [h]
theorem crn_same {ns : List Int} (h : shB ns = true) : crn ns = crnL ns := by
  unfold crn crnL
  congr 1
  refine List.filter_congr fun k hk => ?_
  have hk := List.mem_range.mp hk
  unfold crB
  rw [decide_eq_decide]
  have hpos := ((shB_iff ns).mp h k hk).1
  by_cases h1 : k + 1 < ns.length
  · have e : (ns.drop 1 ++ [0]).getD k 0 = ns.getD (k + 1) 0 := by
      rw [List.getD_eq_getElem?_getD, List.getElem?_append_left (by rw [List.length_drop]; omega), List.getElem?_drop, List.getD_eq_getElem?_getD, Nat.add_comm 1 k]
    rw [e]
    constructor
    · intro q; exact .inr q
    · rintro (q | q)
      · omega
      · exact q
  · have e : (ns.drop 1 ++ [0]).getD k 0 = 0 := by
      rw [List.getD_eq_getElem?_getD, List.getElem?_append_right (by rw [List.length_drop]; omega), List.length_drop, show k - (ns.length - 1) = 0 by omega]
      rfl
    rw [e]
    constructor
    · intro _; exact .inl (by omega)
    · intro _; omega
def spHow (mg : Str → Option Value) : Sp := fun vs H Q E => ∃ (a : Addr) (ns : List Int), vs = [.ref a] ∧ IsI H a ns ∧ ns.length ≤ 30 ∧ (∀ n ∈ ns, n ≤ 30) ∧ (shB ns = true → ∀ (v : Int) (H' : Hp), Same H H' → (∀ l : List Nat, ns = nI l → v = nw l.sum l) → Q (.int v) H') ∧ (shB ns = false → ∀ H', Same H H' → E (.ref (ca mg "NoShape")) none H')
def spRefS : Sp := fun vs H Q _ => ∃ (a : Addr) (ns : List Int) (z : Int), vs = [.int z, .ref a] ∧ IsI H a ns ∧ ns.length ≤ 30 ∧ (∀ n ∈ ns, n ≤ 30) ∧ ∀ H', Same H H' → Q (.bl (!shB ns)) H'
def spWays : Sp := fun vs H Q _ => ∃ (a : Addr) (l : List Nat), vs = [.ref a] ∧ IsI H a (nI l) ∧ Niz l ∧ (∀ x ∈ l, 0 < x) ∧ l.sum ≤ 22 ∧ ∀ H', Same H H' → Q (.int (nw l.sum l)) H'
section
variable {P : Program} {w : World} {K : PySem.W.Frag} {mg : Str → Option Value} {base : Heap}
abbrev st_l_corners_of : Stmt := top 23
theorem sc_l_corners_of : FnScope ["_law_shape", "_law_found", "_law_k"] ["_law_shape"] (defScope st_l_corners_of) := ⟨rfl, rfl, rfl, by decide +kernel, rfl, by decide +kernel, by decide +kernel⟩
theorem ok_l_corners_of (F : Fn K mg "_law_corners_of" st_l_corners_of ["_law_shape"]) (B : Bi mg) : Has P w K mg base CX0 1 "_law_corners_of" ["_law_shape"] (spCof K) := by
  refine F.has sc_l_corners_of (fun vs H Q E h => ?_) (fun f cdv A outer s H vs Q E hr h => ?_)
  · obtain ⟨a, ns, rfl, _⟩ := h
    rfl
  · obtain ⟨a, ns, rfl, hA, hA', hl, k⟩ := h
    refine ⟨_, (pss_cons (ps_set (i := 1) sc_l_corners_of.nd rfl (by first | exact Or.inl rfl | exact Or.inr rfl) (pe_lst pa_nil)) (pss_cons (ps_for PassesOwn.never rfl (pi_range1 rfl B.range (pa_Call (pe_callB (callK_len K) (by rfl) B.len PySem.boot_len (pa_Name (pv 0) pa_nil)) pa_nil)) (pg_name (i := 2) sc_l_corners_of.nd rfl (by first | exact Or.inl rfl | exact Or.inr rfl))
 (pss_one (ps_if (PW.pt (pw_or (pt_cmpR op_eq (pe_op op_add (pv 2) pe_int) (pe_callB (callK_len K) (by rfl) B.len PySem.boot_len (pa_Name (pv 0) pa_nil)) (nomark _)) (pw_or1 (pt_cmpR op_gt (pe_ix (ixK_seq K) (pv 0) (pv 2) (fun _ _ => rfl)) (pe_ix (ixK_seq K) (pv 0) (pe_op op_add (pv 2) pe_int) (fun _ _ => rfl)) (nomark _)))))
 (pss_one (ps_expr (pe_bm PySem.F.plainAttrs_list PySem.F.slot_list_append PySem.F.type_list_append mt_append (pv 1) (pa_Name (pv 2) pa_nil))))
 pss_nil))) (pss_one (ps_ret (pv 1))))), ?_⟩
    have hcnt : (((ns.map V.int).length : Int)).toNat = ns.length := by simp
    refine ⟨Nat.zero_le _, fun D hD => ?_⟩
    refine ⟨_, rfl, a, _, rfl, hA' _ (Same.put hD), _, rfl, by omega, by rw [List.length_map]; omega, for_range (fun i σ H2 => ∃ (v2 : Option V), σ = [some (.ref a), some (.ref D), v2] ∧ Same H H2 ∧ IsI H2 D (((List.range i).filter (crB ns)).map fun (k : Nat) => (k : Int))) ⟨none, rfl, Same.put hD, upd_same⟩ ?_ ?_⟩
    · rintro j σ H2 hj ⟨v2, rfl, s2, hDI⟩
      rw [hcnt] at hj
      have hA2 := hA' H2 s2
      have hat := at0 (int_at hj)
      try dsimp only [gName]
      first | refine if_via (fun c H' => c = crB ns j ∧ H2 = H') (fun R hR => ?_) (fun c' H' ⟨hc', e⟩ => ?_) | refine ifs_via (fun c H' => c = crB ns j ∧ H2 = H') (fun R hR => ?_) (fun c' H' ⟨hc', e⟩ => ?_)
      · refine ⟨_, rfl, _, _, rfl, rfl, _, rfl, a, _, rfl, hA2, rfl, _, rfl, ?_⟩
        by_cases h1 : j + 1 = ns.length
        · refine iteY ?_ (hR _ _ ⟨(decide_eq_true (.inl h1)).symm, rfl⟩)
          rw [List.length_map, ← h1]
          simp
        · refine iteN ?_ ?_
          · intro q
            have := V.int.inj (of_decide_eq_true q)
            rw [List.length_map] at this
            omega
          have hat2 : atI (ns.map V.int) (0 + (j : Int) + 1) = some (.int (ns.getD (j + 1) 0)) := by
            have e : 0 + (j : Int) + 1 = ((j + 1 : Nat) : Int) := by omega
            rw [e]
            exact atI_nat (int_at (by omega))
          refine ⟨_, rfl, _, rfl, a, _, _, _, rfl, rfl, hA2, hat, _, rfl, _, rfl, _, _, rfl, rfl, a, _, _, _, rfl, rfl, hA2, hat2, _, _, rfl, rfl, _, rfl, hR _ _ ⟨?_, rfl⟩⟩
          unfold crB
          rw [decide_eq_decide]
          constructor
          · intro q; exact .inr q
          · rintro (q | q)
            · exact absurd q h1
            · exact q
      subst e
      subst hc'
      have hlen : (((List.range j).filter (crB ns)).map fun (k : Nat) => (k : Int)).length ≤ 1000 := by
        rw [List.length_map]
        have := List.length_filter_le (crB ns) (List.range j)
        rw [List.length_range] at this
        omega
      rw [crnL_snoc]
      cases hb : crB ns j with
      | true =>
        refine iteT ⟨_, rfl, .inl ⟨rfl, _, hDI.sq⟩, _, rfl, D, _, _, rfl, rfl, hDI, by rw [List.length_map, sizeLine_eq]; omega, ?_⟩
        refine ⟨_, rfl, Same.put' s2 hD, ?_⟩
        rw [if_pos rfl, IsI, upd_same, List.map_append, Int.zero_add]
        rfl
      | false =>
        refine iteF (nxt ⟨_, rfl, s2, ?_⟩)
        rw [if_neg (by simp), List.append_nil]
        exact hDI
    · rintro σ H2 ⟨v2, rfl, s2, hDI⟩
      rw [hcnt] at hDI
      exact ⟨_, rfl, k D H2 hD s2 hDI⟩
abbrev st_l_refuses : Stmt := top 27
theorem sc_l_refuses : FnScope ["_law_way", "_law_shape", "e"] ["_law_way", "_law_shape"] (defScope st_l_refuses) := ⟨rfl, rfl, rfl, by decide +kernel, rfl, by decide +kernel, by decide +kernel⟩
theorem ok_l_refuses (F : Fn K mg "_law_refuses" st_l_refuses ["_law_way", "_law_shape"]) (B : Bi mg) (Cl_StairError : ExN K mg "StairError") (Cl_NoShape : ExN K mg "NoShape") (Cl_Empty : ExN K mg "Empty") (Cl_NoLine : ExN K mg "NoLine") (Cl_NoMarks : ExN K mg "NoMarks") (Cl_NoPair : ExN K mg "NoPair") (Cl_NoTable : ExN K mg "NoTable")
    (Ix_NoShape_StairError : ItEx K mg "NoShape" "StairError") (Ik_NoShape_NoShape_true : ItIs K mg "NoShape" "NoShape" true) (Iv_NoShape : ItVe K mg "NoShape") (In_NoShape_Empty_NoLine_NoMarks_NoPair_NoTable_false : ItIn K mg "NoShape" ["Empty", "NoLine", "NoMarks", "NoPair", "NoTable"] false)
    (G_how_many_marks : Has P w K mg base (CXE P w) 7 "how_many_marks" ["shape"] (spHow mg)) (G_corners : Has P w K mg base (CXE P w) 4 "corners" ["shape"] (spCornE mg)) : Has P w K mg base CX0 8 "_law_refuses" ["_law_way", "_law_shape"] spRefS := by
  refine F.has sc_l_refuses (fun vs H Q E h => ?_) (fun f cdv A outer s H vs Q E hr h => ?_)
  · obtain ⟨a, ns, z, rfl, _⟩ := h
    rfl
  · obtain ⟨a, ns, z, rfl, hA, hl, hb, k⟩ := h
    refine ⟨_, (pss_cons (ps_tryb (j := 2) (ts := fun C xa => _) rfl rfl sc_l_refuses.nd rfl rfl (pb_if (pt_cmpR op_eq (pv 0) pe_int (nomark _))
 (pb_call G_how_many_marks (hr.mono (by decide)) rfl (pa_Name (pv 1) pa_nil))
 (pb_call G_corners (hr.mono (by decide)) rfl (pa_Name (pv 1) pa_nil))) rfl Cl_StairError.mgx (fun xa oe C hcl T => (pss_cons (ps_if (pt_val (pe_callB (callK_isx K hcl T) (by rfl) B.isinstance PyProof.Rows.boot_isinstance (pa_Name (pv 2) (pa_Tuple (pe_tup (pa_Name (pe_glob (v := .ref (ca mg "Empty")) rfl Cl_Empty.mgx rfl) (pa_Name (pe_glob (v := .ref (ca mg "NoLine")) rfl Cl_NoLine.mgx rfl) (pa_Name (pe_glob (v := .ref (ca mg "NoMarks")) rfl Cl_NoMarks.mgx rfl) (pa_Name (pe_glob (v := .ref (ca mg "NoPair")) rfl Cl_NoPair.mgx rfl) (pa_Name (pe_glob (v := .ref (ca mg "NoTable")) rfl Cl_NoTable.mgx rfl) pa_nil)))))) pa_nil))))
 (pss_one (ps_ret pe_bl))
 pss_nil) (pss_one (ps_ret (pe_and (pe_callB (callK_isx K hcl T) (by rfl) B.isinstance PyProof.Rows.boot_isinstance (pa_Name (pv 2) (pa_Name (pe_glob (v := .ref (ca mg "NoShape")) rfl Cl_NoShape.mgx rfl) pa_nil))) (pe_one (pe_callB (callK_isx K hcl T) (by rfl) B.isinstance PyProof.Rows.boot_isinstance (pa_Name (pv 2) (pa_Name (pe_bltn (v := .ty "ValueError") rfl B.ValueError (by decide +kernel) rfl) pa_nil)))))))))) (pss_one (ps_ret pe_bl))), ?_⟩
    have hno : ∀ (H1 : Hp), Same H H1 → shB ns = true → Q (.bl false) H1 := fun H1 s1 hs => by
      have := k H1 s1
      rw [hs] at this
      exact this
    refine ⟨_, rfl, rfl, _, rfl, ite2 (fun _ => ?_) (fun _ => ?_)⟩
    · refine ⟨_, rfl, a, ns, rfl, hA, hl, hb, fun hs v H1 s1 _ => hno H1 s1 hs, fun hs H1 s1 => ⟨_, rfl, Cl_NoShape.cl, Ix_NoShape_StairError, fun xa hxa => ?_⟩⟩
      try dsimp only [gName]
      first | refine if_via (fun c H' => c = false ∧ Same H1 H') (fun R hR => ?_) (fun c' H2 ⟨hc', s2⟩ => ?_) | refine ifs_via (fun c H' => c = false ∧ Same H1 H') (fun R hR => ?_) (fun c' H2 ⟨hc', s2⟩ => ?_)
      · exact ⟨_, rfl, (by show 5 ≤ sizeLine; decide), fun tp htp => .inr (.inr ⟨tp, [ca mg "Empty", ca mg "NoLine", ca mg "NoMarks", ca mg "NoPair", ca mg "NoTable"], false, rfl, upd_same, In_NoShape_Empty_NoLine_NoMarks_NoPair_NoTable_false, _, rfl, hR _ _ ⟨rfl, Same.put htp⟩⟩)⟩
      subst hc'
      refine iteF (nxt ?_)
      refine ⟨_, rfl, .inl ⟨_, _, rfl, Ik_NoShape_NoShape_true, _, rfl, iteT ⟨_, rfl, .inr (.inl ⟨_, _, rfl, Iv_NoShape, ?_⟩)⟩⟩⟩
      have := k H2 (s1.trans s2)
      rw [hs] at this
      exact this
    · refine ⟨_, rfl, a, ns, rfl, hA, by omega, fun hs p H1 _ s1 _ => hno H1 s1 hs, fun hs H1 s1 => ⟨_, rfl, Cl_NoShape.cl, Ix_NoShape_StairError, fun xa hxa => ?_⟩⟩
      try dsimp only [gName]
      first | refine if_via (fun c H' => c = false ∧ Same H1 H') (fun R hR => ?_) (fun c' H2 ⟨hc', s2⟩ => ?_) | refine ifs_via (fun c H' => c = false ∧ Same H1 H') (fun R hR => ?_) (fun c' H2 ⟨hc', s2⟩ => ?_)
      · exact ⟨_, rfl, (by show 5 ≤ sizeLine; decide), fun tp htp => .inr (.inr ⟨tp, [ca mg "Empty", ca mg "NoLine", ca mg "NoMarks", ca mg "NoPair", ca mg "NoTable"], false, rfl, upd_same, In_NoShape_Empty_NoLine_NoMarks_NoPair_NoTable_false, _, rfl, hR _ _ ⟨rfl, Same.put htp⟩⟩)⟩
      subst hc'
      refine iteF (nxt ?_)
      refine ⟨_, rfl, .inl ⟨_, _, rfl, Ik_NoShape_NoShape_true, _, rfl, iteT ⟨_, rfl, .inr (.inl ⟨_, _, rfl, Iv_NoShape, ?_⟩)⟩⟩⟩
      have := k H2 (s1.trans s2)
      rw [hs] at this
      exact this
end
end K
set_option Elab.async false
set_option maxRecDepth 100000
namespace K
open PySem L2 RS
seal PE PT PW PA PS PSs PG PGs PI PO PTs
/-! ### ways counted shape by shape, in a dict -/
def kO (l : List Nat) : List Key := l.map fun (x : Nat) => (.inl (x : Int) : Key)
def enc (D : DW) : List (List Key × V) := D.map fun p => (kO p.1, V.int p.2)
theorem kO_inj : ∀ {l m : List Nat}, kO l = kO m → l = m
  | [], [], _ => rfl
  | [], _ :: _, h => nomatch h
  | _ :: _, [], h => nomatch h
  | a :: l, b :: m, h => by
    unfold kO at h
    rw [List.map_cons, List.map_cons] at h
    injection h with h1 h2
    injection h1 with h1
    rw [Int.ofNat_inj.mp h1, kO_inj h2]
theorem kO_vals (l : List Nat) : (kO l).map kV = (nI l).map V.int := by
  unfold kO nI
  rw [List.map_map, List.map_map]
  rfl
theorem enc_val (l : List Nat) : ∀ D : DW, valV (enc D) (kO l) = (vN D l).map V.int
  | [] => rfl
  | p :: D => by
    by_cases e : p.1 = l
    · rw [vN_pos e]
      exact valV_pos (p := (kO p.1, V.int p.2)) (by rw [e])
    · rw [vN_neg e, ← enc_val l D]
      exact valV_neg (p := (kO p.1, V.int p.2)) (fun z => e (kO_inj z))
theorem enc_put (D : DW) (l : List Nat) (v : Int) : putK (enc D) (kO l) (.int v) = enc (pN D l v) := by
  have e : ((enc D).any fun kv => decide (kv.1 = kO l)) = (D.any fun p => decide (p.1 = l)) := by
    unfold enc
    rw [List.any_map]
    congr 1
    funext p
    show decide (kO p.1 = kO l) = decide (p.1 = l)
    rw [decide_eq_decide]
    exact ⟨kO_inj, fun z => by rw [z]⟩
  unfold putK pN
  rw [e]
  split
  · unfold enc
    rw [List.map_map, List.map_map]
    refine List.map_congr_left fun p _ => ?_
    show (if kO p.1 = kO l then (kO p.1, V.int v) else (kO p.1, V.int p.2)) = (kO (if p.1 = l then (p.1, v) else p).1, V.int (if p.1 = l then (p.1, v) else p).2)
    by_cases q : p.1 = l
    · rw [if_pos q, if_pos (by rw [q])]
    · rw [if_neg q, if_neg (fun z => q (kO_inj z))]
  · unfold enc
    rw [List.map_append]
    rfl
theorem enc_len (D : DW) : (enc D).length = D.length := by rw [enc, List.length_map]
/-- the tuples at these places are these shapes -/
def TupsAt (H : Hp) (D : DW) (bs : List Addr) : Prop := bs.length = D.length ∧ ∀ (i : Nat) (b : Addr) (p : List Nat × Int), bs[i]? = some b → D[i]? = some p → H b = some (.tup ((nI p.1).map V.int))
theorem tups_of {H : Hp} : ∀ {D : DW} {bs : List Addr}, KeysAt H ((enc D).map (·.1)) bs → TupsAt H D bs
  | [], _, h => by
    cases h
    exact ⟨rfl, fun i b p e => by simp at e⟩
  | p :: D, _, h => by
    rw [show (enc (p :: D)).map (·.1) = kO p.1 :: (enc D).map (·.1) from rfl] at h
    cases h with
    | @cons _ b _ bs hb t =>
      obtain ⟨l, q⟩ := tups_of t
      refine ⟨by simp [l], fun i b' p' e1 e2 => ?_⟩
      cases i with
      | zero =>
        cases e1
        cases e2
        rw [← kO_vals]; exact hb
      | succ i => exact q i b' p' e1 e2
theorem vN_get {p : List Nat × Int} : ∀ {D : DW} {i : Nat}, (D.map (·.1)).Nodup → D[i]? = some p → vN D p.1 = some p.2
  | [], i, _, h => by simp at h
  | q :: D, 0, _, h => by
    cases h
    exact vN_pos rfl
  | q :: D, i + 1, nd, h => by
    rw [List.map_cons, List.nodup_cons] at nd
    have hm : p ∈ D := List.mem_of_getElem? h
    rw [vN_neg fun e => nd.1 (e ▸ List.mem_map.mpr ⟨p, hm, rfl⟩)]
    exact vN_get nd.2 h
theorem tot_take {n i : Nat} {p : List Nat × Int} {D : DW} (h : D[i]? = some p) : tot n (D.take (i + 1)) = tot n (D.take i) + p.2 * nw n p.1 := by
  rw [List.take_add_one, h]
  unfold tot
  rw [List.map_append, List.sum_append]
  simp
def crI (l : List Nat) : List Nat := (List.range l.length).filter fun i => decide (l.getD (i + 1) 0 < l.getD i 0)
theorem nI_sum (l : List Nat) : (nI l).sum = (l.sum : Int) := by
  induction l with
  | nil => rfl
  | cons a m ih =>
    show ((a : Int) :: nI m).sum = _
    rw [List.sum_cons, ih, List.sum_cons]
    push_cast
    rfl
theorem crnL_is {l : List Nat} (h : ∀ x ∈ l, 0 < x) : crnL (nI l) = (crI l).map fun (k : Nat) => (k : Int) := by
  unfold crnL crI
  rw [nI_len]
  congr 1
  refine List.filter_congr fun k hk => ?_
  have hk := List.mem_range.mp hk
  unfold crB
  rw [decide_eq_decide, nI_getD, nI_getD, nI_len]
  have hp : 0 < l.getD k 0 := by
    rw [List.getD_eq_getElem?_getD, List.getElem?_eq_getElem hk]
    exact h _ (List.getElem_mem hk)
  constructor
  · rintro (q | q)
    · have : l.getD (k + 1) 0 = 0 := by rw [List.getD_eq_getElem?_getD, List.getElem?_eq_none (by omega)]; rfl
      omega
    · omega
  · intro q; exact .inr (by omega)
theorem nz_vals (l : List Nat) : (((nI l).map V.int).filter fun v => decide (intOf v > 0)).map id = (kO (nz l)).map kV := by
  rw [kO_vals]
  unfold nI nz
  rw [List.map_id, List.map_map, List.map_map, List.filter_map]
  congr 1
  refine List.filter_congr fun x _ => ?_
  show decide ((x : Int) > 0) = decide (0 < x)
  rw [decide_eq_decide]
  omega
theorem dn_vals {l : List Nat} {i : Nat} (hp : 0 < l.getD i 0) : ((nI l).map V.int).set i (.int ((nI l).getD i 0 - 1)) = (nI (dnN l i)).map V.int := by
  rw [nI_getD]
  unfold nI dnN
  rw [List.map_map, List.map_set, List.map_set, List.map_map]
  congr 2
  omega
theorem crI_mem {l : List Nat} {k : Nat} (h : k ∈ crI l) : k < l.length ∧ l.getD (k + 1) 0 < l.getD k 0 := by
  obtain ⟨h1, h2⟩ := List.mem_filter.mp h
  exact ⟨List.mem_range.mp h1, of_decide_eq_true h2⟩
theorem sum_take {f : Nat → Int} {L : List Nat} {m k : Nat} (h : L[m]? = some k) : ((L.take (m + 1)).map f).sum = ((L.take m).map f).sum + f k := by
  rw [List.take_add_one, h, List.map_append, List.sum_append]
  simp
theorem pos_len {l : List Nat} (h : ∀ x ∈ l, 0 < x) : l.length ≤ l.sum := by
  induction l with
  | nil => simp
  | cons a m ih =>
    have := ih fun x hx => h x (by simp [hx])
    have := h a (by simp)
    rw [List.sum_cons, List.length_cons]
    omega
section
variable {P : Program} {w : World} {K : PySem.W.Frag} {mg : Str → Option Value} {base : Heap}
abbrev st_l_ways_of : Stmt := top 24
theorem sc_l_ways_of : FnScope ["_law_shape", "_law_ways", "_law_turn", "_law_fewer", "_law_one", "_law_k", "_law_rest", "_law_key"] ["_law_shape"] (defScope st_l_ways_of) := ⟨rfl, rfl, rfl, by decide +kernel, rfl, by decide +kernel, by decide +kernel⟩
set_option maxHeartbeats 4000000 in
theorem ok_l_ways_of (F : Fn K mg "_law_ways_of" st_l_ways_of ["_law_shape"]) (B : Bi mg) (G_l_corners_of : Has P w K mg base CX0 1 "_law_corners_of" ["_law_shape"] (spCof K)) : Has P w K mg base CX0 2 "_law_ways_of" ["_law_shape"] spWays := by
  refine F.has sc_l_ways_of (fun vs H Q E h => ?_) (fun f cdv A outer s H vs Q E hr h => ?_)
  · obtain ⟨a, l, rfl, _⟩ := h
    rfl
  · obtain ⟨a, l, rfl, hA, hn, hp, hl, k⟩ := h
    refine ⟨_, (pss_cons (ps_set (i := 1) sc_l_ways_of.nd rfl (by first | exact Or.inl rfl | exact Or.inr rfl) (pe_disp1 (hu_of hr) (pe_callTy (callK_tuple K) (by rfl) B.tuple PyProof.Rows.boot_tuple (pa_Name (pv 0) pa_nil)) pe_int)) (pss_cons (ps_for PassesOwn.never rfl (pi_range1 rfl B.range (pa_Call (pe_callB (callK_sum K rfl) (by rfl) B.sum PyProof.Rows.boot_sum (pa_Name (pv 0) pa_nil)) pa_nil)) (pg_name (i := 2) sc_l_ways_of.nd rfl (by first | exact Or.inl rfl | exact Or.inr rfl))
 (pss_cons (ps_set (i := 3) sc_l_ways_of.nd rfl (by first | exact Or.inl rfl | exact Or.inr rfl) pe_dnewT) (pss_cons (ps_for PassesOwn.never rfl (piK_list K (pe_callTy (call_listT rfl) (by rfl) B.list PyProof.Rows.boot_list (pa_Name (pv 1) pa_nil))) (pg_name (i := 4) sc_l_ways_of.nd rfl (by first | exact Or.inl rfl | exact Or.inr rfl))
 (pss_one (ps_for PassesOwn.never rfl (piK_list K (pe_callH G_l_corners_of (hr.mono (by decide)) rfl pass0 (pa_Name (pv 4) pa_nil))) (pg_name (i := 5) sc_l_ways_of.nd rfl (by first | exact Or.inl rfl | exact Or.inr rfl))
 (pss_cons (ps_set (i := 6) sc_l_ways_of.nd rfl (by first | exact Or.inl rfl | exact Or.inr rfl) (pe_callTy (callK_list K) (by rfl) B.list PyProof.Rows.boot_list (pa_Name (pv 4) pa_nil))) (pss_cons (ps_asg (pe_op op_sub (pe_ix (ixK_list K) (pv 6) (pv 5) (fun _ _ => rfl)) pe_int) (pg_sub (pv 6) (pv 5) set_list)) (pss_cons (ps_set (i := 7) sc_l_ways_of.nd rfl (by first | exact Or.inl rfl | exact Or.inr rfl) (pe_callTy (callK_tuple K) (by rfl) B.tuple PyProof.Rows.boot_tuple (pa_ListComp (pe_comp ["_law_size"] (CompSc.of rfl rfl) rfl (piK_list K (pv 6)) (fun C s3 H3 ex => ⟨(pg_name (i := 8) (by show (["_law_shape", "_law_ways", "_law_turn", "_law_fewer", "_law_one", "_law_k", "_law_rest", "_law_key", "_law_size"] : List Str).Nodup; decide +kernel) rfl (Or.inl rfl)), (pts_one (pt_cmpR op_gt (pv 8) pe_int (nomark _))), (pv 8)⟩)) pa_nil))) (pss_one (ps_dput (hu_of hr) (pv 3) (pv 7) (pe_op op_add (pe_bm PySem.F.plainAttrs_dict PySem.F.slot_dict_get PySem.F.type_dict_get (mt_getT (hu_of hr)) (pv 3) (pa_Name (pv 7) (pa_Constant pe_int pa_nil))) (pe_dget (hu_of hr) (pv 1) (pv 4) (fun _ _ => rfl))) rfl)))))))) (pss_one (ps_set (i := 1) sc_l_ways_of.nd rfl (by first | exact Or.inl rfl | exact Or.inr rfl) (pv 3)))))) (pss_one (ps_ret (pe_dget (hu_of hr) (pv 1) (pe_tup pa_nil) (fun _ _ => rfl)))))), ?_⟩
    refine fun p hp0 => ?_
    have s0 := Same.put (o := .dT []) hp0
    refine ⟨_, rfl, a, _, rfl, .inl ⟨(hA.mono s0).sq, fun t ht => ?_⟩⟩
    have hpt : p ≠ t := fun e => by rw [← e, upd_same] at ht; cases ht
    refine ⟨t, kO l, rfl, by rw [upd_ne hpt]; exact upd_same, by rw [upd_same, kO_vals], ?_⟩
    have s1 : Same H (upd (upd (upd H p (.dT [])) t (.tup ((nI l).map V.int))) p (.dT [(kO l, .int 1)])) := Same.put' (s0.trans (Same.put ht)) hp0
    have hD1 : upd (upd (upd H p (.dT [])) t (.tup ((nI l).map V.int))) p (.dT [(kO l, .int 1)]) p = some (.dT (enc [(l, 1)])) := upd_same
    generalize upd (upd (upd H p (.dT [])) t (.tup ((nI l).map V.int))) p (.dT [(kO l, .int 1)]) = H1 at *
    have hdok : Dok l.sum [(l, 1)] := ⟨by simp, fun q hq => by rw [List.mem_singleton.mp hq]; exact ⟨⟨hn, hp⟩, rfl⟩⟩
    have htot : tot l.sum [(l, 1)] = nw l.sum l := by simp [tot]
    have hcnt : ((nI l).sum).toNat = l.sum := by rw [nI_sum]; omega
    refine ⟨_, rfl, a, _, rfl, (hA.mono s1).sq, _, rfl, by rw [nI_sum]; omega, by rw [nI_sum]; omega, for_range (fun j σ H2 => ∃ (pd : Addr) (D : DW) (v2 v3 v4 v5 v6 v7 : Option V), σ = [some (.ref a), some (.ref pd), v2, v3, v4, v5, v6, v7] ∧ Same H H2 ∧ H2 pd = some (.dT (enc D)) ∧ j ≤ l.sum ∧ Dok (l.sum - j) D ∧ tot (l.sum - j) D = nw l.sum l)
      ⟨p, [(l, 1)], none, none, none, none, none, none, rfl, s1, hD1, Nat.zero_le _, hdok, htot⟩ ?_ ?_⟩
    · rintro j σ H2 hj ⟨pd, D, v2, v3, v4, v5, v6, v7, rfl, s2, hD, _, ok, tt⟩
      rw [hcnt] at hj
      obtain ⟨n, en⟩ : ∃ n, l.sum - j = n + 1 := ⟨l.sum - j - 1, by omega⟩
      have en' : l.sum - (j + 1) = n := by omega
      rw [en] at ok tt
      refine fun q hq => ?_
      have hpq : pd ≠ q := fun e => by rw [← e, hD] at hq; cases hq
      refine ⟨_, rfl, pd, _, rfl, by rw [upd_ne hpq]; exact hD, fun bs L hK hL => ?_⟩
      have hLq : L ≠ q := fun e => by rw [e, upd_same] at hL; cases hL
      have hL2 : H2 L = none := by rw [upd_ne hLq] at hL; exact hL
      have T3 := tups_of hK
      have T2 : TupsAt H2 D bs := ⟨T3.1, fun i b p e1 e2 => by
        have h3 := T3.2 i b p e1 e2
        have : b ≠ q := fun e => by rw [e, upd_same] at h3; cases h3
        rw [upd_ne this] at h3
        exact h3⟩
      have hL3 : upd (upd H2 q (.dT [])) L (.lst (bs.map V.ref)) L = some (.lst (bs.map V.ref)) := upd_same
      have hq3 : upd (upd H2 q (.dT [])) L (.lst (bs.map V.ref)) q = some (.dT (enc [])) := by rw [upd_ne (Ne.symm hLq)]; exact upd_same
      have s3 : Same H2 (upd (upd H2 q (.dT [])) L (.lst (bs.map V.ref))) := (Same.put hq).trans (Same.put hL)
      generalize upd (upd H2 q (.dT [])) L (.lst (bs.map V.ref)) = H3 at *
      refine ⟨L, rfl, ⟨_, SqL.of hL3⟩, for_list (K := K) (a := L) (xs := bs.map V.ref) (fun i σ H4 => ∃ (F : DW) (v4 v5 v6 v7 : Option V), σ = [some (.ref a), some (.ref pd), some (.int (0 + (j : Int))), some (.ref q), v4, v5, v6, v7] ∧ Same H2 H4 ∧ H4 L = some (.lst (bs.map V.ref)) ∧ H4 q = some (.dT (enc F)) ∧ Dok n F ∧ tot n F = tot (n + 1) (D.take i))
        ⟨[], v4, v5, v6, v7, rfl, s3, hL3, hq3, ⟨by simp, by simp⟩, by simp [tot]⟩ (fun i σ H4 _ ⟨_, _, _, _, _, _, _, hL4, _⟩ => SqL.of hL4) ?_ ?_⟩
      · rintro i y σ H4 hi ⟨F, v4, v5, v6, v7, rfl, s4, hL4, hq4, okF, tF⟩
        rw [List.getElem?_map] at hi
        obtain ⟨b, hb, rfl⟩ := Option.map_eq_some_iff.mp hi
        have hiD : i < D.length := by rw [← T2.1]; exact (List.getElem?_eq_some_iff.mp hb).1
        obtain ⟨l1, c, hlc⟩ : ∃ l1 c, D[i]? = some (l1, c) := ⟨D[i].1, D[i].2, List.getElem?_eq_getElem hiD⟩
        have hb2 := T2.2 i b _ hb hlc
        have sh1 : Sh l1 := (ok.sh _ (List.mem_of_getElem? hlc)).1
        have sum1 : l1.sum = n + 1 := (ok.sh _ (List.mem_of_getElem? hlc)).2
        have hlen1 : l1.length ≤ 22 := by have h1 := pos_len sh1.2; omega
        have hvD : vN D l1 = some c := vN_get ok.nd hlc
        rw [tot_take hlc]
        refine ⟨_, rfl, b, nI l1, rfl, .inr (SqT.of (s4 _ _ hb2)), fun H' s' => .inr (SqT.of (s' _ _ (s4 _ _ hb2))), by rw [nI_len]; omega, fun cp H5 hcp s5 hcI => ?_⟩
        rw [crnL_is sh1.2] at hcI
        have hcq : cp ≠ q := fun e => by rw [e, hq4] at hcp; cases hcp
        have hcL : cp ≠ L := fun e => by rw [e, hL4] at hcp; cases hcp
        refine ⟨cp, rfl, ⟨_, hcI.sq⟩, for_list (K := K) (a := cp) (xs := ((crI l1).map fun (k : Nat) => (k : Int)).map V.int) (fun m σ H6 => ∃ (F : DW) (v5 v6 v7 : Option V), σ = [some (.ref a), some (.ref pd), some (.int (0 + (j : Int))), some (.ref q), some (.ref b), v5, v6, v7] ∧ Same H2 H6 ∧ H6 L = some (.lst (bs.map V.ref)) ∧ H6 q = some (.dT (enc F)) ∧ IsI H6 cp ((crI l1).map fun (k : Nat) => (k : Int)) ∧ Dok n F ∧ tot n F = tot (n + 1) (D.take i) + c * (((crI l1).take m).map fun i => nw n (nz (dnN l1 i))).sum)
          ⟨F, v5, v6, v7, rfl, s4.trans s5, s5 _ _ hL4, s5 _ _ hq4, hcI, okF, by simp [tF]⟩ (fun m σ H6 _ ⟨_, _, _, _, _, _, _, _, hc6, _⟩ => hc6.sq) ?_ ?_⟩
        · clear tF okF
          rintro m y σ H6 hm ⟨F, v5, v6, v7, rfl, s6, hL6, hq6, hc6, okF, tF⟩
          rw [List.getElem?_map, List.getElem?_map] at hm
          obtain ⟨z, hz, rfl⟩ := Option.map_eq_some_iff.mp hm
          obtain ⟨x, hx, rfl⟩ := Option.map_eq_some_iff.mp hz
          obtain ⟨hxl, hxc⟩ := crI_mem (List.mem_of_getElem? hx)
          obtain ⟨shk, sumk, _⟩ := nz_dn sh1 hxl hxc
          have hxp : 0 < l1.getD x 0 := by omega
          have hxn : x < (nI l1).length := by rw [nI_len]; exact hxl
          have hat : atI ((nI l1).map V.int) (x : Int) = some (.int ((nI l1).getD x 0)) := atI_nat (int_at hxn)
          refine ⟨_, rfl, b, _, rfl, .inr (SqT.of (s6 _ _ hb2)), fun r hr6 => ?_⟩
          have hrq : r ≠ q := fun e => by rw [e, hq6] at hr6; cases hr6
          have hrL : r ≠ L := fun e => by rw [e, hL6] at hr6; cases hr6
          have hix : ixN ((nI l1).map V.int).length (x : Int) = some x := by
            have h1 := hat
            unfold atI at h1
            unfold ixN at h1 ⊢
            rw [List.length_map, nI_len]
            simp
            omega
          refine ⟨_, rfl, _, rfl, r, _, _, _, rfl, rfl, SqL.of upd_same, hat, _, _, rfl, rfl, _, rfl, _, rfl, r, _, _, x, rfl, rfl, upd_same, hix, ?_⟩
          rw [dn_vals hxp]
          have s8 : Same H6 (upd (upd H6 r (.lst ((nI l1).map V.int))) r (.lst ((nI (dnN l1 x)).map V.int))) := Same.put' (Same.put hr6) hr6
          have hr8 : IsI (upd (upd H6 r (.lst ((nI l1).map V.int))) r (.lst ((nI (dnN l1 x)).map V.int))) r (nI (dnN l1 x)) := upd_same
          generalize upd (upd H6 r (.lst ((nI l1).map V.int))) r (.lst ((nI (dnN l1 x)).map V.int)) = H8 at *
          have hdl : (dnN l1 x).length = l1.length := by unfold dnN; rw [List.length_set]
          refine ⟨_, rfl, r, rfl, ⟨_, hr8.sq⟩, fun Dd hDd => comp_vals (fun v => decide (intOf v > 0)) id ?_ hr8.sq hDd ?_ ?_ ?_⟩
          · rw [List.length_map, nI_len, hdl]; exact small_line (by omega)
          · intro v Hx R hv _ hR
            obtain ⟨n, _, rfl⟩ := List.mem_map.mp hv
            exact ⟨_, rfl, _, _, rfl, rfl, _, rfl, hR Hx (Same.refl _)⟩
          · intro v Hx R _ _ _ hR
            exact ⟨_, rfl, hR Hx (Same.refl _)⟩
          intro H9 s9 hd9
          rw [nz_vals] at hd9
          have s69 := s8.trans s9
          refine ⟨Dd, _, rfl, .inl ⟨SqL.of hd9, fun t ht => ?_⟩⟩
          have sT := s69.trans (Same.put (o := .tup ((kO (nz (dnN l1 x))).map kV)) ht)
          have htA : upd H9 t (.tup ((kO (nz (dnN l1 x))).map kV)) t = some (.tup ((kO (nz (dnN l1 x))).map kV)) := upd_same
          generalize upd H9 t (.tup ((kO (nz (dnN l1 x))).map kV)) = HA at *
          have hqA := sT _ _ hq6
          have hsT := s6.trans sT
          have hpA := hsT _ _ hD
          have hbA := hsT _ _ hb2
          rw [← kO_vals] at hbA
          have hget : (valV (enc F) (kO (nz (dnN l1 x)))).getD (.int 0) = .int ((vN F (nz (dnN l1 x))).getD 0) := by
            rw [enc_val]
            cases vN F (nz (dnN l1 x)) <;> rfl
          have hdg : DGet HA pd (.ref b) (some (.int c)) := by
            have g := DGet.t (k := kO l1) hpA hbA
            rw [enc_val, hvD] at g
            exact g
          have hput := DPut.t (v := .int ((vN F (nz (dnN l1 x))).getD 0 + c)) hqA htA (by
            rw [enc_len]
            refine Nat.lt_of_le_of_lt okF.len ?_
            rw [sizeLine_eq]
            refine Nat.lt_of_le_of_lt (Nat.pow_le_pow_right (by decide) (show n ≤ 22 by omega)) (by decide))
          rw [enc_put] at hput
          refine ⟨_, rfl, .inr (.inr (.inl ⟨rfl, .inr ⟨_, hqA⟩⟩)), _, rfl, q, t, _, _, _, rfl, rfl, hqA, htA, _, rfl, _, rfl, pd, _, rfl, hdg, _, _, hget, rfl, _, rfl, _, rfl, q, _, rfl, hput, ?_⟩
          have okF' := okF.put shk (by have h2 : l1.sum = n + 1 := sum1; omega) ((vN F (nz (dnN l1 x))).getD 0 + c)
          refine ⟨_, _, _, _, rfl, Same.put' hsT hq, ?_, upd_same, ?_, okF', ?_⟩
          · rw [upd_ne hLq]; exact sT _ _ hL6
          · show upd _ q _ cp = _
            rw [upd_ne hcq]; exact sT _ _ hc6
          · rw [tot_put okF.nd, tF, sum_take hx]
            grind
        · rintro σ H6 ⟨F, v5, v6, v7, rfl, s6, hL6, hq6, hc6, okF, tF⟩
          rw [List.length_map, List.length_map, List.take_length] at tF
          refine ⟨F, _, _, _, _, rfl, s6, hL6, hq6, okF, ?_⟩
          rw [tF, nw_sum n l1 sh1]
          rfl
      · rintro σ H4 ⟨F, v4, v5, v6, v7, rfl, s4, hL4, hq4, okF, tF⟩
        rw [List.length_map, T2.1, List.take_length] at tF
        refine ⟨_, rfl, q, F, _, _, _, _, _, _, rfl, s2.trans s4, hq4, by omega, ?_, ?_⟩
        · rw [en']; exact okF
        · rw [en', tF]; exact tt
    · rintro σ H2 ⟨pd, D, v2, v3, v4, v5, v6, v7, rfl, s2, hD, _, ok, tt⟩
      rw [hcnt, Nat.sub_self] at ok tt
      have hv := ways_end ok tt (nw_ne hn)
      refine ⟨_, rfl, Nat.zero_le _, fun e he => ?_⟩
      have hpe : pd ≠ e := fun z => by rw [← z, hD] at he; cases he
      refine ⟨pd, _, rfl, ?_, k _ (s2.trans (Same.put he))⟩
      have g := DGet.t (H := upd H2 e (.tup [])) (k := kO []) (b := e) (by rw [upd_ne hpe]; exact hD) upd_same
      rw [enc_val, hv] at g
      exact g
end
end K
set_option Elab.async false
set_option maxRecDepth 100000
namespace K
open PySem L2 RS
seal PE PT PW PA PS PSs PG PGs PI PO PTs
/-! ### how many -/
def spProd : Sp := fun vs H Q _ => ∃ (a : Addr) (ns : List Int), vs = [.ref a] ∧ IsI H a ns ∧ (∀ n ∈ ns, 0 ≤ n ∧ n < 1000000) ∧ Q (.int (prd ns)) H
def spHgt : Sp := fun vs H Q _ => ∃ (a : Addr) (l : List Nat) (j : Nat), vs = [.ref a, .int (j : Int)] ∧ IsI H a (nIs l) ∧ l.length ≤ 1000 ∧ ∀ H', Same H H' → Q (.int ((gt l j : Nat) : Int)) H'
def spHook : Sp := fun vs H Q _ => ∃ (a : Addr) (l : List Nat) (i j : Nat), vs = [.ref a, .int (i : Int), .int (j : Int)] ∧ IsI H a (nIs l) ∧ l.length ≤ 1000 ∧ i < l.length ∧ ∀ H', Same H H' → Q (.int (((l.getD i 0 : Int) - (j : Int) - 1) + ((gt l j : Int) - (i : Int) - 1) + 1)) H'
def spHks : Sp := fun vs H Q _ => ∃ (a : Addr) (l : List Nat), vs = [.ref a] ∧ IsI H a (nIs l) ∧ l.length ≤ 30 ∧ (∀ x ∈ l, x ≤ 30) ∧ ∀ (p : Addr) (H' : Hp), Same H H' → IsI H' p (((List.range l.length).map (hkr l)).flatten) → Q (.ref p) H'
theorem gt_vals (l : List Nat) (j : Nat) : ((((nIs l).map V.int).filter fun v => decide ((j : Int) < intOf v)).map id).length = gt l j := by
  unfold nIs gt
  rw [List.map_id, List.map_map, List.filter_map, List.length_map]
  congr 1
  refine List.filter_congr fun q _ => ?_
  show decide ((j : Int) < (q : Int)) = decide (j < q)
  rw [decide_eq_decide]
  omega
theorem gt_le (l : List Nat) (j : Nat) : gt l j ≤ l.length := List.length_filter_le _ _
theorem hkr_bound {l : List Nat} (hn : Niz l) (hl : l.length ≤ 30) (hb : ∀ x ∈ l, x ≤ 30) : ∀ h ∈ ((List.range l.length).map (hkr l)).flatten, 1 ≤ h ∧ h < 64 := by
  intro h hm
  obtain ⟨L, hL, hmL⟩ := List.mem_flatten.mp hm
  obtain ⟨i, hi, rfl⟩ := List.mem_map.mp hL
  have hi := List.mem_range.mp hi
  obtain ⟨j, hj, rfl⟩ := List.mem_map.mp hmL
  have hj := List.mem_range.mp hj
  have h1 := gt_drop hn hi hj
  have h2 := gt_le l j
  have h3 : l.getD i 0 ≤ 30 := by
    rw [List.getD_eq_getElem?_getD, List.getElem?_eq_getElem hi]
    exact hb _ (List.getElem_mem hi)
  omega
theorem prd_lt : ∀ {l : List Int}, (∀ h ∈ l, 1 ≤ h ∧ h < 64) → 1 ≤ prd l ∧ prd l < 2 ^ (6 * l.length) ∨ l = []
  | [], _ => .inr rfl
  | x :: l, h => by
    have hx := h x (by simp)
    refine .inl ?_
    rw [prd, List.length_cons, show 6 * (l.length + 1) = 6 * l.length + 6 by omega, Int.pow_add]
    rcases prd_lt (l := l) fun y hy => h y (by simp [hy]) with ⟨h1, h2⟩ | rfl
    · refine ⟨?_, ?_⟩
      · have := Int.mul_le_mul hx.1 h1 (by decide) (by omega)
        simpa using this
      · have a1 : x * prd l ≤ 63 * prd l := Int.mul_le_mul_of_nonneg_right (by omega) (by omega)
        have a2 : (2 : Int) ^ (6 * l.length) * 2 ^ 6 = 64 * 2 ^ (6 * l.length) := by rw [Int.mul_comm]; rfl
        rw [a2]
        generalize (2 : Int) ^ (6 * l.length) = z at *
        omega
    · simp [prd]
      omega
theorem prd_log {l : List Int} (h : ∀ h ∈ l, 1 ≤ h ∧ h < 64) (hl : l.length ≤ 900) : 0 < prd l ∧ (prd l).natAbs.log2 < 9000 := by
  rcases prd_lt h with ⟨h1, h2⟩ | rfl
  · refine ⟨by omega, ?_⟩
    have h3 : (prd l).natAbs < 2 ^ (6 * l.length) := by
      have e : ((prd l).natAbs : Int) = prd l := Int.natAbs_of_nonneg (by omega)
      have e2 : ((2 ^ (6 * l.length) : Nat) : Int) = (2 : Int) ^ (6 * l.length) := by push_cast; rfl
      omega
    have h4 := (Nat.log2_lt (n := (prd l).natAbs) (k := 6 * l.length) (by omega)).mpr h3
    omega
  · exact ⟨by decide, by decide⟩
theorem shape_nat {ns : List Int} (h : shB ns = true) : ∃ l : List Nat, ns = nI l ∧ Niz l ∧ ∀ x ∈ l, 0 < x := by
  have hk := (shB_iff ns).mp h
  have hpos : ∀ x ∈ ns, 1 ≤ x := fun x hx => by
    obtain ⟨k, e⟩ := List.getElem?_of_mem hx
    have hl := (List.getElem?_eq_some_iff.mp e).1
    have := (hk k hl).1
    rw [getD_some hl] at e
    cases e
    exact this
  have e : ns = nI (ns.map Int.toNat) := by
    unfold nI
    rw [List.map_map]
    conv => lhs; rw [← List.map_id ns]
    refine List.map_congr_left fun x hx => ?_
    have := hpos x hx
    show x = ((x.toNat : Nat) : Int)
    omega
  refine ⟨ns.map Int.toNat, e, ?_, fun x hx => ?_⟩
  · have key : ∀ (l : List Nat), (∀ k, k + 1 < l.length → l.getD (k + 1) 0 ≤ l.getD k 0) → Niz l := by
      intro l
      induction l with
      | nil => intro _; trivial
      | cons a m ih =>
        intro q
        cases m with
        | nil => trivial
        | cons b m =>
          refine ⟨by simpa using q 0 (by simp), ih fun k hk => ?_⟩
          have := q (k + 1) (by simpa using hk)
          simpa using this
    refine key _ fun k hk1 => ?_
    rw [List.length_map] at hk1
    have h1 := (hk (k + 1) hk1).2 (by omega)
    rw [Nat.add_sub_cancel] at h1
    have g : ∀ j, (ns.map Int.toNat).getD j 0 = (ns.getD j 0).toNat := fun j => by
      rw [List.getD_eq_getElem?_getD, List.getD_eq_getElem?_getD, List.getElem?_map]
      cases ns[j]? <;> rfl
    rw [g, g]
    omega
  · obtain ⟨y, hy, rfl⟩ := List.mem_map.mp hx
    have := hpos y hy
    omega
theorem nI_inj {l m : List Nat} (h : nI l = nI m) : l = m := by
  have e : ∀ l : List Nat, (nI l).map Int.toNat = l := fun l => by
    unfold nI
    rw [List.map_map]
    conv => rhs; rw [← List.map_id l]
    refine List.map_congr_left fun x _ => ?_
    show ((x : Int)).toNat = x
    omega
  rw [← e l, ← e m, h]
section
variable {P : Program} {w : World} {K : PySem.W.Frag} {mg : Str → Option Value} {base : Heap}
abbrev st_product : Stmt := top 14
theorem sc_product : FnScope ["numbers", "told", "number"] ["numbers"] (defScope st_product) := ⟨rfl, rfl, rfl, by decide +kernel, rfl, by decide +kernel, by decide +kernel⟩
theorem ok_product (F : Fn K mg "product" st_product ["numbers"]) (B : Bi mg) : Has P w K mg base CX0 1 "product" ["numbers"] spProd := by
  refine F.has sc_product (fun vs H Q E h => ?_) (fun f cdv A outer s H vs Q E hr h => ?_)
  · obtain ⟨a, ns, rfl, _⟩ := h
    rfl
  · obtain ⟨a, ns, rfl, hI, hn, k⟩ := h
    refine ⟨_, (pss_cons (ps_set (i := 1) sc_product.nd rfl (by first | exact Or.inl rfl | exact Or.inr rfl) pe_int) (pss_cons (ps_for PassesOwn.never rfl (piK_list K (pv 0)) (pg_name (i := 2) sc_product.nd rfl (by first | exact Or.inl rfl | exact Or.inr rfl))
 (pss_one (ps_set (i := 1) sc_product.nd rfl (by first | exact Or.inl rfl | exact Or.inr rfl) (pe_op op_mul (pv 1) (pv 2))))) (pss_one (ps_ret (pv 1))))), ?_⟩
    refine ⟨_, rfl, a, rfl, ⟨_, hI.sq⟩, for_list (K := K) (a := a) (xs := ns.map V.int) (fun i σ H2 => ∃ (v2 : Option V), σ = [some (.ref a), some (.int (prd (ns.take i))), v2] ∧ H2 = H)
      ⟨none, rfl, rfl⟩ (fun i σ H2 _ ⟨_, _, e⟩ => by rw [e]; exact hI.sq) ?_ ?_⟩
    · rintro i y σ H2 hi ⟨v2, rfl, rfl⟩
      have hin : i < ns.length := by have := (List.getElem?_eq_some_iff.mp hi).1; simpa using this
      have hy : y = .int (ns.getD i 0) := by
        have := int_at hin
        rw [hi] at this
        exact Option.some.inj this
      subst hy
      have hb := hn (ns.getD i 0) (by rw [List.getD_eq_getElem?_getD, List.getElem?_eq_getElem hin]; exact List.getElem_mem hin)
      refine ⟨_, rfl, _, rfl, _, _, rfl, rfl, .inr ⟨?_, ?_⟩, ?_⟩
      · omega
      · omega
      · exact ⟨_, by rw [prd_take hin]; rfl, rfl⟩
    · rintro σ H2 ⟨v2, rfl, rfl⟩
      rw [List.length_map, List.take_length]
      exact ⟨_, rfl, k⟩
abbrev st_height_at : Stmt := top 15
theorem sc_height_at : FnScope ["shape", "place"] ["shape", "place"] (defScope st_height_at) := ⟨rfl, rfl, rfl, by decide +kernel, rfl, by decide +kernel, by decide +kernel⟩
theorem ok_height_at (F : Fn K mg "height_at" st_height_at ["shape", "place"]) (B : Bi mg) : Has P w K mg base CX0 1 "height_at" ["shape", "place"] spHgt := by
  refine F.has sc_height_at (fun vs H Q E h => ?_) (fun f cdv A outer s H vs Q E hr h => ?_)
  · obtain ⟨a, l, j, rfl, _⟩ := h
    rfl
  · obtain ⟨a, l, j, rfl, hI, hn, k⟩ := h
    refine ⟨_, (pss_one (ps_ret (pe_callB (callK_len K) (by rfl) B.len PySem.boot_len (pa_ListComp (pe_comp ["length"] (CompSc.of rfl rfl) rfl (piK_list K (pv 0)) (fun C s3 H3 ex => ⟨(pg_name (i := 2) (by show (["shape", "place", "length"] : List Str).Nodup; decide +kernel) rfl (Or.inl rfl)), (pts_one (pt_cmpR op_lt (pv 1) (pv 2) (nomark _))), (pv 2)⟩)) pa_nil)))), ?_⟩
    refine ⟨_, rfl, a, rfl, ⟨_, hI.sq⟩, fun D hD => comp_vals (fun v => decide ((j : Int) < intOf v)) id ?_ hI.sq hD ?_ ?_ ?_⟩
    · rw [List.length_map, nIs_len]; exact small_line hn
    · intro v Hx R hv _ hR
      obtain ⟨m, _, rfl⟩ := List.mem_map.mp hv
      exact ⟨_, rfl, _, rfl, (j : Int), m, rfl, rfl, _, rfl, hR Hx (Same.refl _)⟩
    · intro v Hx R hv _ _ hR
      exact ⟨_, rfl, hR Hx (Same.refl _)⟩
    intro H3 s3 hd
    refine ⟨D, _, rfl, .inl (SqL.of hd), ?_⟩
    rw [gt_vals]
    exact k H3 s3
abbrev st_hook_at : Stmt := top 16
theorem sc_hook_at : FnScope ["shape", "at", "place", "right", "below"] ["shape", "at", "place"] (defScope st_hook_at) := ⟨rfl, rfl, rfl, by decide +kernel, rfl, by decide +kernel, by decide +kernel⟩
theorem ok_hook_at (F : Fn K mg "hook_at" st_hook_at ["shape", "at", "place"]) (B : Bi mg) (G_height_at : Has P w K mg base CX0 1 "height_at" ["shape", "place"] spHgt) : Has P w K mg base CX0 2 "hook_at" ["shape", "at", "place"] spHook := by
  refine F.has sc_hook_at (fun vs H Q E h => ?_) (fun f cdv A outer s H vs Q E hr h => ?_)
  · obtain ⟨a, l, i, j, rfl, _⟩ := h
    rfl
  · obtain ⟨a, l, i, j, rfl, hI, hn, hi, k⟩ := h
    refine ⟨_, (pss_cons (ps_set (i := 3) sc_hook_at.nd rfl (by first | exact Or.inl rfl | exact Or.inr rfl) (pe_op op_sub (pe_op op_sub (pe_ix (ixK_list K) (pv 0) (pv 1) (fun _ _ => rfl)) (pv 2)) pe_int)) (pss_cons (ps_set (i := 4) sc_hook_at.nd rfl (by first | exact Or.inl rfl | exact Or.inr rfl) (pe_op op_sub (pe_op op_sub (pe_callH G_height_at (hr.mono (by decide)) rfl pass0 (pa_Name (pv 0) (pa_Name (pv 2) pa_nil))) (pv 1)) pe_int)) (pss_one (ps_ret (pe_op op_add (pe_op op_add (pv 3) (pv 4)) pe_int))))), ?_⟩
    refine ⟨_, rfl, _, rfl, a, _, _, .int ((l.getD i 0 : Nat) : Int), rfl, rfl, hI.sq, atI_nat (nat_at hi), _, rfl, _, _, rfl, rfl, _, _, rfl, rfl, ?_⟩
    refine ⟨_, rfl, _, rfl, a, l, j, rfl, hI, hn, fun H1 s1 => ?_⟩
    refine ⟨_, rfl, _, _, rfl, rfl, _, _, rfl, rfl, ?_⟩
    exact ⟨_, rfl, _, rfl, _, _, rfl, rfl, _, _, rfl, rfl, k H1 s1⟩
abbrev st_hooks : Stmt := top 17
theorem sc_hooks : FnScope ["shape", "found", "at", "length"] ["shape"] (defScope st_hooks) := ⟨rfl, rfl, rfl, by decide +kernel, rfl, by decide +kernel, by decide +kernel⟩
theorem ok_hooks (F : Fn K mg "hooks" st_hooks ["shape"]) (B : Bi mg) (G_hook_at : Has P w K mg base CX0 2 "hook_at" ["shape", "at", "place"] spHook) : Has P w K mg base CX0 3 "hooks" ["shape"] spHks := by
  refine F.has sc_hooks (fun vs H Q E h => ?_) (fun f cdv A outer s H vs Q E hr h => ?_)
  · obtain ⟨a, l, rfl, _⟩ := h
    rfl
  · obtain ⟨a, l, rfl, hI, hn, hb, k⟩ := h
    refine ⟨_, (pss_cons (ps_set (i := 1) sc_hooks.nd rfl (by first | exact Or.inl rfl | exact Or.inr rfl) (pe_lst pa_nil)) (pss_cons (ps_for PassesOwn.never rfl (piK_enum K rfl B.enumerate (pa_Name (pv 0) pa_nil)) (pgK_tup K (n := 2) rfl (pgs_cons (pg_name (i := 2) sc_hooks.nd rfl (by first | exact Or.inl rfl | exact Or.inr rfl)) (pgs_cons (pg_name (i := 3) sc_hooks.nd rfl (by first | exact Or.inl rfl | exact Or.inr rfl)) pgs_nil)))
 (pss_one (ps_expr (pe_bm PySem.F.plainAttrs_list PySem.F.slot_list_extend PySem.F.type_list_extend mt_extend (pv 1) (pa_ListComp (pe_comp ["place"] (CompSc.of rfl rfl) rfl (pi_range1 rfl B.range (pa_Name (pv 3) pa_nil)) (fun C s3 H3 ex => ⟨(pg_name (i := 4) (by show (["shape", "found", "at", "length", "place"] : List Str).Nodup; decide +kernel) rfl (Or.inl rfl)), pts_nil, (pe_callH G_hook_at (hr.mono (by decide)) rfl pass0 (pa_Name (pv 0) (pa_Name (pv 2) (pa_Name (pv 4) pa_nil))))⟩)) pa_nil))))) (pss_one (ps_ret (pv 1))))), ?_⟩
    refine ⟨Nat.zero_le _, fun p hp => ?_⟩
    have s0 : Same H (upd H p (.lst [])) := Same.put hp
    refine ⟨_, rfl, a, _, rfl, (hI.mono s0).sq, for_enum (K := K) (a := a) (xs := (nIs l).map V.int) (fun i σ H2 => ∃ (v2 v3 : Option V), σ = [some (.ref a), some (.ref p), v2, v3] ∧ Same H H2 ∧ IsI H2 p (((List.range i).map (hkr l)).flatten))
      ⟨none, none, rfl, s0, upd_same⟩ (fun i σ H2 _ ⟨_, _, _, s2, _⟩ => (hI.mono s2).sq) ?_ ?_⟩
    · rintro i y σ H2 t hi ⟨v2, v3, rfl, s2, hp2⟩ ht
      have hin : i < l.length := by have := (List.getElem?_eq_some_iff.mp hi).1; simpa [nIs] using this
      have hy : y = .int ((l.getD i 0 : Nat) : Int) := by
        have := nat_at hin
        rw [hi] at this
        exact Option.some.inj this
      subst hy
      have v1 := Same.put (o := .tup [.int i, .int ((l.getD i 0 : Nat) : Int)]) ht
      have hb' : l.getD i 0 ≤ 30 := by
        rw [List.getD_eq_getElem?_getD, List.getElem?_eq_getElem hin]
        exact hb _ (List.getElem_mem hin)
      have s3 := s2.trans v1
      have hp3 := hp2.mono v1
      have hI3 := hI.mono s3
      generalize upd H2 t (.tup [.int i, .int ((l.getD i 0 : Nat) : Int)]) = H3 at *
      have hlen := hooks_len l hb i
      have hlen2 : i * 30 ≤ 30 * 30 := Nat.mul_le_mul_right _ (by omega)
      refine ⟨_, rfl, .inl ⟨rfl, _, hp3.sq⟩, _, rfl, _, rfl, by omega, by omega, fun D hD => comp_rangeF (fun _ => true) (fun j => .int (((l.getD i 0 : Int) - (j : Int) - 1) + ((gt l j : Int) - (i : Int) - 1) + 1)) ?_ hD ?_ ?_ ?_⟩
      · rw [Int.toNat_natCast]; exact small_line (by omega)
      · intro j Hx R _ _ hR
        exact hR Hx (Same.refl _)
      · intro j Hx R hj _ sx hR
        refine ⟨_, rfl, _, rfl, _, rfl, a, l, i, j, (by rw [Int.zero_add]; rfl), hI3.mono sx, by omega, hin, fun Hy sy => hR Hy sy⟩
      · intro H4 s4 hd
        have e : (((List.range ((l.getD i 0 : Nat) : Int).toNat).filter fun _ => true).map fun (j : Nat) => V.int (((l.getD i 0 : Int) - (j : Int) - 1) + ((gt l j : Int) - (i : Int) - 1) + 1)) = (hkr l i).map V.int := by
          rw [List.filter_eq_self.mpr (by simp), Int.toNat_natCast, hkr, List.map_map]
          rfl
        rw [e] at hd
        have hp4 := hp3.mono s4
        refine ⟨p, D, _, _, rfl, rfl, hp4, hd, ?_, ?_⟩
        · rw [List.length_map, List.length_map, hkr_len, sizeLine_eq]
          omega
        refine ⟨_, _, rfl, Same.put' (s3.trans s4) hp, ?_⟩
        show upd H4 p _ p = _
        rw [upd_same, List.range_succ, List.map_append, List.flatten_append, List.map_append]
        simp
    · rintro σ H2 ⟨v2, v3, rfl, s2, hp2⟩
      rw [List.length_map, nIs_len] at hp2
      exact ⟨_, rfl, k p H2 s2 hp2⟩
abbrev st_how_many_marks : Stmt := top 18
theorem sc_how_many_marks : FnScope ["shape", "orders"] ["shape"] (defScope st_how_many_marks) := ⟨rfl, rfl, rfl, by decide +kernel, rfl, by decide +kernel, by decide +kernel⟩
theorem ok_how_many_marks (F : Fn K mg "how_many_marks" st_how_many_marks ["shape"]) (B : Bi mg) (G_must_be_shape : Has P w K mg base (CXE P w) 3 "must_be_shape" ["lengths"] (spMustSE mg)) (G_product : Has P w K mg base CX0 1 "product" ["numbers"] spProd) (G_hooks : Has P w K mg base CX0 3 "hooks" ["shape"] spHks) : Has P w K mg base (CXE P w) 7 "how_many_marks" ["shape"] (spHow mg) := by
  refine F.hasE sc_how_many_marks (fun vs H Q E h => ?_) (fun f cdv A outer s H vs Q E hr h => ?_)
  · obtain ⟨a, ns, rfl, _⟩ := h
    rfl
  · obtain ⟨a, ns, rfl, hI, hl, hb, k1, k2⟩ := h
    refine ⟨_, (pss_cons (ps_expr (pe_callH G_must_be_shape (hr.mono (by decide)) rfl passE (pa_Name (pv 0) pa_nil))) (pss_nox (pss_cons (ps_set (i := 1) sc_how_many_marks.nd rfl (by first | exact Or.inl rfl | exact Or.inr rfl) (pe_callH G_product (hr.mono (by decide)) rfl pass0 (pa_Call (pe_callTy (call_list_rng rfl) (by rfl) B.list PyProof.Rows.boot_list (pa_Call (pe_callTy call_rng2 (by rfl) B.range PyProof.Rows.boot_range (pa_Constant pe_int (pa_BinOp (pe_op op_add (pe_callB (callK_sum K rfl) (by rfl) B.sum PyProof.Rows.boot_sum (pa_Name (pv 0) pa_nil)) pe_int) pa_nil))) pa_nil)) pa_nil))) (pss_one (ps_ret (pe_op op_fdivL (pv 1) (pe_callH G_product (hr.mono (by decide)) rfl pass0 (pa_Call (pe_callH G_hooks (hr.mono (by decide)) rfl pass0 (pa_Name (pv 0) pa_nil)) pa_nil)))))))), ?_⟩
    refine ⟨_, rfl, a, ns, rfl, hI, by omega, fun hsh H1 s1 => ?_, fun hsh H1 s1 => k2 hsh H1 s1⟩
    obtain ⟨l, hnl, hN, hpos⟩ := shape_nat hsh
    have k := k1 hsh
    subst hnl
    have hll : l.length ≤ 30 := by rw [nI_len] at hl; exact hl
    have hbb : ∀ x ∈ l, x ≤ 30 := fun x hx => by
      have := hb (x : Int) (List.mem_map.mpr ⟨x, hx, rfl⟩)
      omega
    have hI1 := hI.mono s1
    have hsum : (nI l).sum = ((l.sum : Nat) : Int) := nI_sum l
    have hsl : l.sum ≤ 30 * 30 := Nat.le_trans (sum_le hbb) (Nat.mul_le_mul_right _ hll)
    refine ⟨_, rfl, a, _, rfl, hI1.sq, ?_⟩
    rw [hsum]
    refine ⟨_, _, rfl, rfl, _, _, rfl, fun r hr' => ⟨r, 1, _, rfl, upd_same, ⟨by decide, by decide, by omega, by omega⟩, ?_, fun t ht => ?_⟩⟩
    · exact small_line (by omega)
    have v1 := Same.put (o := .rng 1 ((l.sum : Int) + 1)) hr'
    have e1 : (((l.sum : Nat) : Int) + 1 - 1).toNat = l.sum := by omega
    rw [e1]
    have v2 := Same.put (o := .lst ((rngV 1 l.sum).map V.int)) ht
    refine ⟨t, _, rfl, upd_same, fun n hn => ?_, ?_⟩
    · obtain ⟨i, hi, rfl⟩ := List.mem_map.mp hn
      have := List.mem_range.mp hi
      omega
    have s3 := s1.trans (v1.trans v2)
    have hI3 := hI1.mono (v1.trans v2)
    refine ⟨_, rfl, _, rfl, a, l, rfl, hI3, hll, hbb, fun p H4 s4 hp => ⟨p, _, rfl, hp, (fun n hn => ?_), ?_⟩⟩
    · have := hkr_bound hN hll hbb n hn
      omega
    have hlen := hooks_len l hbb l.length
    have hlen2 : l.length * 30 ≤ 30 * 30 := Nat.mul_le_mul_right _ hll
    obtain ⟨d1, d2⟩ := prd_log (hkr_bound hN hll hbb) (by omega)
    refine ⟨_, _, rfl, rfl, ⟨d1, d2⟩, k _ H4 (s3.trans s4) fun l' e => ?_⟩
    have el : l' = l := nI_inj e.symm
    subst el
    have hf : prd (rngV 1 l'.sum) = fac l'.sum := prd_fac l'.sum
    rw [hf]
    exact (hooks_told hN).2
end
def spLaw (K : PySem.W.Frag) : Sp := fun vs H Q _ => ∃ (a : Addr) (ns : List Int), vs = [.ref a] ∧ SqL K H a (ns.map V.int) ∧ ns.length ≤ 63 ∧ ∀ H', Q (.bl true) H'
def Shk (mo : Int) (k : Nat) (ns : List Int) : Prop := ns.length ≤ 19 + k ∧ (∀ n ∈ ns, n ≤ mo + (k : Int)) ∧ (mo = 6 → ns.sum ≤ 14 + 8 * ((k - 1 : Nat) : Int))
theorem Shk.up {mo : Int} {k : Nat} {ns : List Int} (h : Shk mo k ns) : Shk mo (k + 1) ns := ⟨by have := h.1; omega, fun n hn => by have := h.2.1 n hn; push_cast; omega, fun q => by have := h.2.2 q; omega⟩
theorem Shk.app {mo : Int} {k : Nat} {ns : List Int} {x : Int} (h : Shk mo k ns) (hx : x ≤ mo + ((k + 1 : Nat) : Int)) (hk : k = 0 ∧ x ≤ 0 ∨ k = 1) : Shk mo (k + 1) (ns ++ [x]) := ⟨by have := h.1; rw [List.length_append, List.length_singleton]; omega, fun n hn => by
  rcases List.mem_append.mp hn with q | q
  · have := h.2.1 n q; push_cast; omega
  · rw [List.mem_singleton.mp q]; exact hx, fun q => by
  have := h.2.2 q
  rw [List.sum_append, List.sum_singleton]
  omega⟩
theorem Shk.rev {mo : Int} {k : Nat} {ns : List Int} (h : Shk mo k ns) : Shk mo k ns.reverse := ⟨by rw [List.length_reverse]; exact h.1, fun n hn => h.2.1 n (List.mem_reverse.mp hn), fun q => by rw [List.sum_reverse]; exact h.2.2 q⟩
theorem pick2 (z : Int) (a b : Int) : ∃ v, atI [V.int a, .int b] (z % 2) = some (.int v) ∧ (v = a ∨ v = b) := by
  obtain ⟨j, hj, e⟩ : ∃ j : Nat, j < 2 ∧ z % 2 = (j : Int) := ⟨(z % 2).toNat, by omega, by omega⟩
  rw [e]
  match j, hj with
  | 0, _ => exact ⟨a, rfl, .inl rfl⟩
  | 1, _ => exact ⟨b, rfl, .inr rfl⟩
section
variable {P : Program} {w : World} {K : PySem.W.Frag} {mg : Str → Option Value} {base : Heap}
abbrev st_law : Stmt := top 28
theorem sc_law : FnScope ["_law_script", "_law_shape", "_law_most", "_law_cell", "_law_size", "_law_way", "_law_handed", "_law_good", "_law_turn", "_law_found", "_law_told"] ["_law_script"] (defScope st_law) := ⟨rfl, rfl, rfl, by decide +kernel, rfl, by decide +kernel, by decide +kernel⟩
set_option maxHeartbeats 4000000 in
theorem ok_law {fL : Addr} {fdL : FuncData} (F : Fun K "law" "law" st_law fL fdL) (B : Bi mg) (G_l_at : Has P w K mg base CX0 1 "_law_at" ["_law_script", "_law_k"] spAt) (G_l_is_one : Has P w K mg base CX0 1 "_law_is_one" ["_law_shape"] spOne) (G_l_refuses : Has P w K mg base CX0 8 "_law_refuses" ["_law_way", "_law_shape"] spRefS)
    (G_how_many_marks : Has P w K mg base (CXE P w) 7 "how_many_marks" ["shape"] (spHow mg)) (G_corners : Has P w K mg base (CXE P w) 4 "corners" ["shape"] (spCornE mg)) (G_l_whole_row : Has P w K mg base CX0 2 "_law_whole_row" ["_law_found"] spWholeRow) (G_l_whole : Has P w K mg base CX0 1 "_law_whole" ["_law_found"] spWhole)
    (G_l_by_hooks : Has P w K mg base CX0 1 "_law_by_hooks" ["_law_shape", "_law_many"] spHooks) (G_l_ways_of : Has P w K mg base CX0 2 "_law_ways_of" ["_law_shape"] spWays) (G_l_corners_of : Has P w K mg base CX0 1 "_law_corners_of" ["_law_shape"] (spCof K)) : FnOk P w K mg base CX0 9 fL fdL ["_law_script"] (spLaw K) := by
  refine F.ok sc_law (fun vs H Q E h => ?_) (fun cdv A outer s H vs Q E hr h => ?_)
  · obtain ⟨a, ns, rfl, _⟩ := h
    rfl
  · obtain ⟨a, ns, rfl, hS, hn, k⟩ := h
    refine ⟨_, (pss_cons (ps_set (i := 0) sc_law.nd rfl (by first | exact Or.inl rfl | exact Or.inr rfl) (pe_slice (slK_list K) (pv 0) po_none (po_some pe_int))) (pss_cons (ps_set (i := 1) sc_law.nd rfl (by first | exact Or.inl rfl | exact Or.inr rfl) (pe_lst pa_nil)) (pss_cons (ps_set (i := 2) sc_law.nd rfl (by first | exact Or.inl rfl | exact Or.inr rfl) (pe_ix (ixK_list K) (pe_lst (pa_Constant pe_int (pa_Constant pe_int pa_nil))) (pe_op op_mod (pe_op op_fdiv (pe_callH G_l_at (hr.mono (by decide)) rfl pass0 (pa_Name (pv 0) (pa_Constant pe_int pa_nil))) pe_int) pe_int) (fun _ _ => rfl))) (pss_cons (ps_for PassesOwn.never rfl (piK_list K (pe_slice (slK_list K) (pv 0) (po_some pe_int) (po_some (pv 2)))) (pg_name (i := 3) sc_law.nd rfl (by first | exact Or.inl rfl | exact Or.inr rfl))
 (pss_cons (ps_set (i := 4) sc_law.nd rfl (by first | exact Or.inl rfl | exact Or.inr rfl) (pe_op op_add pe_int (pe_op op_mod (pv 3) (pv 2)))) (pss_cons (ps_if (pt_cmpR (opK_ne K hr) (pv 1) (pe_lst pa_nil) (nomark _))
 (pss_one (ps_set (i := 4) sc_law.nd rfl (by first | exact Or.inl rfl | exact Or.inr rfl) (pe_callB (call_min2 rfl) (by rfl) B.min PyProof.Rows.boot_min (pa_Name (pv 4) (pa_Subscript (pe_ix (ixK_list K) (pv 1) (pe_un un_neg pe_int) (fun _ _ => rfl)) pa_nil)))))
 pss_nil) (pss_one (ps_if (PW.pt (pw_or (pt_cmpR op_eq (pv 2) pe_int (nomark _)) (pw_or1 (pt_cmpR op_lt (pe_op op_add (pe_callB (callK_sum K rfl) (by rfl) B.sum PyProof.Rows.boot_sum (pa_Name (pv 1) pa_nil)) (pv 4)) pe_int (nomark _)))))
 (pss_one (ps_expr (pe_bm PySem.F.plainAttrs_list PySem.F.slot_list_append PySem.F.type_list_append mt_append (pv 1) (pa_Name (pv 4) pa_nil))))
 pss_nil))))) (pss_cons (ps_set (i := 5) sc_law.nd rfl (by first | exact Or.inl rfl | exact Or.inr rfl) (pe_op op_mod (pe_callH G_l_at (hr.mono (by decide)) rfl pass0 (pa_Name (pv 0) (pa_Constant pe_int pa_nil))) pe_int)) (pss_cons (ps_if (PW.pt (pw_or (pt_cmpR op_eq (pv 5) pe_int (nomark _)) (pw_or1 (pt_cmpR op_eq (pv 5) pe_int (nomark _)))))
 (pss_one (ps_expr (pe_bm PySem.F.plainAttrs_list PySem.F.slot_list_append PySem.F.type_list_append mt_append (pv 1) (pa_BinOp (pe_op op_sub pe_int (pv 5)) pa_nil))))
 pss_nil) (pss_cons (ps_if (pt_cmpR op_eq (pv 5) pe_int (nomark _))
 (pss_one (ps_set (i := 1) sc_law.nd rfl (by first | exact Or.inl rfl | exact Or.inr rfl) (pe_op op_cat (pv 1) (pe_lst (pa_BinOp (pe_op op_add (pe_ix (ixK_list K) (pe_op op_cat (pe_lst (pa_Constant pe_int pa_nil)) (pv 1)) (pe_un un_neg pe_int) (fun _ _ => rfl)) pe_int) pa_nil)))))
 pss_nil) (pss_cons (ps_if (pt_cmpR op_eq (pv 5) pe_int (nomark _))
 (pss_one (ps_set (i := 1) sc_law.nd rfl (by first | exact Or.inl rfl | exact Or.inr rfl) (pe_list_rev K rfl B.list rfl B.reversed rfl (pv 1))))
 pss_nil) (pss_cons (ps_set (i := 6) sc_law.nd rfl (by first | exact Or.inl rfl | exact Or.inr rfl) (pe_callTy (callK_list K) (by rfl) B.list PyProof.Rows.boot_list (pa_Name (pv 1) pa_nil))) (pss_cons (ps_set (i := 7) sc_law.nd rfl (by first | exact Or.inl rfl | exact Or.inr rfl) (pe_callH G_l_is_one (hr.mono (by decide)) rfl pass0 (pa_Name (pv 1) pa_nil))) (pss_cons (ps_for PassesOwn.never rfl (pi_range1 rfl B.range (pa_Constant pe_int pa_nil)) (pg_name (i := 8) sc_law.nd rfl (by first | exact Or.inl rfl | exact Or.inr rfl))
 (pss_one (ps_if (pt_cmpR op_eq (pe_callH G_l_refuses (hr.mono (by decide)) rfl pass0 (pa_Name (pv 8) (pa_Call (pe_callTy (callK_list K) (by rfl) B.list PyProof.Rows.boot_list (pa_Name (pv 1) pa_nil)) pa_nil))) (pv 7) (nomark _))
 (pss_one (ps_ret pe_bl))
 pss_nil))) (pss_cons (ps_if (pt_not (pt_val (pv 7)))
 (pss_one (ps_ret pe_bl))
 pss_nil) (pss_cons (ps_set (i := 9) sc_law.nd rfl (by first | exact Or.inl rfl | exact Or.inr rfl) (pe_callH G_how_many_marks (hr.mono (by decide)) rfl passE0 (pa_Name (pv 6) pa_nil))) (pss_cons (ps_set (i := 10) sc_law.nd rfl (by first | exact Or.inl rfl | exact Or.inr rfl) (pe_callH G_corners (hr.mono (by decide)) rfl passE0 (pa_Name (pv 6) pa_nil))) (pss_cons (ps_if (PW.pt (pw_or (pt_not (pt_val (pe_callH G_l_whole_row (hr.mono (by decide)) rfl pass0 (pa_Name (pv 6) pa_nil)))) (pw_or (pt_cmpR (opK_ne K hr) (pv 6) (pv 1) (nomark _)) (pw_or1 (pt_not (pt_val (pe_callH G_l_whole_row (hr.mono (by decide)) rfl pass0 (pa_Name (pv 10) pa_nil))))))))
 (pss_one (ps_ret pe_bl))
 pss_nil) (pss_cons (ps_if (PW.pt (pw_or (pt_not (pt_val (pe_callH G_l_whole (hr.mono (by decide)) rfl pass0 (pa_Name (pv 9) pa_nil)))) (pw_or1 (pt_not (pt_val (pe_callH G_l_by_hooks (hr.mono (by decide)) rfl pass0 (pa_Name (pv 1) (pa_Name (pv 9) pa_nil))))))))
 (pss_one (ps_ret pe_bl))
 pss_nil) (pss_cons (ps_if (PW.pt (pw_and (pt_cmpR op_eq (pv 2) pe_int (nomark _)) (pw_and1 (pt_cmpR op_ne (pv 9) (pe_callH G_l_ways_of (hr.mono (by decide)) rfl pass0 (pa_Name (pv 1) pa_nil)) (nomark _)))))
 (pss_one (ps_ret pe_bl))
 pss_nil) (pss_one (ps_ret (pe_cmpR (opK_eq K hr) (pv 10) (pe_callH G_l_corners_of (hr.mono (by decide)) rfl pass0 (pa_Name (pv 1) pa_nil)) (nomark _))))))))))))))))))))), ?_⟩
    refine ⟨_, rfl, _, rfl, a, _, rfl, hS, fun c hc => ?_⟩
    have e300 : cutV (ns.map V.int) none (some 300) = ns.map V.int := by
      have := cut_to (ns.map V.int) 300
      rw [List.take_of_length_le (by simp; omega)] at this
      exact this
    rw [e300]
    have hI : IsI (upd H c (.lst (ns.map V.int))) c ns := upd_same
    generalize upd H c (.lst (ns.map V.int)) = H1 at *
    refine ⟨Nat.zero_le _, fun S hS0 => ?_⟩
    have vS := Same.put (o := .lst []) hS0
    obtain ⟨mo, e2, hmo⟩ := pick2 (ns.getD 0 0 / 9) 6 20
    refine ⟨(by show 2 ≤ sizeLine; decide), fun l1 hl1 => ⟨_, rfl, c, ns, 0, rfl, (hI.mono vS).mono (Same.put hl1), _, _, rfl, rfl, ⟨by decide, by decide⟩, _, _, rfl, rfl, (by show (0 : Int) < 2; decide), l1, _, _, _, rfl, rfl, SqL.of upd_same, e2, ?_⟩⟩
    have v1 := Same.put (o := .lst [.int 6, .int 20]) hl1
    have hSI : IsI (upd (upd H1 S (.lst [])) l1 (.lst [.int 6, .int 20])) S [] := v1 _ _ upd_same
    have hI2 := (hI.mono vS).mono v1
    have s12 : Same H1 (upd (upd H1 S (.lst [])) l1 (.lst [.int 6, .int 20])) := vS.trans v1
    generalize upd (upd H1 S (.lst [])) l1 (.lst [.int 6, .int 20]) = H2 at *
    dsimp only [gName]
    refine ⟨_, rfl, _, rfl, _, rfl, _, rfl, c, _, rfl, hI2.sq, fun d hd => ?_⟩
    obtain ⟨xs, hxs, hxl⟩ : ∃ xs : List Int, cutV (ns.map V.int) (some 1) (some mo) = xs.map V.int ∧ xs.length ≤ 19 := by
      rcases hmo with e | e
      · subst e
        have := cut_mid (ns.map V.int) 1 6
        refine ⟨(ns.drop 1).take 5, ?_, by rw [List.length_take]; omega⟩
        rw [List.map_take, List.map_drop]
        exact this
      · subst e
        have := cut_mid (ns.map V.int) 1 20
        refine ⟨(ns.drop 1).take 19, ?_, by rw [List.length_take]; omega⟩
        rw [List.map_take, List.map_drop]
        exact this
    rw [hxs]
    have vd := Same.put (o := .lst (xs.map V.int)) hd
    have hdI : IsI (upd H2 d (.lst (xs.map V.int))) d xs := upd_same
    have hSI3 := hSI.mono vd
    have s13 := s12.trans vd
    have hSd : S ≠ d := fun e => by rw [← e, show H2 S = _ from hSI] at hd; cases hd
    generalize upd H2 d (.lst (xs.map V.int)) = H3 at *
    refine ⟨d, rfl, ⟨_, hdI.sq⟩, for_list (K := K) (a := d) (xs := xs.map V.int) (fun i σ H4 => ∃ (v3 v4 : Option V) (sh : List Int), σ = [some (.ref c), some (.ref S), some (.int mo), v3, v4, none, none, none, none, none, none] ∧ Same H1 H4 ∧ IsI H4 d xs ∧ IsI H4 S sh ∧ sh.length ≤ i ∧ (∀ n ∈ sh, 1 ≤ n ∧ n ≤ mo) ∧ (mo = 6 → sh.sum ≤ 14))
      ⟨none, none, [], rfl, s13, hdI, hSI3, by simp, by simp, by simp⟩ (fun i σ H4 _ ⟨_, _, _, _, _, hd4, _⟩ => hd4.sq) ?_ ?_⟩
    · rintro i y σ H4 hi ⟨v3, v4, sh, rfl, s4, hd4, hS4, hl4, hb4, hs4⟩
      rw [List.getElem?_map] at hi
      obtain ⟨x, hx, rfl⟩ := Option.map_eq_some_iff.mp hi
      have hil : i < xs.length := (List.getElem?_eq_some_iff.mp hx).1
      dsimp only [gName]
      refine ⟨_, rfl, _, rfl, _, _, rfl, rfl, (by show (0 : Int) < mo; omega), _, _, rfl, rfl, ?_⟩
      have m1 := Int.emod_nonneg x (show mo ≠ 0 by omega)
      have m2 := Int.emod_lt_of_pos x (show 0 < mo by omega)
      dsimp only [gName]
      refine seq_via (fun σ H5 => ∃ (sz : Int), σ = [some (.ref c), some (.ref S), some (.int mo), some (.int x), some (.int sz), none, none, none, none, none, none] ∧ Same H4 H5 ∧ 1 ≤ sz ∧ sz ≤ mo) (fun N hN => ?_) ?_
      · first | refine if_via (fun c H' => c = !(sh.map V.int).isEmpty ∧ Same H4 H') (fun R hR => ?_) (fun c' H5 ⟨hc', s5⟩ => ?_) | refine ifs_via (fun c H' => c = !(sh.map V.int).isEmpty ∧ Same H4 H') (fun R hR => ?_) (fun c' H5 ⟨hc', s5⟩ => ?_)
        · exact ⟨_, rfl, Nat.zero_le _, fun l hl0 => ⟨S, l, _, rfl, rfl, EqD.nil ((Same.put hl0).seq hS4.sq) (SqL.of upd_same), _, rfl, hR _ _ ⟨rfl, Same.put hl0⟩⟩⟩
        subst hc'
        have hmul : (1 : Int) ≤ 1 + x % mo ∧ 1 + x % mo ≤ mo := by omega
        cases hsh : sh with
        | nil => exact iteF (nxt (hN _ _ ⟨_, rfl, s5, hmul.1, hmul.2⟩))
        | cons y0 ys =>
          refine iteT ?_
          have hne : sh ≠ [] := by rw [hsh]; simp
          have hlast := hb4 _ (List.getLast_mem hne)
          refine ⟨_, rfl, _, rfl, _, rfl, S, _, _, _, rfl, rfl, (hS4.mono s5).sq, last_at hne, _, _, rfl, hN _ _ ⟨_, rfl, s5, ?_, ?_⟩⟩
          · show 1 ≤ (if sh.getLast hne < 1 + x % mo then sh.getLast hne else 1 + x % mo)
            split <;> omega
          · show (if sh.getLast hne < 1 + x % mo then sh.getLast hne else 1 + x % mo) ≤ mo
            split <;> omega
      rintro σ H5 ⟨sz, rfl, s5, z1, z2⟩
      have hS5 := hS4.mono s5
      have hd5 := hd4.mono s5
      first | refine if_via (fun c H' => (c = true → mo = 6 → sh.sum + sz < 15) ∧ H5 = H') (fun R hR => ?_) (fun c' H' ⟨hc', e⟩ => ?_) | refine ifs_via (fun c H' => (c = true → mo = 6 → sh.sum + sz < 15) ∧ H5 = H') (fun R hR => ?_) (fun c' H' ⟨hc', e⟩ => ?_)
      · refine ⟨_, rfl, rfl, _, rfl, ite2 (fun h0 => hR _ _ ⟨fun _ q => ?_, rfl⟩) (fun _ => ?_)⟩
        · have := V.int.inj (of_decide_eq_true h0)
          omega
        refine ⟨_, rfl, S, sh, rfl, hS5.sq, _, rfl, _, _, rfl, rfl, _, _, rfl, rfl, _, rfl, hR _ _ ⟨fun q _ => ?_, rfl⟩⟩
        exact of_decide_eq_true q
      subst e
      cases c' with
      | false => exact iteF (nxt ⟨_, _, sh, rfl, s4.trans s5, hd5, hS5, by omega, hb4, hs4⟩)
      | true =>
        refine iteT ⟨_, rfl, .inl ⟨rfl, _, hS5.sq⟩, _, rfl, S, _, _, rfl, rfl, hS5, by rw [List.length_map, sizeLine_eq]; omega, ?_⟩
        refine ⟨_, _, sh ++ [sz], rfl, Same.put' (s4.trans s5) hS0, ?_, ?_, ?_, ?_, ?_⟩
        · show upd _ S _ d = _
          rw [upd_ne (Ne.symm hSd)]; exact hd5
        · rw [IsI, upd_same, List.map_append]; rfl
        · rw [List.length_append, List.length_singleton]; omega
        · intro n hn
          rcases List.mem_append.mp hn with q | q
          · exact hb4 n q
          · rw [List.mem_singleton.mp q]; exact ⟨z1, z2⟩
        · intro q
          have := hc' rfl q
          rw [List.sum_append, List.sum_singleton]
          omega
    rintro σ H4 ⟨v3, v4, sh, rfl, s4, hd4, hS4, hl4, hb4, hs4⟩
    rw [List.length_map] at hl4
    have hI4 := hI.mono s4
    have K0 : Shk mo 0 sh := ⟨by omega, fun n hn => by have := (hb4 n hn).2; simpa using this, fun q => by have := hs4 q; simpa using this⟩
    refine ⟨_, rfl, c, ns, 0, rfl, hI4, _, _, rfl, rfl, (by show (0 : Int) < 9; decide), ?_⟩
    dsimp only [gName]
    generalize ns.getD 0 0 % 9 = wy
    refine seq_via (fun σ H5 => ∃ (sh : List Int), σ = [some (.ref c), some (.ref S), some (.int mo), v3, v4, some (.int wy), none, none, none, none, none] ∧ IsI H5 S sh ∧ Shk mo 1 sh) (fun N hN => ?_) ?_
    · first | refine if_via (fun c H' => (c = true → wy = 1 ∨ wy = 2) ∧ H4 = H') (fun R hR => ?_) (fun c' H' ⟨hc', e⟩ => ?_) | refine ifs_via (fun c H' => (c = true → wy = 1 ∨ wy = 2) ∧ H4 = H') (fun R hR => ?_) (fun c' H' ⟨hc', e⟩ => ?_)
      · refine ⟨_, rfl, rfl, _, rfl, ite2 (fun h0 => hR _ _ ⟨fun _ => .inl (V.int.inj (of_decide_eq_true h0)), rfl⟩) (fun _ => ?_)⟩
        exact ⟨_, rfl, rfl, _, rfl, hR _ _ ⟨fun q => .inr (V.int.inj (of_decide_eq_true q)), rfl⟩⟩
      subst e
      cases c' with
      | false => exact iteF (nxt (hN _ _ ⟨sh, rfl, hS4, K0.up⟩))
      | true =>
        have hw := hc' rfl
        refine iteT ⟨_, rfl, .inl ⟨rfl, _, hS4.sq⟩, _, rfl, _, _, rfl, rfl, S, _, _, rfl, rfl, hS4, by rw [List.length_map, sizeLine_eq]; omega, ?_⟩
        refine hN _ _ ⟨sh ++ [1 - wy], rfl, ?_, K0.app (by push_cast; omega) (.inl ⟨rfl, by omega⟩)⟩
        rw [IsI, upd_same, List.map_append]; rfl
    rintro σ H5 ⟨sh, rfl, hS5, K1⟩
    clear hS4 hl4 hb4 hs4 hd4
    have hl5 := K1.1
    refine seq_via (fun σ H6 => ∃ (S : Addr) (sh : List Int), σ = [some (.ref c), some (.ref S), some (.int mo), v3, v4, some (.int wy), none, none, none, none, none] ∧ IsI H6 S sh ∧ Shk mo 2 sh) (fun N hN => ?_) ?_
    · first | refine if_via (fun _ H' => H5 = H') (fun R hR => ?_) (fun c' H' e => ?_) | refine ifs_via (fun _ H' => H5 = H') (fun R hR => ?_) (fun c' H' e => ?_)
      · exact ⟨_, rfl, rfl, _, rfl, hR _ _ rfl⟩
      subst e
      cases c' with
      | false => exact iteF (nxt (hN _ _ ⟨S, sh, rfl, hS5, K1.up⟩))
      | true =>
        refine iteT ⟨_, rfl, (by show 1 ≤ sizeLine; decide), fun l2 hl2 => ?_⟩
        have w2 := Same.put (o := .lst [.int 0]) hl2
        refine ⟨_, rfl, l2, S, _, _, rfl, rfl, upd_same, w2 _ _ hS5, ?_, fun l3 hl3 => ?_⟩
        · rw [List.length_map, sizeLine_eq]
          simp only [List.length_cons, List.length_nil]
          omega
        have w3 := Same.put (o := .lst ([V.int 0] ++ sh.map V.int)) hl3
        have e3 : [V.int 0] ++ sh.map V.int = (0 :: sh).map V.int := rfl
        have hla := last_at (r := 0 :: sh) (by simp)
        have hlast : (0 :: sh).getLast (by simp) ≤ mo + 1 := by
          have hm := List.getLast_mem (l := 0 :: sh) (by simp)
          rcases List.mem_cons.mp hm with q | q
          · rw [q]; omega
          · have := K1.2.1 _ q; push_cast at this; omega
        refine ⟨_, rfl, l3, _, _, _, rfl, rfl, SqL.of upd_same, hla, _, _, rfl, rfl, (by show 1 ≤ sizeLine; decide), fun l4 hl4 => ?_⟩
        have w4 := Same.put (o := .lst [.int ((0 :: sh).getLast (by simp) + 1)]) hl4
        refine ⟨S, l4, _, _, rfl, rfl, (w2.trans (w3.trans w4)) _ _ hS5, upd_same, ?_, fun l5 hl5 => ?_⟩
        · rw [List.length_map, sizeLine_eq]
          simp only [List.length_cons, List.length_nil]
          omega
        refine hN _ _ ⟨l5, sh ++ [(0 :: sh).getLast (by simp) + 1], rfl, ?_, K1.app (by push_cast; omega) (.inr rfl)⟩
        rw [IsI, upd_same, List.map_append]; rfl
    rintro σ H6 ⟨S2, sh2, rfl, hS6, K2⟩
    refine seq_via (fun σ H7 => ∃ (S : Addr) (sh : List Int), σ = [some (.ref c), some (.ref S), some (.int mo), v3, v4, some (.int wy), none, none, none, none, none] ∧ IsI H7 S sh ∧ Shk mo 2 sh) (fun N hN => ?_) ?_
    · first | refine if_via (fun _ H' => H6 = H') (fun R hR => ?_) (fun c' H' e => ?_) | refine ifs_via (fun _ H' => H6 = H') (fun R hR => ?_) (fun c' H' e => ?_)
      · exact ⟨_, rfl, rfl, _, rfl, hR _ _ rfl⟩
      subst e
      cases c' with
      | false => exact iteF (nxt (hN _ _ ⟨S2, sh2, rfl, hS6, K2⟩))
      | true =>
        refine iteT ⟨_, rfl, S2, _, rfl, hS6.sq, fun z hz => ?_⟩
        rw [← List.map_reverse]
        exact hN _ _ ⟨z, sh2.reverse, rfl, upd_same, K2.rev⟩
    rintro σ H7 ⟨S3, sh3, rfl, hS7, K3⟩
    clear hS5 hS6 K1 K2 K0 hl5
    obtain ⟨g1, g2, g3⟩ := K3
    have g2' : ∀ n ∈ sh3, n ≤ 30 := fun n hn => by have := g2 n hn; push_cast at this; omega
    refine ⟨_, rfl, S3, _, rfl, .inl hS7.sq, fun hh hhn => ?_⟩
    have vh := Same.put (o := .lst (sh3.map V.int)) hhn
    have hH8 : IsI (upd H7 hh (.lst (sh3.map V.int))) hh sh3 := upd_same
    have hS8 := hS7.mono vh
    generalize upd H7 hh (.lst (sh3.map V.int)) = H8 at *
    refine ⟨_, rfl, S3, sh3, rfl, hS8, by omega, ?_⟩
    dsimp only [gName]
    refine ⟨_, rfl, by decide, by decide, for_range (fun i σ H9 => ∃ (v8 : Option V), σ = [some (.ref c), some (.ref S3), some (.int mo), v3, v4, some (.int wy), some (.ref hh), some (.bl (shB sh3)), v8, none, none] ∧ Same H8 H9) ⟨none, rfl, Same.refl _⟩ ?_ ?_⟩
    · rintro i σ H9 _ ⟨v8, rfl, s9⟩
      dsimp only [gName]
      first | refine if_via (fun c H' => c = false ∧ Same H9 H') (fun R hR => ?_) (fun c' HA ⟨hc', sA⟩ => ?_) | refine ifs_via (fun c H' => c = false ∧ Same H9 H') (fun R hR => ?_) (fun c' HA ⟨hc', sA⟩ => ?_)
      · refine ⟨_, rfl, _, rfl, S3, _, rfl, .inl (hS8.mono s9).sq, fun l2 hl2 => ?_⟩
        refine ⟨l2, sh3, _, rfl, upd_same, by omega, g2', fun HA sA => ⟨_, rfl, rfl, _, rfl, hR _ _ ⟨?_, (Same.put hl2).trans sA⟩⟩⟩
        cases shB sh3 <;> rfl
      subst hc'
      exact iteF (nxt ⟨_, rfl, s9.trans sA⟩)
    rintro σ H9 ⟨v8, rfl, s9⟩
    have hS9 := hS8.mono s9
    have hH9 := hH8.mono s9
    try dsimp only [gName]
    first | refine if_via (fun c H' => c = !shB sh3 ∧ H9 = H') (fun R hR => ?_) (fun c' H' ⟨hc', e⟩ => ?_) | refine ifs_via (fun c H' => c = !shB sh3 ∧ H9 = H') (fun R hR => ?_) (fun c' H' ⟨hc', e⟩ => ?_)
    · exact ⟨_, rfl, _, rfl, hR _ _ ⟨rfl, rfl⟩⟩
    subst e
    subst hc'
    cases hsb : shB sh3 with
    | false => exact iteT (k H9)
    | true =>
      refine iteF (nxt ?_)
      obtain ⟨l, hle, hniz, hlp⟩ := shape_nat hsb
      have hll : l.length ≤ 21 := by rw [hle, nI_len] at g1; omega
      have hlx : ∀ x ∈ l, x ≤ 63 := fun x hx => by
        have := g2' (x : Int) (by rw [hle]; exact List.mem_map.mpr ⟨x, hx, rfl⟩)
        omega
      refine ⟨_, rfl, hh, sh3, rfl, hH9, by omega, g2', fun _ v HA sA hv => ?_, fun q => by rw [hsb] at q; cases q⟩
      have hv := hv l hle
      have hHA := hH9.mono sA
      have hSA := hS9.mono sA
      refine ⟨_, rfl, hh, sh3, rfl, hHA, by omega, fun _ tp HB _ sB htp => ?_, fun q => by rw [hsb] at q; cases q⟩
      have hHB := hHA.mono sB
      have hSB := hSA.mono sB
      try dsimp only [gName]
      first | refine if_via (fun c H' => c = false ∧ HB = H') (fun R hR => ?_) (fun c' H' ⟨hc', e⟩ => ?_) | refine ifs_via (fun c H' => c = false ∧ HB = H') (fun R hR => ?_) (fun c' H' ⟨hc', e⟩ => ?_)
      · refine ⟨_, rfl, hh, sh3, rfl, hHB, _, rfl, iteF ⟨_, rfl, _, rfl, hh, S3, _, rfl, rfl, (EqD.ints hHB.sq hSB.sq).mono (by decide), _, rfl, ?_⟩⟩
        rw [decide_eq_true rfl]
        exact iteF ⟨_, rfl, tp, _, rfl, htp, _, rfl, hR _ _ ⟨rfl, rfl⟩⟩
      subst e; subst hc'
      refine iteF (nxt ?_)
      try dsimp only [gName]
      first | refine if_via (fun c H' => c = false ∧ Same HB H') (fun R hR => ?_) (fun c' HC ⟨hc', sC⟩ => ?_) | refine ifs_via (fun c H' => c = false ∧ Same HB H') (fun R hR => ?_) (fun c' HC ⟨hc', sC⟩ => ?_)
      · refine ⟨_, rfl, _, rfl, _, rfl, iteF ⟨_, rfl, _, rfl, S3, l, v, rfl, by rw [← hle]; exact hSB, by omega, hlx, fun HC sC => ⟨_, rfl, hR _ _ ⟨?_, sC⟩⟩⟩⟩
        rw [hv, decide_eq_true (hooks hniz)]
        rfl
      subst hc'
      refine iteF (nxt ?_)
      try dsimp only [gName]
      have hSC := hSB.mono sC
      have htC := htp.mono sC
      first | refine if_via (fun c H' => c = false ∧ Same HC H') (fun R hR => ?_) (fun c' HD ⟨hc', sD⟩ => ?_) | refine ifs_via (fun c H' => c = false ∧ Same HC H') (fun R hR => ?_) (fun c' HD ⟨hc', sD⟩ => ?_)
      · refine ⟨_, rfl, rfl, _, rfl, ite2 (fun h6 => ?_) (fun _ => hR _ _ ⟨rfl, Same.refl _⟩)⟩
        have hm6 : mo = 6 := V.int.inj (of_decide_eq_true h6)
        have hsum : l.sum ≤ 22 := by
          have := g3 hm6
          rw [hle, nI_sum] at this
          omega
        refine ⟨_, rfl, _, rfl, S3, l, rfl, by rw [← hle]; exact hSC, hniz, hlp, hsum, fun HD sD => ⟨rfl, _, rfl, hR _ _ ⟨?_, sD⟩⟩⟩
        rw [hv, decide_eq_true rfl]
        rfl
      subst hc'
      refine iteF (nxt ?_)
      try dsimp only [gName]
      have hSD := hSC.mono sD
      have htD := htC.mono sD
      refine ⟨_, rfl, _, rfl, S3, sh3, rfl, .inl hSD.sq, fun H' s' => .inl (hSD.mono s').sq, by omega, fun q HE _ sE hq => ?_⟩
      refine ⟨tp, q, _, rfl, rfl, (EqD.ints (htD.mono sE).sq hq.sq).mono (by decide), ?_⟩
      rw [decide_eq_true (crn_same hsb)]
      exact k HE
end
end K
set_option Elab.async false
set_option maxRecDepth 100000
namespace K
open PySem L2 RS
seal PE PT PW PA PS PSs PG PGs PI PO PTs
theorem all_mk {l : PySem.W.OpenLaw} {w : World} {K : PySem.W.Frag} {h : Heap} {mg : Str → Option Value} {fa : Addr} {f1 : Addr} {od1 an1 : Option Addr} {sl1 : Array (Option Value)} {oc1 kV1 dc1 pm1 cd1 ct1 : Value}
    {f2 : Addr} {od2 an2 : Option Addr} {sl2 : Array (Option Value)} {oc2 kV2 dc2 pm2 cd2 ct2 : Value}
    {f3 : Addr} {od3 an3 : Option Addr} {sl3 : Array (Option Value)} {oc3 kV3 dc3 pm3 cd3 ct3 : Value}
    {f4 : Addr} {od4 an4 : Option Addr} {sl4 : Array (Option Value)} {oc4 kV4 dc4 pm4 cd4 ct4 : Value}
    {f5 : Addr} {od5 an5 : Option Addr} {sl5 : Array (Option Value)} {oc5 kV5 dc5 pm5 cd5 ct5 : Value}
    {f6 : Addr} {od6 an6 : Option Addr} {sl6 : Array (Option Value)} {oc6 kV6 dc6 pm6 cd6 ct6 : Value}
    {f7 : Addr} {od7 an7 : Option Addr} {sl7 : Array (Option Value)} {oc7 kV7 dc7 pm7 cd7 ct7 : Value}
    {f8 : Addr} {od8 an8 : Option Addr} {sl8 : Array (Option Value)} {oc8 kV8 dc8 pm8 cd8 ct8 : Value}
    {f9 : Addr} {od9 an9 : Option Addr} {sl9 : Array (Option Value)} {oc9 kV9 dc9 pm9 cd9 ct9 : Value}
    {f10 : Addr} {od10 an10 : Option Addr} {sl10 : Array (Option Value)} {oc10 kV10 dc10 pm10 cd10 ct10 : Value}
    {f11 : Addr} {od11 an11 : Option Addr} {sl11 : Array (Option Value)} {oc11 kV11 dc11 pm11 cd11 ct11 : Value}
    {f12 : Addr} {od12 an12 : Option Addr} {sl12 : Array (Option Value)} {oc12 kV12 dc12 pm12 cd12 ct12 : Value}
    {f13 : Addr} {od13 an13 : Option Addr} {sl13 : Array (Option Value)} {oc13 kV13 dc13 pm13 cd13 ct13 : Value}
    {f14 : Addr} {od14 an14 : Option Addr} {sl14 : Array (Option Value)} {oc14 kV14 dc14 pm14 cd14 ct14 : Value}
    {f15 : Addr} {od15 an15 : Option Addr} {sl15 : Array (Option Value)} {oc15 kV15 dc15 pm15 cd15 ct15 : Value}
    {f16 : Addr} {od16 an16 : Option Addr} {sl16 : Array (Option Value)} {oc16 kV16 dc16 pm16 cd16 ct16 : Value}
    {f17 : Addr} {od17 an17 : Option Addr} {sl17 : Array (Option Value)} {oc17 kV17 dc17 pm17 cd17 ct17 : Value}
    {f18 : Addr} {od18 an18 : Option Addr} {sl18 : Array (Option Value)} {oc18 kV18 dc18 pm18 cd18 ct18 : Value}
    {C_NoShape : Addr} {D_NoShape : ClassData}
    {C_StairError : Addr} {D_StairError : ClassData}
    {C_Empty : Addr} {D_Empty : ClassData}
    {C_NoLine : Addr} {D_NoLine : ClassData}
    {C_NoMarks : Addr} {D_NoMarks : ClassData}
    {C_NoPair : Addr} {D_NoPair : ClassData}
    {C_NoTable : Addr} {D_NoTable : ClassData} (X : K.In h) (G : h.Ns mainGlobals mg) (hfa : mg "law" = some (.ref fa))
    (a1 : PySem.W.nsIn K mainGlobals "never_grows" = some (some (.ref f1))) (l1 : K.lookup f1 = some ⟨oc1, od1, .func (PySem.W.fnOf "never_grows" "never_grows" (defArgs st_never_grows) (defBody st_never_grows) (defScope st_never_grows) .none kV1 dc1 pm1 an1 cd1 ct1), sl1⟩) (c1 : PySem.W.codeIn K cd1 "never_grows" = true) (k1 : PySem.W.keepIn K (.ref f1) = true)
    (a2 : PySem.W.nsIn K mainGlobals "is_shape" = some (some (.ref f2))) (l2 : K.lookup f2 = some ⟨oc2, od2, .func (PySem.W.fnOf "is_shape" "is_shape" (defArgs st_is_shape) (defBody st_is_shape) (defScope st_is_shape) .none kV2 dc2 pm2 an2 cd2 ct2), sl2⟩) (c2 : PySem.W.codeIn K cd2 "is_shape" = true) (k2 : PySem.W.keepIn K (.ref f2) = true)
    (a3 : PySem.W.nsIn K mainGlobals "must_be_shape" = some (some (.ref f3))) (l3 : K.lookup f3 = some ⟨oc3, od3, .func (PySem.W.fnOf "must_be_shape" "must_be_shape" (defArgs st_must_be_shape) (defBody st_must_be_shape) (defScope st_must_be_shape) .none kV3 dc3 pm3 an3 cd3 ct3), sl3⟩) (c3 : PySem.W.codeIn K cd3 "must_be_shape" = true) (k3 : PySem.W.keepIn K (.ref f3) = true)
    (a4 : PySem.W.nsIn K mainGlobals "corners" = some (some (.ref f4))) (l4 : K.lookup f4 = some ⟨oc4, od4, .func (PySem.W.fnOf "corners" "corners" (defArgs st_corners) (defBody st_corners) (defScope st_corners) .none kV4 dc4 pm4 an4 cd4 ct4), sl4⟩) (c4 : PySem.W.codeIn K cd4 "corners" = true) (k4 : PySem.W.keepIn K (.ref f4) = true)
    (a5 : PySem.W.nsIn K mainGlobals "product" = some (some (.ref f5))) (l5 : K.lookup f5 = some ⟨oc5, od5, .func (PySem.W.fnOf "product" "product" (defArgs st_product) (defBody st_product) (defScope st_product) .none kV5 dc5 pm5 an5 cd5 ct5), sl5⟩) (c5 : PySem.W.codeIn K cd5 "product" = true) (k5 : PySem.W.keepIn K (.ref f5) = true)
    (a6 : PySem.W.nsIn K mainGlobals "height_at" = some (some (.ref f6))) (l6 : K.lookup f6 = some ⟨oc6, od6, .func (PySem.W.fnOf "height_at" "height_at" (defArgs st_height_at) (defBody st_height_at) (defScope st_height_at) .none kV6 dc6 pm6 an6 cd6 ct6), sl6⟩) (c6 : PySem.W.codeIn K cd6 "height_at" = true) (k6 : PySem.W.keepIn K (.ref f6) = true)
    (a7 : PySem.W.nsIn K mainGlobals "hook_at" = some (some (.ref f7))) (l7 : K.lookup f7 = some ⟨oc7, od7, .func (PySem.W.fnOf "hook_at" "hook_at" (defArgs st_hook_at) (defBody st_hook_at) (defScope st_hook_at) .none kV7 dc7 pm7 an7 cd7 ct7), sl7⟩) (c7 : PySem.W.codeIn K cd7 "hook_at" = true) (k7 : PySem.W.keepIn K (.ref f7) = true)
    (a8 : PySem.W.nsIn K mainGlobals "hooks" = some (some (.ref f8))) (l8 : K.lookup f8 = some ⟨oc8, od8, .func (PySem.W.fnOf "hooks" "hooks" (defArgs st_hooks) (defBody st_hooks) (defScope st_hooks) .none kV8 dc8 pm8 an8 cd8 ct8), sl8⟩) (c8 : PySem.W.codeIn K cd8 "hooks" = true) (k8 : PySem.W.keepIn K (.ref f8) = true)
    (a9 : PySem.W.nsIn K mainGlobals "how_many_marks" = some (some (.ref f9))) (l9 : K.lookup f9 = some ⟨oc9, od9, .func (PySem.W.fnOf "how_many_marks" "how_many_marks" (defArgs st_how_many_marks) (defBody st_how_many_marks) (defScope st_how_many_marks) .none kV9 dc9 pm9 an9 cd9 ct9), sl9⟩) (c9 : PySem.W.codeIn K cd9 "how_many_marks" = true) (k9 : PySem.W.keepIn K (.ref f9) = true)
    (a10 : PySem.W.nsIn K mainGlobals "_law_whole" = some (some (.ref f10))) (l10 : K.lookup f10 = some ⟨oc10, od10, .func (PySem.W.fnOf "_law_whole" "_law_whole" (defArgs st_l_whole) (defBody st_l_whole) (defScope st_l_whole) .none kV10 dc10 pm10 an10 cd10 ct10), sl10⟩) (c10 : PySem.W.codeIn K cd10 "_law_whole" = true) (k10 : PySem.W.keepIn K (.ref f10) = true)
    (a11 : PySem.W.nsIn K mainGlobals "_law_at" = some (some (.ref f11))) (l11 : K.lookup f11 = some ⟨oc11, od11, .func (PySem.W.fnOf "_law_at" "_law_at" (defArgs st_l_at) (defBody st_l_at) (defScope st_l_at) .none kV11 dc11 pm11 an11 cd11 ct11), sl11⟩) (c11 : PySem.W.codeIn K cd11 "_law_at" = true) (k11 : PySem.W.keepIn K (.ref f11) = true)
    (a12 : PySem.W.nsIn K mainGlobals "_law_whole_row" = some (some (.ref f12))) (l12 : K.lookup f12 = some ⟨oc12, od12, .func (PySem.W.fnOf "_law_whole_row" "_law_whole_row" (defArgs st_l_whole_row) (defBody st_l_whole_row) (defScope st_l_whole_row) .none kV12 dc12 pm12 an12 cd12 ct12), sl12⟩) (c12 : PySem.W.codeIn K cd12 "_law_whole_row" = true) (k12 : PySem.W.keepIn K (.ref f12) = true)
    (a13 : PySem.W.nsIn K mainGlobals "_law_corners_of" = some (some (.ref f13))) (l13 : K.lookup f13 = some ⟨oc13, od13, .func (PySem.W.fnOf "_law_corners_of" "_law_corners_of" (defArgs st_l_corners_of) (defBody st_l_corners_of) (defScope st_l_corners_of) .none kV13 dc13 pm13 an13 cd13 ct13), sl13⟩) (c13 : PySem.W.codeIn K cd13 "_law_corners_of" = true) (k13 : PySem.W.keepIn K (.ref f13) = true)
    (a14 : PySem.W.nsIn K mainGlobals "_law_ways_of" = some (some (.ref f14))) (l14 : K.lookup f14 = some ⟨oc14, od14, .func (PySem.W.fnOf "_law_ways_of" "_law_ways_of" (defArgs st_l_ways_of) (defBody st_l_ways_of) (defScope st_l_ways_of) .none kV14 dc14 pm14 an14 cd14 ct14), sl14⟩) (c14 : PySem.W.codeIn K cd14 "_law_ways_of" = true) (k14 : PySem.W.keepIn K (.ref f14) = true)
    (a15 : PySem.W.nsIn K mainGlobals "_law_by_hooks" = some (some (.ref f15))) (l15 : K.lookup f15 = some ⟨oc15, od15, .func (PySem.W.fnOf "_law_by_hooks" "_law_by_hooks" (defArgs st_l_by_hooks) (defBody st_l_by_hooks) (defScope st_l_by_hooks) .none kV15 dc15 pm15 an15 cd15 ct15), sl15⟩) (c15 : PySem.W.codeIn K cd15 "_law_by_hooks" = true) (k15 : PySem.W.keepIn K (.ref f15) = true)
    (a16 : PySem.W.nsIn K mainGlobals "_law_is_one" = some (some (.ref f16))) (l16 : K.lookup f16 = some ⟨oc16, od16, .func (PySem.W.fnOf "_law_is_one" "_law_is_one" (defArgs st_l_is_one) (defBody st_l_is_one) (defScope st_l_is_one) .none kV16 dc16 pm16 an16 cd16 ct16), sl16⟩) (c16 : PySem.W.codeIn K cd16 "_law_is_one" = true) (k16 : PySem.W.keepIn K (.ref f16) = true)
    (a17 : PySem.W.nsIn K mainGlobals "_law_refuses" = some (some (.ref f17))) (l17 : K.lookup f17 = some ⟨oc17, od17, .func (PySem.W.fnOf "_law_refuses" "_law_refuses" (defArgs st_l_refuses) (defBody st_l_refuses) (defScope st_l_refuses) .none kV17 dc17 pm17 an17 cd17 ct17), sl17⟩) (c17 : PySem.W.codeIn K cd17 "_law_refuses" = true) (k17 : PySem.W.keepIn K (.ref f17) = true)
    (a18 : PySem.W.nsIn K mainGlobals "law" = some (some (.ref f18))) (l18 : K.lookup f18 = some ⟨oc18, od18, .func (PySem.W.fnOf "law" "law" (defArgs st_law) (defBody st_law) (defScope st_law) .none kV18 dc18 pm18 an18 cd18 ct18), sl18⟩) (c18 : PySem.W.codeIn K cd18 "law" = true) (k18 : PySem.W.keepIn K (.ref f18) = true)
    (nc_NoShape : PySem.W.nsIn K mainGlobals "NoShape" = some (some (.ref C_NoShape)))
    (nc_StairError : PySem.W.nsIn K mainGlobals "StairError" = some (some (.ref C_StairError)))
    (nc_Empty : PySem.W.nsIn K mainGlobals "Empty" = some (some (.ref C_Empty)))
    (nc_NoLine : PySem.W.nsIn K mainGlobals "NoLine" = some (some (.ref C_NoLine)))
    (nc_NoMarks : PySem.W.nsIn K mainGlobals "NoMarks" = some (some (.ref C_NoMarks)))
    (nc_NoPair : PySem.W.nsIn K mainGlobals "NoPair" = some (some (.ref C_NoPair)))
    (nc_NoTable : PySem.W.nsIn K mainGlobals "NoTable" = some (some (.ref C_NoTable)))
    (xc_NoShape : PySem.W.excIn K C_NoShape bmV "ValueError.__new__" = true) (qa_NoShape : PySem.W.clsIn K C_NoShape = some D_NoShape) (qb_NoShape : PySem.W.findIn K (.ref C_NoShape) "__getattribute__" = some (some (.builtin "BaseException.__getattribute__"))) (qc_NoShape : PySem.W.findIn K (.ref C_NoShape) "__getattr__" = some none) (qd_NoShape : PySem.W.findIn K (.ref C_NoShape) "__class__" = some (some (.builtin "object.__class__"))) (qe_NoShape : PySem.W.mroIn K C_NoShape (.type "BaseException") = some true) (qf_NoShape : PySem.W.mroIn K C_NoShape (.type "object") = some true)
    (xc_StairError : PySem.W.excIn K C_StairError bmV "ValueError.__new__" = true) (qa_StairError : PySem.W.clsIn K C_StairError = some D_StairError) (qb_StairError : PySem.W.findIn K (.ref C_StairError) "__getattribute__" = some (some (.builtin "BaseException.__getattribute__"))) (qc_StairError : PySem.W.findIn K (.ref C_StairError) "__getattr__" = some none) (qd_StairError : PySem.W.findIn K (.ref C_StairError) "__class__" = some (some (.builtin "object.__class__"))) (qe_StairError : PySem.W.mroIn K C_StairError (.type "BaseException") = some true) (qf_StairError : PySem.W.mroIn K C_StairError (.type "object") = some true)
    (xc_Empty : PySem.W.excIn K C_Empty bmV "ValueError.__new__" = true) (qa_Empty : PySem.W.clsIn K C_Empty = some D_Empty) (qb_Empty : PySem.W.findIn K (.ref C_Empty) "__getattribute__" = some (some (.builtin "BaseException.__getattribute__"))) (qc_Empty : PySem.W.findIn K (.ref C_Empty) "__getattr__" = some none) (qd_Empty : PySem.W.findIn K (.ref C_Empty) "__class__" = some (some (.builtin "object.__class__"))) (qe_Empty : PySem.W.mroIn K C_Empty (.type "BaseException") = some true) (qf_Empty : PySem.W.mroIn K C_Empty (.type "object") = some true)
    (xc_NoLine : PySem.W.excIn K C_NoLine bmV "ValueError.__new__" = true) (qa_NoLine : PySem.W.clsIn K C_NoLine = some D_NoLine) (qb_NoLine : PySem.W.findIn K (.ref C_NoLine) "__getattribute__" = some (some (.builtin "BaseException.__getattribute__"))) (qc_NoLine : PySem.W.findIn K (.ref C_NoLine) "__getattr__" = some none) (qd_NoLine : PySem.W.findIn K (.ref C_NoLine) "__class__" = some (some (.builtin "object.__class__"))) (qe_NoLine : PySem.W.mroIn K C_NoLine (.type "BaseException") = some true) (qf_NoLine : PySem.W.mroIn K C_NoLine (.type "object") = some true)
    (xc_NoMarks : PySem.W.excIn K C_NoMarks bmV "ValueError.__new__" = true) (qa_NoMarks : PySem.W.clsIn K C_NoMarks = some D_NoMarks) (qb_NoMarks : PySem.W.findIn K (.ref C_NoMarks) "__getattribute__" = some (some (.builtin "BaseException.__getattribute__"))) (qc_NoMarks : PySem.W.findIn K (.ref C_NoMarks) "__getattr__" = some none) (qd_NoMarks : PySem.W.findIn K (.ref C_NoMarks) "__class__" = some (some (.builtin "object.__class__"))) (qe_NoMarks : PySem.W.mroIn K C_NoMarks (.type "BaseException") = some true) (qf_NoMarks : PySem.W.mroIn K C_NoMarks (.type "object") = some true)
    (xc_NoPair : PySem.W.excIn K C_NoPair bmV "ValueError.__new__" = true) (qa_NoPair : PySem.W.clsIn K C_NoPair = some D_NoPair) (qb_NoPair : PySem.W.findIn K (.ref C_NoPair) "__getattribute__" = some (some (.builtin "BaseException.__getattribute__"))) (qc_NoPair : PySem.W.findIn K (.ref C_NoPair) "__getattr__" = some none) (qd_NoPair : PySem.W.findIn K (.ref C_NoPair) "__class__" = some (some (.builtin "object.__class__"))) (qe_NoPair : PySem.W.mroIn K C_NoPair (.type "BaseException") = some true) (qf_NoPair : PySem.W.mroIn K C_NoPair (.type "object") = some true)
    (xc_NoTable : PySem.W.excIn K C_NoTable bmV "ValueError.__new__" = true) (qa_NoTable : PySem.W.clsIn K C_NoTable = some D_NoTable) (qb_NoTable : PySem.W.findIn K (.ref C_NoTable) "__getattribute__" = some (some (.builtin "BaseException.__getattribute__"))) (qc_NoTable : PySem.W.findIn K (.ref C_NoTable) "__getattr__" = some none) (qd_NoTable : PySem.W.findIn K (.ref C_NoTable) "__class__" = some (some (.builtin "object.__class__"))) (qe_NoTable : PySem.W.mroIn K C_NoTable (.type "BaseException") = some true) (qf_NoTable : PySem.W.mroIn K C_NoTable (.type "object") = some true)
    (gIx_NoShape_StairError : PySem.W.exmOne K (.ref C_NoShape) (.ref C_StairError) = some true)
    (gIk_NoShape_NoShape_true : PySem.W.kitOne K (.ref C_NoShape) (.ref C_NoShape) = some true)
    (gIv_NoShape : PySem.W.kitOne K (.ref C_NoShape) (.type "ValueError") = some true)
    (gIn_NoShape_Empty_NoLine_NoMarks_NoPair_NoTable_false : PySem.W.kitAny K (.ref C_NoShape) [.ref C_Empty, .ref C_NoLine, .ref C_NoMarks, .ref C_NoPair, .ref C_NoTable] = some false)
    (z0 : PySem.W.nsIn K mainGlobals "len" = some none) (z1 : PySem.W.nsIn K mainGlobals "range" = some none) (z2 : PySem.W.nsIn K mainGlobals "list" = some none) (z3 : PySem.W.nsIn K mainGlobals "zip" = some none) (z4 : PySem.W.nsIn K mainGlobals "all" = some none) (z5 : PySem.W.nsIn K mainGlobals "sorted" = some none) (z6 : PySem.W.nsIn K mainGlobals "isinstance" = some none) (z7 : PySem.W.nsIn K mainGlobals "int" = some none) (z8 : PySem.W.nsIn K mainGlobals "bool" = some none) (z9 : PySem.W.nsIn K mainGlobals "reversed" = some none) (z10 : PySem.W.nsIn K mainGlobals "enumerate" = some none) (z11 : PySem.W.nsIn K mainGlobals "max" = some none) (z12 : PySem.W.nsIn K mainGlobals "min" = some none) (z13 : PySem.W.nsIn K mainGlobals "sum" = some none) (z14 : PySem.W.nsIn K mainGlobals "tuple" = some none) (z15 : PySem.W.nsIn K mainGlobals "ValueError" = some none) (z16 : PySem.W.nsIn K mainGlobals "str" = some none) :
    ∃ fd : FuncData, (∀ (s : Shared) (v : Value), BindsTo s fd ⟨[v], []⟩ [("_law_script", v)]) ∧ ∀ base : Heap, K.In base → base.Ns mainGlobals mg → FnOk l.prog w K mg base CX0 9 fa fd ["_law_script"] (spLaw K) := by
  have e := hfa.symm.trans (PySem.W.mg_of X G a18)
  cases e
  have B : Bi mg := ⟨PySem.W.mg_none_of X G z0, PySem.W.mg_none_of X G z1, PySem.W.mg_none_of X G z2, PySem.W.mg_none_of X G z3, PySem.W.mg_none_of X G z4, PySem.W.mg_none_of X G z5, PySem.W.mg_none_of X G z6, PySem.W.mg_none_of X G z7, PySem.W.mg_none_of X G z8, PySem.W.mg_none_of X G z9, PySem.W.mg_none_of X G z10, PySem.W.mg_none_of X G z11, PySem.W.mg_none_of X G z12, PySem.W.mg_none_of X G z13, PySem.W.mg_none_of X G z14, PySem.W.mg_none_of X G z15, PySem.W.mg_none_of X G z16⟩
  have m_NoShape := PySem.W.mg_of X G nc_NoShape
  have m_StairError := PySem.W.mg_of X G nc_StairError
  have m_Empty := PySem.W.mg_of X G nc_Empty
  have m_NoLine := PySem.W.mg_of X G nc_NoLine
  have m_NoMarks := PySem.W.mg_of X G nc_NoMarks
  have m_NoPair := PySem.W.mg_of X G nc_NoPair
  have m_NoTable := PySem.W.mg_of X G nc_NoTable
  have Cl_NoShape : ExN K mg "NoShape" := exN_of m_NoShape xc_NoShape ⟨by rw [qa_NoShape]; rfl, qb_NoShape, qc_NoShape, qd_NoShape, qe_NoShape, qf_NoShape⟩
  have Cl_StairError : ExN K mg "StairError" := exN_of m_StairError xc_StairError ⟨by rw [qa_StairError]; rfl, qb_StairError, qc_StairError, qd_StairError, qe_StairError, qf_StairError⟩
  have Cl_Empty : ExN K mg "Empty" := exN_of m_Empty xc_Empty ⟨by rw [qa_Empty]; rfl, qb_Empty, qc_Empty, qd_Empty, qe_Empty, qf_Empty⟩
  have Cl_NoLine : ExN K mg "NoLine" := exN_of m_NoLine xc_NoLine ⟨by rw [qa_NoLine]; rfl, qb_NoLine, qc_NoLine, qd_NoLine, qe_NoLine, qf_NoLine⟩
  have Cl_NoMarks : ExN K mg "NoMarks" := exN_of m_NoMarks xc_NoMarks ⟨by rw [qa_NoMarks]; rfl, qb_NoMarks, qc_NoMarks, qd_NoMarks, qe_NoMarks, qf_NoMarks⟩
  have Cl_NoPair : ExN K mg "NoPair" := exN_of m_NoPair xc_NoPair ⟨by rw [qa_NoPair]; rfl, qb_NoPair, qc_NoPair, qd_NoPair, qe_NoPair, qf_NoPair⟩
  have Cl_NoTable : ExN K mg "NoTable" := exN_of m_NoTable xc_NoTable ⟨by rw [qa_NoTable]; rfl, qb_NoTable, qc_NoTable, qd_NoTable, qe_NoTable, qf_NoTable⟩
  have Ix_NoShape_StairError : ItEx K mg "NoShape" "StairError" := by
    simp only [ItEx, ca_of m_NoShape, ca_of m_StairError]
    exact gIx_NoShape_StairError
  have Ik_NoShape_NoShape_true : ItIs K mg "NoShape" "NoShape" true := by
    simp only [ItIs, ca_of m_NoShape]
    exact gIk_NoShape_NoShape_true
  have Iv_NoShape : ItVe K mg "NoShape" := by
    simp only [ItVe, ca_of m_NoShape]
    exact gIv_NoShape
  have In_NoShape_Empty_NoLine_NoMarks_NoPair_NoTable_false : ItIn K mg "NoShape" ["Empty", "NoLine", "NoMarks", "NoPair", "NoTable"] false := by
    simp only [ItIn, List.map_cons, List.map_nil, ca_of m_Empty, ca_of m_NoLine, ca_of m_NoMarks, ca_of m_NoPair, ca_of m_NoShape, ca_of m_NoTable]
    exact gIn_NoShape_Empty_NoLine_NoMarks_NoPair_NoTable_false
  have F1 : Fn K mg "never_grows" st_never_grows ["numbers"] := ⟨f1, _, fun_mk l1 c1 k1, PySem.W.mg_of X G a1, (fun_mk (st := st_never_grows) l1 c1 k1).binds (ps := ["numbers"]) fun _ _ _ _ _ _ us hl => match us, hl with | [_], _ => rfl⟩
  have F2 : Fn K mg "is_shape" st_is_shape ["lengths"] := ⟨f2, _, fun_mk l2 c2 k2, PySem.W.mg_of X G a2, (fun_mk (st := st_is_shape) l2 c2 k2).binds (ps := ["lengths"]) fun _ _ _ _ _ _ us hl => match us, hl with | [_], _ => rfl⟩
  have F3 : Fn K mg "must_be_shape" st_must_be_shape ["lengths"] := ⟨f3, _, fun_mk l3 c3 k3, PySem.W.mg_of X G a3, (fun_mk (st := st_must_be_shape) l3 c3 k3).binds (ps := ["lengths"]) fun _ _ _ _ _ _ us hl => match us, hl with | [_], _ => rfl⟩
  have F4 : Fn K mg "corners" st_corners ["shape"] := ⟨f4, _, fun_mk l4 c4 k4, PySem.W.mg_of X G a4, (fun_mk (st := st_corners) l4 c4 k4).binds (ps := ["shape"]) fun _ _ _ _ _ _ us hl => match us, hl with | [_], _ => rfl⟩
  have F5 : Fn K mg "product" st_product ["numbers"] := ⟨f5, _, fun_mk l5 c5 k5, PySem.W.mg_of X G a5, (fun_mk (st := st_product) l5 c5 k5).binds (ps := ["numbers"]) fun _ _ _ _ _ _ us hl => match us, hl with | [_], _ => rfl⟩
  have F6 : Fn K mg "height_at" st_height_at ["shape", "place"] := ⟨f6, _, fun_mk l6 c6 k6, PySem.W.mg_of X G a6, (fun_mk (st := st_height_at) l6 c6 k6).binds (ps := ["shape", "place"]) fun _ _ _ _ _ _ us hl => match us, hl with | [_, _], _ => rfl⟩
  have F7 : Fn K mg "hook_at" st_hook_at ["shape", "at", "place"] := ⟨f7, _, fun_mk l7 c7 k7, PySem.W.mg_of X G a7, (fun_mk (st := st_hook_at) l7 c7 k7).binds (ps := ["shape", "at", "place"]) fun _ _ _ _ _ _ us hl => match us, hl with | [_, _, _], _ => rfl⟩
  have F8 : Fn K mg "hooks" st_hooks ["shape"] := ⟨f8, _, fun_mk l8 c8 k8, PySem.W.mg_of X G a8, (fun_mk (st := st_hooks) l8 c8 k8).binds (ps := ["shape"]) fun _ _ _ _ _ _ us hl => match us, hl with | [_], _ => rfl⟩
  have F9 : Fn K mg "how_many_marks" st_how_many_marks ["shape"] := ⟨f9, _, fun_mk l9 c9 k9, PySem.W.mg_of X G a9, (fun_mk (st := st_how_many_marks) l9 c9 k9).binds (ps := ["shape"]) fun _ _ _ _ _ _ us hl => match us, hl with | [_], _ => rfl⟩
  have F10 : Fn K mg "_law_whole" st_l_whole ["_law_found"] := ⟨f10, _, fun_mk l10 c10 k10, PySem.W.mg_of X G a10, (fun_mk (st := st_l_whole) l10 c10 k10).binds (ps := ["_law_found"]) fun _ _ _ _ _ _ us hl => match us, hl with | [_], _ => rfl⟩
  have F11 : Fn K mg "_law_at" st_l_at ["_law_script", "_law_k"] := ⟨f11, _, fun_mk l11 c11 k11, PySem.W.mg_of X G a11, (fun_mk (st := st_l_at) l11 c11 k11).binds (ps := ["_law_script", "_law_k"]) fun _ _ _ _ _ _ us hl => match us, hl with | [_, _], _ => rfl⟩
  have F12 : Fn K mg "_law_whole_row" st_l_whole_row ["_law_found"] := ⟨f12, _, fun_mk l12 c12 k12, PySem.W.mg_of X G a12, (fun_mk (st := st_l_whole_row) l12 c12 k12).binds (ps := ["_law_found"]) fun _ _ _ _ _ _ us hl => match us, hl with | [_], _ => rfl⟩
  have F13 : Fn K mg "_law_corners_of" st_l_corners_of ["_law_shape"] := ⟨f13, _, fun_mk l13 c13 k13, PySem.W.mg_of X G a13, (fun_mk (st := st_l_corners_of) l13 c13 k13).binds (ps := ["_law_shape"]) fun _ _ _ _ _ _ us hl => match us, hl with | [_], _ => rfl⟩
  have F14 : Fn K mg "_law_ways_of" st_l_ways_of ["_law_shape"] := ⟨f14, _, fun_mk l14 c14 k14, PySem.W.mg_of X G a14, (fun_mk (st := st_l_ways_of) l14 c14 k14).binds (ps := ["_law_shape"]) fun _ _ _ _ _ _ us hl => match us, hl with | [_], _ => rfl⟩
  have F15 : Fn K mg "_law_by_hooks" st_l_by_hooks ["_law_shape", "_law_many"] := ⟨f15, _, fun_mk l15 c15 k15, PySem.W.mg_of X G a15, (fun_mk (st := st_l_by_hooks) l15 c15 k15).binds (ps := ["_law_shape", "_law_many"]) fun _ _ _ _ _ _ us hl => match us, hl with | [_, _], _ => rfl⟩
  have F16 : Fn K mg "_law_is_one" st_l_is_one ["_law_shape"] := ⟨f16, _, fun_mk l16 c16 k16, PySem.W.mg_of X G a16, (fun_mk (st := st_l_is_one) l16 c16 k16).binds (ps := ["_law_shape"]) fun _ _ _ _ _ _ us hl => match us, hl with | [_], _ => rfl⟩
  have F17 : Fn K mg "_law_refuses" st_l_refuses ["_law_way", "_law_shape"] := ⟨f17, _, fun_mk l17 c17 k17, PySem.W.mg_of X G a17, (fun_mk (st := st_l_refuses) l17 c17 k17).binds (ps := ["_law_way", "_law_shape"]) fun _ _ _ _ _ _ us hl => match us, hl with | [_, _], _ => rfl⟩
  have FL := fun_mk (st := st_law) l18 c18 k18
  refine ⟨PySem.W.fnOf "law" "law" (defArgs st_law) (defBody st_law) (defScope st_law) .none kV18 dc18 pm18 an18 cd18 ct18, fun s v => .of_eq rfl, fun base _ _ => ?_⟩
  have G_never_grows := ok_never_grows (P := l.prog) (w := w) (base := base) F1 B
  have G_is_shape := ok_is_shape (P := l.prog) (w := w) (base := base) F2 B G_never_grows
  have G_must_be_shape := ok_must_be_shape (P := l.prog) (w := w) (base := base) F3 Cl_NoShape G_is_shape
  have G_corners := ok_corners (P := l.prog) (w := w) (base := base) F4 B G_must_be_shape
  have G_product := ok_product (P := l.prog) (w := w) (base := base) F5 B
  have G_height_at := ok_height_at (P := l.prog) (w := w) (base := base) F6 B
  have G_hook_at := ok_hook_at (P := l.prog) (w := w) (base := base) F7 B G_height_at
  have G_hooks := ok_hooks (P := l.prog) (w := w) (base := base) F8 B G_hook_at
  have G_how_many_marks := ok_how_many_marks (P := l.prog) (w := w) (base := base) F9 B G_must_be_shape G_product G_hooks
  have G_l_whole := ok_l_whole (P := l.prog) (w := w) (base := base) F10 B
  have G_l_at := ok_l_at (P := l.prog) (w := w) (base := base) F11 B
  have G_l_whole_row := ok_l_whole_row (P := l.prog) (w := w) (base := base) F12 B G_l_whole
  have G_l_corners_of := ok_l_corners_of (P := l.prog) (w := w) (base := base) F13 B
  have G_l_ways_of := ok_l_ways_of (P := l.prog) (w := w) (base := base) F14 B G_l_corners_of
  have G_l_by_hooks := ok_l_by_hooks (P := l.prog) (w := w) (base := base) F15 B
  have G_l_is_one := ok_l_is_one (P := l.prog) (w := w) (base := base) F16 B
  have G_l_refuses := ok_l_refuses (P := l.prog) (w := w) (base := base) F17 B Cl_StairError Cl_NoShape Cl_Empty Cl_NoLine Cl_NoMarks Cl_NoPair Cl_NoTable Ix_NoShape_StairError Ik_NoShape_NoShape_true Iv_NoShape In_NoShape_Empty_NoLine_NoMarks_NoPair_NoTable_false G_how_many_marks G_corners
  exact ok_law FL B G_l_at G_l_is_one G_l_refuses G_how_many_marks G_corners G_l_whole_row G_l_whole G_l_by_hooks G_l_ways_of G_l_corners_of
theorem walk {l : PySem.W.OpenLaw} {q : Program} {loose : List Str} {XP : (Str → Option Value) → Heap → Prop} {YP : World → Heap → Prop} {d : DefRec} {K : Params → PySem.W.Frag} (hn : l.most = some 63) (hdf : d.params.defaults = [])
    (hY : ∀ (w : World) (h : Heap), YP w h → (K w.params).In h)
    (F : ∀ (w : World) (mg : Str → Option Value) (fa : Addr) (h : Heap), (K w.params).In h → h.Ns mainGlobals mg → mg d.name = some (.ref fa) →
      ∃ fd : FuncData, (∀ (s : Shared) (u : Value), BindsTo s fd ⟨[u], []⟩ [("_law_script", u)]) ∧ ∀ base : Heap, (K w.params).In base → base.Ns mainGlobals mg → FnOk l.prog w (K w.params) mg base CX0 9 fa fd ["_law_script"] (spLaw (K w.params))) :
    PySem.W.WalkO q loose XP YP l.row.toRowW d [] (fun f vs => PySem.call f vs) :=
  L2.walk_of (n := 63) (k := 9) (x := "_law_script") (CX := fun _ => CX0) (sp := fun w => spLaw (K w.params)) hn (by decide) hdf ⟨rfl, by decide, by decide⟩ hY F (fun _ _ a ns hl _ hS => ⟨a, ns, rfl, hS, hl, fun _ => rfl⟩) fun _ _ _ _ _ z => z
end K
open PySem PySem.W PyProof.Rows
set_option maxRecDepth 100000 in
set_option maxHeartbeats 0 in
theorem PySem.Challenge.cw_stairtable_k13_counted_holds : PySem.Challenge.rw_stairtable_k13_counted.Holds := by
  w_on; o_law; k_head; (case hw => w_witness2)
  k_fill
  refine K.walk (l := PySem.Challenge.rw_stairtable_k13_counted) rfl rfl (fun w h Y => PySem.W.kIn_of Y) ?F
  case F =>
    intro w mg fa h KX G hmg
    refine' K.all_mk KX G hmg ?a1 ?l1 ?c1 ?k1 ?a2 ?l2 ?c2 ?k2 ?a3 ?l3 ?c3 ?k3 ?a4 ?l4 ?c4 ?k4 ?a5 ?l5 ?c5 ?k5 ?a6 ?l6 ?c6 ?k6 ?a7 ?l7 ?c7 ?k7 ?a8 ?l8 ?c8 ?k8 ?a9 ?l9 ?c9 ?k9 ?a10 ?l10 ?c10 ?k10 ?a11 ?l11 ?c11 ?k11 ?a12 ?l12 ?c12 ?k12 ?a13 ?l13 ?c13 ?k13 ?a14 ?l14 ?c14 ?k14 ?a15 ?l15 ?c15 ?k15 ?a16 ?l16 ?c16 ?k16 ?a17 ?l17 ?c17 ?k17 ?a18 ?l18 ?c18 ?k18 ?nc_NoShape ?nc_StairError ?nc_Empty ?nc_NoLine ?nc_NoMarks ?nc_NoPair ?nc_NoTable ?xc_NoShape ?qa_NoShape ?qb_NoShape ?qc_NoShape ?qd_NoShape ?qe_NoShape ?qf_NoShape ?xc_StairError ?qa_StairError ?qb_StairError ?qc_StairError ?qd_StairError ?qe_StairError ?qf_StairError ?xc_Empty ?qa_Empty ?qb_Empty ?qc_Empty ?qd_Empty ?qe_Empty ?qf_Empty ?xc_NoLine ?qa_NoLine ?qb_NoLine ?qc_NoLine ?qd_NoLine ?qe_NoLine ?qf_NoLine ?xc_NoMarks ?qa_NoMarks ?qb_NoMarks ?qc_NoMarks ?qd_NoMarks ?qe_NoMarks ?qf_NoMarks ?xc_NoPair ?qa_NoPair ?qb_NoPair ?qc_NoPair ?qd_NoPair ?qe_NoPair ?qf_NoPair ?xc_NoTable ?qa_NoTable ?qb_NoTable ?qc_NoTable ?qd_NoTable ?qe_NoTable ?qf_NoTable ?gIx_NoShape_StairError ?gIk_NoShape_NoShape_true ?gIv_NoShape ?gIn_NoShape_Empty_NoLine_NoMarks_NoPair_NoTable_false ?z0 ?z1 ?z2 ?z3 ?z4 ?z5 ?z6 ?z7 ?z8 ?z9 ?z10 ?z11 ?z12 ?z13 ?z14 ?z15 ?z16
    (case a1 => k_is)
    (case l1 => k_is)
    (case c1 => k_is)
    (case k1 => k_is)
    (case a2 => k_is)
    (case l2 => k_is)
    (case c2 => k_is)
    (case k2 => k_is)
    (case a3 => k_is)
    (case l3 => k_is)
    (case c3 => k_is)
    (case k3 => k_is)
    (case a4 => k_is)
    (case l4 => k_is)
    (case c4 => k_is)
    (case k4 => k_is)
    (case a5 => k_is)
    (case l5 => k_is)
    (case c5 => k_is)
    (case k5 => k_is)
    (case a6 => k_is)
    (case l6 => k_is)
    (case c6 => k_is)
    (case k6 => k_is)
    (case a7 => k_is)
    (case l7 => k_is)
    (case c7 => k_is)
    (case k7 => k_is)
    (case a8 => k_is)
    (case l8 => k_is)
    (case c8 => k_is)
    (case k8 => k_is)
    (case a9 => k_is)
    (case l9 => k_is)
    (case c9 => k_is)
    (case k9 => k_is)
    (case a10 => k_is)
    (case l10 => k_is)
    (case c10 => k_is)
    (case k10 => k_is)
    (case a11 => k_is)
    (case l11 => k_is)
    (case c11 => k_is)
    (case k11 => k_is)
    (case a12 => k_is)
    (case l12 => k_is)
    (case c12 => k_is)
    (case k12 => k_is)
    (case a13 => k_is)
    (case l13 => k_is)
    (case c13 => k_is)
    (case k13 => k_is)
    (case a14 => k_is)
    (case l14 => k_is)
    (case c14 => k_is)
    (case k14 => k_is)
    (case a15 => k_is)
    (case l15 => k_is)
    (case c15 => k_is)
    (case k15 => k_is)
    (case a16 => k_is)
    (case l16 => k_is)
    (case c16 => k_is)
    (case k16 => k_is)
    (case a17 => k_is)
    (case l17 => k_is)
    (case c17 => k_is)
    (case k17 => k_is)
    (case a18 => k_is)
    (case l18 => k_is)
    (case c18 => k_is)
    (case k18 => k_is)
    (case nc_NoShape => k_is)
    (case nc_StairError => k_is)
    (case nc_Empty => k_is)
    (case nc_NoLine => k_is)
    (case nc_NoMarks => k_is)
    (case nc_NoPair => k_is)
    (case nc_NoTable => k_is)
    (case xc_NoShape => k_exc)
    (case qa_NoShape => k_is)
    (case qb_NoShape => k_is)
    (case qc_NoShape => k_is)
    (case qd_NoShape => k_is)
    (case qe_NoShape => k_is)
    (case qf_NoShape => k_is)
    (case xc_StairError => k_exc)
    (case qa_StairError => k_is)
    (case qb_StairError => k_is)
    (case qc_StairError => k_is)
    (case qd_StairError => k_is)
    (case qe_StairError => k_is)
    (case qf_StairError => k_is)
    (case xc_Empty => k_exc)
    (case qa_Empty => k_is)
    (case qb_Empty => k_is)
    (case qc_Empty => k_is)
    (case qd_Empty => k_is)
    (case qe_Empty => k_is)
    (case qf_Empty => k_is)
    (case xc_NoLine => k_exc)
    (case qa_NoLine => k_is)
    (case qb_NoLine => k_is)
    (case qc_NoLine => k_is)
    (case qd_NoLine => k_is)
    (case qe_NoLine => k_is)
    (case qf_NoLine => k_is)
    (case xc_NoMarks => k_exc)
    (case qa_NoMarks => k_is)
    (case qb_NoMarks => k_is)
    (case qc_NoMarks => k_is)
    (case qd_NoMarks => k_is)
    (case qe_NoMarks => k_is)
    (case qf_NoMarks => k_is)
    (case xc_NoPair => k_exc)
    (case qa_NoPair => k_is)
    (case qb_NoPair => k_is)
    (case qc_NoPair => k_is)
    (case qd_NoPair => k_is)
    (case qe_NoPair => k_is)
    (case qf_NoPair => k_is)
    (case xc_NoTable => k_exc)
    (case qa_NoTable => k_is)
    (case qb_NoTable => k_is)
    (case qc_NoTable => k_is)
    (case qd_NoTable => k_is)
    (case qe_NoTable => k_is)
    (case qf_NoTable => k_is)
    (case gIx_NoShape_StairError => kts_exm)
    (case gIk_NoShape_NoShape_true => kit_is)
    (case gIv_NoShape => kit_is)
    (case gIn_NoShape_Empty_NoLine_NoMarks_NoPair_NoTable_false => kit_is)
    (case z0 => k_is)
    (case z1 => k_is)
    (case z2 => k_is)
    (case z3 => k_is)
    (case z4 => k_is)
    (case z5 => k_is)
    (case z6 => k_is)
    (case z7 => k_is)
    (case z8 => k_is)
    (case z9 => k_is)
    (case z10 => k_is)
    (case z11 => k_is)
    (case z12 => k_is)
    (case z13 => k_is)
    (case z14 => k_is)
    (case z15 => k_is)
    (case z16 => k_is)
