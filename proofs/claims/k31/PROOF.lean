import PyProof.Rows.All
import Wide.All
import OpenK.AllK
import Wide.FinOn
import Lean
import PyProof.EqAt
import PyProof.EqKinds
import PyProof.TupleCall
import KE.KTryMore
import PyProof.ZipIter
import PyProof.Rows.ZipGen
import PyProof.Rows.SetFrom
import PyProof.SetRoads
import PyProof.NeKinds
import PyProof.ConsumeWalk
import OpenK.KLine
import PyProof.ListRange
import PyProof.Rows.Range3
import KE.KRevIter
import PyProof.Rows.SortRuns
import PySem.SetTable
import PyProof.SetScanFacts
import PyProof.TupleKey
import PyProof.IsRules
import PyProof.DictIter
import PyProof.DictWalks
import KE.KDictSum
import PySem.Challenge.RW_owinghall_k31_all_bounds
set_option Elab.async false
set_option linter.all false
set_option maxRecDepth 100000
/-! THE HAND LAYER, for ints, bools, texts, own classes, LISTS and tuples (index, slices, in, append, pop ..), calls, loops. Paste it whole ahead of your own text; what your proof does not reach may be deleted. -/
namespace L2
open PySem PySem.Spec PyProof.Rows

/-- a key: an int or a str -/
abbrev Key := Sum Int Str
def keyIs : Key → Value → Bool
  | .inl k, v => Value.isInt k v
  | .inr x, v => Value.isStrOf x v
def keyH (w : World) : Key → Int
  | .inl k => hashInt k
  | .inr x => hashStr w x
theorem keyIs_shape : ∀ {k : Key} {v : Value}, keyIs k v = true → (∃ i t, k = Sum.inl i ∧ v = Value.int i t) ∨ (∃ x t, k = Sum.inr x ∧ v = Value.str x t)
  | .inl i, v, h => by
    obtain ⟨t, e⟩ := Value.isInt_shape (k := i) (v := v) h
    exact .inl ⟨i, t, rfl, e⟩
  | .inr x, v, h => by
    obtain ⟨t, e⟩ := Value.isStrOf_shape (x := x) (v := v) h
    exact .inr ⟨x, t, rfl, e⟩
theorem key_ll (a b : Int) : decide ((Sum.inl a : Key) = Sum.inl b) = (a == b) := by
  by_cases e : a = b
  · subst e; simp
  · have h : ¬ (Sum.inl a : Key) = Sum.inl b := fun q => e (Sum.inl.inj q)
    rw [decide_eq_false h]
    exact (beq_eq_false_iff_ne.mpr e).symm
theorem key_rr (a b : Str) : decide ((Sum.inr a : Key) = Sum.inr b) = decide (a = b) := by
  by_cases e : a = b
  · subst e; simp
  · have h : ¬ (Sum.inr a : Key) = Sum.inr b := fun q => e (Sum.inr.inj q)
    rw [decide_eq_false h, decide_eq_false e]
theorem key_lr (a : Int) (b : Str) : decide ((Sum.inl a : Key) = Sum.inr b) = false := decide_eq_false (fun q => nomatch q)
theorem key_rl (a : Str) (b : Int) : decide ((Sum.inr a : Key) = Sum.inl b) = false := decide_eq_false (fun q => nomatch q)

def mixKind (prog : Program) (w : World) : PySem.KeyKind prog w Key where
  is := keyIs
  hash := keyH w
  inj := fun v a b ha hb => by
    rcases keyIs_shape ha with ⟨i, t, rfl, rfl⟩ | ⟨x, t, rfl, rfl⟩
    · rcases keyIs_shape hb with ⟨j, u, rfl, e⟩ | ⟨y, u, rfl, e⟩
      · injection e with e1 _; rw [e1]
      · exact nomatch e
    · rcases keyIs_shape hb with ⟨j, u, rfl, e⟩ | ⟨y, u, rfl, e⟩
      · exact nomatch e
      · injection e with e1 _; rw [e1]
  byValue := fun k v h => by
    rcases keyIs_shape h with ⟨i, t, rfl, rfl⟩ | ⟨x, t, rfl, rfl⟩ <;> rfl
  pyHash := fun hv h => by
    rcases keyIs_shape hv with ⟨i, t, rfl, rfl⟩ | ⟨x, t, rfl, rfl⟩
    · exact wpAny_pyHash_int h
    · exact wpAny_pyHash_str h
  eqBool := fun hu hv h => by
    rcases keyIs_shape hu with ⟨i, t, rfl, rfl⟩ | ⟨x, t, rfl, rfl⟩
    · rcases keyIs_shape hv with ⟨j, u, rfl, rfl⟩ | ⟨y, u, rfl, rfl⟩
      · rw [key_ll] at h; exact wpAny_eqBool_int h
      · rw [key_lr] at h; exact SeqAt.EqAt.int_str i t y u _ _ _ _ h
    · rcases keyIs_shape hv with ⟨j, u, rfl, rfl⟩ | ⟨y, u, rfl, rfl⟩
      · rw [key_rl] at h; exact SeqAt.EqAt.str_int x t j u _ _ _ _ h
      · rw [key_rr] at h; exact wpAny_eqBool_str h
  «strs» := fun k x t v h => by
    rcases keyIs_shape h with ⟨i, u, rfl, e⟩ | ⟨y, u, rfl, e⟩
    · exact nomatch e
    · injection e with e1 _
      subst e1
      cases v <;> rfl

end L2

namespace L2
open PySem PySem.Spec PyProof.Rows

/-- a value, without the heap -/
inductive V where
  | non | bl (b : Bool) | int (i : Int) | str (x : Str) | byt (b : Array UInt8) | flt (b : UInt64) | ref (a : Addr) | ty (n : String)
  deriving DecidableEq

def RelV : V → Value → Prop
  | .non, u => u = Value.none
  | .bl b, u => u = Value.bool b
  | .int i, u => ∃ t, u = Value.int i t
  | .str x, u => ∃ t, u = Value.str x t
  | .byt b, u => ∃ t, u = Value.bytes b t
  | .flt b, u => ∃ t, u = Value.float b t
  | .ref a, u => u = Value.ref a
  | .ty n, u => u = Value.type n

abbrev Vals : List V → List Value → Prop := Paired RelV
theorem Vals.length {xs : List V} {us : List Value} (r : Vals xs us) : xs.length = us.length := Paired.length r
theorem Vals.get : ∀ {xs : List V} {us : List Value} {i : Nat} {x : V}, Vals xs us → xs[i]? = some x → ∃ u, us[i]? = some u ∧ RelV x u
  | _, _, _, _, .nil, e => by simp at e
  | _, _, 0, _, .cons r _, e => by simp at e; subst e; exact ⟨_, rfl, r⟩
  | _, _, i + 1, x, .cons _ t, e => by
    obtain ⟨u, h1, h2⟩ := Vals.get (i := i) (x := x) t (by simpa using e)
    exact ⟨u, by simpa using h1, h2⟩
theorem Vals.set {x : V} {u : Value} (r : RelV x u) : ∀ {xs : List V} {us : List Value} (i : Nat), Vals xs us → Vals (xs.set i x) (us.set i u)
  | _, _, _, .nil => .nil
  | _, _, 0, .cons _ t => .cons r t
  | _, _, i + 1, .cons q t => .cons q (Vals.set r i t)
theorem Vals.append : ∀ {xs ys : List V} {us ws : List Value}, Vals xs us → Vals ys ws → Vals (xs ++ ys) (us ++ ws)
  | _, _, _, _, .nil, s => s
  | _, _, _, _, .cons r t, s => .cons r (Vals.append t s)
theorem Vals.take : ∀ {xs : List V} {us : List Value} (n : Nat), Vals xs us → Vals (xs.take n) (us.take n)
  | _, _, 0, _ => .nil
  | _, _, _ + 1, .nil => .nil
  | _, _, n + 1, .cons r t => .cons r (Vals.take n t)
theorem Vals.drop : ∀ {xs : List V} {us : List Value} (n : Nat), Vals xs us → Vals (xs.drop n) (us.drop n)
  | _, _, 0, r => r
  | _, _, _ + 1, .nil => .nil
  | _, _, n + 1, .cons _ t => Vals.drop n t
def RelO : Option V → Option Value → Prop
  | some v, some u => RelV v u
  | none, none => True
  | _, _ => False
def KV {κ : Type} : List (κ × V) → List (κ × Value) → Prop := Paired fun (p : κ × V) (q : κ × Value) => p.1 = q.1 ∧ RelV p.2 q.2

/-- a key of a dict (00_mix): an int or a text -/
def kV : Key → V
  | .inl i => .int i
  | .inr x => .str x

/-- what stands at a tracked address -/
inductive HO where
  /-- a list -/
  | lst (xs : List V)
  /-- a tuple (never changes) -/
  | tup (xs : List V)
  /-- a dict whose keys are ints and texts; one whose keys are tuples of ints and texts (the empty one is both) -/
  | dK (kvs : List (Key × V)) | dT (kvs : List (List Key × V))
  /-- a set of ints: its members, its size -/
  | set (S : Int → Bool) (n : Nat)
  /-- an instance of the class at C, its dict at dx, its attributes -/
  | ins (C dx : Addr) (fs : List (Str × V))
  /-- the dict of the instance at x -/
  | own (x : Addr)
  /-- the dict of an exception -/
  | xd (fs : List (Str × V))
  /-- a bound method, f of x -/
  | met (f x : Addr)
  /-- a range object lo, lo + 1, .. below hi -/
  | rng (lo hi : Int)
  /-- a thing that is known to the object (the script; a dict while a loop walks it): read, never written while it is so -/
  | frz (o : Obj) (u : HO)
  /-- a code object's table -/
  | tbl (ps : Array Value)
  /-- any other thing, by what is true of its one object (a def of one's own: SetO a S n := HO.ext fun h => ..) -/
  | ext (φ : Heap → Prop)

abbrev Hp := Addr → Option HO
def upd (H : Hp) (a : Addr) (o : HO) : Hp := fun b => if b = a then some o else H b
theorem upd_same {H : Hp} {a : Addr} {o : HO} : upd H a o a = some o := by unfold upd; rw [if_pos rfl]
theorem upd_ne {H : Hp} {a b : Addr} {o : HO} (h : b ≠ a) : upd H a o b = H b := by unfold upd; rw [if_neg h]
/-- two objects of different content stand apart -/
theorem ne_of {H : Hp} {a b : Addr} {o u : HO} (h : H a = some o) (h' : H b = some u) (d : o ≠ u) : a ≠ b := by
  intro e; subst e; rw [h] at h'; exact d (Option.some.inj h')
theorem ne_of_none {H : Hp} {a b : Addr} {o : HO} (h : H a = some o) (h' : H b = none) : a ≠ b := by
  intro e; subst e; rw [h] at h'; cases h'

section
variable (P : Program) (w : World)
def ObjOk (H : Hp) (h : Heap) (a : Addr) : HO → Prop
  | .lst xs => xs.length ≤ sizeLine ∧ ∃ (its : List Value) (n : Nat), Vals xs its ∧ h.get? a = some { cls := .type "list", data := .seq its.toArray n }
  | .tup xs => xs.length ≤ sizeLine ∧ ∃ its : List Value, Vals xs its ∧ IsTup h a its.toArray
  | .dK kvs => kvs.length ≤ sizeLine ∧ (a == sysModules) = false ∧ ∃ vs, KV kvs vs ∧ h.DictOf (mixKind P w) a vs
  | .dT kvs => kvs.length ≤ sizeLine ∧ (a == sysModules) = false ∧ ∃ xs : List (List Key × Addr × Value),
      Paired (fun (p : List Key × V) (q : List Key × Addr × Value) => p.1 = q.1 ∧ H q.2.1 = some (.tup (p.1.map kV)) ∧ RelV p.2 q.2.2) kvs xs ∧
      ∃ o es ep, h.get? a = some o ∧ o.ExactDict ∧ o.data = .dict es ep ∧ es.toList = xs.map (entryOfKey (tupleKind (mixKind P w))) ∧ (xs.map (·.1)).Nodup
  | .set S n => h.SetOf (intKind P w) a S n
  | .ins C dx fs => H dx = some (.own a) ∧ fs.length ≤ 1000 ∧ dx ≠ a ∧ h.get? a = some (PySem.W.instObj C dx) ∧
      ∃ mA, h.Ns1 dx mA ∧ (∀ f, RelO (fs.lookup f) (mA f)) ∧ PySem.Within mA (fs.map (·.1))
  | .own _ => ∃ o, h.get? a = some o
  | .xd fs => ∃ mA, h.Ns1 a mA ∧ ∀ f, RelO (fs.lookup f) (mA f)
  | .rng lo hi => ∃ t u v, h.get? a = some { cls := .type "range", data := .fields #[.int lo t, .int hi u, .int 1 v] }
  | .frz o u => h.get? a = some o ∧ ObjOk H h a u
  | .tbl ps => h.get? a = some { cls := .none, data := .fields ps }
  | .met f x => h.get? a = some (PySem.W.methodObj (.ref f) (.ref x))
  | .ext φ => φ h ∧ (∃ o, h.get? a = some o) ∧ ∀ h1 h2 : Heap, φ h1 → (∀ o, h1.get? a = some o → h2.get? a = some o) → φ h2
/-- the abstract heap is held -/
def HOk (H : Hp) (h : Heap) : Prop := ∀ a o, H a = some o → ObjOk P w H h a o
end

section
variable {P : Program} {w : World} {H H' : Hp} {h h' : Heap} {a : Addr} {o : HO}
theorem ObjOk.lt (x : ObjOk P w H h a o) : a < h.objs.size := by
  cases o with
  | lst xs => obtain ⟨_, _, _, _, e⟩ := x; exact Heap.lt_size e
  | tup xs => obtain ⟨_, _, _, p⟩ := x; exact p.lt
  | dK kvs => obtain ⟨_, _, _, _, o, _, _, e, _⟩ := x; exact Heap.lt_size e
  | dT kvs => obtain ⟨_, _, _, _, o, _, _, e, _⟩ := x; exact Heap.lt_size e
  | set S n => obtain ⟨o, _, _, _, e, _⟩ := x; exact Heap.lt_size e
  | ins C dx fs => obtain ⟨_, _, _, e, _⟩ := x; exact Heap.lt_size e
  | own y => obtain ⟨_, e⟩ := x; exact Heap.lt_size e
  | xd fs => obtain ⟨_, ⟨_, _, _, e, _⟩, _⟩ := x; exact Heap.lt_size e
  | rng lo hi => obtain ⟨_, _, _, e⟩ := x; exact Heap.lt_size e
  | frz ob u => obtain ⟨e, _⟩ := x; exact Heap.lt_size e
  | tbl ps => exact Heap.lt_size (show h.get? a = some _ from x)
  | met f y => exact Heap.lt_size (show h.get? a = some _ from x)
  | ext φ => obtain ⟨_, ⟨_, e⟩, _⟩ := x; exact Heap.lt_size e
theorem Paired.mapP {α β : Type} {F G : α → β → Prop} : ∀ {l₁ : List α} {l₂ : List β}, Paired F l₁ l₂ → (∀ a b, F a b → G a b) → Paired G l₁ l₂
  | _, _, .nil, _ => .nil
  | _, _, .cons r t, f => .cons (f _ _ r) (Paired.mapP t f)
/-- what an object's description leans on: its own object, its own dict, the tuples -/
theorem ObjOk.stay (x : ObjOk P w H h a o) (k : ∀ b u, (b = a ∨ H b = some (.own a)) → h.get? b = some u → h'.get? b = some u)
    (ho : ∀ b, H b = some (.own a) → H' b = some (.own a)) (ht : ∀ b xs, H b = some (.tup xs) → H' b = some (.tup xs)) : ObjOk P w H' h' a o := by
  induction o with
  | lst xs => obtain ⟨z, its, n, r, e⟩ := x; exact ⟨z, its, n, r, k _ _ (.inl rfl) e⟩
  | tup xs => obtain ⟨z, its, r, ob, e, c⟩ := x; exact ⟨z, its, r, ob, k _ _ (.inl rfl) e, c⟩
  | dK kvs => obtain ⟨z, y, vs, r, ob, es, ep, e, c⟩ := x; exact ⟨z, y, vs, r, ob, es, ep, k _ _ (.inl rfl) e, c⟩
  | dT kvs =>
    obtain ⟨z, y, xs, r, ob, es, ep, e, c⟩ := x
    exact ⟨z, y, xs, Paired.mapP r fun p q z => ⟨z.1, ht _ _ z.2.1, z.2.2⟩, ob, es, ep, k _ _ (.inl rfl) e, c⟩
  | set S n => obtain ⟨ob, es, ep, t, e, c⟩ := x; exact ⟨ob, es, ep, t, k _ _ (.inl rfl) e, c⟩
  | ins C dx fs =>
    obtain ⟨d, z, ne, e, mA, ⟨od, es, ep, e2, c⟩, r⟩ := x
    exact ⟨ho _ d, z, ne, k _ _ (.inl rfl) e, mA, ⟨od, es, ep, k _ _ (.inr d) e2, c⟩, r⟩
  | own y => obtain ⟨ob, e⟩ := x; exact ⟨ob, k _ _ (.inl rfl) e⟩
  | xd fs => obtain ⟨mA, ⟨od, es, ep, e, c⟩, r⟩ := x; exact ⟨mA, ⟨od, es, ep, k _ _ (.inl rfl) e, c⟩, r⟩
  | rng lo hi => obtain ⟨t, u, v, e⟩ := x; exact ⟨t, u, v, k _ _ (.inl rfl) e⟩
  | frz ob u ih => obtain ⟨e, q⟩ := x; exact ⟨k _ _ (.inl rfl) e, ih q⟩
  | tbl ps =>
    have e : h.get? a = some { cls := .none, data := .fields ps } := x
    show h'.get? a = some { cls := .none, data := .fields ps }
    exact k a _ (.inl rfl) e
  | met f y =>
    have e : h.get? a = some (PySem.W.methodObj (.ref f) (.ref y)) := x
    show h'.get? a = some (PySem.W.methodObj (.ref f) (.ref y))
    exact k a _ (.inl rfl) e
  | ext φ => obtain ⟨p, ⟨o, e⟩, st⟩ := x; exact ⟨st _ _ p fun o q => k _ _ (.inl rfl) q, ⟨o, k _ _ (.inl rfl) e⟩, st⟩
theorem HOk.lt (x : HOk P w H h) (e : H a = some o) : a < h.objs.size := (x a o e).lt
theorem HOk.fresh (x : HOk P w H h) (e : h.objs.size ≤ a) : H a = none := by
  cases q : H a with
  | none => rfl
  | some u => exact absurd (Nat.lt_of_lt_of_le (x.lt q) e) (Nat.lt_irrefl _)
/-- every object of the heap is kept -/
theorem HOk.kept (x : HOk P w H h) (k : ∀ b u, h.get? b = some u → h'.get? b = some u) : HOk P w H h' := fun a o e =>
  (x a o e).stay (fun b u _ q => k b u q) (fun _ q => q) fun _ _ q => q
/-- a new object is laid and tracked -/
theorem HOk.laid (x : HOk P w H h) (k : ∀ b u, h.get? b = some u → h'.get? b = some u) (hp : h.objs.size ≤ a) (new : ObjOk P w (upd H a o) h' a o) : HOk P w (upd H a o) h' := fun b u e => by
  have hn := x.fresh hp
  by_cases hb : b = a
  · subst hb; rw [upd_same] at e; cases e; exact new
  · rw [upd_ne hb] at e
    exact (x b u e).stay (fun c v _ q => k c v q) (fun c q => by rw [upd_ne (ne_of_none q hn)]; exact q) fun c xs q => by rw [upd_ne (ne_of_none q hn)]; exact q
end

/-- what may be read as u: it is u, or a known u -/
def Rd (H : Hp) (a : Addr) (u : HO) : Prop := H a = some u ∨ ∃ o, H a = some (.frz o u)
theorem Rd.ok {P : Program} {w : World} {H : Hp} {h : Heap} {a : Addr} {u : HO} (r : Rd H a u) (x : HOk P w H h) : ObjOk P w H h a u := by
  rcases r with r | ⟨o, r⟩
  · exact x a u r
  · obtain ⟨_, q⟩ := x a _ r
    exact q
/-- what may be written -/
def Mut : Option HO → Prop
  | some (.lst _) => True
  | some (.dK _) => True
  | some (.dT _) => True
  | some (.set _ _) => True
  | some (.ins _ _ _) => True
  | some (.ext _) => True
  | _ => False
section
variable {P : Program} {w : World} {H : Hp} {h h' : Heap} {x e : Addr} {o' : HO}
/-- the object at e is changed: x itself, or the dict of the instance x -/
theorem HOk.write (ok : HOk P w H h) (mu : Mut (H x)) (he : e = x ∨ H e = some (.own x)) (k : ∀ b u, b ≠ e → h.get? b = some u → h'.get? b = some u) (heo : ∃ u, h'.get? e = some u)
    (new : ObjOk P w (upd H x o') h' x o') : HOk P w (upd H x o') h' := fun b u q => by
  have nown : ∀ c y, H c = some (.own y) → c ≠ x := fun c y r z => by subst z; rw [r] at mu; exact mu
  have ntup : ∀ c xs, H c = some (.tup xs) → c ≠ x := fun c xs r z => by subst z; rw [r] at mu; exact mu
  by_cases hb : b = x
  · subst hb; rw [upd_same] at q; cases q; exact new
  · rw [upd_ne hb] at q
    by_cases hbe : b = e
    · have q' : H b = some (.own x) := by
        rcases he with z | z
        · exact absurd (hbe.trans z) hb
        · rw [hbe]; exact z
      rw [q] at q'; cases q'
      obtain ⟨v, hv⟩ := heo
      exact ⟨v, by rw [hbe]; exact hv⟩
    · refine (ok b u q).stay (fun c v hc r => k c v ?_ r) (fun c r => by rw [upd_ne (nown c b r)]; exact r) fun c xs r => by rw [upd_ne (ntup c xs r)]; exact r
      rcases hc with rfl | hc
      · exact hbe
      · rintro rfl
        rcases he with z | z
        · exact nown c b hc z
        · rw [hc] at z; cases z; exact hb rfl
end

/-! ### kept unless tracked; of the frames at fs (the callers') the slots may change (an exception that passes writes there); of the records at ex (iterators) nothing is said -/
structure Un (fs ex : List Addr) (H H' : Hp) (h h' : Heap) : Prop where
  keep : ∀ b o, h.get? b = some o → H b = none → b ∉ fs → b ∉ ex → h'.get? b = some o
  slot : ∀ b o, h.get? b = some o → H b = none → b ∈ fs → b ∉ ex → ∃ sl, h'.get? b = some { o with slots := sl }
  free : ∀ b o, h.get? b = some o → H b = none → b ∉ ex → H' b = none
  there : ∀ b o, h.get? b = some o → b ∉ ex → ∃ o', h'.get? b = some o'
  tups : ∀ b xs, H b = some (.tup xs) → H' b = some (.tup xs)
  frzs : ∀ b o u, H b = some (.frz o u) → H' b = some (.frz o u)
  tbls : ∀ b ps, H b = some (.tbl ps) → ∃ more, H' b = some (.tbl (ps ++ more))
section
variable {fs fs' ex ex' : List Addr} {H H1 H2 : Hp} {h h1 h2 h' : Heap} {a x e : Addr} {o : HO}
theorem Un.any (u : Un fs ex H H1 h h1) {b : Addr} {ob : Obj} (q : h.get? b = some ob) (n : H b = none) (hx : b ∉ ex) : ∃ sl, h1.get? b = some { ob with slots := sl } := by
  by_cases hb : b ∈ fs
  · exact u.slot b ob q n hb hx
  · exact ⟨ob.slots, u.keep b ob q n hb hx⟩
theorem Un.kept (k : ∀ b u, h.get? b = some u → h'.get? b = some u) : Un fs ex H H h h' :=
  ⟨fun b ob q _ _ _ => k b ob q, fun b ob q _ _ _ => ⟨ob.slots, k b ob q⟩, fun _ _ _ n _ => n, fun b ob q _ => ⟨ob, k b ob q⟩, fun _ _ q => q, fun _ _ _ q => q, fun _ ps q => ⟨#[], by rw [q]; simp⟩⟩
theorem Un.refl : Un fs ex H H h h := Un.kept fun _ _ q => q
theorem Un.laid (k : ∀ b u, h.get? b = some u → h'.get? b = some u) (hp : h.objs.size ≤ a) (hn : H a = none) : Un fs ex H (upd H a o) h h' where
  keep := fun b u q _ _ _ => k b u q
  slot := fun b u q _ _ _ => ⟨u.slots, k b u q⟩
  free := fun b u q n _ => by rw [upd_ne (Nat.ne_of_lt (Nat.lt_of_lt_of_le (Heap.lt_size q) hp))]; exact n
  there := fun b u q _ => ⟨u, k b u q⟩
  tups := fun b xs q => by rw [upd_ne (ne_of_none q hn)]; exact q
  frzs := fun b u xs q => by rw [upd_ne (ne_of_none q hn)]; exact q
  tbls := fun b ps q => ⟨#[], by rw [upd_ne (ne_of_none q hn), q]; simp⟩
theorem Un.write (mu : Mut (H x)) (he : e = x ∨ H e = some (.own x)) (k : ∀ b u, b ≠ e → h.get? b = some u → h'.get? b = some u) (heo : ∃ u, h'.get? e = some u) : Un fs ex H (upd H x o) h h' := by
  have hx : ∀ b, H b = none → b ≠ x := fun b n z => by subst z; rw [n] at mu; exact mu
  have hb : ∀ b, H b = none → b ≠ e := fun b n z => by
    subst z
    rcases he with r | r
    · exact hx b n r
    · rw [n] at r; cases r
  have hm : ∀ b u, H b = some u → ¬ Mut (some u) → b ≠ x := fun b u q nm z => by subst z; rw [q] at mu; exact nm mu
  refine ⟨fun b u q n _ _ => k b u (hb b n) q, fun b u q n _ _ => ⟨u.slots, k b u (hb b n) q⟩, fun b u q n _ => by rw [upd_ne (hx b n)]; exact n, fun b u q _ => ?_,
    fun b xs q => by rw [upd_ne (hm b _ q fun z => z)]; exact q, fun b u xs q => by rw [upd_ne (hm b _ q fun z => z)]; exact q, fun b ps q => ⟨#[], by rw [upd_ne (hm b _ q fun z => z), q]; simp⟩⟩
  by_cases hbe : b = e
  · subst hbe; exact heo
  · exact ⟨u, k b u hbe q⟩
end

/-! ### the heap without what is tracked -/
def trk (h : Heap) (H : Hp) : List Addr := (List.range h.objs.size).filter fun a => (H a).isSome
def hidT (h : Heap) (H : Hp) : Heap := PySem.W.hideAll h (trk h H)
theorem hidT_size (h : Heap) (H : Hp) : (hidT h H).objs.size = h.objs.size := PySem.W.hideAll_size _ _
theorem hidT_get {h : Heap} {H : Hp} {b : Addr} {o : Obj} (e : h.get? b = some o) (n : H b = none) : (hidT h H).get? b = some o :=
  PySem.W.hideAll_get _ e fun hm => by
    have q : (H b).isSome = true := (List.mem_filter.mp hm).2
    rw [n] at q; simp at q
theorem of_hidT {h : Heap} {H : Hp} {b : Addr} {o : Obj} (e : (hidT h H).get? b = some o) : h.get? b = some o ∧ H b = none := by
  have e' : h.get? b = some o := PySem.W.of_hideAll (trk h H) e
  refine ⟨e', ?_⟩
  cases q : H b with
  | none => rfl
  | some x =>
    have hm : b ∈ trk h H := List.mem_filter.mpr ⟨List.mem_range.mpr (Heap.lt_size e'), by simp [q]⟩
    have z : (hidT h H).get? b = none := PySem.W.hideAll_none (trk h H) hm
    rw [z] at e; cases e

/-! ### OpenK's ledger, filled with every new object but one -/
end L2

namespace L2
open PySem PySem.Spec PyProof.Rows

/-- the module's facts, over the base: the heap at the law's entry without what is tracked there -/
structure Mod (K : PySem.W.Frag) (mg : Str → Option Value) (base : Heap) : Prop where
  kin : K.In base
  glob : base.Ns mainGlobals mg
  blt : ∃ mb, base.Ns builtinsNs mb ∧ ∀ x : Str, x ≠ "__name__" → mb x = bootBuiltins x
  nolimit : base.NoLimit

/-- the context: a def's body (or a comprehension's block) running. base: fixed through the whole law; s₀, H₀: the entry; outer: the frames whose slots others may change (a def's callers); stack: all frames that run;
   ex: iterators that were made ahead of the entry and are walked here (a comprehension's); fn: the names whose cells were made at the entry (a def: all; a comprehension's block: its own); calm: not within an except suite; pn: pins that every state bears; xe: what is wanted of an exception that leaves the code -/
structure Cx where
  prog : Program
  w : World
  K : PySem.W.Frag
  mg : Str → Option Value
  base : Heap
  A : Around
  N : List Str
  s₀ : Shared
  H₀ : Hp
  env : Env
  outer : List Env
  stack : List Env
  ex : List Addr
  fn : Str → Bool
  calm : Bool
  pn : List (Addr × Obj)
  xe : Value → Shared → Prop
/-- the callers' frames -/
def frs (l : List Env) : List Addr := l.filterMap (·.frame)
abbrev Cx.fs (X : Cx) : List Addr := frs X.outer

def Vis (sc : Scope) (x : Str) : Prop := sc.names.lookup x = some .local ∨ sc.names.lookup x = some .cell ∨ sc.names.lookup x = some .free
def Loc (sc : Scope) (x : Str) : Prop := sc.names.lookup x = some .local ∨ sc.names.lookup x = some .cell
def Look (env : Env) (h : Heap) (m : Str → Option Value) (x : Str) (u : Value) : Prop :=
  (env.kindOf x = some .local ∧ m x = some u) ∨ ((env.kindOf x = some .cell ∨ env.kindOf x = some .free) ∧ ∃ c, env.cells.lookup x = some c ∧ h.IsCell c (some u))

structure Cx.Ok (X : Cx) : Prop where
  mod : Mod X.K X.mg X.base
  kind : X.env.scope.kind = .function
  glob : X.env.globals = mainGlobals
  blt : X.env.builtins = builtinsNs
  above : X.s₀.heap.objs.size ≤ X.env.locals
  inj : ∀ x y c, X.env.cells.lookup x = some c → X.env.cells.lookup y = some c → x = y
  has : ∀ x, (X.env.kindOf x = some .cell ∨ X.env.kindOf x = some .free) → ∃ c, X.env.cells.lookup x = some c
  cab : ∀ x c, X.fn x = true → X.env.cells.lookup x = some c → X.s₀.heap.objs.size ≤ c
  hd : X.calm = true → X.A.handled = none
  frames : X.A.frames = some X.stack
  stk : X.stack = X.outer ∨ (X.stack = X.env :: X.outer ∧ X.env.frame = some X.env.locals)
  exf : ∀ b ∈ X.ex, b ≠ X.env.locals ∧ ∀ x c, X.env.cells.lookup x = some c → c ≠ b
  bs : ∀ b o, X.base.get? b = some o → X.s₀.heap.get? b = some o ∧ X.H₀ b = none
  bsz : X.base.objs.size ≤ X.s₀.heap.objs.size
  noex : ∀ b o, X.base.get? b = some o → b ∉ X.ex
  exfs : ∀ b ∈ X.ex, b ∉ X.fs
  funs : X.s₀.heap.FunFrames X.base X.outer
  frf : ∀ b ∈ X.fs, X.H₀ b = none

structure Inv (X : Cx) (pins : List (Addr × Obj)) (σ : List (Option V)) (H : Hp) (s : Shared) : Prop where
  ok : X.Ok
  os : s.os = X.s₀.os
  bare : AllBare s.gens
  base : Un X.fs X.ex X.H₀ H X.s₀.heap s.heap
  loc : ∃ m, s.heap.Ns X.env.locals m ∧ ∀ (i : Nat) (x : Str) (v : V), X.N[i]? = some x → σ[i]? = some (some v) → Vis X.env.scope x → ∃ u, RelV v u ∧ Look X.env s.heap m x u
  cell : ∀ x c, X.env.cells.lookup x = some c → ∃ v, s.heap.IsCell c v
  free : H X.env.locals = none
  freeC : ∀ x c, X.env.cells.lookup x = some c → H c = none
  pin : ∀ p ∈ X.pn ++ pins, s.heap.get? p.1 = some p.2 ∧ H p.1 = none ∧ p.1 ≠ X.env.locals ∧ p.1 ∉ X.fs ∧ ∀ v, p.2.data ≠ .cell v
  hok : HOk X.prog X.w H s.heap
  len : σ.length = X.N.length

section
variable {X : Cx} {pins : List (Addr × Obj)} {σ : List (Option V)} {H H' : Hp} {s : Shared} {h' : Heap}

theorem Cx.Ok.nofr (ok : X.Ok) {b : Addr} {o : Obj} (e : X.base.get? b = some o) : b ∉ X.fs := fun hb => by
  have := (ok.funs.mem hb).1
  rw [e] at this; cases this
theorem Inv.bs (I : Inv X pins σ H s) : ∀ b o, X.base.get? b = some o → s.heap.get? b = some o ∧ H b = none := fun b o e =>
  ⟨I.base.keep b o (I.ok.bs b o e).1 (I.ok.bs b o e).2 (I.ok.nofr e) (I.ok.noex b o e), I.base.free b o (I.ok.bs b o e).1 (I.ok.bs b o e).2 (I.ok.noex b o e)⟩
theorem Inv.bk (I : Inv X pins σ H s) : ∀ b o, X.base.get? b = some o → s.heap.get? b = some o := fun b o e => (I.bs b o e).1
theorem Inv.mod (I : Inv X pins σ H s) : Mod X.K X.mg X.base := I.ok.mod
theorem Inv.kIn (I : Inv X pins σ H s) : X.K.In s.heap := I.ok.mod.kin.keeps I.bk
theorem Inv.lt (I : Inv X pins σ H s) : X.env.locals < s.heap.objs.size := let ⟨_, hn, _⟩ := I.loc; hn.lt
theorem Inv.sz (I : Inv X pins σ H s) : X.s₀.heap.objs.size ≤ s.heap.objs.size := Nat.le_trans I.ok.above (Nat.le_of_lt I.lt)
theorem Inv.nofs (I : Inv X pins σ H s) {a : Addr} (h : s.heap.objs.size ≤ a) : a ∉ X.fs := fun hb => by
  obtain ⟨_, o, ho, _⟩ := I.ok.funs.mem hb
  exact absurd (Nat.lt_of_lt_of_le (Heap.lt_size ho) (Nat.le_trans I.sz h)) (Nat.lt_irrefl _)
theorem Inv.cne (I : Inv X pins σ H s) : ∀ x c, X.env.cells.lookup x = some c → c ≠ X.env.locals := fun x c e z => by
  obtain ⟨v, o, ho, hd⟩ := I.cell x c e
  obtain ⟨m, ⟨o', es, ep, ho', hd', _⟩, _⟩ := I.loc
  rw [z, ho'] at ho; cases ho; rw [hd'] at hd; cases hd
theorem Inv.funs (I : Inv X pins σ H s) : s.heap.FunFrames X.base X.outer := by
  have all : ∀ (l : List Env), (∀ b ∈ frs l, b ∈ X.fs) → X.s₀.heap.FunFrames X.base l → s.heap.FunFrames X.base l := by
    intro l
    induction l with
    | nil => intro _ _; trivial
    | cons env r ih =>
      intro hs hl
      obtain ⟨hk, ⟨L, o, hf, hn, ho, hd⟩, hr⟩ := hl
      have hL : L ∈ X.fs := hs L (by unfold frs; rw [List.filterMap_cons, hf]; exact List.mem_cons_self)
      obtain ⟨sl, e⟩ := I.base.slot L o ho (I.ok.frf L hL) hL fun z => I.ok.exfs L z hL
      exact ⟨hk, ⟨L, _, hf, hn, e, hd⟩, ih (fun b hb => hs b (by unfold frs; rw [List.filterMap_cons, hf]; exact List.mem_cons_of_mem _ hb)) hr⟩
  exact all X.outer (fun _ hb => hb) I.ok.funs

/-- the frames that run, for a call -/
theorem Inv.stack (I : Inv X pins σ H s) : s.heap.FunFrames X.base X.stack := by
  rcases I.ok.stk with e | ⟨e, hf⟩
  · rw [e]; exact I.funs
  · rw [e]
    obtain ⟨m, hn, _⟩ := I.loc
    refine .cons (by rw [I.ok.kind]; decide) hf hn ?_ I.funs
    exact Heap.get?_none_of_le (Nat.le_trans I.ok.bsz I.ok.above)
theorem Inv.stkSub (I : Inv X pins σ H s) : ∀ b ∈ frs X.stack, b ∈ X.env.locals :: X.fs := fun b hb => by
  rcases I.ok.stk with e | ⟨e, hf⟩
  · rw [e] at hb; exact List.mem_cons_of_mem _ hb
  · rw [e] at hb
    unfold frs at hb
    rw [List.filterMap_cons, hf] at hb
    exact hb
theorem Inv.stkFree (I : Inv X pins σ H s) : ∀ b ∈ frs X.stack, H b = none := fun b hb => by
  rcases List.mem_cons.mp (I.stkSub b hb) with e | hb
  · rw [e]; exact I.free
  · obtain ⟨_, o, ho, _⟩ := I.ok.funs.mem hb
    exact I.base.free b o ho (I.ok.frf b hb) fun z => I.ok.exfs b z hb

/-- THE STEP: the untracked objects but the frame and the records at ch are kept (the callers' frames up to slots), the frame's map is kept, the new abstract heap is held -/
theorem Inv.step {g' : Array GenState} {t' : Nat} {d' : Drawn} {ch : List Addr} (I : Inv X pins σ H s)
    (hch : ∀ b ∈ ch, (b ∈ X.ex ∨ X.s₀.heap.objs.size ≤ b) ∧ b ≠ X.env.locals ∧ (∀ x c, X.env.cells.lookup x = some c → c ≠ b) ∧ ∀ p ∈ X.pn ++ pins, p.1 ≠ b)
    (keep : ∀ b o, b ≠ X.env.locals → b ∉ X.fs → b ∉ ch → s.heap.get? b = some o → H b = none → h'.get? b = some o)
    (slot : ∀ b o, b ≠ X.env.locals → b ∈ X.fs → b ∉ ch → s.heap.get? b = some o → H b = none → ∃ sl, h'.get? b = some { o with slots := sl }) (free : ∀ b o, b ∉ ch → s.heap.get? b = some o → H b = none → H' b = none)
    (there : ∀ b o, b ∉ ch → s.heap.get? b = some o → ∃ o', h'.get? b = some o')
    (tups : ∀ b xs, H b = some (.tup xs) → H' b = some (.tup xs)) (frzs : ∀ b o u, H b = some (.frz o u) → H' b = some (.frz o u)) (tbls : ∀ b ps, H b = some (.tbl ps) → ∃ more, H' b = some (.tbl (ps ++ more)))
    (ns : ∀ m, s.heap.Ns X.env.locals m → h'.Ns X.env.locals m) (hok : HOk X.prog X.w H' h') (hg : AllBare g') :
    Inv X pins σ H' { s with heap := h', gens := g', drawn := d', toks := t' } := by
  have neL : ∀ b o, X.s₀.heap.get? b = some o → b ≠ X.env.locals := fun b o e => Nat.ne_of_lt (Nat.lt_of_lt_of_le (Heap.lt_size e) I.ok.above)
  have neC : ∀ b o, X.s₀.heap.get? b = some o → b ∉ X.ex → b ∉ ch := fun b o e hx hb => by
    rcases (hch b hb).1 with z | z
    · exact hx z
    · exact absurd (Nat.lt_of_lt_of_le (Heap.lt_size e) z) (Nat.lt_irrefl _)
  have cellK : ∀ x c, X.env.cells.lookup x = some c → ∀ v, s.heap.IsCell c v → h'.IsCell c v := fun x c e v ⟨o, ho, hd⟩ => by
    have nch : c ∉ ch := fun z => (hch c z).2.2.1 x c e rfl
    by_cases hc : c ∈ X.fs
    · obtain ⟨sl, q⟩ := slot c o (I.cne x c e) hc nch ho (I.freeC x c e)
      exact ⟨_, q, hd⟩
    · exact ⟨o, keep c o (I.cne x c e) hc nch ho (I.freeC x c e), hd⟩
  refine ⟨I.ok, I.os, hg, ⟨fun b o e n hb hx => ?_, fun b o e n hb hx => ?_, fun b o e n hx => ?_, fun b o e hx => ?_, fun b xs e => tups b xs (I.base.tups b xs e), fun b o xs e => frzs b o xs (I.base.frzs b o xs e), fun b ps e => ?_⟩, ?_, fun x c e => ?_, ?_, fun x c e => ?_, fun p hp => ?_, hok, I.len⟩
  · exact keep b o (neL b o e) hb (neC b o e hx) (I.base.keep b o e n hb hx) (I.base.free b o e n hx)
  · obtain ⟨sl, e1⟩ := I.base.slot b o e n hb hx
    obtain ⟨sl', e2⟩ := slot b _ (neL b o e) hb (neC b o e hx) e1 (I.base.free b o e n hx)
    exact ⟨sl', e2⟩
  · obtain ⟨o', e1⟩ := I.base.there b o e hx
    exact free b o' (neC b o e hx) e1 (I.base.free b o e n hx)
  · obtain ⟨o', e1⟩ := I.base.there b o e hx
    exact there b o' (neC b o e hx) e1
  · obtain ⟨m1, e1⟩ := I.base.tbls b ps e
    obtain ⟨m2, e2⟩ := tbls b _ e1
    exact ⟨m1 ++ m2, by rw [e2, Array.append_assoc]⟩
  · obtain ⟨m, hn, hl⟩ := I.loc
    refine ⟨m, ns m hn, fun i x v e1 e2 e3 => ?_⟩
    obtain ⟨u, r, l⟩ := hl i x v e1 e2 e3
    refine ⟨u, r, ?_⟩
    rcases l with l | ⟨k, c, e, z⟩
    · exact .inl l
    · exact .inr ⟨k, c, e, cellK x c e _ z⟩
  · obtain ⟨v, z⟩ := I.cell x c e
    exact ⟨v, cellK x c e v z⟩
  · obtain ⟨m, ⟨o, _, _, ho, _⟩, _⟩ := I.loc
    exact free _ o (fun z => (hch _ z).2.1 rfl) ho I.free
  · obtain ⟨v, o, ho, hd⟩ := I.cell x c e
    exact free c o (fun z => (hch c z).2.2.1 x c e rfl) ho (I.freeC x c e)
  · obtain ⟨e, n, ne, nf, d⟩ := I.pin p hp
    have nch : p.1 ∉ ch := fun z => (hch p.1 z).2.2.2 p hp rfl
    exact ⟨keep p.1 p.2 ne nf nch e n, free p.1 p.2 nch e n, ne, nf, d⟩
/-- .. where the frame's own object is kept too -/
theorem Inv.un {t' : Nat} (I : Inv X pins σ H s) (u : Un X.fs [] H H' s.heap h') (hok : HOk X.prog X.w H' h') : Inv X pins σ H' { s with heap := h', toks := t' } := by
  obtain ⟨m, ⟨o, es, ep, ho, r⟩, _⟩ := id I.loc
  obtain ⟨sl, hL⟩ := u.any ho I.free (by simp)
  exact I.step (g' := s.gens) (d' := s.drawn) (ch := []) (fun _ z => nomatch z) (fun b o _ hb _ e n => u.keep b o e n hb (by simp)) (fun b o _ hb _ e n => u.slot b o e n hb (by simp)) (fun b o _ e n => u.free b o e n (by simp)) (fun b o _ e => u.there b o e (by simp)) u.tups u.frzs u.tbls (fun m' hm => by
    obtain ⟨o', es', ep', ho', r'⟩ := hm
    rw [ho] at ho'; cases ho'
    exact ⟨_, es', ep', hL, r'⟩) hok I.bare
/-- behind a call (or a comprehension's block): the slots of this frame may have changed too, the records at ch may have turned -/
theorem Inv.call {g' : Array GenState} {t' : Nat} {d' : Drawn} {ch : List Addr} (I : Inv X pins σ H s) (u : Un (frs X.stack) ch H H' s.heap h') (hok : HOk X.prog X.w H' h') (hg : AllBare g')
    (hch : ∀ b ∈ ch, (b ∈ X.ex ∨ X.s₀.heap.objs.size ≤ b) ∧ b ≠ X.env.locals ∧ (∀ x c, X.env.cells.lookup x = some c → c ≠ b) ∧ ∀ p ∈ X.pn ++ pins, p.1 ≠ b) :
    Inv X pins σ H' { s with heap := h', gens := g', drawn := d', toks := t' } := by
  obtain ⟨m, ⟨o, es, ep, ho, r⟩, _⟩ := id I.loc
  obtain ⟨sl, hL⟩ := u.any ho I.free fun z => (hch _ z).2.1 rfl
  exact I.step (ch := ch) hch (fun b o hL hb hc e n => u.keep b o e n (fun z => (List.mem_cons.mp (I.stkSub b z)).elim hL hb) hc) (fun b o _ _ hc e n => u.any e n hc) (fun b o hc e n => u.free b o e n hc) (fun b o hc e => u.there b o e hc) u.tups u.frzs u.tbls (fun m' hm => by
    obtain ⟨o', es', ep', ho', r'⟩ := hm
    rw [ho] at ho'; cases ho'
    exact ⟨_, es', ep', hL, r'⟩) hok hg
/-- an untracked record of ours (an iterator) has turned -/
theorem Inv.turned {t' : Nat} {it : Addr} (I : Inv X pins σ H s) (k : ∀ b o, b ≠ it → s.heap.get? b = some o → h'.get? b = some o) (hn : H it = none) (hL : it ≠ X.env.locals)
    (h1 : it ∈ X.ex ∨ X.s₀.heap.objs.size ≤ it) (h2 : ∀ x c, X.env.cells.lookup x = some c → c ≠ it) (h3 : ∀ p ∈ X.pn ++ pins, p.1 ≠ it) : Inv X pins σ H { s with heap := h', toks := t' } := by
  have nit : ∀ b u, H b = some u → b ≠ it := fun b u e z => by rw [z, hn] at e; cases e
  refine I.step (g' := s.gens) (d' := s.drawn) (ch := [it]) (fun b hb => ?_) (fun b o _ _ hc e _ => k b o (fun z => hc (by simp [z])) e) (fun b o _ _ hc e _ => ⟨o.slots, k b o (fun z => hc (by simp [z])) e⟩) (fun _ _ _ _ n => n)
    (fun b o hc e => ⟨o, k b o (fun z => hc (by simp [z])) e⟩) (fun _ _ e => e) (fun _ _ _ e => e) (fun b ps e => ⟨#[], by rw [e]; simp⟩) (fun m hm => ?_) (fun b u e => ?_) I.bare
  · have e : b = it := by simpa using hb
    subst e
    exact ⟨h1, hL, h2, h3⟩
  · obtain ⟨o, es, ep, ho, r⟩ := hm
    exact ⟨o, es, ep, k _ o (Ne.symm hL) ho, r⟩
  · refine (I.hok b u e).stay (fun c v hc q => k c v ?_ q) (fun _ q => q) fun _ _ q => q
    rcases hc with z | z
    · rw [z]; exact nit b u e
    · exact nit c _ z
theorem Inv.tok (I : Inv X pins σ H s) (t : Nat) : Inv X pins σ H { s with toks := t } := I.un (h' := s.heap) (t' := t) Un.refl I.hok
/-- all objects kept -/
theorem Inv.kept {t' : Nat} (I : Inv X pins σ H s) (k : ∀ b u, s.heap.get? b = some u → h'.get? b = some u) : Inv X pins σ H { s with heap := h', toks := t' } := I.un (Un.kept k) (I.hok.kept k)
/-- a new object laid and tracked -/
theorem Inv.laid {a : Addr} {o : HO} {t' : Nat} (I : Inv X pins σ H s) (k : ∀ b u, s.heap.get? b = some u → h'.get? b = some u) (hp : s.heap.objs.size ≤ a) (new : ObjOk X.prog X.w (upd H a o) h' a o) :
    Inv X pins σ (upd H a o) { s with heap := h', toks := t' } := I.un (Un.laid k hp (I.hok.fresh hp)) (I.hok.laid k hp new)
/-- an object written -/
theorem Inv.write {x e : Addr} {o : HO} {t' : Nat} (I : Inv X pins σ H s) (mu : Mut (H x)) (he : e = x ∨ H e = some (.own x)) (k : ∀ b u, b ≠ e → s.heap.get? b = some u → h'.get? b = some u) (heo : ∃ u, h'.get? e = some u)
    (new : ObjOk X.prog X.w (upd H x o) h' x o) : Inv X pins σ (upd H x o) { s with heap := h', toks := t' } := I.un (Un.write mu he k heo) (I.hok.write mu he k heo new)
theorem Inv.pins_of {pins' : List (Addr × Obj)} (I : Inv X pins σ H s) (h : ∀ p ∈ pins', s.heap.get? p.1 = some p.2 ∧ H p.1 = none ∧ p.1 ≠ X.env.locals ∧ p.1 ∉ X.fs ∧ ∀ v, p.2.data ≠ .cell v) : Inv X pins' σ H s :=
  ⟨I.ok, I.os, I.bare, I.base, I.loc, I.cell, I.free, I.freeC, fun p hp => (List.mem_append.mp hp).elim (fun z => I.pin p (List.mem_append_left _ z)) (h p), I.hok, I.len⟩

theorem nodup_ix {N : List Str} (hN : N.Nodup) {i j : Nat} {x : Str} (a : N[i]? = some x) (b : N[j]? = some x) : i = j := by
  obtain ⟨h1, e1⟩ := List.getElem?_eq_some_iff.mp a
  obtain ⟨h2, e2⟩ := List.getElem?_eq_some_iff.mp b
  exact (List.getElem_inj hN).mp (e1.trans e2.symm)

/-- a name is stored; what changed -/
theorem store_ok2 {M : Model} {A : Around} {E : Value → Shared → Prop} {i : Nat} {x : Str} {v : V} {u : Value} {Q : Unit → Shared → Prop} (I : Inv X pins σ H s) (hN : X.N.Nodup) (hi : X.N[i]? = some x) (hx : Loc X.env.scope x) (r : RelV v u)
    (h : ∀ s', Inv X pins (σ.set i (some v)) H s' → (∃ a, Heap.SameBut a s.heap s'.heap ∧ (a = X.env.locals ∨ X.env.cells.lookup x = some a)) → Q () s') (hf : X.fn x = true ∨ X.env.scope.names.lookup x = some .local := by first | exact .inl rfl | exact .inr rfl | assumption) : wpAny M A (storeName X.env x u) Q E s := by
  obtain ⟨m, hn, hl⟩ := id I.loc
  have hcls : (X.env.scope.kind == .class || (X.env.scope.kind == .module && X.env.locals != X.env.globals)) = false := by rw [I.ok.kind]; rfl
  have hiσ : i < σ.length := by rw [I.len]; exact (List.getElem?_eq_some_iff.mp hi).1
  have cne := I.cne
  have tracked : ∀ {a : Addr} {h' : Heap}, (∃ o, s.heap.get? a = some o ∧ H a = none) → Heap.SameBut a s.heap h' → HOk X.prog X.w H h' := fun {a h'} ha hs b ob e => by
    obtain ⟨_, _, hfree⟩ := ha
    refine (I.hok b ob e).stay (fun c w' hc q => (hs.2 c ?_).trans q) (fun _ q => q) fun _ _ q => q
    rintro rfl
    rcases hc with rfl | hc
    · rw [hfree] at e; cases e
    · rw [hfree] at hc; cases hc
  rcases hx with hk | hk
  · refine wpAny_storeName_local hk hn (fun h' hn' hs => ?_) hcls
    obtain ⟨oL, _, _, hoL, _⟩ := id hn
    refine h _ ⟨I.ok, I.os, I.bare, ⟨fun b o e n hb hx => ?_, fun b o e n hb hx => ?_, I.base.free, fun b o e hx => ?_, I.base.tups, I.base.frzs, I.base.tbls⟩, ⟨_, hn', fun j y v' e1 e2 e3 => ?_⟩, fun y c e => ?_, I.free, I.freeC, fun p hp => ?_, tracked ⟨oL, hoL, I.free⟩ hs, by simpa using I.len⟩ ⟨_, hs, .inl rfl⟩
    · exact (hs.2 b (Nat.ne_of_lt (Nat.lt_of_lt_of_le (Heap.lt_size e) I.ok.above))).trans (I.base.keep b o e n hb hx)
    · obtain ⟨sl, e1⟩ := I.base.slot b o e n hb hx
      exact ⟨sl, (hs.2 b (Nat.ne_of_lt (Nat.lt_of_lt_of_le (Heap.lt_size e) I.ok.above))).trans e1⟩
    · obtain ⟨o', e1⟩ := I.base.there b o e hx
      exact ⟨o', (hs.2 b (Nat.ne_of_lt (Nat.lt_of_lt_of_le (Heap.lt_size e) I.ok.above))).trans e1⟩
    · by_cases hj : j = i
      · subst hj
        rw [hi] at e1; cases e1
        rw [List.getElem?_set_self hiσ] at e2
        cases e2
        exact ⟨u, r, .inl ⟨hk, by simp⟩⟩
      · rw [List.getElem?_set_ne (Ne.symm hj)] at e2
        obtain ⟨u', r', q⟩ := hl j y v' e1 e2 e3
        refine ⟨u', r', ?_⟩
        rcases q with ⟨k, e⟩ | ⟨k, c, e, z⟩
        · refine .inl ⟨k, ?_⟩
          have : y ≠ x := fun e => hj (nodup_ix hN e1 (e ▸ hi))
          simp [this, e]
        · exact .inr ⟨k, c, e, z.sameBut hs (cne y c e)⟩
    · obtain ⟨w', z⟩ := I.cell y c e
      exact ⟨w', z.sameBut hs (cne y c e)⟩
    · obtain ⟨e, n, ne, nf, d⟩ := I.pin p hp
      exact ⟨(hs.2 p.1 ne).trans e, n, ne, nf, d⟩
  · have hfn : X.fn x = true := by
      rcases hf with z | z
      · exact z
      · rw [z] at hk; cases hk
    obtain ⟨c, hc⟩ := I.ok.has x (.inl hk)
    obtain ⟨w', z⟩ := I.cell x c hc
    refine wpAny_storeName_cell I.ok.kind hk hc z (fun h' hc' hs => ?_)
    obtain ⟨oc, hoc, hocd⟩ := id z
    refine h { s with heap := h' } ⟨I.ok, I.os, I.bare, ⟨fun b o e n hb hx => ?_, fun b o e n hb hx => ?_, I.base.free, fun b o e hx => ?_, I.base.tups, I.base.frzs, I.base.tbls⟩, ⟨m, hn.sameBut hs (Ne.symm (cne x c hc)), fun j y v' e1 e2 e3 => ?_⟩, fun y c' e => ?_, I.free, I.freeC, fun p hp => ?_, tracked ⟨oc, hoc, I.freeC x c hc⟩ hs, by simpa using I.len⟩ ⟨c, hs, .inr hc⟩
    · exact (hs.2 b (Nat.ne_of_lt (Nat.lt_of_lt_of_le (Heap.lt_size e) (I.ok.cab x c hfn hc)))).trans (I.base.keep b o e n hb hx)
    · obtain ⟨sl, e1⟩ := I.base.slot b o e n hb hx
      exact ⟨sl, (hs.2 b (Nat.ne_of_lt (Nat.lt_of_lt_of_le (Heap.lt_size e) (I.ok.cab x c hfn hc)))).trans e1⟩
    · obtain ⟨o', e1⟩ := I.base.there b o e hx
      exact ⟨o', (hs.2 b (Nat.ne_of_lt (Nat.lt_of_lt_of_le (Heap.lt_size e) (I.ok.cab x c hfn hc)))).trans e1⟩
    · by_cases hj : j = i
      · subst hj
        rw [hi] at e1; cases e1
        rw [List.getElem?_set_self hiσ] at e2
        cases e2
        exact ⟨u, r, .inr ⟨.inl hk, c, hc, hc'⟩⟩
      · rw [List.getElem?_set_ne (Ne.symm hj)] at e2
        obtain ⟨u', r', q⟩ := hl j y v' e1 e2 e3
        refine ⟨u', r', ?_⟩
        rcases q with q | ⟨k, c', e, z'⟩
        · exact .inl q
        · refine .inr ⟨k, c', e, z'.sameBut hs ?_⟩
          rintro rfl
          exact hj (nodup_ix hN e1 (I.ok.inj _ _ _ e hc ▸ hi))
    · by_cases hcc : c' = c
      · subst hcc; exact ⟨_, hc'⟩
      · obtain ⟨w2, z2⟩ := I.cell y c' e
        exact ⟨w2, z2.sameBut hs hcc⟩
    · obtain ⟨e, n, ne, nf, d⟩ := I.pin p hp
      refine ⟨(hs.2 p.1 ?_).trans e, n, ne, nf, d⟩
      intro q
      rw [q, hoc] at e
      have q' : oc = p.2 := Option.some.inj e
      exact d w' (by rw [← q']; exact hocd)
theorem store_ok {M : Model} {A : Around} {E : Value → Shared → Prop} {i : Nat} {x : Str} {v : V} {u : Value} {Q : Unit → Shared → Prop} (I : Inv X pins σ H s) (hN : X.N.Nodup) (hi : X.N[i]? = some x) (hx : Loc X.env.scope x) (r : RelV v u)
    (h : ∀ s', Inv X pins (σ.set i (some v)) H s' → Q () s') (hf : X.fn x = true ∨ X.env.scope.names.lookup x = some .local := by first | exact .inl rfl | exact .inr rfl | assumption) : wpAny M A (storeName X.env x u) Q E s :=
  store_ok2 I hN hi hx r (fun s' I' _ => h s' I') hf
/-- behind a call or a block, the state as it is -/
theorem Inv.call' {s' : Shared} {ch : List Addr} (I : Inv X pins σ H s) (ho : s'.os = s.os) (u : Un (frs X.stack) ch H H' s.heap s'.heap) (hok : HOk X.prog X.w H' s'.heap) (hg : AllBare s'.gens)
    (hch : ∀ b ∈ ch, (b ∈ X.ex ∨ X.s₀.heap.objs.size ≤ b) ∧ b ≠ X.env.locals ∧ (∀ x c, X.env.cells.lookup x = some c → c ≠ b) ∧ ∀ p ∈ X.pn ++ pins, p.1 ≠ b) : Inv X pins σ H' s' := by
  obtain ⟨h', g', d', t', o'⟩ := s'
  have e : o' = s.os := ho
  subst e
  exact I.call (g' := g') (t' := t') (d' := d') u hok hg hch
end

/-! ### the judgements -/
/-- an exception: its class, its own dict's address (where it has one), the abstract heap behind it -/
abbrev XK := Value → Option Addr → Hp → Prop
abbrev St := List (Option V)
abbrev VK := V → Hp → Prop
/-- an expression's reading; a test's; an argument list's -/
abbrev TE := St → Hp → VK → Prop
abbrev TT := St → Hp → (Bool → Hp → Prop) → Prop
abbrev TA := St → Hp → (List V → Hp → Prop) → Prop
/-- what is wanted behind a statement -/
structure Ends where
  nx : St → Hp → Prop
  rt : VK
  bk : St → Hp → Prop := fun _ _ => False
  ct : St → Hp → Prop := fun _ _ => False
abbrev TS := Ends → St → Hp → Prop

def EP (X : Cx) (pins : List (Addr × Obj)) (σ : St) (Q : VK) (u : Value) (s' : Shared) : Prop := ∃ v H', Inv X pins σ H' s' ∧ RelV v u ∧ Q v H'
def TP (X : Cx) (pins : List (Addr × Obj)) (σ : St) (Q : Bool → Hp → Prop) (b : Bool) (s' : Shared) : Prop := ∃ H', Inv X pins σ H' s' ∧ Q b H'
def AP (X : Cx) (pins : List (Addr × Obj)) (σ : St) (Q : List V → Hp → Prop) (us : List Value) (s' : Shared) : Prop := ∃ vs H', Inv X pins σ H' s' ∧ Vals vs us ∧ Q vs H'
def SP (X : Cx) (pins : List (Addr × Obj)) (D : Ends) (f : Flow) (s' : Shared) : Prop :=
  match f with
  | .next => ∃ σ' H', Inv X pins σ' H' s' ∧ D.nx σ' H'
  | .brk => ∃ σ' H', Inv X pins σ' H' s' ∧ D.bk σ' H'
  | .cont => ∃ σ' H', Inv X pins σ' H' s' ∧ D.ct σ' H'
  | .ret u => ∃ v σ' H', Inv X pins σ' H' s' ∧ RelV v u ∧ D.rt v H'

def PE (X : Cx) (e : Expr) (t : TE) : Prop :=
  ∀ (pins : List (Addr × Obj)) (s : Shared) (σ : St) (H : Hp) (Q : VK), Inv X pins σ H s → t σ H Q → wpAny (model X.prog X.w) X.A (eval e X.env) (EP X pins σ Q) X.xe s
def PT (X : Cx) (e : Expr) (t : TT) : Prop :=
  ∀ (pins : List (Addr × Obj)) (s : Shared) (σ : St) (H : Hp) (Q : Bool → Hp → Prop), Inv X pins σ H s → t σ H Q → wpAny (model X.prog X.w) X.A (isTrue e X.env (eval e X.env)) (TP X pins σ Q) X.xe s
/-- a test whatever its 'whole' is (and, or) -/
def PW (X : Cx) (e : Expr) (t : TT) : Prop :=
  ∀ (whole : Sem Value) (pins : List (Addr × Obj)) (s : Shared) (σ : St) (H : Hp) (Q : Bool → Hp → Prop), Inv X pins σ H s → t σ H Q → wpAny (model X.prog X.w) X.A (isTrue e X.env whole) (TP X pins σ Q) X.xe s
theorem PW.pt {X : Cx} {e : Expr} {t : TT} (h : PW X e t) : PT X e t := h _
/-- an argument list (no star), from the left -/
def PA (X : Cx) (es : List Expr) (t : TA) : Prop :=
  ∀ (pos : Pos) (pins : List (Addr × Obj)) (s : Shared) (σ : St) (H : Hp) (Q : List V → Hp → Prop), Inv X pins σ H s → t σ H Q → wpAny (model X.prog X.w) X.A (spliced (backTo pos (starEach es X.env))) (AP X pins σ Q) X.xe s
def PS (X : Cx) (st : Stmt) (t : TS) : Prop :=
  ∀ (pins : List (Addr × Obj)) (s : Shared) (σ : St) (H : Hp) (D : Ends), Inv X pins σ H s → t D σ H → wpAny (model X.prog X.w) X.A (exec st X.env) (SP X pins D) X.xe s
def PSs (X : Cx) (st : List Stmt) (t : TS) : Prop :=
  ∀ (pins : List (Addr × Obj)) (s : Shared) (σ : St) (H : Hp) (D : Ends), Inv X pins σ H s → t D σ H → wpAny (model X.prog X.w) X.A (execs st X.env) (SP X pins D) X.xe s
/-- weaken the end -/
theorem thn {α : Type} {t : Sem α} {Q Q' : α → Shared → Prop} {M : Model} {A : Around} {E : Value → Shared → Prop} {s : Shared} (h : wpAny M A t Q E s) (hQ : ∀ a s, Q a s → Q' a s) : wpAny M A t Q' E s := wpAny_mono h hQ fun _ _ x => x
end L2

namespace L2
open PySem PySem.Spec PyProof.Rows
section
variable {X : Cx}

/-! ### names and constants -/
def tVar (i : Nat) : TE := fun σ H Q => ∃ v, σ[i]? = some (some v) ∧ Q v H
def tC (v : V) : TE := fun _ H Q => Q v H
theorem pe_var {i : Nat} {x : Str} {pos : Pos} (hN : X.N[i]? = some x) (hv : Vis X.env.scope x) (hd : (x == ("__debug__" : Str)) = false := by decide) (hcd : (x == ("__classdict__" : Str)) = false := by decide) : PE X (.Name x pos) (tVar i) := by
  intro pins s σ H Q I h
  obtain ⟨v, e, h⟩ := h
  obtain ⟨m, hn, hl⟩ := I.loc
  obtain ⟨u, r, l⟩ := hl i x v hN e hv
  have fin : EP X pins σ Q u s := ⟨v, H, I, r, h⟩
  rcases l with ⟨hk, hm⟩ | ⟨hk, c, hc, hcell⟩
  · exact wpAny_Name (wpAny_loadName_local I.ok.kind hk hn hm fin) hd
  · rcases hk with hk | hk
    · exact wpAny_Name (wpAny_loadName_cell I.ok.kind hk hc hcell fin) hd
    · exact wpAny_Name (wpAny_loadName_free I.ok.kind hk hc hcell fin hcd) hd
theorem pe_int {i j pos} : PE X (.Constant (.int i) j pos) (tC (.int i)) := fun _ _ _ H _ I h => wpAny_Constant_int ⟨.int i, H, I.tok _, ⟨_, rfl⟩, h⟩
theorem pe_bl {b j pos} : PE X (.Constant (.bool b) j pos) (tC (.bl b)) := fun _ _ _ H _ I h => Constant_bool ⟨.bl b, H, I, rfl, h⟩
theorem pe_non {j pos} : PE X (.Constant .none j pos) (tC .non) := fun _ _ _ H _ I h => Constant_none ⟨.non, H, I, rfl, h⟩
theorem pe_str {x j pos} : PE X (.Constant (.str x) j pos) (tC (.str x)) := fun _ _ _ H _ I h => Calls.Constant_str ⟨.str x, H, I.tok _, ⟨_, rfl⟩, h⟩

/-- a global name of the def -/
def Gl (X : Cx) (x : Str) : Prop := X.env.kindOf x = some .globalImplicit
theorem ld_glob {E : Value → Shared → Prop} {pins : List (Addr × Obj)} {s : Shared} {σ : St} {H : Hp} {x : Str} {u : Value} {pos : Pos} {Q : Value → Shared → Prop} (I : Inv X pins σ H s) (hg : Gl X x) (hm : X.mg x = some u) (h : Q u s)
    (hd : (x == ("__debug__" : Str)) = false := by decide) : wpAny (model X.prog X.w) X.A (eval (.Name x pos) X.env) Q E s :=
  Calls.Name_function_global I.ok.kind hg (Calls.loadGlobal_global (by rw [I.ok.glob]; exact I.mod.glob.keeps I.bk) hm h) hd
theorem ld_blt {E : Value → Shared → Prop} {pins : List (Addr × Obj)} {s : Shared} {σ : St} {H : Hp} {x : Str} {u : Value} {pos : Pos} {Q : Value → Shared → Prop} (I : Inv X pins σ H s) (hg : Gl X x) (hm : X.mg x = none) (hv : bootBuiltins x = some u) (h : Q u s)
    (hn : x ≠ "__name__" := by decide) (hd : (x == ("__debug__" : Str)) = false := by decide) : wpAny (model X.prog X.w) X.A (eval (.Name x pos) X.env) Q E s := by
  obtain ⟨mb, h1, h2⟩ := I.mod.blt
  exact Calls.Name_function_global I.ok.kind hg (Calls.loadGlobal_builtin (by rw [I.ok.glob]; exact I.mod.glob.keeps I.bk) hm (by rw [I.ok.blt]; exact h1.keeps I.bk) ((h2 x hn).trans hv) h) hd
/-- a module's constant, a class, a function, as a value -/
theorem pe_glob {x : Str} {v : V} {u : Value} {pos : Pos} (hg : Gl X x) (hm : X.mg x = some u) (r : RelV v u) (hd : (x == ("__debug__" : Str)) = false := by decide) : PE X (.Name x pos) (tC v) :=
  fun _ _ _ H _ I h => ld_glob I hg hm ⟨v, H, I, r, h⟩ hd
theorem pe_bltn {x : Str} {v : V} {u : Value} {pos : Pos} (hg : Gl X x) (hm : X.mg x = none) (hv : bootBuiltins x = some u) (r : RelV v u) (hn : x ≠ "__name__" := by decide) (hd : (x == ("__debug__" : Str)) = false := by decide) : PE X (.Name x pos) (tC v) :=
  fun _ _ _ H _ I h => ld_blt I hg hm hv ⟨v, H, I, r, h⟩ hn hd

/-! ### arithmetic -/
variable {a b : Expr} {ta tb : TE} {pos : Pos}
/-! ### comparisons -/
/-- a comparison as a value, as a test -/
def tB (t : TE) : TT := fun σ H Q => t σ H fun x H1 => ∃ c, x = .bl c ∧ Q c H1
/-- an expression whose value is a bool, as a test -/
theorem pt_val {e : Expr} {t : TE} (h : PE X e t) (he : ∀ whole, isTrue e X.env whole = (do let v ← whole; standAt e.pos; holding [v] (truthy v)) := by intro _; rfl) : PT X e (tB t) := by
  intro pins s σ H Q I hw
  refine isTrue_plain (thn (h pins s σ H _ I hw) fun v s1 ⟨x, H1, I1, r1, q1⟩ => ?_) (he _)
  obtain ⟨d, rfl, q⟩ := q1
  cases r1
  exact wpAny_truthy_bool ⟨H1, I1, q⟩

/-! ### and, or, not -/
variable {tA tB' : TT} {rest : List Expr}
def tAnd (t u : TT) : TT := fun σ H Q => t σ H fun c H1 => if c = true then u σ H1 Q else Q false H1
def tOr (t u : TT) : TT := fun σ H Q => t σ H fun c H1 => if c = true then Q true H1 else u σ H1 Q
def tNot (t : TT) : TT := fun σ H Q => t σ H fun c H1 => Q (!c) H1
theorem pw_and1 (ha : PT X a tA) : PW X (.BoolOp .And [a] pos) tA := by
  intro wh pins s σ H Q I h
  refine isTrue_and (thn (ha pins s σ H Q I h) fun c s1 e => ?_)
  cases c with
  | true => exact isTrue_and_nil e
  | false => exact e
theorem pw_or1 (ha : PT X a tA) : PW X (.BoolOp .Or [a] pos) tA := by
  intro wh pins s σ H Q I h
  refine isTrue_or (thn (ha pins s σ H Q I h) fun c s1 e => ?_)
  cases c with
  | false => exact isTrue_or_nil e
  | true => exact e
theorem pw_and (ha : PT X a tA) (hb : PW X (.BoolOp .And (b :: rest) pos) tB') : PW X (.BoolOp .And (a :: b :: rest) pos) (tAnd tA tB') := by
  intro wh pins s σ H Q I h
  refine isTrue_and (thn (ha pins s σ H _ I h) fun c s1 ⟨H1, I1, q1⟩ => ?_)
  cases c with
  | true => exact hb wh pins s1 σ H1 Q I1 q1
  | false => exact ⟨H1, I1, q1⟩
theorem pw_or (ha : PT X a tA) (hb : PW X (.BoolOp .Or (b :: rest) pos) tB') : PW X (.BoolOp .Or (a :: b :: rest) pos) (tOr tA tB') := by
  intro wh pins s σ H Q I h
  refine isTrue_or (thn (ha pins s σ H _ I h) fun c s1 ⟨H1, I1, q1⟩ => ?_)
  cases c with
  | true => exact ⟨H1, I1, q1⟩
  | false => exact hb wh pins s1 σ H1 Q I1 q1
theorem pt_not (ha : PT X a tA) : PT X (.UnaryOp .Not a pos) (tNot tA) := by
  intro pins s σ H Q I h
  exact isTrue_not (ha pins s σ H (fun c H1 => Q (!c) H1) I h)
/-- .. as values (bools) -/
def tAndV (ta tb : TE) : TE := fun σ H Q => ta σ H fun x H1 => ∃ c, x = .bl c ∧ if c = true then tb σ H1 Q else Q (.bl false) H1
def tNotV (ta : TE) : TE := fun σ H Q => ta σ H fun x H1 => ∃ c, x = .bl c ∧ Q (.bl (!c)) H1
theorem pe_one {op} {t : TE} (h : PE X a t) : PE X (.BoolOp op [a] pos) t := fun pins s σ H Q I hw => BoolOp_one (h pins s σ H Q I hw)
theorem pe_and (ha : PE X a ta) (hb : PE X (.BoolOp .And (b :: rest) pos) tb) : PE X (.BoolOp .And (a :: b :: rest) pos) (tAndV ta tb) := by
  intro pins s σ H Q I h
  refine BoolOp_and (thn (ha pins s σ H _ I h) fun v s1 ⟨x, H1, I1, r1, q1⟩ => ?_)
  obtain ⟨c, rfl, q1⟩ := q1
  cases r1
  refine wpAny_truthy_bool ?_
  cases c with
  | true => exact hb pins s1 σ H1 Q I1 q1
  | false => exact ⟨.bl false, H1, I1, rfl, q1⟩
theorem pe_not (ha : PE X a ta) : PE X (.UnaryOp .Not a pos) (tNotV ta) := by
  intro pins s σ H Q I h
  refine UnaryOp_ (thn (ha pins s σ H _ I h) fun v s1 ⟨x, H1, I1, r1, q1⟩ => ?_)
  obtain ⟨c, rfl, q1⟩ := q1
  cases r1
  exact not_of (wpAny_truthy_bool ⟨.bl (!c), H1, I1, rfl, q1⟩)
/-- a if t else b -/
def tIf (t : TT) (ta tb : TE) : TE := fun σ H Q => t σ H fun c H1 => if c = true then ta σ H1 Q else tb σ H1 Q
theorem pe_ifExp {c : Expr} (hc : PT X c tA) (ha : PE X a ta) (hb : PE X b tb) : PE X (.IfExp c a b pos) (tIf tA ta tb) := by
  intro pins s σ H Q I h
  refine wpAny_IfExp (thn (hc pins s σ H _ I h) fun d s1 ⟨H1, I1, q1⟩ => ?_)
  cases d with
  | true => exact ha pins s1 σ H1 Q I1 q1
  | false => exact hb pins s1 σ H1 Q I1 q1
end
end L2

namespace L2
open PySem PySem.Spec PyProof.Rows

/-! ### a list, a tuple that is read: tracked, frozen, or an object of the module -/
def SqL (K : PySem.W.Frag) (H : Hp) (a : Addr) (xs : List V) : Prop :=
  Rd H a (.lst xs) ∨
    ∃ (o : Obj) (its : Array Value) (n : Nat), K.lookup a = some o ∧ o.cls = .type "list" ∧ o.dict = none ∧ o.data = .seq its n ∧ its.size ≤ sizeLine ∧ Vals xs its.toList
def SqT (K : PySem.W.Frag) (H : Hp) (a : Addr) (xs : List V) : Prop :=
  Rd H a (.tup xs) ∨
    ∃ (o : Obj) (its : Array Value) (n : Nat), K.lookup a = some o ∧ o.cls = .type "tuple" ∧ o.data = .seq its n ∧ its.size ≤ sizeLine ∧ Vals xs its.toList
def absV : Value → Option V
  | .none => some .non
  | .bool b => some (.bl b)
  | .int i _ => some (.int i)
  | .str x _ => some (.str x)
  | .bytes b _ => some (.byt b)
  | .float b _ => some (.flt b)
  | .ref a => some (.ref a)
  | .type n => some (.ty n)
  | _ => none
theorem RelV.abs {x : V} {u : Value} (r : RelV x u) : absV u = some x := by
  cases x with
  | non => cases r; rfl
  | bl _ => cases r; rfl
  | int _ => obtain ⟨t, rfl⟩ := r; rfl
  | str _ => obtain ⟨t, rfl⟩ := r; rfl
  | byt _ => obtain ⟨t, rfl⟩ := r; rfl
  | flt _ => obtain ⟨t, rfl⟩ := r; rfl
  | ref _ => cases r; rfl
  | ty _ => cases r; rfl
theorem RelV.inj {x y : V} {u : Value} (r : RelV x u) (q : RelV y u) : x = y := Option.some.inj (r.abs.symm.trans q.abs)
theorem Vals.inj : ∀ {xs ys : List V} {us : List Value}, Vals xs us → Vals ys us → xs = ys
  | _, _, _, .nil, .nil => rfl
  | _, _, _, .cons r t, .cons r' t' => by rw [r.inj r', Vals.inj t t']
section
variable {X : Cx} {pins : List (Addr × Obj)} {σ : St} {H : Hp} {s : Shared} {a : Addr} {xs ys : List V}
theorem SqL.of {K : PySem.W.Frag} (h : H a = some (.lst xs)) : SqL K H a xs := .inl (.inl h)
theorem SqT.of {K : PySem.W.Frag} (h : H a = some (.tup xs)) : SqT K H a xs := .inl (.inl h)
theorem Inv.list (I : Inv X pins σ H s) (h : SqL X.K H a xs) : ∃ its : List Value, Vals xs its ∧ PlainL s.heap a its.toArray ∧ xs.length ≤ sizeLine := by
  rcases h with h | ⟨o, its, n, hk, hc, hd, hs, hz, r⟩
  · obtain ⟨z, its, n, r, e⟩ := h.ok I.hok
    exact ⟨its, r, ⟨_, n, e, rfl, rfl, rfl⟩, z⟩
  · refine ⟨its.toList, r, ⟨o, n, I.kIn a o hk, hc, hd, by simpa using hs⟩, ?_⟩
    have e := r.length
    simp only [Array.length_toList] at e
    omega
theorem Inv.tuple (I : Inv X pins σ H s) (h : SqT X.K H a xs) : ∃ its : List Value, Vals xs its ∧ IsTup s.heap a its.toArray ∧ xs.length ≤ sizeLine := by
  rcases h with h | ⟨o, its, n, hk, hc, hs, hz, r⟩
  · obtain ⟨z, its, r, p⟩ := h.ok I.hok
    exact ⟨its, r, p, z⟩
  · refine ⟨its.toList, r, ⟨o, I.kIn a o hk, hc, n, by simpa using hs⟩, ?_⟩
    have e := r.length
    simp only [Array.length_toList] at e
    omega
theorem Inv.list_inj (I : Inv X pins σ H s) (h : SqL X.K H a xs) (h' : SqL X.K H a ys) : xs = ys := by
  obtain ⟨its, r, ⟨o, n, e, _, _, d⟩, _⟩ := I.list h
  obtain ⟨its', r', ⟨o', n', e', _, _, d'⟩, _⟩ := I.list h'
  rw [e] at e'; cases e'
  rw [d] at d'
  injection d' with d1 _
  have : its = its' := by simpa using congrArg Array.toList d1
  subst this
  exact r.inj r'
theorem Inv.tuple_inj (I : Inv X pins σ H s) (h : SqT X.K H a xs) (h' : SqT X.K H a ys) : xs = ys := by
  obtain ⟨its, r, ⟨o, e, _, n, d⟩, _⟩ := I.tuple h
  obtain ⟨its', r', ⟨o', e', _, n', d'⟩, _⟩ := I.tuple h'
  rw [e] at e'; cases e'
  rw [d] at d'
  injection d' with d1 _
  have : its = its' := by simpa using congrArg Array.toList d1
  subst this
  exact r.inj r'
end

/-! ### another wish about exceptions -/
abbrev Cx.wish (X : Cx) (E : Value → Shared → Prop) : Cx := { X with xe := E }
/-- no exception leaves -/
abbrev Cx.nox (X : Cx) : Cx := X.wish fun _ _ => False
theorem Cx.Ok.wish {X : Cx} (ok : X.Ok) (E : Value → Shared → Prop) : (X.wish E).Ok :=
  ⟨ok.mod, ok.kind, ok.glob, ok.blt, ok.above, ok.inj, ok.has, ok.cab, ok.hd, ok.frames, ok.stk, ok.exf, ok.bs, ok.bsz, ok.noex, ok.exfs, ok.funs, ok.frf⟩
theorem Cx.Ok.unwish {X : Cx} {E : Value → Shared → Prop} (ok : (X.wish E).Ok) : X.Ok :=
  ⟨ok.mod, ok.kind, ok.glob, ok.blt, ok.above, ok.inj, ok.has, ok.cab, ok.hd, ok.frames, ok.stk, ok.exf, ok.bs, ok.bsz, ok.noex, ok.exfs, ok.funs, ok.frf⟩
section
variable {X : Cx} {pins : List (Addr × Obj)} {σ : St} {H : Hp} {s : Shared} {E : Value → Shared → Prop}
theorem Inv.wish (I : Inv X pins σ H s) (E : Value → Shared → Prop) : Inv (X.wish E) pins σ H s := ⟨I.ok.wish E, I.os, I.bare, I.base, I.loc, I.cell, I.free, I.freeC, I.pin, I.hok, I.len⟩
theorem Inv.unwish (I : Inv (X.wish E) pins σ H s) : Inv X pins σ H s := ⟨I.ok.unwish, I.os, I.bare, I.base, I.loc, I.cell, I.free, I.freeC, I.pin, I.hok, I.len⟩
theorem SP.unwish {D : Ends} {f : Flow} {s' : Shared} (h : SP (X.wish E) pins D f s') : SP X pins D f s' := by
  cases f with
  | next => obtain ⟨σ', H', I, q⟩ := h; exact ⟨σ', H', I.unwish, q⟩
  | brk => obtain ⟨σ', H', I, q⟩ := h; exact ⟨σ', H', I.unwish, q⟩
  | cont => obtain ⟨σ', H', I, q⟩ := h; exact ⟨σ', H', I.unwish, q⟩
  | ret u => obtain ⟨v, σ', H', I, r, q⟩ := h; exact ⟨v, σ', H', I.unwish, r, q⟩
theorem PSs.nox {st : List Stmt} {t : TS} (h : PSs X.nox st t) : PSs X st t := fun pins s σ H D I hw =>
  wpAny_mono (h pins s σ H D (I.wish _) hw) (fun _ _ q => q.unwish) fun _ _ z => False.elim z
end

/-! ### blocks and small statements -/
section
variable {X : Cx} {st : Stmt} {rest : List Stmt} {t u : TS} {e : Expr} {te : TE} {pos : Pos}
def tNext : TS := fun D σ H => D.nx σ H
def tSeq (t u : TS) : TS := fun D σ H => t { D with nx := u D } σ H
theorem pss_nil : PSs X [] tNext := fun _ _ σ H _ I h => wpAny_execs_nil ⟨σ, H, I, h⟩
theorem pss_cons (h1 : PS X st t) (h2 : PSs X rest u) : PSs X (st :: rest) (tSeq t u) := by
  intro pins s σ H D I h
  refine wpAny_execs_cons (thn (h1 pins s σ H { D with nx := u D } I h) fun f s1 q => ?_)
  cases f with
  | next =>
    obtain ⟨σ', H', I', q⟩ := q
    exact h2 pins s1 σ' H' D I' q
  | ret v => exact q
  | brk => exact q
  | cont => exact q
theorem pss_one (h1 : PS X st t) : PSs X [st] t := by
  intro pins s σ H D I h
  refine wpAny_execs_cons (thn (h1 pins s σ H D I h) fun f s1 q => ?_)
  cases f with
  | next => exact wpAny_execs_nil q
  | ret v => exact q
  | brk => exact q
  | cont => exact q
/-- in a def's body nothing is shown -/
theorem Inv.quiet {pins : List (Addr × Obj)} {σ : St} {H : Hp} {s : Shared} (I : Inv X pins σ H s) : interactive X.env = false := by simp [interactive, I.ok.kind]
/-- an expression whose value is dropped -/
def tDrop (te : TE) : TS := fun D σ H => te σ H fun _ H1 => D.nx σ H1
theorem ps_expr (he : PE X e te) (hs : swapsWith e none pos.line X.env = pure false := by rfl) : PS X (.Expr e pos) (tDrop te) := by
  intro pins s σ H D I h
  exact wpAny_Expr_any (thn (he pins s σ H _ I h) fun v s1 ⟨x, H1, I1, r1, q1⟩ => ⟨σ, H1, I1, q1⟩) I.quiet hs
def tRet (te : TE) : TS := fun D σ H => te σ H D.rt
theorem ps_ret (he : PE X e te) : PS X (.Return (some e) pos) (tRet te) := by
  intro pins s σ H D I h
  exact wpAny_Return_some (thn (he pins s σ H _ I h) fun v s1 ⟨x, H1, I1, r1, q1⟩ => ⟨x, σ, H1, I1, r1, q1⟩)
def tIfS (c : TT) (t u : TS) : TS := fun D σ H => c σ H fun b H1 => if b = true then t D σ H1 else u D σ H1
theorem ps_if {c : Expr} {a b : List Stmt} {tc : TT} (hc : PT X c tc) (ha : PSs X a t) (hb : PSs X b u) : PS X (.If c a b pos) (tIfS tc t u) := by
  intro pins s σ H D I h
  refine wpAny_If (thn (hc pins s σ H _ I h) fun d s1 ⟨H1, I1, q1⟩ => ?_)
  cases d with
  | true => exact ha pins s1 σ H1 D I1 q1
  | false => exact hb pins s1 σ H1 D I1 q1
/-- code that the proof never comes to -/
def tNever : TS := fun _ _ _ => False
theorem pss_never {sts : List Stmt} : PSs X sts tNever := fun _ _ _ _ _ _ h => h.elim
end

/-! ### targets -/
abbrev TG := V → St → Hp → (St → Hp → Prop) → Prop
abbrev TGs := List V → St → Hp → (St → Hp → Prop) → Prop
def PG (X : Cx) (target : Expr) (t : TG) : Prop :=
  ∀ (pins : List (Addr × Obj)) (s : Shared) (σ : St) (H : Hp) (v : V) (u : Value) (Q : St → Hp → Prop), Inv X pins σ H s → RelV v u → t v σ H Q →
    wpAny (model X.prog X.w) X.A (assign target X.env u) (fun _ s' => ∃ σ' H', Inv X pins σ' H' s' ∧ Q σ' H') X.xe s
/-- several targets, one after another -/
def PGs (X : Cx) (ts : List Expr) (t : TGs) : Prop :=
  ∀ (pins : List (Addr × Obj)) (s : Shared) (σ : St) (H : Hp) (vs : List V) (us : List Value) (Q : St → Hp → Prop), Inv X pins σ H s → Vals vs us → t vs σ H Q →
    wpAny (model X.prog X.w) X.A (assignInOrder ((assignEach ts X.env).map (·.2)) us) (fun _ s' => ∃ σ' H', Inv X pins σ' H' s' ∧ Q σ' H') X.xe s
/-- o[i] = v, by values -/
abbrev TSet := V → V → V → Hp → (Hp → Prop) → Prop
def PSet (X : Cx) (t : TSet) : Prop :=
  ∀ (pins : List (Addr × Obj)) (s : Shared) (σ : St) (H : Hp) (o i v : V) (ov iv u : Value) (Q : Hp → Prop), Inv X pins σ H s → RelV o ov → RelV i iv → RelV v u → t o i v H Q →
    wpAny (model X.prog X.w) X.A (setItem ov iv u) (fun _ s' => ∃ H', Inv X pins σ H' s' ∧ Q H') X.xe s
section
variable {X : Cx} {pos : Pos}
def gName (i : Nat) : TG := fun v σ H Q => Q (σ.set i (some v)) H
theorem pg_name {i : Nat} {x : Str} (hN : X.N.Nodup) (hi : X.N[i]? = some x) (hx : Loc X.env.scope x) (hf : X.fn x = true ∨ X.env.scope.names.lookup x = some .local := by first | exact .inl rfl | exact .inr rfl | assumption) : PG X (.Name x pos) (gName i) := by
  intro pins s σ H v u Q I r h
  exact wpAny_assign_Name (store_ok I hN hi hx r (fun s' I' => ⟨_, H, I', h⟩) hf)
def gNil : TGs := fun vs σ H Q => vs = [] ∧ Q σ H
def gCons (t : TG) (u : TGs) : TGs := fun vs σ H Q => ∃ v r, vs = v :: r ∧ t v σ H fun σ' H' => u r σ' H' Q
theorem pgs_nil : PGs X [] gNil := by
  intro pins s σ H vs us Q I r h
  obtain ⟨e, h⟩ := h
  subst e
  cases r
  exact assignInOrder_nil ⟨σ, H, I, h⟩
theorem pgs_cons {e : Expr} {es : List Expr} {t : TG} {u : TGs} (h1 : PG X e t) (h2 : PGs X es u)
    (hs : (assignEach (e :: es) X.env).map (·.2) = assign e X.env :: (assignEach es X.env).map (·.2) := by rfl) : PGs X (e :: es) (gCons t u) := by
  intro pins s σ H vs us Q I r h
  obtain ⟨v, vr, e1, h⟩ := h
  subst e1
  cases r with
  | cons r rr =>
    rw [hs]
    refine assignInOrder_cons (thn (h1 pins s σ H _ _ _ I r h) fun _ s1 ⟨σ1, H1, I1, q1⟩ => ?_)
    exact h2 pins s1 σ1 H1 _ _ Q I1 rr q1
/-- (a, b, ..) = a tuple of that length -/
def gTup (K : PySem.W.Frag) (n : Nat) (t : TGs) : TG := fun v σ H Q => ∃ a xs, v = .ref a ∧ SqT K H a xs ∧ xs.length = n ∧ t xs σ H Q
theorem pg_tup {es : List Expr} {k : Nat} {t : TGs} {n : Nat} (hc : X.calm = true) (h : PGs X es t)
    (hn : (assignEach es X.env).length = n := by rfl) (hst : (assignEach es X.env).findIdx? (·.1) = none := by rfl) : PG X (.Tuple es k pos) (gTup X.K n t) := by
  intro pins s σ H v u Q I r hw
  obtain ⟨a, xs, e1, hq, hl, hw⟩ := hw
  subst e1
  cases r
  obtain ⟨its, rv, ht, hz⟩ := I.tuple hq
  refine assign_Tuple_tuple (I.ok.hd hc) ht (by simp [hn, ← hl, rv.length]) hst fun h' hx => ?_
  have I1 : Inv X pins σ H { s with heap := h' } := I.kept (t' := s.toks) fun b o e => hx b o (Nat.ne_of_lt (Heap.lt_size e)) e
  exact h pins _ σ H xs _ Q I1 (by simpa using rv) hw
/-- o[i] = .. -/
def gSub (to ti : TE) (t : TSet) : TG := fun v σ H Q => to σ H fun o H1 => ti σ H1 fun i H2 => t o i v H2 fun H3 => Q σ H3
theorem pg_sub {o i : Expr} {to ti : TE} {t : TSet} (ho : PE X o to) (hi : PE X i ti) (hs : PSet X t)
    (ha : ∀ v, assign (.Subscript o i pos) X.env v = (do
      let ov ← holding [v] (eval o X.env)
      let iv ← holding [v, ov] (eval i X.env)
      standAt pos
      holding [v, ov, iv] (setItem ov iv v)
      release [v, ov, iv] []) := by intro _; rfl) : PG X (.Subscript o i pos) (gSub to ti t) := by
  intro pins s σ H v u Q I r h
  rw [ha]
  refine wpAny_bind (wpAny_holding (thn (ho pins s σ H _ I h) fun ov s1 ⟨x, H1, I1, r1, q1⟩ => ?_))
  refine wpAny_bind (wpAny_holding (thn (hi pins s1 σ H1 _ I1 q1) fun iv s2 ⟨y, H2, I2, r2, q2⟩ => ?_))
  refine wpAny_bind (wpAny_standAt (wpAny_bind (wpAny_holding (thn (hs pins s2 σ H2 x y v ov iv u _ I2 r1 r2 r q2) fun _ s3 ⟨H3, I3, q3⟩ => ?_))))
  exact wpAny_release ⟨σ, H3, I3, q3⟩
/-- target = value -/
def tAsg (te : TE) (g : TG) : TS := fun D σ H => te σ H fun x H1 => g x σ H1 D.nx
theorem ps_asg {tg e : Expr} {te : TE} {g : TG} (he : PE X e te) (hg : PG X tg g) (hs : swapsWithSole [tg] e pos.line X.env = pure false := by rfl) (hw : swappedStores [tg] e X.env = pure none := by rfl)
    (h1 : (assignEach [tg] X.env).map (·.2) = [assign tg X.env] := by rfl) : PS X (.Assign [tg] e pos) (tAsg te g) := by
  intro pins s σ H D I h
  refine wpAny_Assign_stores (thn (he pins s σ H _ I h) fun v s1 ⟨x, H1, I1, r1, q1⟩ => ?_) hs hw
  rw [h1]
  exact thn (hg pins s1 σ H1 x v _ I1 r1 q1) fun _ s2 q => q
/-- name = value -/
theorem ps_set {i : Nat} {x : Str} {e : Expr} {te : TE} {pos' : Pos} (hN : X.N.Nodup) (hi : X.N[i]? = some x) (hx : Loc X.env.scope x) (he : PE X e te) (hs : swapsWith e (some (.Name x pos')) pos.line X.env = pure false := by rfl) (hf : X.fn x = true ∨ X.env.scope.names.lookup x = some .local := by first | exact .inl rfl | exact .inr rfl | assumption) :
    PS X (.Assign [.Name x pos'] e pos) (tAsg te (gName i)) := by
  intro pins s σ H D I h
  refine wpAny_Assign_Name (thn (he pins s σ H _ I h) fun v s1 ⟨y, H1, I1, r1, q1⟩ => ?_) hs
  exact store_ok I1 hN hi hx r1 (fun s2 I2 => ⟨_, H1, I2, q1⟩) hf
end

/-! ### while -/
section
variable {X : Cx} {pos : Pos}
/-- the invariant W with its measure -/
def tWhile (c : TT) (tb : TS) : TS := fun D σ H => ∃ W : Nat → St → Hp → Prop, (∃ m, W m σ H) ∧ ∀ m σ H, W m σ H →
  c σ H fun b H1 => if b = true then ∃ N : St → Hp → Prop, (∀ σ' H', N σ' H' → ∃ m', m' < m ∧ W m' σ' H') ∧ tb { D with nx := N, ct := N, bk := D.nx } σ H1 else D.nx σ H1
theorem ps_while {c : Expr} {body : List Stmt} {tc : TT} {tb : TS} (hp : PassesOwn (model X.prog X.w) X.A X.env X.xe) (hc : PT X c tc) (hb : PSs X body tb) : PS X (.While c body [] pos) (tWhile tc tb) := by
  intro pins s σ H D I h
  obtain ⟨W, ⟨m0, w0⟩, turn⟩ := h
  refine wpAny_While (codeAny_whileLoop (fun n s' => ∃ σ' H', Inv X pins σ' H' s' ∧ W n σ' H') ?_ m0 ⟨σ, H, I, w0⟩)
  rintro n s1 ⟨σ1, H1, I1, w1⟩
  refine wpAny_passesOwn hp (thn (hc pins s1 σ1 H1 _ I1 (turn n σ1 H1 w1)) fun b s2 ⟨H2, I2, q2⟩ => ?_)
  cases b with
  | true =>
    obtain ⟨N, hN, q2⟩ := q2
    rw [if_pos rfl]
    refine wpAny_passesOwn hp (thn (hb pins s2 σ1 H2 _ I2 q2) fun f s3 q3 => ?_)
    cases f with
    | next =>
      obtain ⟨σ3, H3, I3, n3⟩ := q3
      obtain ⟨m', hm, w3⟩ := hN σ3 H3 n3
      exact ⟨m', hm, σ3, H3, I3, w3⟩
    | cont =>
      obtain ⟨σ3, H3, I3, n3⟩ := q3
      obtain ⟨m', hm, w3⟩ := hN σ3 H3 n3
      exact ⟨m', hm, σ3, H3, I3, w3⟩
    | brk => exact q3
    | ret v => exact q3
  | false =>
    rw [if_neg Bool.false_ne_true]
    exact wpAny_execs_nil ⟨σ1, H2, I2, q2⟩
end

/-! ### what a loop or a comprehension walks -/
/-- at turn i: it yields x (the heap may grow), or it stops -/
structure It where
  go : Nat → Hp → Prop
  yld : Nat → Hp → V → Hp → Prop
  stop : Nat → Hp → Prop
/-- the iterator's own objects may turn: they are not the frame's, not pinned, younger than the entry (or a comprehension's own) -/
def FpOk (X : Cx) (pins : List (Addr × Obj)) (H : Hp) (b : Addr) : Prop :=
  H b = none ∧ b ≠ X.env.locals ∧ b ∉ X.fs ∧ (b ∈ X.ex ∨ X.s₀.heap.objs.size ≤ b) ∧ (∀ x c, X.env.cells.lookup x = some c → c ≠ b) ∧ ∀ p ∈ X.pn ++ pins, p.1 ≠ b
theorem Inv.fpOk {X : Cx} {pins : List (Addr × Obj)} {σ : St} {H H' : Hp} {s : Shared} {b : Addr} (I : Inv X pins σ H s) (hb : s.heap.objs.size ≤ b) (hn : H' b = none) : FpOk X pins H' b := by
  refine ⟨hn, Nat.ne_of_gt (Nat.lt_of_lt_of_le I.lt hb), I.nofs hb, .inr (Nat.le_trans I.sz hb), fun x c e z => ?_, fun p hp z => ?_⟩
  · obtain ⟨v, q⟩ := I.cell x c e
    exact absurd (Nat.lt_of_lt_of_le q.lt (by rw [z]; exact hb)) (Nat.lt_irrefl _)
  · exact absurd (Nat.lt_of_lt_of_le (Heap.lt_size (I.pin p hp).1) (by rw [z]; exact hb)) (Nat.lt_irrefl _)
structure Turn (P : Program) (w : World) (K : PySem.W.Frag) (tg : Expr) (J : It) (fp : List Addr) (it : Addr) (tn : Nat → Heap → Prop) : Prop where
  mem : it ∈ fp
  obj : ∀ i h, tn i h → ∀ b ∈ fp, ∃ o, h.get? b = some o ∧ ∀ v, o.data ≠ .cell v
  keep : ∀ i h h', tn i h → (∀ b ∈ fp, ∀ o, h.get? b = some o → h'.get? b = some o) → tn i h'
  item : ∀ (X : Cx), X.prog = P → X.w = w → X.K = K → X.calm = true → ∀ (i : Nat) (pins : List (Addr × Obj)) (s : Shared) (σ : St) (H : Hp) (E : Value → Shared → Prop), Inv X pins σ H s → (∀ b ∈ fp, FpOk X pins H b) → tn i s.heap → J.go i H →
    wpAny (model P w) X.A (pyNext (.ref it)) (fun r s1 => ∃ u, r = some u ∧
      wpAny (model P w) X.A (letOwnedTupleGo tg (.ref it) u) (fun _ s2 => ∃ x H', Inv X pins σ H' s2 ∧ RelV x u ∧ J.yld i H x H' ∧ tn (i + 1) s2.heap ∧ ∀ b ∈ fp, H' b = none) E s1) E s
  done : ∀ (X : Cx), X.prog = P → X.w = w → X.K = K → X.calm = true → ∀ (i : Nat) (pins : List (Addr × Obj)) (s : Shared) (σ : St) (H : Hp) (E : Value → Shared → Prop), Inv X pins σ H s → (∀ b ∈ fp, FpOk X pins H b) → tn i s.heap → J.stop i H →
    wpAny (model P w) X.A (pyNext (.ref it)) (fun r s1 => r = none ∧ Inv X pins σ H s1) E s
  self : ∀ (A : Around) (i : Nat) (s : Shared) (Q : Value → Shared → Prop) (E : Value → Shared → Prop), tn i s.heap → Q (.ref it) s → wpAny (model P w) A (pyIter (.ref it)) Q E s
abbrev TI := St → Hp → (It → Hp → Prop) → Prop
/-- an iterator has come -/
def PIE (X : Cx) (pins : List (Addr × Obj)) (σ : St) (tg : Expr) (R : It → Hp → Prop) (itv : Value) (s2 : Shared) : Prop :=
  ∃ (it : Addr) (fp : List Addr) (tn : Nat → Heap → Prop) (J : It) (H' : Hp), itv = .ref it ∧ Inv X pins σ H' s2 ∧ Turn X.prog X.w X.K tg J fp it tn ∧ tn 0 s2.heap ∧ (∀ b ∈ fp, FpOk X pins H' b) ∧ R J H'
def PI (X : Cx) (tg iter : Expr) (wi : TI) : Prop :=
  ∀ (pins : List (Addr × Obj)) (s : Shared) (σ : St) (H : Hp) (R : It → Hp → Prop), Inv X pins σ H s → wi σ H R →
    wpAny (model X.prog X.w) X.A (eval iter X.env) (fun v s1 => wpAny (model X.prog X.w) X.A (pyIter v) (PIE X pins σ tg R) X.xe s1) X.xe s

/-- the step ahead of the store is nothing for an iterator that keeps no tuple -/
theorem go_of {M : Model} {A : Around} {E : Value → Shared → Prop} {s : Shared} {tg : Expr} {it : Addr} {u : Value} {o : Obj} {n : String} {vs : Array Value} {Q : Unit → Shared → Prop} (ho : s.heap.get? it = some o) (hc : o.cls = .type n) (hd : o.data = .fields vs)
    (hn : ["enumerate", "zip", "dict_itemiterator", "dict_reverseitemiterator", "odict_iterator", "itertools.zip_longest", "itertools.pairwise"].contains n = false) (hQ : Q () s) : wpAny M A (letOwnedTupleGo tg (.ref it) u) Q E s := by
  unfold letOwnedTupleGo
  cases tg <;> first
    | exact wpAny_pure hQ
    | (cases u <;> first
        | exact wpAny_pure hQ
        | (refine wpAny_bind (wpAny_load ho ?_)
           rw [hc, hd]
           show wpAny M A (if (["enumerate", "zip", "dict_itemiterator", "dict_reverseitemiterator", "odict_iterator", "itertools.zip_longest", "itertools.pairwise"].contains n && vs[0]? == some (rawInt _)) = true then _ else _) Q E s
           rw [if_neg (by intro h; rw [hn, Bool.false_and] at h; cases h)]
           exact wpAny_pure hQ))

/-- the list at a, as it stands at each turn (a loop may append to it) -/
def Itl (K : PySem.W.Frag) (a : Addr) : It :=
  ⟨fun i H => ∃ xs x, SqL K H a xs ∧ xs[i]? = some x, fun i H x H' => H' = H ∧ ∀ xs, SqL K H a xs → xs[i]? = some x, fun i H => ∃ xs, SqL K H a xs ∧ xs.length ≤ i⟩
def Itt (K : PySem.W.Frag) (a : Addr) : It :=
  ⟨fun i H => ∃ xs x, SqT K H a xs ∧ xs[i]? = some x, fun i H x H' => H' = H ∧ ∀ xs, SqT K H a xs → xs[i]? = some x, fun i H => ∃ xs, SqT K H a xs ∧ xs.length ≤ i⟩
/-- lo, lo + 1, .. (n of them) -/
def Itr (lo : Int) (n : Nat) : It := ⟨fun i _ => i < n, fun i H x H' => H' = H ∧ x = .int (lo + i), fun i _ => n ≤ i⟩
theorem turn_list {P : Program} {w : World} {K : PySem.W.Frag} {tg : Expr} (a it : Addr) : Turn P w K tg (Itl K a) [it] it (fun i h => h.IsListIter it a i) where
  mem := by simp
  obj := fun i h st b hb => by
    have e : b = it := by simpa using hb
    subst e
    obtain ⟨o, e, c, d⟩ := st
    exact ⟨o, e, fun v z => by rw [d] at z; cases z⟩
  keep := fun i h h' st k => st.at fun o e => k it (by simp) o e
  item := by
    intro X hP hw hK hc i pins s σ H E I hf st hg
    subst hP hw hK
    obtain ⟨xs, x, hq, hx⟩ := hg
    obtain ⟨its, rv, p, hz⟩ := I.list hq
    obtain ⟨u, hu, ru⟩ := rv.get hx
    obtain ⟨f0, f1, f2, f3, f4, f5⟩ := hf it (by simp)
    refine wpAny_pyNext_list_item st p.isList (x := u) (by simpa using hu) fun h' st' sb => ?_
    have I1 : Inv X pins σ H { s with heap := h' } := I.turned (t' := s.toks) (fun b o hb e => (sb.2 b hb).trans e) f0 f1 f3 f4 f5
    obtain ⟨o, e, c, d⟩ := id st'
    exact ⟨u, rfl, go_of (s := { s with heap := h' }) e c d (by decide) ⟨x, H, I1, ru, ⟨rfl, fun ys hy => by rw [I.list_inj hy hq]; exact hx⟩, st', fun b hb => (hf b hb).1⟩⟩
  done := by
    intro X hP hw hK hc i pins s σ H E I hf st hg
    subst hP hw hK
    obtain ⟨xs, hq, hx⟩ := hg
    obtain ⟨its, rv, p, hz⟩ := I.list hq
    obtain ⟨f0, f1, f2, f3, f4, f5⟩ := hf it (by simp)
    have hl := rv.length
    exact wpAny_pyNext_list_end (I.ok.hd hc) st p.isList (by simp; omega) fun h' eb => ⟨rfl, I.turned (t' := s.toks) (fun b o hb e => eb b o hb e) f0 f1 f3 f4 f5⟩
  self := fun _ _ _ _ _ st h => wpAny_pyIter_listiter st h
theorem turn_tuple {P : Program} {w : World} {K : PySem.W.Frag} {tg : Expr} (a it : Addr) : Turn P w K tg (Itt K a) [it] it (fun i h => h.IsTupleIter it a i) where
  mem := by simp
  obj := fun i h st b hb => by
    have e : b = it := by simpa using hb
    subst e
    obtain ⟨o, e, c, d⟩ := st
    exact ⟨o, e, fun v z => by rw [d] at z; cases z⟩
  keep := fun i h h' st k => st.at fun o e => k it (by simp) o e
  item := by
    intro X hP hw hK hc i pins s σ H E I hf st hg
    subst hP hw hK
    obtain ⟨xs, x, hq, hx⟩ := hg
    obtain ⟨its, rv, p, hz⟩ := I.tuple hq
    obtain ⟨u, hu, ru⟩ := rv.get hx
    obtain ⟨f0, f1, f2, f3, f4, f5⟩ := hf it (by simp)
    refine wpAny_pyNext_tuple_item st (show s.heap.IsTuple a its.toArray from p) (x := u) (by simpa using hu) fun h' st' sb => ?_
    have I1 : Inv X pins σ H { s with heap := h' } := I.turned (t' := s.toks) (fun b o hb e => (sb.2 b hb).trans e) f0 f1 f3 f4 f5
    obtain ⟨o, e, c, d⟩ := id st'
    exact ⟨u, rfl, go_of (s := { s with heap := h' }) e c d (by decide) ⟨x, H, I1, ru, ⟨rfl, fun ys hy => by rw [I.tuple_inj hy hq]; exact hx⟩, st', fun b hb => (hf b hb).1⟩⟩
  done := by
    intro X hP hw hK hc i pins s σ H E I hf st hg
    subst hP hw hK
    obtain ⟨xs, hq, hx⟩ := hg
    obtain ⟨its, rv, p, hz⟩ := I.tuple hq
    obtain ⟨f0, f1, f2, f3, f4, f5⟩ := hf it (by simp)
    have hl := rv.length
    exact wpAny_pyNext_tuple_end (I.ok.hd hc) st (show s.heap.IsTuple a its.toArray from p) (by simp; omega) fun h' eb => ⟨rfl, I.turned (t' := s.toks) (fun b o hb e => eb b o hb e) f0 f1 f3 f4 f5⟩
  self := fun _ _ _ _ _ st h => wpAny_pyIter_tupleiter st h
theorem turn_range {P : Program} {w : World} {K : PySem.W.Frag} {tg : Expr} (it : Addr) (lo : Int) (n : Nat) : Turn P w K tg (Itr lo n) [it] it (fun i h => IsRangeIter h it (lo + (i : Nat) * 1) ((n : Int) - (i : Nat)) 1) where
  mem := by simp
  obj := fun i h st b hb => by
    have e : b = it := by simpa using hb
    subst e
    exact ⟨_, st, fun v z => by
      have z' : Data.fields _ = Data.cell v := z
      cases z'⟩
  keep := fun i h h' st k => k it (by simp) _ st
  item := by
    intro X hP hw hK hc i pins s σ H E I hf st hg
    subst hP hw hK
    obtain ⟨f0, f1, f2, f3, f4, f5⟩ := hf it (by simp)
    have W := Walks.range (prog := X.prog) (w := X.w) (I.ok.hd hc) it lo 1 n
    refine W.item i s _ _ hg st fun v h' tk hv st' kk => ?_
    obtain ⟨t, rfl⟩ := hv
    have I1 : Inv X pins σ H { s with heap := h', toks := tk } := I.turned (fun b o hb e => kk b o (by simpa using hb) e) f0 f1 f3 f4 f5
    refine ⟨_, rfl, go_of (s := { s with heap := h', toks := tk }) (n := "range_iterator") st' rfl rfl (by decide) ⟨.int (lo + i), H, I1, ⟨t, ?_⟩, ⟨rfl, rfl⟩, st', fun b hb => (hf b hb).1⟩⟩
    rw [Int.mul_one]
  done := by
    intro X hP hw hK hc i pins s σ H E I hf st hg
    subst hP hw hK
    obtain ⟨f0, f1, f2, f3, f4, f5⟩ := hf it (by simp)
    exact wpAny_pyNext_range_end (I.ok.hd hc) st (by have : n ≤ i := hg; omega) fun h' eb => ⟨rfl, I.turned (t' := s.toks) (fun b o hb e => eb b o hb e) f0 f1 f3 f4 f5⟩
  self := fun _ _ _ _ _ st h => wpAny_pyIter_rangeiter st h
end L2

namespace L2
open PySem PySem.Spec PyProof.Rows
section
variable {X : Cx} {tg : Expr}
def iList (K : PySem.W.Frag) (tl : TE) : TI := fun σ H R => tl σ H fun x H1 => ∃ a, x = .ref a ∧ (∃ xs, SqL K H1 a xs) ∧ R (Itl K a) H1
def iTup (K : PySem.W.Frag) (tl : TE) : TI := fun σ H R => tl σ H fun x H1 => ∃ a, x = .ref a ∧ (∃ xs, SqT K H1 a xs) ∧ R (Itt K a) H1
theorem pi_list {l : Expr} {tl : TE} (hl : PE X l tl) : PI X tg l (iList X.K tl) := by
  intro pins s σ H R I h
  refine thn (hl pins s σ H _ I h) fun v s1 ⟨x, H1, I1, r1, q1⟩ => ?_
  obtain ⟨a, e, ⟨xs, hq⟩, q⟩ := q1
  subst e
  cases r1
  obtain ⟨its, rv, p, hz⟩ := I1.list hq
  refine wpAny_pyIter_list p.isList ?_
  refine ⟨s1.heap.objs.size, [s1.heap.objs.size], _, _, H1, rfl, I1.kept (t' := s1.toks) fun b o e => Heap.get?_push_of_some _ e, turn_list a _, ⟨_, Heap.get?_push_size _ rfl, rfl, rfl⟩, fun b hb => ?_, q⟩
  have e : b = s1.heap.objs.size := by simpa using hb
  subst e
  exact I1.fpOk (Nat.le_refl _) (I1.hok.fresh (Nat.le_refl _))
theorem pi_tup {l : Expr} {tl : TE} (hl : PE X l tl) : PI X tg l (iTup X.K tl) := by
  intro pins s σ H R I h
  refine thn (hl pins s σ H _ I h) fun v s1 ⟨x, H1, I1, r1, q1⟩ => ?_
  obtain ⟨a, e, ⟨xs, hq⟩, q⟩ := q1
  subst e
  cases r1
  obtain ⟨its, rv, p, hz⟩ := I1.tuple hq
  refine wpAny_pyIter_tuple (show s1.heap.IsTuple a its.toArray from p) ?_
  refine ⟨s1.heap.objs.size, [s1.heap.objs.size], _, _, H1, rfl, I1.kept (t' := s1.toks) fun b o e => Heap.get?_push_of_some _ e, turn_tuple a _, ⟨_, Heap.get?_push_size _ rfl, rfl, rfl⟩, fun b hb => ?_, q⟩
  have e : b = s1.heap.objs.size := by simpa using hb
  subst e
  exact I1.fpOk (Nat.le_refl _) (I1.hok.fresh (Nat.le_refl _))
/-- a range object just made, walked -/
theorem range_it {pins : List (Addr × Obj)} {σ : St} {H : Hp} {s : Shared} {R : It → Hp → Prop} {E : Value → Shared → Prop} {lo hi : Int} {t u v : Tok} {tk : Nat} (I : Inv X pins σ H s) (h1 : -(2 ^ 62) ≤ lo) (h2 : lo < 2 ^ 62) (h3 : -(2 ^ 62) ≤ hi) (h4 : hi < 2 ^ 62)
    (q : R (Itr lo (hi - lo).toNat) H) : wpAny (model X.prog X.w) X.A (pyIter (.ref s.heap.objs.size)) (PIE X pins σ tg R) E { s with heap := s.heap.push { cls := .type "range", data := .fields #[.int lo t, .int hi u, .int 1 v] }, toks := tk } := by
  refine wpAny_pyIter_range (IsRange.new ..) (small_one h1 h2 h3 h4) ?_
  have I1 : Inv X pins σ H { s with heap := s.heap.push { cls := .type "range", data := .fields #[.int lo t, .int hi u, .int 1 v] }, toks := tk } := I.kept fun b o e => Heap.get?_push_of_some _ e
  refine ⟨(s.heap.push { cls := .type "range", data := .fields #[.int lo t, .int hi u, .int 1 v] }).objs.size, [(s.heap.push { cls := .type "range", data := .fields #[.int lo t, .int hi u, .int 1 v] }).objs.size], _, _, H, rfl,
    I1.kept (t' := tk) fun b o e => Heap.get?_push_of_some _ e, turn_range _ lo (hi - lo).toNat, ?_, fun b hb => ?_, q⟩
  · have e1 : lo + ((0 : Nat) : Int) * 1 = lo := by simp
    have e2 : (((hi - lo).toNat : Nat) : Int) - ((0 : Nat) : Int) = Builtin.Range.rangeSize lo hi 1 := by rw [rangeSize_one]; split <;> omega
    show IsRangeIter _ _ (lo + ((0 : Nat) : Int) * 1) ((((hi - lo).toNat : Nat) : Int) - ((0 : Nat) : Int)) 1
    rw [e1, e2]
    exact Heap.get?_push_size _ rfl
  · have e : b = (s.heap.push { cls := .type "range", data := .fields #[.int lo t, .int hi u, .int 1 v] }).objs.size := by simpa using hb
    subst e
    exact I1.fpOk (Nat.le_refl _) (I1.hok.fresh (Nat.le_refl _))
def iRng1 (ta : TA) : TI := fun σ H R => ta σ H fun vs H1 => ∃ j : Int, vs = [.int j] ∧ -(2 ^ 62) ≤ j ∧ j < 2 ^ 62 ∧ R (Itr 0 j.toNat) H1
def iRng2 (ta : TA) : TI := fun σ H R => ta σ H fun vs H1 => ∃ i j : Int, vs = [.int i, .int j] ∧ (-(2 ^ 62) ≤ i ∧ i < 2 ^ 62 ∧ -(2 ^ 62) ≤ j ∧ j < 2 ^ 62) ∧ R (Itr i (j - i).toNat) H1
theorem pi_range1 {a : Expr} {ta : TA} {p pos : Pos} (hg : Gl X "range") (hm : X.mg "range" = none) (ha : PA X [a] ta) (hs : starEach [a] X.env = [(false, eval a X.env)] := by rfl) : PI X tg (.Call (.Name "range" p) [a] [] pos) (iRng1 ta) := by
  intro pins s σ H R I h
  refine Call_ (ld_blt I hg hm boot_range (PyProof.Rows.callWith_type1 (thn (ha pos pins s σ H _ I h) fun us s1 ⟨vs, H1, I1, r1, q1⟩ => ?_) hs rfl))
  obtain ⟨j, e, q1, q2, q⟩ := q1
  subst e
  cases r1 with
  | cons r rr =>
    cases rr
    obtain ⟨t, rfl⟩ := r
    exact call_range_1 (range_it I1 (by omega) (by omega) q1 q2 (by simpa using q))
theorem pi_range2 {a b : Expr} {ta : TA} {p pos : Pos} (hg : Gl X "range") (hm : X.mg "range" = none) (ha : PA X [a, b] ta) (hs : starEach [a, b] X.env = [(false, eval a X.env), (false, eval b X.env)] := by rfl) (hs2 : starEach [b] X.env = [(false, eval b X.env)] := by rfl) :
    PI X tg (.Call (.Name "range" p) [a, b] [] pos) (iRng2 ta) := by
  intro pins s σ H R I h
  refine Call_ (ld_blt I hg hm boot_range (PyProof.Rows.callWith_type1 (thn (ha pos pins s σ H _ I h) fun us s1 ⟨vs, H1, I1, r1, q1⟩ => ?_) (by rw [hs, hs2]) (by rw [hs2]; rfl)))
  obtain ⟨i, j, e, ⟨q1, q2, q3, q4⟩, q⟩ := q1
  subst e
  cases r1 with
  | cons r rr =>
    cases rr with
    | cons r' rr =>
      cases rr
      obtain ⟨t, rfl⟩ := r
      obtain ⟨t', rfl⟩ := r'
      exact call_range_2 (range_it I1 q1 q2 q3 q4 q)

/-! ### for -/
/-- W: the invariant by the turn and a measure; N: what the body is to reach -/
def tFor (wi : TI) (g : TG) (tb : TS) : TS := fun D σ H => wi σ H fun J H1 => ∃ W : Nat → Nat → St → Hp → Prop, (∃ m, W 0 m σ H1) ∧ ∀ i m σ H, W i m σ H →
  (J.stop i H ∧ D.nx σ H) ∨ (J.go i H ∧ ∃ N : St → Hp → Prop, (∀ σ' H', N σ' H' → ∃ m', m' < m ∧ W (i + 1) m' σ' H') ∧ ∀ x H', J.yld i H x H' → g x σ H' fun σ2 H2 => tb { D with nx := N, ct := N, bk := D.nx } σ2 H2)
/-- the records at fp as they stand -/
def pinsAt (fp : List Addr) (h : Heap) : List (Addr × Obj) := fp.filterMap fun b => (h.get? b).map fun o => (b, o)
theorem mem_pinsAt {fp : List Addr} {h : Heap} {b : Addr} {o : Obj} (hb : b ∈ fp) (e : h.get? b = some o) : (b, o) ∈ pinsAt fp h := List.mem_filterMap.mpr ⟨b, hb, by rw [e]; rfl⟩
theorem of_pinsAt {fp : List Addr} {h : Heap} {p : Addr × Obj} (hp : p ∈ pinsAt fp h) : p.1 ∈ fp ∧ h.get? p.1 = some p.2 := by
  obtain ⟨b, hb, e⟩ := List.mem_filterMap.mp hp
  cases q : h.get? b with
  | none => rw [q] at e; cases e
  | some o =>
    rw [q] at e
    have e' : (b, o) = p := Option.some.inj e
    subst e'
    exact ⟨hb, q⟩
theorem Inv.pinned {pins : List (Addr × Obj)} {σ : St} {H : Hp} {s : Shared} {fp : List Addr} (I : Inv X pins σ H s) (hf : ∀ b ∈ fp, FpOk X pins H b) (ho : ∀ b ∈ fp, ∃ o, s.heap.get? b = some o ∧ ∀ v, o.data ≠ .cell v) : Inv X (pins ++ pinsAt fp s.heap) σ H s :=
  I.pins_of fun p hp => (List.mem_append.mp hp).elim (fun z => I.pin p (List.mem_append_right _ z)) fun z => by
    obtain ⟨hb, e⟩ := of_pinsAt z
    obtain ⟨f0, f1, f2, _⟩ := hf p.1 hb
    obtain ⟨o, e', d⟩ := ho p.1 hb
    rw [e] at e'; cases e'
    exact ⟨e, f0, f1, f2, d⟩
theorem Inv.unpinned {pins pl : List (Addr × Obj)} {σ : St} {H : Hp} {s : Shared} (I : Inv X (pins ++ pl) σ H s) : Inv X pins σ H s := I.pins_of fun p hp => I.pin p (List.mem_append_right _ (List.mem_append_left _ hp))
theorem ps_for {iter : Expr} {body : List Stmt} {wi : TI} {g : TG} {tb : TS} {pos : Pos} (hp : PassesOwn (model X.prog X.w) X.A X.env X.xe) (hc : X.calm = true) (hi : PI X tg iter wi) (hg : PG X tg g) (hb : PSs X body tb)
    (hs : ∀ x, foldedSetIterable iter X.env x = pure x := by intro _; rfl) : PS X (.For tg iter body [] pos) (tFor wi g tb) := by
  intro pins s σ H D I h
  refine wpAny_For (thn (hi pins s σ H _ I h) fun v s1 h1 => thn h1 fun itv s2 h2 => ?_) hs
  obtain ⟨it, fp, tn, J, H2, e, I2, T, st2, f2, W, ⟨m0, w0⟩, turn⟩ := h2
  subst e
  -- what stays true of the iterator's objects through the loop
  have stat : ∀ {H' : Hp}, (∀ b ∈ fp, H' b = none) → ∀ b ∈ fp, FpOk X pins H' b := fun hn b hb => ⟨hn b hb, (f2 b hb).2⟩
  refine codeAny_forLoop_any (fun n s' => ∃ i σ' H', Inv X pins σ' H' s' ∧ tn i s'.heap ∧ (∀ b ∈ fp, H' b = none) ∧ W i n σ' H') ?_ m0 ⟨0, σ, H2, I2, st2, fun b hb => (f2 b hb).1, w0⟩
  rintro n s3 ⟨i, σ3, H3, I3, st3, fr3, w3⟩
  rcases turn i n σ3 H3 w3 with ⟨stop, qn⟩ | ⟨go, N, hN, step⟩
  · refine wpAny_passesOwn hp (thn (T.done X rfl rfl rfl hc i pins s3 σ3 H3 X.xe I3 (stat fr3) st3 stop) fun r s4 ⟨hr, I4⟩ => ?_)
    subst hr
    exact wpAny_execs_nil ⟨σ3, H3, I4, qn⟩
  · refine wpAny_passesOwn hp (thn (T.item X rfl rfl rfl hc i pins s3 σ3 H3 X.xe I3 (stat fr3) st3 go) fun r s4 ⟨u, hr, h4⟩ => ?_)
    subst hr
    refine wpAny_passesOwn hp (thn h4 fun _ s5 ⟨x, H5, I5, r5, y5, st5, fr5⟩ => ?_)
    have I5' := I5.pinned (stat fr5) (T.obj _ _ st5)
    refine wpAny_passesOwn hp (thn (hg _ s5 σ3 H5 x u _ I5' r5 (step x H5 y5)) fun _ s6 ⟨σ6, H6, I6, q6⟩ => ?_)
    refine wpAny_passesOwn hp (thn (hb _ s6 σ6 H6 _ I6 q6) fun f s7 q7 => ?_)
    have again : ∀ {σ7 : St} {H7 : Hp}, Inv X (pins ++ pinsAt fp s5.heap) σ7 H7 s7 → N σ7 H7 → ∃ m, m < n ∧ ∃ i σ' H', Inv X pins σ' H' s7 ∧ tn i s7.heap ∧ (∀ b ∈ fp, H' b = none) ∧ W i m σ' H' := fun {σ7 H7} I7 n7 => by
      obtain ⟨m', hm, w7⟩ := hN σ7 H7 n7
      refine ⟨m', hm, i + 1, σ7, H7, I7.unpinned, T.keep _ _ _ st5 fun b hb o e => (I7.pin (b, o) (List.mem_append_right _ (List.mem_append_right _ (mem_pinsAt hb e)))).1, fun b hb => ?_, w7⟩
      obtain ⟨o, e, d⟩ := T.obj _ _ st5 b hb
      exact (I7.pin (b, o) (List.mem_append_right _ (List.mem_append_right _ (mem_pinsAt hb e)))).2.1
    cases f with
    | next => obtain ⟨σ7, H7, I7, n7⟩ := q7; exact again I7 n7
    | cont => obtain ⟨σ7, H7, I7, n7⟩ := q7; exact again I7 n7
    | brk => obtain ⟨σ7, H7, I7, q7⟩ := q7; exact ⟨σ7, H7, I7.unpinned, q7⟩
    | ret v => obtain ⟨x7, σ7, H7, I7, r7, q7⟩ := q7; exact ⟨x7, σ7, H7, I7.unpinned, r7, q7⟩
end

/-! ### the forms one uses -/
/-- over a list that the body leaves as it is -/
theorem for_list {K : PySem.W.Frag} {a : Addr} {xs : List V} {g : TG} {tb : TS} {D : Ends} {σ : St} {H : Hp} (Pv : Nat → St → Hp → Prop) (h0 : Pv 0 σ H) (hl : ∀ i σ H, i ≤ xs.length → Pv i σ H → SqL K H a xs)
    (hs : ∀ i x σ H, xs[i]? = some x → Pv i σ H → g x σ H fun σ2 H2 => tb { D with nx := Pv (i + 1), ct := Pv (i + 1), bk := D.nx } σ2 H2) (hd : ∀ σ H, Pv xs.length σ H → D.nx σ H) :
    ∃ W : Nat → Nat → St → Hp → Prop, (∃ m, W 0 m σ H) ∧ ∀ i m σ H, W i m σ H →
      ((Itl K a).stop i H ∧ D.nx σ H) ∨ ((Itl K a).go i H ∧ ∃ N : St → Hp → Prop, (∀ σ' H', N σ' H' → ∃ m', m' < m ∧ W (i + 1) m' σ' H') ∧ ∀ x H', (Itl K a).yld i H x H' → g x σ H' fun σ2 H2 => tb { D with nx := N, ct := N, bk := D.nx } σ2 H2) := by
  refine ⟨fun i m σ H => m = xs.length - i ∧ i ≤ xs.length ∧ Pv i σ H, ⟨xs.length, by simp, Nat.zero_le _, h0⟩, ?_⟩
  rintro i m σ H ⟨rfl, hi, p⟩
  have q := hl i σ H hi p
  by_cases hlt : i < xs.length
  · refine .inr ⟨⟨xs, xs[i], q, by simp [hlt]⟩, Pv (i + 1), fun σ' H' p' => ⟨xs.length - (i + 1), by omega, rfl, hlt, p'⟩, fun x H' y => ?_⟩
    obtain ⟨e, y⟩ := y
    subst e
    exact hs i x σ _ (y xs q) p
  · have e : i = xs.length := by omega
    subst e
    exact .inl ⟨⟨xs, q, Nat.le_refl _⟩, hd σ H p⟩
theorem for_tup {K : PySem.W.Frag} {a : Addr} {xs : List V} {g : TG} {tb : TS} {D : Ends} {σ : St} {H : Hp} (Pv : Nat → St → Hp → Prop) (h0 : Pv 0 σ H) (hl : ∀ i σ H, i ≤ xs.length → Pv i σ H → SqT K H a xs)
    (hs : ∀ i x σ H, xs[i]? = some x → Pv i σ H → g x σ H fun σ2 H2 => tb { D with nx := Pv (i + 1), ct := Pv (i + 1), bk := D.nx } σ2 H2) (hd : ∀ σ H, Pv xs.length σ H → D.nx σ H) :
    ∃ W : Nat → Nat → St → Hp → Prop, (∃ m, W 0 m σ H) ∧ ∀ i m σ H, W i m σ H →
      ((Itt K a).stop i H ∧ D.nx σ H) ∨ ((Itt K a).go i H ∧ ∃ N : St → Hp → Prop, (∀ σ' H', N σ' H' → ∃ m', m' < m ∧ W (i + 1) m' σ' H') ∧ ∀ x H', (Itt K a).yld i H x H' → g x σ H' fun σ2 H2 => tb { D with nx := N, ct := N, bk := D.nx } σ2 H2) := by
  refine ⟨fun i m σ H => m = xs.length - i ∧ i ≤ xs.length ∧ Pv i σ H, ⟨xs.length, by simp, Nat.zero_le _, h0⟩, ?_⟩
  rintro i m σ H ⟨rfl, hi, p⟩
  have q := hl i σ H hi p
  by_cases hlt : i < xs.length
  · refine .inr ⟨⟨xs, xs[i], q, by simp [hlt]⟩, Pv (i + 1), fun σ' H' p' => ⟨xs.length - (i + 1), by omega, rfl, hlt, p'⟩, fun x H' y => ?_⟩
    obtain ⟨e, y⟩ := y
    subst e
    exact hs i x σ _ (y xs q) p
  · have e : i = xs.length := by omega
    subst e
    exact .inl ⟨⟨xs, q, Nat.le_refl _⟩, hd σ H p⟩
theorem for_range {lo : Int} {n : Nat} {g : TG} {tb : TS} {D : Ends} {σ : St} {H : Hp} (Pv : Nat → St → Hp → Prop) (h0 : Pv 0 σ H)
    (hs : ∀ i σ H, i < n → Pv i σ H → g (.int (lo + i)) σ H fun σ2 H2 => tb { D with nx := Pv (i + 1), ct := Pv (i + 1), bk := D.nx } σ2 H2) (hd : ∀ σ H, Pv n σ H → D.nx σ H) :
    ∃ W : Nat → Nat → St → Hp → Prop, (∃ m, W 0 m σ H) ∧ ∀ i m σ H, W i m σ H →
      ((Itr lo n).stop i H ∧ D.nx σ H) ∨ ((Itr lo n).go i H ∧ ∃ N : St → Hp → Prop, (∀ σ' H', N σ' H' → ∃ m', m' < m ∧ W (i + 1) m' σ' H') ∧ ∀ x H', (Itr lo n).yld i H x H' → g x σ H' fun σ2 H2 => tb { D with nx := N, ct := N, bk := D.nx } σ2 H2) := by
  refine ⟨fun i m σ H => m = n - i ∧ i ≤ n ∧ Pv i σ H, ⟨n, by simp, Nat.zero_le _, h0⟩, ?_⟩
  rintro i m σ H ⟨rfl, hi, p⟩
  by_cases hlt : i < n
  · refine .inr ⟨hlt, Pv (i + 1), fun σ' H' p' => ⟨n - (i + 1), by omega, rfl, hlt, p'⟩, fun x H' y => ?_⟩
    obtain ⟨e, y⟩ := y
    subst e y
    exact hs i σ _ hlt p
  · have e : i = n := by omega
    subst e
    exact .inl ⟨Nat.le_refl _, hd σ H p⟩
/-- while, by a word and a measure of the state -/
theorem while_by {c : TT} {tb : TS} {D : Ends} {σ : St} {H : Hp} (Pv : St → Hp → Prop) (μ : St → Hp → Nat) (h0 : Pv σ H)
    (hs : ∀ σ H, Pv σ H → c σ H fun b H1 => if b = true then tb { D with nx := fun σ' H' => Pv σ' H' ∧ μ σ' H' < μ σ H, ct := fun σ' H' => Pv σ' H' ∧ μ σ' H' < μ σ H, bk := D.nx } σ H1 else D.nx σ H1)
    (mono : ∀ σ H Q Q', (∀ b H1, Q b H1 → Q' b H1) → c σ H Q → c σ H Q') : tWhile c tb D σ H := by
  refine ⟨fun m σ H => m = μ σ H ∧ Pv σ H, ⟨_, rfl, h0⟩, ?_⟩
  rintro m σ H ⟨rfl, p⟩
  refine mono σ H _ _ (fun b H1 q => ?_) (hs σ H p)
  cases b with
  | true => exact ⟨_, fun σ' H' ⟨p', l⟩ => ⟨_, l, rfl, p'⟩, q⟩
  | false => exact q
end L2

namespace L2
open PySem PySem.Spec PyProof.Rows

abbrev R2 := V → V → Hp → VK → Prop
/-- a two-place operation on values: f is binaryOp op, inplaceOp op or compareOp op -/
def OpR (X : Cx) (f : Value → Value → Sem Value) (r : R2) : Prop :=
  ∀ (pins : List (Addr × Obj)) (s : Shared) (σ : St) (H : Hp) (x y : V) (v u : Value) (Q : VK), Inv X pins σ H s → RelV x v → RelV y u → r x y H Q →
    wpAny (model X.prog X.w) X.A (f v u) (EP X pins σ Q) X.xe s
/-- a call of a value that is known (a builtin, a type) with values -/
def CallR (X : Cx) (f : Value) (r : List V → Hp → VK → Prop) : Prop :=
  ∀ (pins : List (Addr × Obj)) (s : Shared) (σ : St) (H : Hp) (xs : List V) (us : List Value) (Q : VK), Inv X pins σ H s → Vals xs us → r xs H Q →
    wpAny (model X.prog X.w) X.A (call f us) (EP X pins σ Q) X.xe s
def tOp (r : R2) (ta tb : TE) : TE := fun σ H Q => ta σ H fun x H1 => tb σ H1 fun y H2 => r x y H2 Q
/-- ints in, under C, and a value out -/
def rI (C : Int → Int → Prop) (g : Int → Int → V) : R2 := fun x y H Q => ∃ i j, x = .int i ∧ y = .int j ∧ C i j ∧ Q (g i j) H
def rI0 (g : Int → Int → V) : R2 := fun x y H Q => ∃ i j, x = .int i ∧ y = .int j ∧ Q (g i j) H
section
variable {X : Cx} {a b c : Expr} {ta tb tc : TE} {pos : Pos}

theorem binT (ha : PE X a ta) (hb : PE X b tb) {pins : List (Addr × Obj)} {s : Shared} {σ : St} {H : Hp} {R : V → V → Hp → Prop} (I : Inv X pins σ H s)
    (h : ta σ H fun x H1 => tb σ H1 fun y H2 => R x y H2) {Q : Value → Shared → Prop} {f : Value → Value → Sem Value}
    (hf : ∀ v u s2 x y H2, Inv X pins σ H2 s2 → RelV x v → RelV y u → R x y H2 → wpAny (model X.prog X.w) X.A (f v u) Q X.xe s2) :
    wpAny (model X.prog X.w) X.A (eval a X.env) (fun v s₁ => wpAny (model X.prog X.w) X.A (eval b X.env) (fun u s₂ => wpAny (model X.prog X.w) X.A (f v u) Q X.xe s₂) X.xe s₁) X.xe s := by
  refine thn (ha pins s σ H _ I h) fun v s1 ⟨x, H1, I1, r1, q1⟩ => ?_
  refine thn (hb pins s1 σ H1 _ I1 q1) fun u s2 ⟨y, H2, I2, r2, q2⟩ => ?_
  exact hf v u s2 x y H2 I2 r1 r2 q2

theorem pe_op {op : Operator} {r : R2} (ho : OpR X (binaryOp op) r) (ha : PE X a ta) (hb : PE X b tb) : PE X (.BinOp a op b pos) (tOp r ta tb) := by
  intro pins s σ H Q I h
  exact wpAny_BinOp (binT ha hb I h fun v u s2 x y H2 I2 rx ry q => ho pins s2 σ H2 x y v u Q I2 rx ry q)
/-! ### ints -/
theorem opI {f : Value → Value → Sem Value} {C : Int → Int → Prop} {g : Int → Int → Int}
    (rule : ∀ (i j : Int) (t u : Tok) (s : Shared) (Q : Value → Shared → Prop) (E : Value → Shared → Prop), C i j → Q (.int (g i j) s.toks) { s with toks := s.toks + 1 } → wpAny (model X.prog X.w) X.A (f (.int i t) (.int j u)) Q E s) :
    OpR X f (rI C fun i j => .int (g i j)) := by
  intro pins s σ H x y v u Q I rx ry h
  obtain ⟨i, j, rfl, rfl, hc, q⟩ := h
  obtain ⟨t, rfl⟩ := rx
  obtain ⟨t', rfl⟩ := ry
  exact rule i j t t' s _ _ hc ⟨.int (g i j), H, I.tok _, ⟨_, rfl⟩, q⟩
theorem opI0 {f : Value → Value → Sem Value} {g : Int → Int → Int}
    (rule : ∀ (i j : Int) (t u : Tok) (s : Shared) (Q : Value → Shared → Prop) (E : Value → Shared → Prop), Q (.int (g i j) s.toks) { s with toks := s.toks + 1 } → wpAny (model X.prog X.w) X.A (f (.int i t) (.int j u)) Q E s) :
    OpR X f (rI0 fun i j => .int (g i j)) := by
  intro pins s σ H x y v u Q I rx ry h
  obtain ⟨i, j, rfl, rfl, q⟩ := h
  obtain ⟨t, rfl⟩ := rx
  obtain ⟨t', rfl⟩ := ry
  exact rule i j t t' s _ _ ⟨.int (g i j), H, I.tok _, ⟨_, rfl⟩, q⟩
theorem opB0 {f : Value → Value → Sem Value} {g : Int → Int → Bool}
    (rule : ∀ (i j : Int) (t u : Tok) (s : Shared) (Q : Value → Shared → Prop) (E : Value → Shared → Prop), Q (.bool (g i j)) s → wpAny (model X.prog X.w) X.A (f (.int i t) (.int j u)) Q E s) :
    OpR X f (rI0 fun i j => .bl (g i j)) := by
  intro pins s σ H x y v u Q I rx ry h
  obtain ⟨i, j, rfl, rfl, q⟩ := h
  obtain ⟨t, rfl⟩ := rx
  obtain ⟨t', rfl⟩ := ry
  exact rule i j t t' s _ _ ⟨.bl (g i j), H, I, rfl, q⟩

def CDiv (i j : Int) : Prop := 0 < j ∧ j < 1073741824
def CPow (i j : Int) : Prop := 0 ≤ j ∧ j ≤ 1000000 ∧ i.natAbs < 2 ^ 64
def CMul (i j : Int) : Prop := (-(2 ^ 64) < i ∧ i < 2 ^ 64) ∨ (-(2 ^ 64) < j ∧ j < 2 ^ 64)
theorem CMul.ok {i j : Int} (h : CMul i j) : IntMulOk i j := by
  rcases h with ⟨h1, h2⟩ | ⟨h1, h2⟩
  · exact .of_left (intBits_le_64 h1 h2)
  · exact .of_right (intBits_le_64 h1 h2)
theorem op_add : OpR X (binaryOp .Add) (rI0 fun i j => .int (i + j)) := opI0 fun _ _ _ _ _ _ _ q => add_int q
theorem op_sub : OpR X (binaryOp .Sub) (rI0 fun i j => .int (i - j)) := opI0 fun _ _ _ _ _ _ _ q => sub_int q
theorem op_mul : OpR X (binaryOp .Mult) (rI CMul fun i j => .int (i * j)) := opI fun _ _ _ _ _ _ _ hc q => mul_int q hc.ok
/-- // by a positive divisor -/
theorem op_fdiv : OpR X (binaryOp .FloorDiv) (rI CDiv fun i j => .int (i / j)) := opI fun i j _ _ _ _ _ hc q => by
  have h1 : (0 : Int) < j := hc.1
  have h2 : j < 1073741824 := hc.2
  exact floordiv_int (by omega) (by rw [Int.fdiv_eq_ediv_of_nonneg i (by omega)]; exact q) (.inl (PyProof.noPylong_small (by omega)))
/-- % by a positive divisor of any size -/
theorem op_mod : OpR X (binaryOp .Mod) (rI (fun _ j => 0 < j) fun i j => .int (i % j)) := opI fun i j _ _ _ _ _ hc q => by
  have h1 : (0 : Int) < j := hc
  exact mod_int' (by omega) (by rw [Int.fmod_eq_emod_of_nonneg i (by omega)]; exact q)
theorem op_pow : OpR X (binaryOp .Pow) (rI CPow fun i j => .int (i ^ j.toNat)) := opI fun _ _ _ _ _ _ _ hc q => pow_int_small hc.1 hc.2.1 hc.2.2 q
/-! ### bools among ints: n += (a < b) -/
end

/-! ### comparisons -/
/-- the scalars that == tells apart as data does -/
def scal : V → V → Bool
  | .non, .non => true | .non, .int _ => true | .int _, .non => true | .non, .bl _ => true | .bl _, .non => true | .non, .str _ => true | .str _, .non => true
  | .int _, .int _ => true | .bl _, .bl _ => true | .str _, .str _ => true | .byt _, .byt _ => true
  | .int _, .str _ => true | .str _, .int _ => true | .bl _, .str _ => true | .str _, .bl _ => true
  | _, _ => false
def rEq : R2 := fun x y H Q => scal x y = true ∧ Q (.bl (decide (x = y))) H
def rNe : R2 := fun x y H Q => scal x y = true ∧ Q (.bl (!decide (x = y))) H

theorem dec_int {i j : Int} : decide (V.int i = V.int j) = (i == j) := by
  rw [Bool.eq_iff_iff]
  simp
theorem dec_bl {i j : Bool} : decide (V.bl i = V.bl j) = (i == j) := by
  rw [Bool.eq_iff_iff]
  simp
theorem dec_str {i j : Str} : decide (V.str i = V.str j) = (i == j) := by
  rw [Bool.eq_iff_iff]
  simp
theorem dec_byt {i j : Array UInt8} : decide (V.byt i = V.byt j) = (i.toList == j.toList) := by
  rw [Bool.eq_iff_iff]
  cases i
  cases j
  simp

section
variable {X : Cx} {a b c : Expr} {ta tb tc : TE} {pos : Pos}
theorem fin_bl {pins : List (Addr × Obj)} {σ : St} {H : Hp} {s : Shared} {Q : VK} {k k' : Bool} (I : Inv X pins σ H s) (q : Q (.bl k) H) (e : k = k') : EP X pins σ Q (.bool k') s := by
  subst e
  exact ⟨.bl k, H, I, rfl, q⟩
theorem op_eq : OpR X (compareOp .Eq) rEq := by
  intro pins s σ H x y v u Q I rx ry h
  obtain ⟨hs, q⟩ := h
  cases x with
  | non =>
    cases rx
    cases y with
    | non => cases ry; exact PySem.EqNone.eq_none_none (fin_bl I q (by simp))
    | bl j => cases ry; exact PySem.EqNone.eq_none_bool (fin_bl I q (by simp))
    | int j => obtain ⟨t', rfl⟩ := ry; exact PySem.EqNone.eq_none_int (fin_bl I q (by simp))
    | str j => obtain ⟨t', rfl⟩ := ry; exact PySem.EqNone.eq_none_str (fin_bl I q (by simp))
    | _ => exact absurd (show false = true from hs) Bool.false_ne_true
  | bl i =>
    cases rx
    cases y with
    | non => cases ry; exact PySem.EqNone.eq_bool_none (fin_bl I q (by simp))
    | bl j => cases ry; exact eq_bool (fin_bl I q dec_bl)
    | str j => obtain ⟨t', rfl⟩ := ry; exact PySem.EqMixed.eq_bool_str (fin_bl I q (by simp))
    | _ => exact absurd (show false = true from hs) Bool.false_ne_true
  | int i =>
    obtain ⟨t, rfl⟩ := rx
    cases y with
    | non => cases ry; exact PySem.EqNone.eq_int_none (fin_bl I q (by simp))
    | int j => obtain ⟨t', rfl⟩ := ry; exact eq_int (fin_bl I q dec_int)
    | str j => obtain ⟨t', rfl⟩ := ry; exact PySem.EqMixed.eq_int_str (fin_bl I q (by simp))
    | _ => exact absurd (show false = true from hs) Bool.false_ne_true
  | str i =>
    obtain ⟨t, rfl⟩ := rx
    cases y with
    | non => cases ry; exact PySem.EqNone.eq_str_none (fin_bl I q (by simp))
    | bl j => cases ry; exact PySem.EqMixed.eq_str_bool (fin_bl I q (by simp))
    | int j => obtain ⟨t', rfl⟩ := ry; exact PySem.EqMixed.eq_str_int (fin_bl I q (by simp))
    | str j => obtain ⟨t', rfl⟩ := ry; exact eq_str (fin_bl I q dec_str)
    | _ => exact absurd (show false = true from hs) Bool.false_ne_true
  | byt i =>
    obtain ⟨t, rfl⟩ := rx
    cases y with
    | byt j => obtain ⟨t', rfl⟩ := ry; exact PySem.W.eq_bytes (fin_bl I q dec_byt)
    | _ => exact absurd (show false = true from hs) Bool.false_ne_true
  | _ => cases y <;> exact absurd (show false = true from hs) Bool.false_ne_true
theorem op_ne : OpR X (compareOp .NotEq) rNe := by
  intro pins s σ H x y v u Q I rx ry h
  obtain ⟨hs, q⟩ := h
  cases x with
  | non =>
    cases rx
    cases y with
    | non => cases ry; exact PySem.EqNone.ne_none_none (fin_bl I q (by simp))
    | bl j => cases ry; exact PySem.EqNone.ne_none_bool (fin_bl I q (by simp))
    | int j => obtain ⟨t', rfl⟩ := ry; exact PySem.EqNone.ne_none_int (fin_bl I q (by simp))
    | str j => obtain ⟨t', rfl⟩ := ry; exact PySem.EqNone.ne_none_str (fin_bl I q (by simp))
    | _ => exact absurd (show false = true from hs) Bool.false_ne_true
  | bl i =>
    cases rx
    cases y with
    | non => cases ry; exact PySem.EqNone.ne_bool_none (fin_bl I q (by simp))
    | bl j => cases ry; exact ne_bool (fin_bl I q (congrArg not dec_bl))
    | str j => obtain ⟨t', rfl⟩ := ry; exact PySem.EqMixed.ne_bool_str (fin_bl I q (by simp))
    | _ => exact absurd (show false = true from hs) Bool.false_ne_true
  | int i =>
    obtain ⟨t, rfl⟩ := rx
    cases y with
    | non => cases ry; exact PySem.EqNone.ne_int_none (fin_bl I q (by simp))
    | int j => obtain ⟨t', rfl⟩ := ry; exact ne_int (fin_bl I q (congrArg not dec_int))
    | str j => obtain ⟨t', rfl⟩ := ry; exact PySem.EqMixed.ne_int_str (fin_bl I q (by simp))
    | _ => exact absurd (show false = true from hs) Bool.false_ne_true
  | str i =>
    obtain ⟨t, rfl⟩ := rx
    cases y with
    | non => cases ry; exact PySem.EqNone.ne_str_none (fin_bl I q (by simp))
    | bl j => cases ry; exact PySem.EqMixed.ne_str_bool (fin_bl I q (by simp))
    | int j => obtain ⟨t', rfl⟩ := ry; exact PySem.EqMixed.ne_str_int (fin_bl I q (by simp))
    | str j => obtain ⟨t', rfl⟩ := ry; exact ne_str (fin_bl I q (congrArg not dec_str))
    | _ => exact absurd (show false = true from hs) Bool.false_ne_true
  | byt i =>
    obtain ⟨t, rfl⟩ := rx
    cases y with
    | byt j => obtain ⟨t', rfl⟩ := ry; exact PySem.W.ne_bytes (fin_bl I q (congrArg not dec_byt))
    | _ => exact absurd (show false = true from hs) Bool.false_ne_true
  | _ => cases y <;> exact absurd (show false = true from hs) Bool.false_ne_true

theorem op_lt : OpR X (compareOp .Lt) (rI0 fun i j => .bl (decide (i < j))) := opB0 fun _ _ _ _ _ _ _ q => lt_int q
theorem op_le : OpR X (compareOp .LtE) (rI0 fun i j => .bl (decide (i ≤ j))) := opB0 fun _ _ _ _ _ _ _ q => le_int q
theorem op_gt : OpR X (compareOp .Gt) (rI0 fun i j => .bl (decide (j < i))) := opB0 fun _ _ _ _ _ _ _ q => gt_int q
theorem nomark (b : Expr) {op : CmpOp} (h : op ≠ .In := by decide) (h2 : op ≠ .NotIn := by decide) : behindInMarks op b = false := by
  have e1 : (op == CmpOp.In) = false := by cases op <;> first | rfl | exact absurd rfl h
  have e2 : (op == CmpOp.NotIn) = false := by cases op <;> first | rfl | exact absurd rfl h2
  cases b <;> simp [behindInMarks, e1, e2]
/-- a comparison as a value; hm: nomark b, or (for in, not in) by with_unfolding_all rfl -/
theorem pe_cmpR {op : CmpOp} {r : R2} (ho : OpR X (compareOp op) r) (ha : PE X a ta) (hb : PE X b tb) (hm : behindInMarks op b = false) : PE X (.Compare a [op] [b] pos) (tOp r ta tb) := by
  intro pins s σ H Q I h
  exact wpAny_Compare1 (binT ha hb I h fun v u s2 x y H2 I2 rx ry q => ho pins s2 σ H2 x y v u Q I2 rx ry q) hm
/-- a reading of a value as a test -/
def tTest (t : TE) : TT := fun σ H Q => t σ H fun x H' => ∃ k, x = .bl k ∧ Q k H'
theorem pt_cmpR {op : CmpOp} {r : R2} (ho : OpR X (compareOp op) r) (ha : PE X a ta) (hb : PE X b tb) (hm : behindInMarks op b = false) : PT X (.Compare a [op] [b] pos) (tTest (tOp r ta tb)) := by
  intro pins s σ H Q I h
  refine wpAny_isTrue_Compare1 (thn (ha pins s σ H _ I h) fun v s1 ⟨x, H1, I1, r1, q1⟩ => thn (hb pins s1 σ H1 _ I1 q1) fun u s2 ⟨y, H2, I2, r2, q2⟩ =>
    thn (ho pins s2 σ H2 x y v u _ I2 r1 r2 q2) fun c s3 ⟨z, H3, I3, r3, k, e, q3⟩ => ?_) hm
  subst e
  cases r3
  exact wpAny_truthy_bool ⟨H3, I3, q3⟩
/-- a op1 b op2 c -/
def tChain (r r' : R2) (ta tb tc : TE) : TE := fun σ H Q => ta σ H fun x H1 => tb σ H1 fun y H2 => r x y H2 fun z H3 => ∃ k, z = .bl k ∧
  (if k = true then tc σ H3 fun w' H4 => r' y w' H4 Q else Q (.bl false) H3)
theorem pe_chain {op op' : CmpOp} {r r' : R2} (ho : OpR X (compareOp op) r) (ho' : OpR X (compareOp op') r') (ha : PE X a ta) (hb : PE X b tb) (hc : PE X c tc)
    (hm : lastMarks [op, op'] [b, c] = false := by with_unfolding_all rfl) : PE X (.Compare a [op, op'] [b, c] pos) (tChain r r' ta tb tc) := by
  intro pins s σ H Q I h
  refine Compare_chain (thn (ha pins s σ H _ I h) fun v s1 ⟨x, H1, I1, r1, q1⟩ => chain_link (thn (hb pins s1 σ H1 _ I1 q1) fun u s2 ⟨y, H2, I2, r2, q2⟩ =>
    thn (ho pins s2 σ H2 x y v u _ I2 r1 r2 q2) fun d s3 ⟨z, H3, I3, r3, k, e, q3⟩ => ?_)) hm
  subst e
  cases r3
  refine wpAny_truthy_bool ?_
  cases k with
  | false => exact ite_ff ⟨.bl false, H3, I3, rfl, q3⟩
  | true => exact ite_tt (chain_last (thn (hc pins s3 σ H3 _ I3 q3) fun w' s4 ⟨z', H4, I4, r4, q4⟩ => ho' pins s4 σ H4 y z' u w' Q I4 r2 r4 q4))
/-! ### truth -/
theorem line63 : (sizeLine : Nat) < 2 ^ 63 := by rw [sizeLine_eq]; decide
/-! ### strs and bytes -/
/-! ### scalar builtins, by CallR -/
theorem vals1 {x : V} {us : List Value} (r : Vals [x] us) : ∃ u, us = [u] ∧ RelV x u := by
  cases r with
  | cons r1 r2 => cases r2; exact ⟨_, rfl, r1⟩
theorem vals2 {x y : V} {us : List Value} (r : Vals [x, y] us) : ∃ u w', us = [u, w'] ∧ RelV x u ∧ RelV y w' := by
  cases r with
  | cons r1 r2 =>
    cases r2 with
    | cons r3 r4 => cases r4; exact ⟨_, _, rfl, r1, r3⟩
theorem call_max2 (hc : X.calm = true) : CallR X (.builtin "max") (fun xs H Q => ∃ i j, xs = [.int i, .int j] ∧ Q (.int (if j > i then j else i)) H) := by
  intro pins s σ H xs us Q I r h
  obtain ⟨i, j, rfl, q⟩ := h
  obtain ⟨u, w', rfl, ⟨t, rfl⟩, ⟨t', rfl⟩⟩ := vals2 r
  refine max_two_ints (I.ok.hd hc) fun h' tk k => ⟨_, H, I.kept k, ?_, q⟩
  by_cases hj : j > i
  · rw [if_pos hj, if_pos hj]; exact ⟨_, rfl⟩
  · rw [if_neg hj, if_neg hj]; exact ⟨_, rfl⟩
theorem call_min2 (hc : X.calm = true) : CallR X (.builtin "min") (fun xs H Q => ∃ i j, xs = [.int i, .int j] ∧ Q (.int (if j < i then j else i)) H) := by
  intro pins s σ H xs us Q I r h
  obtain ⟨i, j, rfl, q⟩ := h
  obtain ⟨u, w', rfl, ⟨t, rfl⟩, ⟨t', rfl⟩⟩ := vals2 r
  refine min_two_ints (I.ok.hd hc) fun h' tk k => ⟨_, H, I.kept k, ?_, q⟩
  by_cases hj : j < i
  · rw [if_pos hj, if_pos hj]; exact ⟨_, rfl⟩
  · rw [if_neg hj, if_neg hj]; exact ⟨_, rfl⟩
end
end L2

namespace L2
open PySem PySem.Spec PyProof.Rows

/-! ### an instance, its attributes a map -/
structure ObjM (h : Heap) (x dx C : Addr) (mA : Str → Option Value) : Prop where
  obj : h.get? x = some (PySem.W.instObj C dx)
  ns : h.Ns1 dx mA
  ne : dx ≠ x

theorem lookIn_ns {h : Heap} {dx : Addr} {mA : Str → Option Value} (n : h.Ns1 dx mA) : ∃ od, h.get? dx = some od ∧ ∀ name, PySem.W.lookIn name od = some (mA name) := by
  obtain ⟨o, es, ep, ho, hd, hk, _, hm⟩ := n
  refine ⟨o, ho, fun name => ?_⟩
  have e := hm name
  unfold nsFind findBy at e
  rw [← Array.find?_toList] at e
  unfold PySem.W.lookIn
  rw [hd]
  dsimp only
  split
  · rename_i y q
    rw [q] at e
    exact congrArg some e
  · rename_i q
    rw [q] at e
    have a : es.toList.any (·.refKey) = false := by
      rw [List.any_eq_false]
      intro y hy
      obtain ⟨z, t, hkey⟩ := hk y (Array.mem_toList_iff.mp hy)
      simp [DictEntry.refKey, hkey]
    have a' : ¬ es.toList.any (·.refKey) = true := by rw [a]; exact Bool.false_ne_true
    rw [if_neg a']
    exact congrArg some e

theorem ObjM.look {h : Heap} {x dx C : Addr} {mA : Str → Option Value} (I : ObjM h x dx C mA) : ∃ od, PySem.W.InstAt h x (PySem.W.instObj C dx) C (some od) ∧ ∀ name, PySem.W.lookIn name od = some (mA name) :=
  let ⟨od, ho, hl⟩ := lookIn_ns I.ns
  ⟨od, ⟨I.obj, rfl, rfl, ho⟩, hl⟩

section
variable {prog : Program} {w : World} {A : Around} {E : Value → Shared → Prop} {s : Shared} {K : PySem.W.Frag} {x dx C f : Addr} {mA : Str → Option Value} {name : Str} {v : Value}

end

/-! ### the attributes as a list of pairs -/
section
variable {P : Program} {w : World} {H H' : Hp} {h h' : Heap} {a C dx : Addr} {fs fs' : List (Str × V)}
theorem ins_get (hok : HOk P w H h) (e : H a = some (.ins C dx fs)) : ∃ mA, ObjM h a dx C mA ∧ (∀ f, RelO (fs.lookup f) (mA f)) ∧ PySem.Within mA (fs.map (·.1)) ∧ fs.length ≤ 1000 ∧ H dx = some (.own a) := by
  obtain ⟨d, z, ne, ob, mA, n, r, q⟩ := (show ObjOk P w H h a (.ins C dx fs) from hok a _ e)
  exact ⟨mA, ⟨ob, n, ne⟩, r, q, z, d⟩
end

/-! ### what of the text a class must have -/
structure Cls (K : PySem.W.Frag) (C : Addr) : Prop where
  pg : PySem.W.plainGet K C Str.empty = true
  hd : PySem.W.hasDictIn K C = true
  po : PySem.W.plainOver K C = true
  sa : PySem.W.findIn K (.ref C) "__setattr__" = some (some (.builtin "object.__setattr__"))
theorem Cls.get {K : PySem.W.Frag} {C : Addr} (c : Cls K C) (f : Str) : PySem.W.plainGet K C f = true := c.pg
section
variable {X : Cx} {pins : List (Addr × Obj)} {σ : St} {H : Hp} {s : Shared} {a C dx : Addr} {fs : List (Str × V)} {f : Str} {v : V} {A : Around} {E : Value → Shared → Prop}

end

/-! ### readings and rules -/
section
variable {X : Cx} {o e value : Expr} {f : Str} {pos pos' tpos : Pos} {ta tv : TE}
end

/-! ### isinstance -/
section
variable {X : Cx} {pins : List (Addr × Obj)} {σ : St} {H : Hp} {s : Shared} {A : Around} {E : Value → Shared → Prop} {Q : Value → Shared → Prop} {c : Value} {b : Bool}
/-- the type of a value, as the fragment's deciders take it; for an instance its class -/
inductive TyOf (K : PySem.W.Frag) (H : Hp) : V → Value → Prop where
  | non : TyOf K H .non (.type "NoneType")
  | bl (x : Bool) : TyOf K H (.bl x) (.type "bool")
  | int (i : Int) : TyOf K H (.int i) (.type "int")
  | str (x : Str) : TyOf K H (.str x) (.type "str")
  | flt (x : UInt64) : TyOf K H (.flt x) (.type "float")
  | lst {a : Addr} {xs : List V} (e : H a = some (.lst xs)) : TyOf K H (.ref a) (.type "list")
  | frz {a : Addr} {o : Obj} {xs : List V} (e : H a = some (.frz o (.lst xs))) : TyOf K H (.ref a) (.type "list")
  | tup {a : Addr} {xs : List V} (e : H a = some (.tup xs)) : TyOf K H (.ref a) (.type "tuple")
  | dK {a : Addr} {kvs : List (Key × V)} (e : H a = some (.dK kvs)) : TyOf K H (.ref a) (.type "dict")
  | dT {a : Addr} {kvs : List (List Key × V)} (e : H a = some (.dT kvs)) : TyOf K H (.ref a) (.type "dict")
  | ins {a C dx : Addr} {fs : List (Str × V)} (e : H a = some (.ins C dx fs)) (cl : Cls K C) (ha : PySem.W.findIn K (.ref C) "__class__" = some (some (.builtin "object.__class__")))
      (hn : PySem.W.specialIn K (.builtin "object.__class__") "__get__" = some (some (.builtin "getset_descriptor.__get__"))) (htk : PySem.W.takesIn K (.builtin "object.__class__") = some true)
      (hm : PySem.W.mroIn K C (.type "object") = some true) : TyOf K H (.ref a) (.ref C)
/-- isinstance(x, c) for one class c, a built-in or an own one: kitOne's answer -/
theorem isinst_ok {x : V} {u t : Value} (I : Inv X pins σ H s) (rx : RelV x u) (ty : TyOf X.K H x t) (e : PySem.W.kitOne X.K t c = some b) (h : ∀ tk, Q (.bool b) { s with toks := tk }) :
    wpAny (model X.prog X.w) A (call (.builtin "isinstance") [u, c]) Q E s := by
  cases ty with
  | non => cases (show u = Value.none from rx); exact PySem.W.kia_one PySem.W.kitx_none I.kIn True.intro e (fun z => nomatch z) h
  | bl y => cases (show u = Value.bool y from rx); exact PySem.W.kia_one PySem.W.kitx_bool I.kIn True.intro e (fun z => nomatch z) h
  | int i => obtain ⟨t, q⟩ := (show ∃ t, u = Value.int i t from rx); cases q; exact PySem.W.kia_one PySem.W.kitx_int I.kIn True.intro e (fun z => nomatch z) h
  | str y => obtain ⟨t, q⟩ := (show ∃ t, u = Value.str y t from rx); cases q; exact PySem.W.kia_one PySem.W.kitx_str I.kIn True.intro e (fun z => nomatch z) h
  | flt y => obtain ⟨t, q⟩ := (show ∃ t, u = Value.float y t from rx); cases q; exact PySem.W.kia_one PySem.W.kitx_float I.kIn True.intro e (fun z => nomatch z) h
  | @lst a xs ea =>
    cases (show u = Value.ref a from rx)
    obtain ⟨_, _, n, _, h1⟩ := (show ObjOk X.prog X.w H s.heap a (.lst xs) from I.hok a _ ea)
    exact PySem.W.kia_one PySem.W.kitx_list I.kIn ⟨_, h1, rfl⟩ e (fun z => nomatch z) h
  | @frz a ob xs ea =>
    cases (show u = Value.ref a from rx)
    obtain ⟨_, _, _, n, _, h1⟩ := (show ObjOk X.prog X.w H s.heap a (.frz ob (.lst xs)) from I.hok a _ ea)
    exact PySem.W.kia_one PySem.W.kitx_list I.kIn ⟨_, h1, rfl⟩ e (fun z => nomatch z) h
  | @tup a xs ea =>
    cases (show u = Value.ref a from rx)
    obtain ⟨_, _, _, p⟩ := (show ObjOk X.prog X.w H s.heap a (.tup xs) from I.hok a _ ea)
    obtain ⟨o, h1, h2, _⟩ := p
    exact PySem.W.kia_one PySem.W.kitx_tuple I.kIn ⟨o, h1, h2⟩ e (fun z => nomatch z) h
  | @dK a kvs ea =>
    cases (show u = Value.ref a from rx)
    obtain ⟨_, _, vs, _, p⟩ := (show ObjOk X.prog X.w H s.heap a (.dK kvs) from I.hok a _ ea)
    obtain ⟨o, es, ep, h1, h2, _⟩ := p
    exact PySem.W.kia_one PySem.W.kitx_dict I.kIn ⟨o, h1, h2.1⟩ e (fun z => nomatch z) h
  | @dT a kvs ea =>
    cases (show u = Value.ref a from rx)
    obtain ⟨_, _, xs, _, o, es, ep, h1, h2, _⟩ := (show ObjOk X.prog X.w H s.heap a (.dT kvs) from I.hok a _ ea)
    exact PySem.W.kia_one PySem.W.kitx_dict I.kIn ⟨o, h1, h2.1⟩ e (fun z => nomatch z) h
  | @ins a C dx fs ea cl ha hn htk hm =>
    cases (show u = Value.ref a from rx)
    obtain ⟨mA, O, _⟩ := ins_get I.hok ea
    obtain ⟨od, J, _⟩ := O.look
    exact PySem.W.kia_one (PySem.W.kitx_own (cl.get _) cl.hd ha hn htk hm) I.kIn J e (fun z => nomatch z) h
end
end L2

namespace L2
open PySem PySem.Spec PyProof.Rows

/-! ### room -/
structure Room (k : Nat) (A : Around) : Prop where
  hd : A.handled = none
  dp : A.depth + 3 * k + 5 < recursionLimit
  un : A.units + 16 * k + 200 < cLine
theorem Room.mono {j k : Nat} {A : Around} (r : Room k A) (h : j ≤ k) : Room j A := ⟨r.hd, by have := r.dp; omega, by have := r.un; omega⟩
theorem Room.deeper {k : Nat} {A : Around} (r : Room (k + 1) A) (env : Env) : Room k (A.deeper env) :=
  ⟨r.hd, by have := r.dp; show A.depth + 1 + 3 * k + 5 < _; omega, by have := r.un; show A.units + 3 + 16 * k + 200 < _; omega⟩
theorem Room.depth {k : Nat} {A : Around} (r : Room k A) : A.depth < recursionLimit := by have := r.dp; omega
theorem Room.units {k : Nat} {A : Around} (r : Room k A) : A.units + 64 < cLine := by have := r.un; omega
/-! ### argument lists and displays -/
def tNil : TA := fun _ H Q => Q [] H
def tCons (ta : TE) (tr : TA) : TA := fun σ H Q => ta σ H fun x H1 => tr σ H1 fun xs H2 => Q (x :: xs) H2
section
variable {X : Cx} {e : Expr} {es : List Expr} {te : TE} {t : TA} {pos : Pos}
theorem pa_nil : PA X [] tNil := fun _ _ _ _ H Q I h => Calls.spliced_nil ⟨[], H, I, .nil, h⟩
theorem pa_cons (ha : PE X e te) (hr : PA X es t) (hs : starEach (e :: es) X.env = (false, eval e X.env) :: starEach es X.env := by rfl) : PA X (e :: es) (tCons te t) := by
  intro pos pins s σ H Q I h
  rw [hs]
  show wpAny _ _ (spliced ((false, eval e X.env) :: backTo pos (starEach es X.env))) _ _ s
  refine Calls.spliced_cons (thn (ha pins s σ H _ I h) fun u s1 ⟨x, H1, I1, r1, q1⟩ => ?_)
  exact thn (hr pos pins s1 σ H1 _ I1 q1) fun us s2 ⟨xs, H2, I2, r2, q2⟩ => ⟨x :: xs, H2, I2, .cons r1 r2, q2⟩

/-- a tuple, a list of written items -/
def tTup (t : TA) : TE := fun σ H Q => t σ H fun xs H1 => xs.length ≤ sizeLine ∧ ∀ p, H1 p = none → Q (.ref p) (upd H1 p (.tup xs))
def tLst (t : TA) : TE := fun σ H Q => t σ H fun xs H1 => xs.length ≤ sizeLine ∧ ∀ p, H1 p = none → Q (.ref p) (upd H1 p (.lst xs))
theorem pe_tup {x1} (h : PA X es t) : PE X (.Tuple es x1 pos) (tTup t) := by
  intro pins s σ H Q I hq
  refine wpAny_Tuple_spliced (thn (h pos pins s σ H _ I hq) fun us s1 ⟨xs, H1, I1, r, z, q⟩ => ⟨by rw [← r.length]; exact z, ?_⟩)
  have hf : H1 s1.heap.objs.size = none := I1.hok.fresh (Nat.le_refl _)
  refine ⟨.ref s1.heap.objs.size, upd H1 s1.heap.objs.size (.tup xs), I1.laid (t' := s1.toks) (fun b u e => Heap.get?_push_of_some _ e) (Nat.le_refl _) ?_, rfl, q _ hf⟩
  exact ⟨z, us, r, ⟨_, Heap.get?_push_size _ rfl, rfl, _, rfl⟩⟩
theorem pe_lst (h : PA X es t) : PE X (.List es pos) (tLst t) := by
  intro pins s σ H Q I hq
  refine wpAny_List_spliced (thn (h pos pins s σ H _ I hq) fun us s1 ⟨xs, H1, I1, r, z, q⟩ => ⟨by rw [← r.length]; exact z, ?_⟩)
  have hf : H1 s1.heap.objs.size = none := I1.hok.fresh (Nat.le_refl _)
  refine ⟨.ref s1.heap.objs.size, upd H1 s1.heap.objs.size (.lst xs), I1.laid (t' := s1.toks) (fun b u e => Heap.get?_push_of_some _ e) (Nat.le_refl _) ?_, rfl, q _ hf⟩
  exact ⟨z, us, 0, r, Heap.get?_push_size _ rfl⟩
end

/-! ### what a def promises -/
/-- a def's promise: the bound arguments in the parameters' order, the heap, the wanted end, the wanted exception -/
abbrev Sp := List V → Hp → VK → XK → Prop
/-- how an exception lies behind a call (file 08 gives it): the callers' frames, abstract heap and state ahead of the call, the wish, the exception, the state -/
abbrev CXT := List Env → Hp → Shared → XK → Value → Shared → Prop

/-- the state at a call -/
structure Env0 (P : Program) (w : World) (K : PySem.W.Frag) (mg : Str → Option Value) (base : Heap) (A : Around) (outer : List Env) (s : Shared) (H : Hp) : Prop where
  frames : A.frames = some outer
  mod : Mod K mg base
  bs : ∀ b o, base.get? b = some o → s.heap.get? b = some o ∧ H b = none
  bsz : base.objs.size ≤ s.heap.objs.size
  funs : s.heap.FunFrames base outer
  frf : ∀ b ∈ frs outer, H b = none
  hok : HOk P w H s.heap
  bare : AllBare s.gens
/-- a call's end -/
def CE (outer : List Env) (P : Program) (w : World) (H : Hp) (s : Shared) (Q : VK) (u : Value) (s' : Shared) : Prop :=
  ∃ v H', s'.os = s.os ∧ AllBare s'.gens ∧ Un (frs outer) [] H H' s.heap s'.heap ∧ HOk P w H' s'.heap ∧ RelV v u ∧ Q v H'
def CR (CX : CXT) (outer : List Env) (P : Program) (w : World) (H : Hp) (s : Shared) (Q : VK) (E : XK) (r : Result) (s' : Shared) : Prop :=
  match r with
  | .ok (.ret u) => CE outer P w H s Q u s'
  | .ok _ => False
  | .error e => CX outer H s E e s'
structure FnOk (P : Program) (w : World) (K : PySem.W.Frag) (mg : Str → Option Value) (base : Heap) (CX : CXT) (k : Nat) (f : Addr) (fd : FuncData) (ps : List Str) (sp : Sp) : Prop where
  len : ∀ vs H Q E, sp vs H Q E → vs.length = ps.length
  run : ∀ (A : Around) (outer : List Env) (s : Shared) (H : Hp) (args : Args) (us : List Value) (vs : List V) (Q : VK) (E : XK), Room k A → Env0 P w K mg base A outer s H → BindsTo s fd args (ps.zip us) → Vals vs us → sp vs H Q E →
    codeAny (model P w) A (.call (.ref f) args) (CR CX outer P w H s Q E) s
theorem FnOk.mono {P : Program} {w : World} {K : PySem.W.Frag} {mg : Str → Option Value} {base : Heap} {CX : CXT} {j k : Nat} {f : Addr} {fd : FuncData} {ps : List Str} {sp : Sp} (F : FnOk P w K mg base CX j f fd ps sp) (h : j ≤ k) :
    FnOk P w K mg base CX k f fd ps sp := ⟨F.len, fun A outer s H args us vs Q E hr => F.run A outer s H args us vs Q E (hr.mono h)⟩
section
variable {X : Cx} {pins : List (Addr × Obj)} {σ : St} {H : Hp} {s s' : Shared}
/-- from a body: what a callee wants -/
theorem Inv.env0 (I : Inv X pins σ H s) : Env0 X.prog X.w X.K X.mg X.base X.A X.stack s H :=
  ⟨I.ok.frames, I.ok.mod, I.bs, Nat.le_trans I.ok.bsz I.sz, I.stack, I.stkFree, I.hok, I.bare⟩
/-- behind a call -/
theorem Inv.after {Q : VK} {u : Value} (I : Inv X pins σ H s) (h : CE X.stack X.prog X.w H s Q u s') : EP X pins σ Q u s' := by
  obtain ⟨v, H', os, bare, un, hok, r, q⟩ := h
  obtain ⟨hh, g, d, t, os'⟩ := s'
  obtain rfl : os' = s.os := os
  exact ⟨v, H', I.call (h' := hh) (g' := g) (d' := d) (t' := t) (ch := []) un hok bare (fun b z => absurd z (by simp)), r, q⟩
end

/-! ### calls -/
/-- f(..): the written arguments, then the defaults dvs; E: what is wanted of an exception -/
def tCall (sp : Sp) (dvs : List V) (E : XK) (t : TA) : TE := fun σ H Q => t σ H fun vs H1 => sp (vs ++ dvs) H1 Q E
/-- how the parameters are bound: us the positional arguments, kw the keywords' values by name, ds the defaults that fill up -/
def Binds (K : PySem.W.Frag) (fd : FuncData) (ps : List Str) (ds : List Value) : Prop :=
  ∀ (s : Shared) (us : List Value), K.In s.heap → (us ++ ds).length = ps.length → BindsTo s fd ⟨us, []⟩ (ps.zip (us ++ ds))
/-- every parameter is given -/
theorem Binds.all {K : PySem.W.Frag} {fd : FuncData} {ps : List Str} (h : ∀ us : List Value, us.length = ps.length → bindArgs fd ⟨us, []⟩ = pure (ps.zip us)) : Binds K fd ps [] := fun s us _ hl => by
  rw [List.append_nil] at hl ⊢
  exact .of_eq (h us hl)

/-- an exception of a callee reaches what this body wants of exceptions -/
def Passes (CX : CXT) (X : Cx) (E : XK) : Prop := ∀ (pins : List (Addr × Obj)) (σ : St) (H : Hp) (s : Shared) (e : Value) (s' : Shared), Inv X pins σ H s → CX X.stack H s E e s' → X.xe e s'

section
variable {X : Cx} {CX : CXT} {k : Nat} {f C : Addr} {fd : FuncData} {ps : List Str} {sp : Sp} {dvs : List V} {ds : List Value} {E : XK} {x m : Str} {p pos apos : Pos} {e o : Expr} {es : List Expr} {ta : TE} {t : TA}

/-- the callee runs -/
theorem run_fn {pins : List (Addr × Obj)} {σ : St} {H : Hp} {s : Shared} {Q : VK} {us : List Value} {vs : List V} (F : FnOk X.prog X.w X.K X.mg X.base CX k f fd ps sp) (hr : Room k X.A) (hb : Binds X.K fd ps ds) (hd : Vals dvs ds) (hx : Passes CX X E)
    (I : Inv X pins σ H s) (r : Vals vs us) (h : sp (vs ++ dvs) H Q E) : wpAny (model X.prog X.w) X.A (call (.ref f) us) (EP X pins σ Q) X.xe s := by
  have r2 : Vals (vs ++ dvs) (us ++ ds) := r.append hd
  have hl : (us ++ ds).length = ps.length := by rw [← r2.length]; exact F.len _ _ _ _ h
  refine wpAny_call (codeAny_mono (F.run X.A X.stack s H ⟨us, []⟩ (us ++ ds) (vs ++ dvs) Q E hr I.env0 (hb s us I.kIn hl) r2 h) fun r s' hq => ?_)
  cases r with
  | error e => exact hx pins σ H s e s' I hq
  | ok fl =>
    cases fl with
    | ret u => exact I.after hq
    | next => exact False.elim hq
    | brk => exact False.elim hq
    | cont => exact False.elim hq

theorem pe_call (F : FnOk X.prog X.w X.K X.mg X.base CX k f fd ps sp) (hr : Room k X.A) (hg : Gl X x) (hm : X.mg x = some (.ref f)) (hk : PySem.W.keepIn X.K (.ref f) = true) (hb : Binds X.K fd ps ds) (hd : Vals dvs ds) (hx : Passes CX X E)
    (ha : PA X (e :: es) t) (hdb : (x == ("__debug__" : Str)) = false := by decide) (he : starEach (e :: es) X.env = (false, eval e X.env) :: starEach es X.env := by rfl) (hpl : (backTo pos (starEach es X.env)).any (·.1) = false := by rfl) :
    PE X (.Call (.Name x p) (e :: es) [] pos) (tCall sp dvs E t) := by
  intro pins s σ H Q I h
  refine wpAny_Call_Name_kw (ld_glob I hg hm ?_ hdb)
  refine PySem.W.callWith_K (h₀ := X.base) I.ok.mod.kin hk (thn (ha pos pins s σ H _ I h) fun us s1 ⟨vs, H1, I1, r, q⟩ => ⟨I1.kIn, ?_⟩) he hpl
  exact run_fn F hr hb hd hx I1 r q
end

/-! ### keywords -/
section
variable {X : Cx} {CX : CXT} {k : Nat} {f C : Addr} {fd : FuncData} {ps ks : List Str} {sp : Sp} {E : XK} {x m : Str} {p pos apos kpos : Pos} {e o : Expr} {es : List Expr} {kws : List Keyword} {te ta : TE} {t tk : TA} {nm : Option Str}
variable {g : List Value → List Value → List Value} {gV : List V → List V → List V}
end

/-! ### a def's body keeps its promise -/
/-- names: the parameters first -/
structure FnScope (N P : List Str) (sc : Scope) : Prop where
  kind : sc.kind = .function
  co : sc.isCoroutine = false
  gen : sc.isGenerator = false
  nd : N.Nodup
  pre : N.take P.length = P
  par : ∀ x ∈ P, sc.names.lookup x = some .local ∨ sc.names.lookup x = some .cell
  nofree : ∀ y ∈ sc.names, y.2 ≠ .free

theorem bindL_out {kindOf : Str → Option NameKind} {x : Str} : ∀ {binds : List (Str × Value)} {m : Str → Option Value}, (∀ v, (x, v) ∉ binds) → bindL kindOf binds m x = m x
  | [], _, _ => rfl
  | (n, v) :: r, m, h => by
    unfold bindL
    rw [bindL_out fun w hw => h w (List.mem_cons_of_mem _ hw)]
    split
    · have : x ≠ n := by rintro rfl; exact h v List.mem_cons_self
      simp [this]
    · rfl
theorem bindC_out {kindOf : Str → Option NameKind} {x : Str} : ∀ {binds : List (Str × Value)} {m : Str → Option Value}, (∀ v, (x, v) ∉ binds) → bindC kindOf binds m x = m x
  | [], _, _ => rfl
  | (n, v) :: r, m, h => by
    unfold bindC
    rw [bindC_out fun w hw => h w (List.mem_cons_of_mem _ hw)]
    split
    · rfl
    · have : x ≠ n := by rintro rfl; exact h v List.mem_cons_self
      simp [this]
theorem bindL_get {kindOf : Str → Option NameKind} {x : Str} {v : Value} : ∀ {P : List Str} {vs : List Value} {i : Nat} {m : Str → Option Value}, P.Nodup → P[i]? = some x → vs[i]? = some v → kindOf x = some .local →
    bindL kindOf (P.zip vs) m x = some v
  | [], _, _, _, _, h, _, _ => by simp at h
  | _ :: _, [], _, _, _, _, h, _ => by simp at h
  | p :: P, w :: vs, 0, m, nd, h1, h2, hk => by
    simp at h1 h2; subst h1; subst h2
    show bindL kindOf ((p, w) :: P.zip vs) m p = _
    unfold bindL
    rw [bindL_out fun v hv => (List.nodup_cons.mp nd).1 (List.of_mem_zip hv).1, if_pos hk]
    simp
  | p :: P, w :: vs, i + 1, m, nd, h1, h2, hk => by
    show bindL kindOf ((p, w) :: P.zip vs) m x = _
    unfold bindL
    exact bindL_get (i := i) (List.nodup_cons.mp nd).2 (by simpa using h1) (by simpa using h2) hk
theorem bindC_get {kindOf : Str → Option NameKind} {x : Str} {v : Value} : ∀ {P : List Str} {vs : List Value} {i : Nat} {m : Str → Option Value}, P.Nodup → P[i]? = some x → vs[i]? = some v → kindOf x ≠ some .local →
    bindC kindOf (P.zip vs) m x = some v
  | [], _, _, _, _, h, _, _ => by simp at h
  | _ :: _, [], _, _, _, _, h, _ => by simp at h
  | p :: P, w :: vs, 0, m, nd, h1, h2, hk => by
    simp at h1 h2; subst h1; subst h2
    show bindC kindOf ((p, w) :: P.zip vs) m p = _
    unfold bindC
    rw [bindC_out fun v hv => (List.nodup_cons.mp nd).1 (List.of_mem_zip hv).1, if_neg hk]
    simp
  | p :: P, w :: vs, i + 1, m, nd, h1, h2, hk => by
    show bindC kindOf ((p, w) :: P.zip vs) m x = _
    unfold bindC
    exact bindC_get (i := i) (List.nodup_cons.mp nd).2 (by simpa using h1) (by simpa using h2) hk

/-- the names' values at the entry -/
def start (N : List Str) (vs : List V) : St := vs.map some ++ List.replicate (N.length - vs.length) none

/-- the context of a def's body, at its entry; an exception leaves the frame, then lies as CX says -/
def cxOf (CX : CXT) (P : Program) (w : World) (K : PySem.W.Frag) (mg : Str → Option Value) (base : Heap) (N : List Str) (qual : Str) (scope : Scope) (f : Addr) (cd : Value) (A : Around) (outer : List Env) (s : Shared) (H : Hp) (E : XK) : Cx where
  prog := P
  w := w
  K := K
  mg := mg
  base := base
  A := A.deeper (envOfC qual scope s.heap.objs.size f cd)
  N := N
  s₀ := s
  H₀ := H
  env := envOfC qual scope s.heap.objs.size f cd
  outer := outer
  stack := envOfC qual scope s.heap.objs.size f cd :: outer
  ex := []
  calm := true
  fn := fun _ => true
  pn := []
  xe := fun e s' => wpAny (model P w) (A.deeper (envOfC qual scope s.heap.objs.size f cd)) (leaving (envOfC qual scope s.heap.objs.size f cd) e) (fun _ s'' => CX outer H s E e s'') (fun e' s'' => CX outer H s E e' s'') s'

theorem cell_has {sc : Scope} {n : Nat} {x : Str} (h : sc.names.lookup x = some .cell) : ∃ c, (cellsFrom n sc.names []).lookup x = some c := by
  have q := PySem.W.cellsFrom_some sc.names n [] (.inl h)
  exact Option.isSome_iff_exists.mp q

theorem inv_start {CX : CXT} {P : Program} {w : World} {K : PySem.W.Frag} {mg : Str → Option Value} {base : Heap} {N ps : List Str} {qual : Str} {scope : Scope} {f : Addr} {cd : Value} {A : Around} {outer : List Env} {s s1 : Shared} {H : Hp} {E : XK} {us : List Value} {vs : List V}
    (S : FnScope N ps scope) (hd : A.handled = none) (e0 : Env0 P w K mg base A outer s H) (hl : vs.length = ps.length) (r : Vals vs us)
    (x : InCallC s s.heap.objs.size (bindL (envOfC qual scope s.heap.objs.size f cd).kindOf (ps.zip us) fun _ => none) (cellsFrom (s.heap.objs.size + 1) scope.names []) (bindC (envOfC qual scope s.heap.objs.size f cd).kindOf (ps.zip us) fun _ => none) s1) :
    Inv (cxOf CX P w K mg base N qual scope f cd A outer s H E) [] (start N vs) H s1 := by
  have hpl : ps.length ≤ N.length := by have := congrArg List.length S.pre; rw [List.length_take] at this; omega
  obtain ⟨h1, tk, rfl, hk⟩ := x.done
  have noA : ∀ b : Addr, b ∉ (cxOf CX P w K mg base N qual scope f cd A outer s H E).ex := fun b z => absurd (show b ∈ ([] : List Addr) from z) (by simp)
  refine ⟨⟨e0.mod, S.kind, rfl, rfl, Nat.le_refl _, fun y z c h1 h2 => ?_, fun y hy => ?_, fun y c _ h => ?_, fun _ => hd, Around.frames_deeper e0.frames, .inr ⟨rfl, rfl⟩, fun b z => absurd z (noA b), e0.bs, e0.bsz, fun b _ _ => noA b, fun b z => absurd z (noA b), e0.funs, e0.frf⟩,
    rfl, e0.bare, Un.kept hk, ⟨_, x.toInCall.ns, fun i y v h1 h2 h3 => ?_⟩, fun y c h => ⟨_, x.cell y c h⟩, e0.hok.fresh (Nat.le_refl _), fun y c h => ?_, fun p hp => absurd (show p ∈ ([] : List (Addr × Obj)) from hp) (by simp), e0.hok.kept hk, ?_⟩
  · exact name_of_addr x.apart (PySem.mem_of_lookup h1) (PySem.mem_of_lookup h2)
  · have hy : scope.names.lookup y = some .cell ∨ scope.names.lookup y = some .free := hy
    rcases hy with hy | hy
    · exact cell_has hy
    · exact absurd rfl (S.nofree _ (PySem.mem_of_lookup hy))
  · exact Nat.le_of_lt (x.above y c (PySem.mem_of_lookup h))
  · have hi : i < vs.length := by
      unfold start at h2
      by_cases hi : i < vs.length
      · exact hi
      · rw [List.getElem?_append_right (by simpa using hi)] at h2
        rw [List.getElem?_replicate] at h2
        split at h2 <;> cases h2
    have ha : vs[i]? = some v := by
      unfold start at h2
      rw [List.getElem?_append_left (by simpa using hi), List.getElem?_map] at h2
      cases e : vs[i]? with
      | none => rw [e] at h2; cases h2
      | some a => rw [e] at h2; cases h2; rfl
    obtain ⟨u, hu, rv⟩ := r.get ha
    have hp : ps[i]? = some y := by
      rw [← S.pre, List.getElem?_take_of_lt (by omega)]; exact h1
    have ndP : ps.Nodup := by rw [← S.pre]; exact S.nd.sublist (List.take_sublist _ _)
    refine ⟨u, rv, ?_⟩
    rcases S.par y (List.mem_of_getElem? hp) with k | k
    · exact .inl ⟨k, bindL_get ndP hp hu k⟩
    · obtain ⟨c, e⟩ := cell_has (n := s.heap.objs.size + 1) k
      refine .inr ⟨.inl k, c, e, ?_⟩
      have q := x.cell y c e
      rw [bindC_get ndP hp hu (by show scope.names.lookup y ≠ _; rw [k]; decide)] at q
      exact q
  · exact e0.hok.fresh (Nat.le_of_lt (x.above y c (PySem.mem_of_lookup h)))
  · unfold start
    show _ = N.length
    rw [List.length_append, List.length_map, List.length_replicate]
    omega

/-- THE RULE: a def (or a method) of the text, by its body. The body's reading t is chosen for each entry; it is run at the parameters' values -/
theorem fn_of {CX : CXT} {P : Program} {w : World} {K : PySem.W.Frag} {mg : Str → Option Value} {base : Heap} {k : Nat} {f : Addr} {name qual : Str} {params : Arguments} {body : List Stmt} {scope : Scope} {dV kV doc pm cdv ct oc : Value} {an od : Option Addr}
    {osl : Array (Option Value)} {N ps : List Str} {sp : Sp} (lk : K.lookup f = some ⟨oc, od, .func (PySem.W.fnOf name qual params body scope dV kV doc pm an cdv ct), osl⟩) (hcd : PySem.W.codeIn K cdv qual = true) (S : FnScope N ps scope)
    (len : ∀ vs H Q E, sp vs H Q E → vs.length = ps.length)
    (hbody : ∀ (A : Around) (outer : List Env) (s : Shared) (H : Hp) (vs : List V) (Q : VK) (E : XK), Room k (A.deeper (envOfC qual scope s.heap.objs.size f cdv)) → sp vs H Q E →
      ∃ t, PSs (cxOf CX P w K mg base N qual scope f cdv A outer s H E) body t ∧ t { nx := fun _ H' => Q .non H', rt := Q } (start N vs) H) :
    FnOk P w K mg base CX (k + 1) f (PySem.W.fnOf name qual params body scope dV kV doc pm an cdv ct) ps sp := by
  refine ⟨len, fun A outer s H args us vs Q E hr e0 hb r hsp => ?_⟩
  have hl := len _ _ _ _ hsp
  have KX : K.In s.heap := e0.mod.kin.keeps fun b o e => (e0.bs b o e).1
  have lim : s.heap.NoLimit := e0.mod.nolimit.keeps fun b o e => (e0.bs b o e).1
  have hkind : ∀ y ∈ ps.zip us, scope.names.lookup y.1 = some .local ∨ (scope.names.lookup y.1 = some .cell ∧ ((cellsFrom (s.heap.objs.size + 1) scope.names []).lookup y.1).isSome = true) := fun ⟨n, v⟩ hy => by
    rcases S.par n (List.of_mem_zip hy).1 with q | q
    · exact .inl q
    · exact .inr ⟨q, PySem.W.cellsFrom_some _ _ _ (.inl q)⟩
  refine codeAny_call_function hr.depth (KX _ _ lk) rfl S.co S.gen rfl (PySem.W.codeRec_of KX hcd) (hb _ _ _ _ ?_)
  refine wpAny_newFunctionEnv_cells S.kind hkind fun env he s1 x => ?_
  subst he
  refine ⟨lim.keeps x.toInCall.keep, codeAny_func ?_⟩
  obtain ⟨t, ht, hq⟩ := hbody A outer s H vs Q E (hr.deeper _) hsp
  have I : Inv (cxOf CX P w K mg base N qual scope f cdv A outer s H E) [] (start N vs) H s1 := inv_start S hr.hd e0 hl r x
  refine wpAny_mono (ht [] s1 (start N vs) H _ I hq) (fun fl s' hs => ?_) fun e s' hs => hs
  have fin : ∀ {σ' : St} {H' : Hp} {v : V} {u : Value}, Inv (cxOf CX P w K mg base N qual scope f cdv A outer s H E) [] σ' H' s' → RelV v u → Q v H' → CE outer P w H s Q u s' :=
    fun {σ' H' v u} J rv q => ⟨v, H', J.os, J.bare, J.base, J.hok, rv, q⟩
  cases fl with
  | ret u =>
    obtain ⟨v, σ', H', J, rv, q⟩ := hs
    exact fin J rv q
  | next =>
    obtain ⟨σ', H', J, q⟩ := hs
    exact fin (v := V.non) (u := Value.none) J rfl q
  | brk =>
    obtain ⟨_, _, _, q⟩ := hs
    exact False.elim q
  | cont =>
    obtain ⟨_, _, _, q⟩ := hs
    exact False.elim q
end L2

namespace L2
open PySem PySem.Spec PyProof.Rows
section
variable {X : Cx} {x : Str} {p pos : Pos} {e : Expr} {es : List Expr} {t : TA} {id T : String} {r : List V → Hp → VK → Prop}

def tCB (r : List V → Hp → VK → Prop) (t : TA) : TE := fun σ H Q => t σ H fun vs H1 => r vs H1 Q
/-- f(e, ..), f a built-in function -/
theorem pe_callB (hc : CallR X (.builtin id) r) (hg : Gl X x) (hm : X.mg x = none) (hv : bootBuiltins x = some (.builtin id)) (ha : PA X (e :: es) t) (hn : x ≠ "__name__" := by decide) (hdb : (x == ("__debug__" : Str)) = false := by decide)
    (he : starEach (e :: es) X.env = (false, eval e X.env) :: starEach es X.env := by rfl) (hpl : (backTo pos (starEach es X.env)).any (·.1) = false := by rfl) : PE X (.Call (.Name x p) (e :: es) [] pos) (tCB r t) := by
  intro pins s σ H Q I h
  refine wpAny_Call_Name_kw (ld_blt I hg hm hv ?_ hn hdb)
  exact PyProof.Rows.callWith_builtin1 (thn (ha pos pins s σ H _ I h) fun us s1 ⟨vs, H1, I1, r1, q1⟩ => hc pins s1 σ H1 vs us Q I1 r1 q1) he hpl
/-- T(e, ..), T a built-in type -/
theorem pe_callTy (hc : CallR X (.type T) r) (hg : Gl X x) (hm : X.mg x = none) (hv : bootBuiltins x = some (.type T)) (ha : PA X (e :: es) t) (hn : x ≠ "__name__" := by decide) (hdb : (x == ("__debug__" : Str)) = false := by decide)
    (he : starEach (e :: es) X.env = (false, eval e X.env) :: starEach es X.env := by rfl) (hpl : (backTo pos (starEach es X.env)).any (·.1) = false := by rfl) : PE X (.Call (.Name x p) (e :: es) [] pos) (tCB r t) := by
  intro pins s σ H Q I h
  refine wpAny_Call_Name_kw (ld_blt I hg hm hv ?_ hn hdb)
  exact PyProof.Rows.callWith_type1 (thn (ha pos pins s σ H _ I h) fun us s1 ⟨vs, H1, I1, r1, q1⟩ => hc pins s1 σ H1 vs us Q I1 r1 q1) he hpl
end
end L2

namespace HT
open PySem PyProof.Rows

/-- t < u of tuples of ints -/
def lexLt : List Int → List Int → Bool
  | [], [] => false
  | [], _ :: _ => true
  | _ :: _, [] => false
  | x :: xs, y :: ys => if x = y then lexLt xs ys else decide (x < y)
theorem lexLt_cons (x y : Int) (xs ys : List Int) : lexLt (x :: xs) (y :: ys) = if x = y then lexLt xs ys else decide (x < y) := rfl
theorem rcLt_int (A : Around) (s : Shared) (a : Int) (t : Tok) (c : Int) (u : Tok) (prog : Program) (w : World) (E : Value → Shared → Prop) (Q : Value → Shared → Prop) (h : Q (.bool (decide (a < c))) s) :
    wpAny (model prog w) A (richCompare .Lt (.int a t) (.int c u)) Q E s :=
  (PyProof.Rows.lt_int h : wpAny (model prog w) A (compareOp .Lt (.int a t) (.int c u)) Q E s)

section
open PySem.SeqAt
open PySem.AutoSeq1 (wpAny_loadPart')
open PySem.MeetsSeq PySem.MeetsSeq2 PySem.MeetsSeq3

end

section
variable {prog : Program} {w : World} {A : Around} {E : Value → Shared → Prop} {s : Shared}

/-! ### t[a:b], not the whole -/
/-- a slice's bound as a place among n (d where it is left out) -/
def sIx (n d : Nat) : Option Int → Nat
  | none => d
  | some v => if v < 0 then (v + (n : Int)).toNat else min v.toNat n
theorem sIx_none (n d : Nat) : sIx n d none = d := rfl
theorem sIx_nat (n d k : Nat) : sIx n d (some (k : Int)) = min k n := by
  show (if (k : Int) < 0 then ((k : Int) + (n : Int)).toNat else min (k : Int).toNat n) = min k n
  rw [if_neg (by omega), Int.toNat_natCast]
end
end HT

namespace L2
open PySem PySem.Spec PyProof.Rows

/-! ### the parts of a slice -/
abbrev TO := St → Hp → (Option Int → Hp → Prop) → Prop
/-- a slice's part (left out, or an int) -/
def PO (X : Cx) (e : Option Expr) (t : TO) : Prop :=
  ∀ (pins : List (Addr × Obj)) (s : Shared) (σ : St) (H : Hp) (Q : Option Int → Hp → Prop), Inv X pins σ H s → t σ H Q →
    wpAny (model X.prog X.w) X.A (evalPart e X.env) (fun u s' => ∃ o H', Inv X pins σ H' s' ∧ IsPart u o ∧ Q o H') X.xe s
def tNoPart : TO := fun _ H Q => Q none H
def tPart (t : TE) : TO := fun σ H Q => t σ H fun x H1 => ∃ i, x = .int i ∧ Q (some i) H1

theorem intsAre_of {ns : List Int} : ∀ {us : List Value}, Vals (ns.map V.int) us → IntsAre us ns := by
  induction ns with
  | nil => intro us r; rw [List.map_nil] at r; cases r; exact .nil
  | cons n ns ih =>
    intro us r
    rw [List.map_cons] at r
    cases r with
    | cons r1 r2 =>
      obtain ⟨t, e⟩ := r1
      subst e
      exact .cons n t (ih r2)

section
variable {X : Cx} {e : Expr} {te : TE} {lo hi : Option Expr} {tl th : TO} {pos p2 : Pos}

theorem po_none : PO X none tNoPart := by
  intro pins s σ H Q I h
  rw [evalPart_none]
  exact wpAny_pure ⟨none, H, I, .none, h⟩
theorem po_some (h : PE X e te) : PO X (some e) (tPart te) := by
  intro pins s σ H Q I hw
  rw [evalPart_some]
  refine thn (h pins s σ H _ I hw) fun u s1 ⟨x, H1, I1, r1, q1⟩ => ?_
  obtain ⟨i, rfl, q⟩ := q1
  obtain ⟨t, rfl⟩ := r1
  exact ⟨some i, H1, I1, .int i t, q⟩

/-- what a slice of a value is, by values: the slice object stands at sl -/
def SlR (X : Cx) (r : V → Option Int → Option Int → Hp → VK → Prop) : Prop :=
  ∀ (pins : List (Addr × Obj)) (s : Shared) (σ : St) (H : Hp) (x : V) (v vl vu : Value) (lo hi : Option Int) (sl : Addr) (Q : VK), Inv X pins σ H s → RelV x v → s.heap.IsSliceOf sl vl vu .none → IsPart vl lo → IsPart vu hi → r x lo hi H Q →
    ∃ T id, typeLookup (.type T) "__getitem__" = pure (some (.builtin id)) ∧ s.TypeIs v T ∧ wpAny (model X.prog X.w) X.A (getItem v (.ref sl)) (EP X pins σ Q) X.xe s
def tSl (r : V → Option Int → Option Int → Hp → VK → Prop) (te : TE) (tl th : TO) : TE := fun σ H Q => te σ H fun x H1 => tl σ H1 fun l H2 => th σ H2 fun u H3 => r x l u H3 Q
/-- a[lo:hi], any a -/
theorem pe_slice {r : V → Option Int → Option Int → Hp → VK → Prop} (hr : SlR X r) (he : PE X e te) (hl : PO X lo tl) (hu : PO X hi th) : PE X (.Subscript e (.Slice lo hi none p2) pos) (tSl r te tl th) := by
  intro pins s σ H Q I h
  refine Subscript_ (thn (he pins s σ H _ I h) fun v s1 ⟨x, H1, I1, r1, q1⟩ => ?_)
  refine wpAny_Slice (thn (hl pins s1 σ H1 _ I1 q1) fun vl s2 ⟨l, H2, I2, pl, q2⟩ => thn (hu pins s2 σ H2 _ I2 q2) fun vu s3 ⟨u, H3, I3, pu, q3⟩ => ?_)
  rw [evalPart_none]
  refine wpAny_pure ?_
  have I4 : Inv X pins σ H3 { s3 with heap := s3.heap.push { cls := .type "slice", data := .fields #[vl, vu, .none] } } := I3.kept (t' := s3.toks) fun b ob q => Heap.get?_push_of_some _ q
  obtain ⟨T, id, hT, ht, hg⟩ := hr pins { s3 with heap := s3.heap.push { cls := .type "slice", data := .fields #[vl, vu, .none] } } σ H3 x v vl vu l u s3.heap.objs.size Q I4 r1 (Heap.IsSliceOf.new ..) pl pu q3
  show wpAny (model X.prog X.w) X.A (subscriptTail e (.Slice lo hi none p2) v (.ref s3.heap.objs.size)) (EP X pins σ Q) X.xe { s3 with heap := s3.heap.push { cls := .type "slice", data := .fields #[vl, vu, .none] } }
  exact tail_any (ops := [.ref s3.heap.objs.size, v]) ht hT hg (by with_unfolding_all rfl)

/-- the items of xs[lo:hi] -/
def cutV (xs : List V) (lo hi : Option Int) : List V := (xs.drop (HT.sIx xs.length 0 lo)).take (HT.sIx xs.length xs.length hi - HT.sIx xs.length 0 lo)
theorem cutV_length (xs : List V) (lo hi : Option Int) : (cutV xs lo hi).length ≤ xs.length := by
  unfold cutV
  rw [List.length_take, List.length_drop]
  omega
/-! ### t < u, t + u -/
end
end L2

namespace L2
open PySem PySem.Spec PyProof.Rows

/-! ### places -/
/-- the place that an index of any sign means -/
def ixN (n : Nat) (i : Int) : Option Nat := if 0 ≤ i then (if i < n then some i.toNat else none) else if -(n : Int) ≤ i then some (i + n).toNat else none
def atI {α : Type} (xs : List α) (i : Int) : Option α := (ixN xs.length i).bind fun j => xs[j]?
theorem ixN_seq {n : Nat} {i : Int} {j : Nat} (h : ixN n i = some j) : seqIndex? i n = some j ∧ j < n ∧ -(n : Int) ≤ i ∧ i < n := by
  unfold ixN at h
  by_cases h0 : 0 ≤ i
  · rw [if_pos h0] at h
    by_cases h1 : i < n
    · rw [if_pos h1] at h
      have e : i.toNat = j := Option.some.inj h
      exact ⟨by rw [seqIndex_of h0 h1, e], by omega, by omega, h1⟩
    · rw [if_neg h1] at h; cases h
  · rw [if_neg h0] at h
    by_cases h1 : -(n : Int) ≤ i
    · rw [if_pos h1] at h
      have e : (i + n).toNat = j := Option.some.inj h
      exact ⟨by rw [seqIndex_neg (by omega) h1, e], by omega, h1, by omega⟩
    · rw [if_neg h1] at h; cases h
theorem atI_get {α : Type} {xs : List α} {i : Int} {v : α} (h : atI xs i = some v) : ∃ j, seqIndex? i xs.length = some j ∧ xs[j]? = some v ∧ j < xs.length ∧ -(xs.length : Int) ≤ i ∧ i < xs.length := by
  unfold atI at h
  cases e : ixN xs.length i with
  | none => rw [e] at h; cases h
  | some j =>
    rw [e] at h
    obtain ⟨h1, h2, h3, h4⟩ := ixN_seq e
    exact ⟨j, h1, h, h2, h3, h4⟩
theorem atI_nat {α : Type} {xs : List α} {j : Nat} {v : α} (h : xs[j]? = some v) : atI xs (j : Int) = some v := by
  have hj : j < xs.length := (List.getElem?_eq_some_iff.mp h).1
  have e : ixN xs.length (j : Int) = some j := by
    unfold ixN
    rw [if_pos (by omega), if_pos (by omega)]; simp
  unfold atI; rw [e]; exact h
/-! ### what may be subscripted -/
/-- what stands as an index of a plain subscript -/
def PlainIx (b : Expr) : Prop := ∀ o i, subscripted b false o i = operate [o, i] (getItem o i)
/-- a subscript by values -/
def IxR (X : Cx) (r : R2) : Prop :=
  ∀ (value slice : Expr) (pins : List (Addr × Obj)) (s : Shared) (σ : St) (H : Hp) (x y : V) (v u : Value) (Q : VK), Inv X pins σ H s → RelV x v → RelV y u → r x y H Q →
    subscripted slice false v u = operate [v, u] (getItem v u) → wpAny (model X.prog X.w) X.A (subscriptTail value slice v u) (EP X pins σ Q) X.xe s
/-- a call of a builtin's method by values: the receiver, the arguments -/
def MtR (X : Cx) (id : String) (r : V → List V → Hp → VK → Prop) : Prop :=
  ∀ (pins : List (Addr × Obj)) (s : Shared) (σ : St) (H : Hp) (x : V) (xs : List V) (v : Value) (us : List Value) (Q : VK), Inv X pins σ H s → RelV x v → Vals xs us → r x xs H Q →
    wpAny (model X.prog X.w) X.A (call (.builtin id) (v :: us)) (EP X pins σ Q) X.xe s
section
variable {X : Cx} {a b : Expr} {ta tb : TE} {pos : Pos}
/-- a[b] -/
theorem pe_ix {r : R2} (hr : IxR X r) (ha : PE X a ta) (hb : PE X b tb) (hs : PlainIx b) : PE X (.Subscript a b pos) (tOp r ta tb) := by
  intro pins s σ H Q I h
  exact Subscript_ (binT ha hb I h fun v u s2 x y H2 I2 rx ry q => hr a b pins s2 σ H2 x y v u Q I2 rx ry q (hs _ _))

def rIxL (K : PySem.W.Frag) : R2 := fun x y H Q => ∃ p xs i v, x = .ref p ∧ y = .int i ∧ SqL K H p xs ∧ atI xs i = some v ∧ Q v H
def rIxT (K : PySem.W.Frag) : R2 := fun x y H Q => ∃ p xs i v, x = .ref p ∧ y = .int i ∧ SqT K H p xs ∧ atI xs i = some v ∧ Q v H
theorem ix_list : IxR X (rIxL X.K) := by
  intro value slice pins s σ H x y v u Q I rx ry h hs
  obtain ⟨p, xs, i, z, rfl, rfl, hq, he, q⟩ := h
  cases rx
  obtain ⟨t, rfl⟩ := ry
  obtain ⟨its, r, pl, hz⟩ := I.list hq
  obtain ⟨j, h1, h2, h3, h4, h5⟩ := atI_get he
  obtain ⟨w, ew, rw'⟩ := r.get h2
  have hl := r.length
  have hn := line63
  have fin : EP X pins σ Q w s := ⟨z, H, I, rw', q⟩
  by_cases h0 : 0 ≤ i
  · have hj : i.toNat = j := by
      rw [seqIndex_of h0 h5] at h1
      exact Option.some.inj h1
    exact item_listR pl.isList h0 (by omega) (by rw [hj]; simpa using ew) fin hs
  · have hj : (i + (its.toArray.size : Int)).toNat = j := by
      rw [seqIndex_neg (by omega) h4] at h1
      rw [List.size_toArray, ← hl]
      exact Option.some.inj h1
    exact subscriptTail_builtinR (x := w) pl.isList.typeIs slot_list_getitem.lookup
      (wpAny_getItem_list_neg (Q := fun r s' => r = w ∧ EP X pins σ Q r s') pl.isList (by omega) (by rw [List.size_toArray] <;> omega) (by omega) (by rw [hj]; simpa using ew) ⟨rfl, fin⟩) hs
theorem ix_tup : IxR X (rIxT X.K) := by
  intro value slice pins s σ H x y v u Q I rx ry h hs
  obtain ⟨p, xs, i, z, rfl, rfl, hq, he, q⟩ := h
  cases rx
  obtain ⟨t, rfl⟩ := ry
  obtain ⟨its, r, pl, hz⟩ := I.tuple hq
  obtain ⟨j, h1, h2, h3, h4, h5⟩ := atI_get he
  obtain ⟨w, ew, rw'⟩ := r.get h2
  have hl := r.length
  have hn := line63
  have fin : EP X pins σ Q w s := ⟨z, H, I, rw', q⟩
  exact subscriptTail_builtinR (x := w) pl.typeIs slot_tuple_getitem.lookup
    (getItem_tuple (j := j) (Q := fun r s' => r = w ∧ EP X pins σ Q r s') pl (by omega) (by omega) (by rw [List.size_toArray, ← hl]; exact h1) (by simpa using ew) ⟨rfl, fin⟩) hs
/-! ### xs[i] = v, any sign -/
/-- the list's object behind a store -/
theorem mapSeq_set (its : List Value) (n j : Nat) (u : Value) : Obj.mapSeq (·.setIfInBounds j u) { cls := .type "list", data := .seq its.toArray n } = { cls := .type "list", data := .seq (its.set j u).toArray n } := by
  simp [Obj.mapSeq]
theorem Inv.lst {pins : List (Addr × Obj)} {σ : St} {H : Hp} {s : Shared} {p : Addr} {xs : List V} (I : Inv X pins σ H s) (h : H p = some (.lst xs)) :
    ∃ (its : List Value) (n : Nat), Vals xs its ∧ s.heap.get? p = some { cls := .type "list", data := .seq its.toArray n } ∧ xs.length ≤ sizeLine := by
  obtain ⟨z, its, n, r, e⟩ := I.hok p _ h
  exact ⟨its, n, r, e, z⟩
/-- the list at p is written by an update of its object -/
theorem Inv.lstUpd {pins : List (Addr × Obj)} {σ : St} {H : Hp} {s : Shared} {p : Addr} {xs ys : List V} {its its' : List Value} {n n' : Nat} {f : Obj → Obj} (I : Inv X pins σ H s) (h : H p = some (.lst xs))
    (ho : s.heap.get? p = some { cls := .type "list", data := .seq its.toArray n }) (hf : f { cls := .type "list", data := .seq its.toArray n } = { cls := .type "list", data := .seq its'.toArray n' }) (r : Vals ys its') (hz : ys.length ≤ sizeLine) (t : Nat) :
    Inv X pins σ (upd H p (.lst ys)) { s with heap := s.heap.update p f, toks := t } := by
  have e : (s.heap.update p f).get? p = some { cls := .type "list", data := .seq its'.toArray n' } := by
    rw [Heap.get?_update_self f ho (by rw [hf] <;> rfl), hf]
  refine I.write (x := p) (e := p) (by rw [h]; trivial) (.inl rfl) (fun b u hb q => (Heap.get?_update_other _ _ (Ne.symm hb)).trans q) ⟨_, e⟩ ?_
  exact ⟨hz, its', n', r, e⟩
def rSetL : V → V → V → Hp → (Hp → Prop) → Prop := fun o i v H Q => ∃ p xs k j, o = .ref p ∧ i = .int k ∧ H p = some (.lst xs) ∧ ixN xs.length k = some j ∧ Q (upd H p (.lst (xs.set j v)))
theorem set_list : PSet X rSetL := by
  intro pins s σ H o i v ov iv u Q I ro ri rv h
  obtain ⟨p, xs, k, j, rfl, rfl, hp, hj, q⟩ := h
  cases ro
  obtain ⟨t, rfl⟩ := ri
  obtain ⟨its, n, r, ho, hz⟩ := I.lst hp
  obtain ⟨h1, h2, h3, h4⟩ := ixN_seq hj
  have hl := r.length
  have hn := line63
  have I' : Inv X pins σ (upd H p (.lst (xs.set j v))) { s with heap := s.heap.update p (Obj.mapSeq (·.setIfInBounds j u)) } :=
    I.lstUpd hp ho (mapSeq_set its n j u) (r.set rv j) (by rw [List.length_set]; exact hz) s.toks
  by_cases h0 : 0 ≤ k
  · have hk : k.toNat = j := by
      rw [seqIndex_of h0 h4] at h1
      exact Option.some.inj h1
    exact PySem.W.ki_setAt ho h0 (by omega) (by rw [List.size_toArray, ← hl]; exact h4) (by rw [hk]; exact ⟨_, I', q⟩)
  · have hk : (k + (its.toArray.size : Int)).toNat = j := by
      rw [seqIndex_neg (by omega) h3] at h1
      rw [List.size_toArray, ← hl]
      exact Option.some.inj h1
    exact PySem.W.ki_setBack ho (by omega) (by rw [List.size_toArray, ← hl]; exact h3) (by omega) (by rw [hk]; exact ⟨_, I', q⟩)

/-! ### slices -/
theorem slice_bounds (lo hi : Option Int) (n : Nat) : (sliceBounds lo hi none n).1 = ((HT.sIx n 0 lo : Nat) : Int) ∧ (sliceBounds lo hi none n).2.1 = ((HT.sIx n n hi : Nat) : Int) ∧ (sliceBounds lo hi none n).2.2 = 1 := by
  refine ⟨?_, ?_, rfl⟩
  · cases lo with
    | none => simp [sliceBounds, HT.sIx]
    | some i =>
      simp only [sliceBounds, HT.sIx, Option.getD_none, show (1 : Int) > 0 by decide, if_true]
      by_cases h : i < 0
      · simp only [h, if_true] <;> omega
      · simp only [h, if_false] <;> omega
  · cases hi with
    | none => simp [sliceBounds, HT.sIx]
    | some i =>
      simp only [sliceBounds, HT.sIx, Option.getD_none, show (1 : Int) > 0 by decide, if_true]
      by_cases h : i < 0
      · simp only [h, if_true] <;> omega
      · simp only [h, if_false] <;> omega
theorem slicePick_cut (its : List Value) (lo hi : Option Int) : slicePick its.toArray lo hi none = ((its.drop (HT.sIx its.length 0 lo)).take (HT.sIx its.length its.length hi - HT.sIx its.length 0 lo)).toArray := by
  obtain ⟨h1, h2, h3⟩ := slice_bounds lo hi its.toArray.size
  unfold slicePick
  rw [h1, h2, h3]
  simp only [sliceRange_one, pick_run, List.size_toArray] <;> rfl
/-- xs[lo:hi] of a list: a new list -/
def rSlL (K : PySem.W.Frag) : V → Option Int → Option Int → Hp → VK → Prop := fun x lo hi H Q => ∃ a xs, x = .ref a ∧ SqL K H a xs ∧ ∀ p, H p = none → Q (.ref p) (upd H p (.lst (cutV xs lo hi)))
theorem sl_list : SlR X (rSlL X.K) := by
  intro pins s σ H x v vl vu lo hi sl Q I rx hs pl pu h
  obtain ⟨a, xs, rfl, hx, q⟩ := h
  cases rx
  obtain ⟨its, r, ht, hz⟩ := I.list hx
  have hlen := r.length
  refine ⟨"list", _, slot_list_getitem.lookup, ht.isList.typeIs, ?_⟩
  refine wpAny_getItem_list_slice ht.isList hs pl pu .none (by simp) ?_ (by rw [List.size_toArray] <;> omega)
  rw [slicePick_cut, ← hlen]
  refine ⟨.ref s.heap.objs.size, _, I.laid (t' := s.toks) (o := .lst (cutV xs lo hi)) (fun b ob q => Heap.get?_push_of_some _ q) (Nat.le_refl _) ?_, rfl, q _ (I.hok.fresh (Nat.le_refl _))⟩
  exact ⟨Nat.le_trans (cutV_length xs lo hi) hz, _, 0, (r.drop (HT.sIx xs.length 0 lo)).take (HT.sIx xs.length xs.length hi - HT.sIx xs.length 0 lo), Heap.get?_push_size _ rfl⟩

/-! ### in, not in: flat items -/
def flatV : V → Bool
  | .non => true
  | .bl _ => true
  | .int _ => true
  | .str _ => true
  | _ => false
/-- == of flat values -/
def eqV : V → V → Bool
  | .non, .non => true
  | .bl a, .bl b => a == b
  | .bl a, .int b => (if a then 1 else 0) == b
  | .int a, .bl b => a == (if b then 1 else 0)
  | .int a, .int b => a == b
  | .str a, .str b => a == b
  | _, _ => false
theorem eqAt_V {A : Around} {s : Shared} {y x : V} {u v : Value} (ry : RelV y u) (rx : RelV x v) (fy : flatV y = true) (fx : flatV x = true) : SeqAt.EqAt A s u v (eqV y x) := by
  cases y with
  | non =>
    cases ry
    cases x with
    | non => cases rx; exact SeqAt.EqAt.same _
    | bl b => cases rx; exact SeqAt.EqAt.none_bool b
    | int b => obtain ⟨t, rfl⟩ := rx; exact SeqAt.EqAt.none_int b t
    | str b => obtain ⟨t, rfl⟩ := rx; exact SeqAt.EqAt.none_str b t
    | _ => exact absurd (show false = true from fx) Bool.false_ne_true
  | bl a =>
    cases ry
    cases x with
    | non => cases rx; exact SeqAt.EqAt.bool_none a
    | bl b => cases rx; exact SeqAt.EqAt.bool_bool a b
    | int b => obtain ⟨t, rfl⟩ := rx; exact SeqAt.EqAt.bool_int a b t
    | str b => obtain ⟨t, rfl⟩ := rx; exact SeqAt.EqAt.bool_str a b t
    | _ => exact absurd (show false = true from fx) Bool.false_ne_true
  | int a =>
    obtain ⟨t', rfl⟩ := ry
    cases x with
    | non => cases rx; exact SeqAt.EqAt.int_none a t'
    | bl b => cases rx; exact SeqAt.EqAt.int_bool a t' b
    | int b => obtain ⟨t, rfl⟩ := rx; exact SeqAt.EqAt.int_int a t' b t
    | str b => obtain ⟨t, rfl⟩ := rx; exact SeqAt.EqAt.int_str a t' b t
    | _ => exact absurd (show false = true from fx) Bool.false_ne_true
  | str a =>
    obtain ⟨t', rfl⟩ := ry
    cases x with
    | non => cases rx; exact SeqAt.EqAt.str_none a t'
    | bl b => cases rx; exact SeqAt.EqAt.str_bool a t' b
    | int b => obtain ⟨t, rfl⟩ := rx; exact SeqAt.EqAt.str_int a t' b t
    | str b => obtain ⟨t, rfl⟩ := rx; exact SeqAt.EqAt.str_str a t' b t
    | _ => exact absurd (show false = true from fx) Bool.false_ne_true
  | _ => exact absurd (show false = true from fy) Bool.false_ne_true
/-- the items' answers, read off the values (a value's own answer does not lean on its token) -/
def eqU (x : V) (u : Value) : Bool := match u with
  | .none => eqV .non x
  | .bool b => eqV (.bl b) x
  | .int i _ => eqV (.int i) x
  | .str z _ => eqV (.str z) x
  | _ => false
theorem eqU_of {x y : V} {u : Value} (r : RelV y u) (f : flatV y = true) : eqU x u = eqV y x := by
  cases y with
  | non => cases r; rfl
  | bl b => cases r; rfl
  | int i => obtain ⟨t, rfl⟩ := r; rfl
  | str z => obtain ⟨t, rfl⟩ := r; rfl
  | _ => exact absurd (show false = true from f) Bool.false_ne_true
theorem any_eqU {x : V} : ∀ {xs : List V} {us : List Value}, Vals xs us → xs.all flatV = true → us.any (eqU x) = xs.any fun y => eqV y x
  | _, _, .nil, _ => rfl
  | y :: xs, u :: us, .cons r t, f => by
    rw [List.all_cons, Bool.and_eq_true] at f
    rw [List.any_cons, List.any_cons, eqU_of r f.1, any_eqU t f.2]
theorem mem_eqAt {A : Around} {s : Shared} {x : V} {v : Value} (rx : RelV x v) (fx : flatV x = true) : ∀ {xs : List V} {us : List Value}, Vals xs us → xs.all flatV = true → ∀ u ∈ us, SeqAt.EqAt A s u v (eqU x u)
  | _, _, .nil, _ => fun u hu => by cases hu
  | y :: xs, u :: us, .cons r t, f => fun u' hu => by
    rw [List.all_cons, Bool.and_eq_true] at f
    rcases List.mem_cons.mp hu with rfl | hu
    · rw [eqU_of r f.1]; exact eqAt_V r rx f.1 fx
    · exact mem_eqAt rx fx t f.2 u' hu
def inV (x : V) (xs : List V) : Bool := xs.any fun y => eqV y x
/-- x in a list or tuple of flat items -/
def rIn (K : PySem.W.Frag) (neg : Bool) : R2 := fun x y H Q => ∃ p xs, y = .ref p ∧ (SqL K H p xs ∨ SqT K H p xs) ∧ flatV x = true ∧ xs.all flatV = true ∧ Q (.bl (if neg then !inV x xs else inV x xs)) H
theorem op_in_seq : OpR X (compareOp .In) (rIn X.K false) := by
  intro pins s σ H x y v u Q I rx ry h
  obtain ⟨p, xs, rfl, hq, fx, fs, q⟩ := h
  cases ry
  rcases hq with hq | hq
  · obtain ⟨its, r, pl, hz⟩ := I.list hq
    refine SeqAt.in_listAt (eqU x) pl.isList (fun w hw => mem_eqAt rx fx r fs w (by simpa using hw)) ⟨.bl _, H, I, rfl, ?_⟩
    rw [show its.toArray.any (eqU x) = its.any (eqU x) by simp, any_eqU r fs]
    exact q
  · obtain ⟨its, r, pl, hz⟩ := I.tuple hq
    refine SeqAt.in_tupleAt (eqU x) pl (fun w hw => mem_eqAt rx fx r fs w (by simpa using hw)) ⟨.bl _, H, I, rfl, ?_⟩
    rw [show its.toArray.any (eqU x) = its.any (eqU x) by simp, any_eqU r fs]
    exact q
/-! ### len, list(x), tuple(x) of any list or tuple that is read -/
theorem call_len_seq : CallR X (.builtin "len") (fun xs H Q => ∃ p ys, xs = [.ref p] ∧ (SqL X.K H p ys ∨ SqT X.K H p ys) ∧ Q (.int ys.length) H) := by
  intro pins s σ H xs us Q I r h
  obtain ⟨p, ys, rfl, hq, q⟩ := h
  obtain ⟨u, rfl, rx⟩ := vals1 r
  cases rx
  have hn := line63
  rcases hq with hq | hq
  · obtain ⟨its, r', pl, hz⟩ := I.list hq
    have hlen := r'.length
    exact Calls.call_len_list pl.isList (by simp only [List.size_toArray] <;> omega) ⟨.int ys.length, H, I.tok _, ⟨s.toks + 1, by rw [List.size_toArray, hlen]⟩, q⟩
  · obtain ⟨its, r', pl, hz⟩ := I.tuple hq
    have hlen := r'.length
    exact len_tuple pl (by simp only [List.size_toArray] <;> omega) ⟨.int ys.length, H, I.tok _, ⟨s.toks + 1, by rw [List.size_toArray, hlen]⟩, q⟩
theorem call_list_of : CallR X (.type "list") (fun xs H Q => ∃ p ys, xs = [.ref p] ∧ (SqL X.K H p ys ∨ SqT X.K H p ys) ∧ ∀ l, H l = none → Q (.ref l) (upd H l (.lst ys))) := by
  intro pins s σ H xs us Q I r h
  obtain ⟨p, ys, rfl, hq, q⟩ := h
  obtain ⟨u, rfl, rx⟩ := vals1 r
  cases rx
  have fin : ∀ (its : List Value), Vals ys its → ys.length ≤ sizeLine → ∀ (h' : Heap) (c' : Nat), (∀ b o', s.heap.get? b = some o' → h'.get? b = some o') →
      h'.get? s.heap.objs.size = some { cls := .type "list", dict := none, data := .seq its.toArray c', slots := #[] } → EP X pins σ Q (.ref s.heap.objs.size) { s with heap := h' } := fun its r' hz h' c' kp e =>
    ⟨.ref s.heap.objs.size, _, I.laid (t' := s.toks) kp (Nat.le_refl _) (show ObjOk X.prog X.w _ h' _ (.lst ys) from ⟨hz, its, c', r', e⟩), rfl, q _ (I.hok.fresh (Nat.le_refl _))⟩
  rcases hq with hq | hq
  · obtain ⟨its, r', pl, hz⟩ := I.list hq
    have hlen := r'.length
    obtain ⟨o, ho, hc, n, hd⟩ := pl.isList
    exact call_list_seq p (.inl rfl) ho hc hd (fun h' c' kp e => fin its r' hz h' c' kp e) (by simp only [List.size_toArray] <;> omega)
  · obtain ⟨its, r', pl, hz⟩ := I.tuple hq
    have hlen := r'.length
    obtain ⟨o, ho, hc, n, hd⟩ := pl
    exact call_list_seq p (.inr rfl) ho hc hd (fun h' c' kp e => fin its r' hz h' c' kp e) (by simp only [List.size_toArray] <;> omega)
theorem call_tuple_of : CallR X (.type "tuple") (fun xs H Q => ∃ p ys, xs = [.ref p] ∧ ((SqL X.K H p ys ∧ ∀ l, H l = none → Q (.ref l) (upd H l (.tup ys))) ∨ (SqT X.K H p ys ∧ Q (.ref p) H))) := by
  intro pins s σ H xs us Q I r h
  obtain ⟨p, ys, rfl, h⟩ := h
  obtain ⟨u, rfl, rx⟩ := vals1 r
  cases rx
  rcases h with ⟨hq, q⟩ | ⟨hq, q⟩
  · obtain ⟨its, r', pl, hz⟩ := I.list hq
    have hlen := r'.length
    refine call_tuple_list pl.isList (fun h' kp => ?_) (by simp only [List.size_toArray] <;> omega)
    have I1 : Inv X pins σ H { s with heap := h' } := I.kept (t' := s.toks) kp
    have I2 : Inv X pins σ (upd H h'.objs.size (.tup ys)) { s with heap := h'.push { cls := .type "tuple", data := .seq its.toArray } } :=
      I1.laid (t' := s.toks) (fun b o e => Heap.get?_push_of_some _ e) (Nat.le_refl _) (show ObjOk X.prog X.w _ _ _ (.tup ys) from ⟨hz, its, r', IsTup.new _ _⟩)
    exact ⟨.ref h'.objs.size, _, I2, rfl, q _ (I1.hok.fresh (Nat.le_refl _))⟩
  · obtain ⟨its, r', pl, hz⟩ := I.tuple hq
    exact call_tuple_same pl ⟨.ref p, H, I, rfl, q⟩

/-! ### the call of a builtin's method: o.m(..) -/
/-- the value is of that builtin type -/
def tyV (K : PySem.W.Frag) (T : String) (x : V) (H : Hp) : Prop := match x with
  | .str _ => T = "str"
  | .int _ => T = "int"
  | .ref p => (T = "list" ∧ ∃ xs, SqL K H p xs) ∨ (T = "tuple" ∧ ∃ o, K.lookup p = some o ∧ o.cls = .type "tuple" ∧ o.dict = none) ∨
      (T = "dict" ∧ ((∃ kvs, H p = some (.dK kvs)) ∨ ∃ kvs, H p = some (.dT kvs))) ∨ (T = "set" ∧ ∃ S n, H p = some (.set S n))
  | _ => False
theorem tyV_is {pins : List (Addr × Obj)} {σ : St} {H : Hp} {s : Shared} {T : String} {x : V} {v : Value} (I : Inv X pins σ H s) (r : RelV x v) (ty : tyV X.K T x H) :
    s.TypeIs v T ∧ ∀ a, v = .ref a → ∃ ob, s.heap.get? a = some ob ∧ ob.dict = none := by
  cases x with
  | str z =>
    obtain ⟨t, rfl⟩ := r
    cases (show T = "str" from ty)
    exact ⟨typeIs_str s z t, fun _ e => nomatch e⟩
  | int i =>
    obtain ⟨t, rfl⟩ := r
    cases (show T = "int" from ty)
    exact ⟨typeIs_int s i t, fun _ e => nomatch e⟩
  | ref p =>
    cases r
    rcases ty with ⟨rfl, xs, hq⟩ | ⟨rfl, o, hk, hc, hd⟩ | ⟨rfl, hk⟩ | ⟨rfl, S, n, hk⟩
    · obtain ⟨its, _, pl, _⟩ := I.list hq
      refine ⟨pl.isList.typeIs, fun a e => ?_⟩
      cases e
      obtain ⟨o, n, e, c, hd, _⟩ := pl
      exact ⟨o, e, hd⟩
    · refine ⟨⟨o, I.kIn p o hk, hc⟩, fun a e => ?_⟩
      cases e
      exact ⟨o, I.kIn _ o hk, hd⟩
    · have z : ∃ o, s.heap.get? p = some o ∧ o.ExactDict := by
        rcases hk with ⟨kvs, hk⟩ | ⟨kvs, hk⟩
        · obtain ⟨_, _, _, _, o, _, _, e, ex, _⟩ := I.hok p _ hk
          exact ⟨o, e, ex⟩
        · obtain ⟨_, _, _, _, o, _, _, e, ex, _⟩ := I.hok p _ hk
          exact ⟨o, e, ex⟩
      obtain ⟨o, e, ex⟩ := z
      refine ⟨⟨o, e, ex.1⟩, fun a e2 => ?_⟩
      cases e2
      exact ⟨o, e, ex.2.1⟩
    · obtain ⟨o, _, _, _, e, ex, _⟩ := I.hok p _ hk
      refine ⟨⟨o, e, ex.1⟩, fun a e2 => ?_⟩
      cases e2
      exact ⟨o, e, ex.2.1⟩
  | _ => exact False.elim ty
def tBM (K : PySem.W.Frag) (T : String) (r : V → List V → Hp → VK → Prop) (to : TE) (t : TA) : TE := fun σ H Q => to σ H fun x H1 => tyV K T x H1 ∧ t σ H1 fun xs H2 => r x xs H2 Q
variable {o e : Expr} {es : List Expr} {to : TE} {t : TA} {name : Str} {apos cpos : Pos} {T id : String} {r : V → List V → Hp → VK → Prop}
theorem pe_bm (pa : PlainAttrs T) (slot : Slot T name id) (hty : typeOf (.builtin id) = pure (.type "method_descriptor")) (hm : MtR X id r) (ho : PE X o to) (ha : PA X (e :: es) t)
    (hbase : attributeBase o name X.env (eval o X.env) = eval o X.env := by rfl)
    (hfew : ((backTo cpos (starEach (e :: es) X.env)).all (fun x => !x.1) && (backToKw cpos (keywordEach [] X.env)).all (fun x => x.1.isSome)
      && decide ((e :: es).length + ([] : List Keyword).length + (if ([] : List Keyword).isEmpty then 0 else 1) < 30)) = true := by rfl)
    (hline : (apos.endLine == cpos.line) = true := by rfl) (hs : starEach (e :: es) X.env = (false, eval e X.env) :: starEach es X.env := by rfl) (hplain : (backTo cpos (starEach es X.env)).any (·.1) = false := by rfl) :
    PE X (.Call (.Attribute o name apos) (e :: es) [] cpos) (tBM X.K T r to t) := by
  intro pins s σ H Q I h
  refine wpAny_Call_method_late hbase hfew hline rfl (thn (ho pins s σ H _ I h) fun v s1 ⟨x, H1, I1, r1, ty, q1⟩ => ?_)
  obtain ⟨h1, h2⟩ := tyV_is I1 r1 ty
  refine ⟨T, id, pa, slot, hty, h1, h2, ?_⟩
  have hA := ha cpos pins s1 σ H1 _ I1 q1
  rw [hs] at hA ⊢
  refine Calls.callWith_builtin (by show (false || (backTo cpos (starEach es X.env)).any (·.1)) = false; rw [hplain] <;> rfl) (Calls.evalArgs_plain ?_)
  exact thn hA fun us s2 ⟨vs, H2, I2, r2, q2⟩ => hm pins s2 σ H2 x vs v us Q I2 r1 r2 q2
/- xs.append(e), list.index on a module's tuple .. are MtR facts of 06m -/
end
end L2

namespace L2
open PySem PySem.Spec PyProof.Rows

def MtM (X : Cx) (id : String) (r : V → List V → Hp → VK → Prop) : Prop :=
  ∀ (pins : List (Addr × Obj)) (s : Shared) (σ : St) (H : Hp) (x : V) (xs : List V) (v : Value) (us : List Value) (Q : VK), Inv X pins σ H s → RelV x v → Vals xs us → r x xs H Q →
    wpAny (model X.prog X.w) X.A (call (.builtin id) (v :: us)) (EP X pins σ Q) X.xe s

/-! ### lists of values -/
theorem Vals.one : ∀ {x : V} {us : List Value}, Vals [x] us → ∃ u, us = [u] ∧ RelV x u
  | _, _, .cons r .nil => ⟨_, rfl, r⟩
theorem Vals.two : ∀ {x y : V} {us : List Value}, Vals [x, y] us → ∃ u v, us = [u, v] ∧ RelV x u ∧ RelV y v
  | _, _, _, .cons r (.cons q .nil) => ⟨_, _, rfl, r, q⟩
theorem Vals.eraseIdx : ∀ {xs : List V} {us : List Value} (i : Nat), Vals xs us → Vals (xs.eraseIdx i) (us.eraseIdx i)
  | _, _, _, .nil => .nil
  | _, _, 0, .cons _ t => t
  | _, _, i + 1, .cons r t => .cons r (Vals.eraseIdx i t)
theorem Vals.rep {xs : List V} {us : List Value} (h : Vals xs us) : ∀ k : Nat, Vals (List.replicate k xs).flatten (List.replicate k us).flatten
  | 0 => .nil
  | k + 1 => by
    rw [List.replicate_succ, List.replicate_succ, List.flatten_cons, List.flatten_cons]
    exact Vals.append h (Vals.rep h k)
theorem len_erase {α : Type} : ∀ (l : List α) (i : Nat), (l.eraseIdx i).length ≤ l.length
  | [], _ => Nat.le_refl _
  | _ :: _, 0 => Nat.le_succ _
  | _ :: r, i + 1 => Nat.succ_le_succ (len_erase r i)
theorem foldl_rep (its : List Value) : ∀ (k : Nat) (acc : List Value),
    List.foldl (fun x1 x2 => x1 ++ x2) acc.toArray (List.replicate k its.toArray) = (acc ++ (List.replicate k its).flatten).toArray
  | 0, acc => by simp
  | k + 1, acc => by
    have e : acc.toArray ++ its.toArray = (acc ++ its).toArray := by simp
    have e2 : (acc ++ its) ++ (List.replicate k its).flatten = acc ++ (List.replicate (k + 1) its).flatten := by
      rw [List.replicate_succ, List.flatten_cons, List.append_assoc]
    rw [← e2, ← foldl_rep its k (acc ++ its), ← e, List.replicate_succ, List.foldl_cons]

section
variable {X : Cx} {pins : List (Addr × Obj)} {σ : St} {H : Hp} {s : Shared} {l b : Addr} {xs ys zs : List V}

/-! ### the two steps: a tracked list is rewritten, a new list is laid -/
theorem Inv.lset {its its' : List Value} {n : Nat} {f : Array Value → Array Value} {t' : Nat} (I : Inv X pins σ H s) (hH : H l = some (.lst xs))
    (e : s.heap.get? l = some { cls := .type "list", data := .seq its.toArray n }) (hf : f its.toArray = its'.toArray) (hv : Vals ys its') (hz : ys.length ≤ sizeLine) :
    Inv X pins σ (upd H l (.lst ys)) { s with heap := s.heap.update l (Obj.mapSeq f), toks := t' } := by
  have q := PySem.IsL.update e f
  rw [hf] at q
  refine I.write (x := l) (e := l) (by rw [hH]; exact trivial) (.inl rfl) (fun b' u hb hu => (Heap.get?_update_other s.heap (Obj.mapSeq f) (Ne.symm hb)).trans hu) ⟨_, q⟩ ?_
  exact ⟨hz, its', _, hv, q⟩
theorem Inv.lnew {its : List Value} {t' : Nat} (I : Inv X pins σ H s) (hv : Vals ys its) (hz : ys.length ≤ sizeLine) :
    Inv X pins σ (upd H s.heap.objs.size (.lst ys)) { s with heap := s.heap.push { cls := .type "list", data := .seq its.toArray }, toks := t' } :=
  I.laid (fun _ _ q => Heap.get?_push_of_some _ q) (Nat.le_refl _) ⟨hz, its, 0, hv, Heap.get?_push_size _ rfl⟩
theorem Inv.fresh (I : Inv X pins σ H s) : H s.heap.objs.size = none := I.hok.fresh (Nat.le_refl _)
theorem Inv.lstM (I : Inv X pins σ H s) (hH : H l = some (.lst xs)) : xs.length ≤ sizeLine ∧ ∃ (its : List Value) (n : Nat), Vals xs its ∧ xs.length = its.length ∧ s.heap.get? l = some { cls := .type "list", data := .seq its.toArray n } := by
  obtain ⟨z, its, n, r, e⟩ := I.hok l _ hH
  exact ⟨z, its, n, r, r.length, e⟩

theorem notLongL {n : Nat} (h : n ≤ sizeLine) : Builtin.List.listTooLong n = false := by
  unfold Builtin.List.listTooLong
  exact decide_eq_false (by omega)
end

section
variable {X : Cx}

/-! ### methods -/
def rAppend : V → List V → Hp → VK → Prop := fun x vs H Q => ∃ l xs y, x = .ref l ∧ vs = [y] ∧ H l = some (.lst xs) ∧ xs.length < sizeLine ∧ Q .non (upd H l (.lst (xs ++ [y])))
theorem mt_append : MtM X "list.append" rAppend := by
  intro pins s σ H x vs v us Q I rx rv h
  obtain ⟨l, xs, y, rfl, rfl, hH, hz, q⟩ := h
  cases rx
  obtain ⟨u, rfl, ru⟩ := rv.one
  obtain ⟨z, its, n, r, hl, e⟩ := I.lstM hH
  refine call_meets F.slot_list_append ⟨_, e, rfl⟩ F.entry_list_append (F.args_list_append_2 _ _) (PySem.list_append l its.toArray n u (by rw [List.size_toArray]; omega)) ⟨e, ?_⟩
  refine ⟨.non, _, I.lset (its' := its ++ [u]) hH e (by simp) (r.append (.cons ru .nil)) ?_, rfl, q⟩
  rw [List.length_append, List.length_singleton]
  omega

def rPopAt : V → List V → Hp → VK → Prop := fun x vs H Q => ∃ l xs i k y, x = .ref l ∧ vs = [.int i] ∧ H l = some (.lst xs) ∧ -(2 ^ 63) ≤ i ∧ i < 2 ^ 63 ∧ seqIndex? i xs.length = some k ∧ xs[k]? = some y ∧ Q y (upd H l (.lst (xs.eraseIdx k)))
theorem mt_popAt : MtM X "list.pop" rPopAt := by
  intro pins s σ H x vs v us Q I rx rv h
  obtain ⟨l, xs, i, k, y, rfl, rfl, hH, h1, h2, hk, hy, q⟩ := h
  cases rx
  obtain ⟨u, rfl, ru⟩ := rv.one
  obtain ⟨t, rfl⟩ := ru
  obtain ⟨z, its, n, r, hl, e⟩ := I.lstM hH
  obtain ⟨w, hw, rw'⟩ := r.get hy
  refine call_meets F.slot_list_pop ⟨_, e, rfl⟩ F.entry_list_pop (F.args_list_pop_2 _ _)
    (MeetsSeq.list_pop_at l its.toArray n i t k w (fitsIndex_both h1 h2) (by rw [List.size_toArray, ← hl]; exact hk) (by rw [← Array.getElem?_toList]; exact hw) (by rw [List.size_toArray]; omega)) ⟨e, ?_⟩
  refine ⟨y, _, I.lset (its' := its.eraseIdx k) hH e ?_ (r.eraseIdx k) ?_, rw', q⟩
  · show its.toArray.eraseIdxIfInBounds k = (its.eraseIdx k).toArray
    rw [List.eraseIdxIfInBounds_toArray]
  · have := len_erase xs k
    omega

/-! ### list + list, list += list, list * int -/
def rCat : R2 := fun x y H Q => ∃ l b xs zs, x = .ref l ∧ y = .ref b ∧ H l = some (.lst xs) ∧ H b = some (.lst zs) ∧ xs.length + zs.length ≤ sizeLine ∧ ∀ p, H p = none → Q (.ref p) (upd H p (.lst (xs ++ zs)))
theorem op_cat : OpR X (binaryOp .Add) rCat := by
  intro pins s σ H x y v u Q I rx ry h
  obtain ⟨l, b, xs, zs, rfl, rfl, hH, hB, hz, q⟩ := h
  cases rx
  cases ry
  obtain ⟨z, its, n, r, hl, e⟩ := I.lstM hH
  obtain ⟨z2, its2, n2, r2, hl2, e2⟩ := I.lstM hB
  refine PySem.P.add_list e e2 ?_ (by rw [List.size_toArray, List.size_toArray]; omega)
  have ea : its.toArray ++ its2.toArray = (its ++ its2).toArray := by simp
  rw [ea]
  exact ⟨.ref _, _, I.lnew (t' := s.toks) (r.append r2) (by rw [List.length_append]; omega), rfl, q _ I.fresh⟩
/-- a list times an int (a negative one is nothing) -/
def rRep : R2 := fun x y H Q => ∃ l k xs, x = .ref l ∧ y = .int k ∧ H l = some (.lst xs) ∧ -(2 ^ 63) ≤ k ∧ k < 2 ^ 63 ∧ xs.length * k.toNat ≤ sizeLine ∧
  ∀ p, H p = none → Q (.ref p) (upd H p (.lst (List.replicate k.toNat xs).flatten))
theorem len_rep {α : Type} (xs : List α) (k : Nat) : (List.replicate k xs).flatten.length = k * xs.length := by
  induction k with
  | zero => simp
  | succ k ih => rw [List.replicate_succ, List.flatten_cons, List.length_append, ih, Nat.succ_mul, Nat.add_comm]
theorem op_rep : OpR X (binaryOp .Mult) rRep := by
  intro pins s σ H x y v u Q I rx ry h
  obtain ⟨l, k, xs, rfl, rfl, hH, h1, h2, hz, q⟩ := h
  cases rx
  obtain ⟨t, rfl⟩ := ry
  obtain ⟨z, its, n, r, hl, e⟩ := I.lstM hH
  have hlen : its.toArray.size * k.toNat ≤ sizeLine := by rw [List.size_toArray, ← hl]; exact hz
  have hcap : ¬ its.toArray.size * k.toNat > (2 ^ 63 - 1) / 8 := by
    have : (sizeLine : Nat) ≤ (2 ^ 63 - 1) / 8 := by decide
    omega
  have hfit : ¬ (!Builtin.List.listFitsIndex k) = true := by
    rw [fitsIndex_both h1 h2]
    exact Bool.false_ne_true
  have hlong : ¬ Builtin.List.listTooLong (its.toArray.size * k.toNat) = true := by
    rw [notLongL hlen]
    exact Bool.false_ne_true
  have hnew : List.foldl (fun x1 x2 => x1 ++ x2) #[] (List.replicate (if its.toArray.isEmpty = true then 0 else k.toNat) its.toArray) = (List.replicate k.toNat its).flatten.toArray := by
    have f0 : ∀ m : Nat, List.foldl (fun x1 x2 => x1 ++ x2) #[] (List.replicate m its.toArray) = (List.replicate m its).flatten.toArray := fun m => by
      have := foldl_rep its m []
      rw [List.nil_append] at this
      exact this
    rw [f0]
    cases its with
    | nil => simp
    | cons a r' => rw [if_neg (by simp)]
  refine wpAny_binaryOp_repeat_ref (T := "list") (U := "int") (by decide) ⟨_, e, rfl⟩ (fun s' => typeIs_int s' k t) noFill_list_mul F.fills_int_mul F.slot_int_rmul repeat_list F.slot_int_index.lookup
    (call_meets F.slot_int_rmul (typeIs_int s k t) F.entry_int_rmul (F.args_int_rmul_2 _ _) (int___rmul___int_list k t l its.toArray n)
      ⟨e, rfl, ⟨_, e, rfl⟩, call_meets F.slot_list_mul ⟨_, e, rfl⟩ F.entry_list_mul (F.args_list_mul_2 _ _) (AutoListH.list___mul___list_int_3 l its.toArray n k t hfit hcap hlong) ⟨e, ?_⟩⟩)
  rw [hnew]
  exact ⟨.ref _, _, I.lnew (t' := s.toks) (r.rep k.toNat) (by rw [len_rep, Nat.mul_comm]; exact hz), rfl, q _ I.fresh⟩

/-! ### del xs[i] -/
end

/-! ### xs[a:b] = ys -/
section
variable {prog : Program} {w : World} {A : Around} {E : Value → Shared → Prop} {s : Shared}
end

section
variable {X : Cx}
end
end L2

namespace Att
open PySem PySem.W PySem.Calls PyProof.Rows

/-! ### the script -/
theorem ints_of_wellAll {P : Params} {h : Heap} : ∀ (ns : List Int) (vs : List Value), WellAll P h vs (ns.map WData.int) → IntsAre vs ns := by
  intro ns
  induction ns with
  | nil =>
    intro vs w
    rw [List.map_nil] at w
    cases w
    exact .nil
  | cons n ns ih =>
    intro vs w
    rw [List.map_cons] at w
    cases w with
    | cons a b =>
      cases a
      exact .cons _ _ (ih _ b)

theorem script_of {l : OpenLaw} {n : Nat} (hn : l.most = some n) {P : Params} {h : Heap} {args : List WData} {vals : List Value}
    (hpre : l.row.toRowW.claim.pre args = true) (hwl : WellAll P h vals args) :
    ∃ a vs ns, vals = [Value.ref a] ∧ args = [WData.list (ns.map WData.int)] ∧ h.get? a = some { cls := .type "list", data := .seq vs.toArray } ∧ IntsAre vs ns ∧ ns.length ≤ n := by
  have hsh : WShape.hasAll [] args [.list .int] = true := (pre_splitW hpre).1
  have hc : l.pre.holds [] { args := args } = true := (pre_splitW hpre).2
  obtain ⟨d, r, rfl, h1, h2⟩ := hasAllW_cons hsh
  obtain rfl := hasAllW_nil h2
  obtain ⟨xs, rfl, h3⟩ := hasW_list h1
  obtain ⟨ns, rfl⟩ := items_int h3
  have hlen : ns.length ≤ n := by
    unfold OpenLaw.pre at hc
    have h4 : (WTm.not (.lt (.lit (.int (n : Int))) (.len (.arg 0)))).holds [] { args := [.list (ns.map .int)] } = true := by
      have h4 := (holds_andW hc).1
      rw [hn] at h4
      exact h4
    have h5 := condW_of h4 (w_not (w_lt w_lit (w_len_list (w_arg rfl))))
    rw [List.length_map] at h5
    refine Nat.le_of_not_lt fun q => ?_
    have q' : (n : Int) < ((ns.length : Nat) : Int) := by omega
    first
      | (rw [decide_eq_true q'] at h5; exact absurd h5 (by decide))
      | (simp at h5; omega)
  cases hwl with
  | cons w1 w2 =>
    cases w2
    cases w1 with
    | list ho hall => exact ⟨_, _, ns, rfl, rfl, ho, ints_of_wellAll ns _ hall, hlen⟩

theorem post_true (l : OpenLaw) (args : List WData) : l.row.toRowW.claim.post args (.bool true) args = true :=
  postW_of (r := l.row.toRowW) (X := (true == true))
    (show WShape.has [] (.bool true) .bool = true by first | rfl | decide | simp [WShape.has, WShape.arms, WShape.armsAll])
    (show (WTm.eq .res (.lit (.bool true))).value [] { args := args, res := some (.bool true), after := args } = some (.bool (true == true)) from w_eq_bool (w_res rfl) w_lit) rfl

/-! ### the attachment: holds_open's last premise (the goal 'hc' behind k_head) from a wpAny of the law's body -/
/-! ### rules over ANY heap (no ledger) from facts about the written part K: the library's own take a ledger (News) for what they write -/
section
variable {prog : Program} {w : World} {A : Around} {E : Value → Shared → Prop} {s : Shared} {K : Frag}

/-! the whole heap as the ledger: makes every rule that writes through a ledger a rule over any heap -/
end
end Att

namespace L2
open PySem PySem.Spec PyProof.Rows

theorem vals_ints : ∀ {vs : List Value} {ns : List Int}, IntsAre vs ns → Vals (ns.map V.int) vs
  | _, _, .nil => .nil
  | _, _, .cons n t h => .cons ⟨t, rfl⟩ (vals_ints h)

/-- nothing is tracked but the script, known to the object (or it is an object of the module) -/
def Only (H : Hp) : Prop := ∀ b, H b = none ∨ ∃ o xs, H b = some (.frz o (.lst xs))

/-- THE HEAD: the law's promise, at the heap behind the top. F, the promise of the law's def, may use that base is part of the heap (so K.In base, base.Ns mainGlobals mg stand in Mod) -/
theorem law_call {P : Program} {w : World} {K : PySem.W.Frag} {mg mb : Str → Option Value} {CX : CXT} {k : Nat} {fa a : Addr} {fd : FuncData} {x : Str} {sp : Sp} {s₁ : Shared} {vs : List Value} {ns : List Int}
    (KX : K.In s₁.heap) (hns : s₁.heap.Ns mainGlobals mg) (hb : s₁.heap.Ns builtinsNs mb) (hbb : ∀ x : Str, x ≠ "__name__" → mb x = bootBuiltins x) (hlim : s₁.heap.NoLimit) (hg : s₁.gens = #[])
    (ha : s₁.heap.get? a = some { cls := .type "list", data := .seq vs.toArray }) (hi : IntsAre vs ns) (hl : ns.length ≤ sizeLine) (hr : Room k callerA)
    (F : ∀ base : Heap, K.In base → base.Ns mainGlobals mg → FnOk P w K mg base CX k fa fd [x] sp) (hbind : ∀ (s : Shared) (u : Value), BindsTo s fd ⟨[u], []⟩ [(x, u)])
    (hsp : ∀ H : Hp, Only H → SqL K H a (ns.map V.int) → sp [.ref a] H (fun v _ => v = .bl true) fun _ _ _ => False)
    (hCX : ∀ H e s', CX [] H s₁ (fun _ _ _ => False) e s' → False) :
    codeAny (model P w) callerA (.call (.ref fa) ⟨[.ref a], []⟩) (fun r s' => r = .ok (.ret (.bool true)) ∧ OldK s₁.heap s'.heap ∧ s'.os = s₁.os ∧ AllBare s'.gens) s₁ := by
  have rv := vals_ints hi
  have lenV := hi.length
  -- from an abstract heap in which nothing but the script may be tracked
  have core : ∀ H : Hp, Only H → SqL K H a (ns.map V.int) → HOk P w H s₁.heap → (∀ b, H b ≠ none → b = a) → (H a ≠ none → K.lookup a = none) →
      codeAny (model P w) callerA (.call (.ref fa) ⟨[.ref a], []⟩) (fun r s' => r = .ok (.ret (.bool true)) ∧ OldK s₁.heap s'.heap ∧ s'.os = s₁.os ∧ AllBare s'.gens) s₁ := by
    intro H hO hS hok hA hK
    have base_of : ∀ {b : Addr} {o : Obj}, s₁.heap.get? b = some o → H b = none → (hidT s₁.heap H).get? b = some o := fun e n => hidT_get e n
    have noA : ∀ {b : Addr} {o : Obj} {es : Array DictEntry} {ep : Nat}, s₁.heap.get? b = some o → o.data = .dict es ep → H b = none := fun {b o es ep} e d => by
      cases q : H b with
      | none => rfl
      | some u =>
        have e' : b = a := hA b (by rw [q]; simp)
        subst e'
        rw [ha] at e; cases e
        have d' : Data.seq vs.toArray _ = Data.dict es ep := d
        cases d'
    have nsK : ∀ {b : Addr} {m : Str → Option Value}, s₁.heap.Ns b m → (hidT s₁.heap H).Ns b m := fun {b m} ⟨o, es, ep, e, d, r⟩ => ⟨o, es, ep, base_of e (noA e d), d, r⟩
    have hKb : K.In (hidT s₁.heap H) := fun b o e => base_of (KX b o e) (by
      cases q : H b with
      | none => rfl
      | some u =>
        have e' : b = a := hA b (by rw [q]; simp)
        subst e'
        rw [hK (by rw [q]; simp)] at e; cases e)
    have hM : Mod K mg (hidT s₁.heap H) := ⟨hKb, nsK hns, ⟨mb, nsK hb, hbb⟩, let ⟨mc, h1, h2⟩ := hlim; ⟨mc, nsK h1, h2⟩⟩
    have e0 : Env0 P w K mg (hidT s₁.heap H) callerA [] s₁ H := ⟨rfl, hM, fun b o e => of_hidT e, Nat.le_of_eq (hidT_size _ _), trivial, fun b hb => absurd (show b ∈ ([] : List Addr) from hb) (by simp), hok, .of_eq hg⟩
    refine codeAny_mono ((F _ hKb (nsK hns)).run callerA [] s₁ H ⟨[.ref a], []⟩ [.ref a] [.ref a] _ _ hr e0 (hbind s₁ (.ref a)) (.cons rfl .nil) (hsp H hO hS)) fun r s' h => ?_
    cases r with
    | error e => exact (hCX H e s' h).elim
    | ok fl =>
      cases fl with
      | next => exact False.elim h
      | brk => exact False.elim h
      | cont => exact False.elim h
      | ret u =>
        obtain ⟨v, H', os, bare, un, hok', r', q⟩ := h
        have q' : v = .bl true := q
        subst q'
        obtain rfl : u = Value.bool true := r'
        refine ⟨rfl, OldK.of_keep fun b o e => ?_, os, bare⟩
        cases q : H b with
        | none => exact un.keep b o e q (by intro z; exact absurd (show b ∈ ([] : List Addr) from z) (by simp)) (by simp)
        | some u =>
          rcases hO b with z | ⟨ob, xs, z⟩
          · rw [q] at z; cases z
          · have z2 := un.frzs b ob _ z
            obtain ⟨e1, _⟩ := hok b _ z
            obtain ⟨e2, _⟩ := hok' b _ z2
            rw [e] at e1; cases e1
            exact e2
  cases hk : K.lookup a with
  | some o =>
    -- the script is one of the module's own objects
    have e := KX a o hk
    rw [ha] at e
    cases e
    refine core (fun _ => none) (fun _ => .inl rfl) (.inr ⟨_, vs.toArray, _, hk, rfl, rfl, rfl, by rw [List.size_toArray, lenV]; exact hl, by simpa using rv⟩) (fun b u z => by have z' : (none : Option HO) = some u := z; cases z') (fun b z => absurd rfl z) fun z => absurd rfl z
  | none =>
    refine core (fun b => if b = a then some (.frz { cls := .type "list", data := .seq vs.toArray } (.lst (ns.map V.int))) else none) (fun b => ?_) (.inl (.inr ⟨{ cls := .type "list", data := .seq vs.toArray }, if_pos rfl⟩)) (fun b u z => ?_) (fun b z => ?_) fun _ => hk
    · by_cases hb : b = a
      · exact .inr ⟨_, _, if_pos hb⟩
      · exact .inl (if_neg hb)
    · by_cases hb : b = a
      · have z' := (if_pos hb).symm.trans z
        cases z'
        subst hb
        exact ⟨ha, by rw [List.length_map]; exact hl, vs, _, rv, ha⟩
      · have z' := (if_neg hb).symm.trans z
        cases z'
    · by_cases hb : b = a
      · exact hb
      · exact absurd (if_neg hb) z
end L2

namespace L2
open PySem PySem.Spec PyProof.Rows

end L2

/- THE LAST THEOREM (shape; LID, My.* are yours):
   My.Adr: a structure of the addresses that your layer names (classes, functions); My.Txt K t: a structure (Prop) of the equations over K;
   My.txt_mk : {K} {implicit addresses ..} (e1 : nsIn K mainGlobals "law" = some (some (.ref f))) (e2 : K.lookup f = some ⟨oc, od, .func (fnOf "law" "law" params body scope dV kV doc pm an cdv ct), sl⟩) (e3 : codeIn K cdv "law" = true) .. : ∃ t, My.Txt K t

set_option maxRecDepth 100000 in
set_option maxHeartbeats 0 in
theorem PySem.Challenge.cw_LID_holds : PySem.Challenge.rw_LID.Holds := by
  w_on; o_law; k_head; (case hw => w_witness2)
  k_fill
  refine L2.walk_of (l := PySem.Challenge.rw_LID) (n := 63) (k := 40) (x := "script") (CX := fun w => ..) (sp := fun _ => My.sp_law) rfl (by decide) rfl ⟨rfl, by decide, by decide⟩ (fun w h Y => PySem.W.kIn_of Y) ?F ?S ?C
  case F =>
    intro w mg fa h KX G hmg
    have T : ∃ t, My.Txt (L2.KOf KX) t := by
      dsimp only [L2.KOf]                          -- K must stand as «<heap const> w.params» for k_is
      refine' My.txt_mk ?e1 ?e2 ?e3 ..
      (case e1 => PySem.W.k_is)                    -- in the order: a name -> its address -> its object -> its parts
      (case e2 => PySem.W.k_is)
      ..
    obtain ⟨t, T⟩ := T
    have e0 := hmg.symm.trans (PySem.W.mg_of KX G T.law)
    cases e0                                       -- fa is the law's own address
    exact ⟨_, fun s u => .of_eq rfl, fun base kb nb => My.law_fn T kb nb⟩     -- if «.of_eq rfl» comes too early: refine' ⟨_, ?b, fun base kb nb => My.law_fn T kb nb⟩; exact fun s u => .of_eq rfl
  case S => exact fun w H a ns hl hO hS => ..
  case C => exact ..
(the tactic k_is has no namespace: write k_is) -/

/-! SHORT WORDS over the layer: a def of the text, its body, what a loop and a test want. -/
namespace L2
open PySem PySem.Spec PyProof.Rows

/-! ### the text by places -/
def defArgs (s : Stmt) : Arguments := match s with
  | .FunctionDef _ a _ _ _ _ _ _ _ _ => a
  | _ => { posonlyargs := [], args := [], vararg := none, kwonlyargs := [], kw_defaults := [], kwarg := none, defaults := [] }
def defBody (s : Stmt) : List Stmt := match s with
  | .FunctionDef _ _ b _ _ _ _ _ _ _ => b
  | _ => []
def defScope (s : Stmt) : Scope := match s with
  | .FunctionDef _ _ _ _ _ _ sc _ _ _ => sc
  | _ => { kind := .function, names := [], isGenerator := false, isCoroutine := false }

/-! ### no exception leaves a def -/
abbrev CX0 : CXT := fun _ _ _ _ _ _ => False
abbrev E0 : XK := fun _ _ _ => False
theorem pass0 {X : Cx} : Passes CX0 X E0 := fun _ _ _ _ _ _ _ h => h.elim

/-! ### a def (or method) of the text as it stands behind the top -/
structure Fun (K : PySem.W.Frag) (x qual : Str) (st : Stmt) (f : Addr) (fd : FuncData) : Prop where
  ex : ∃ (oc : Value) (od : Option Addr) (kV doc pm : Value) (an : Option Addr) (cdv ct : Value) (osl : Array (Option Value)),
    fd = PySem.W.fnOf x qual (defArgs st) (defBody st) (defScope st) .none kV doc pm an cdv ct ∧ K.lookup f = some ⟨oc, od, .func fd, osl⟩ ∧ PySem.W.codeIn K cdv qual = true
  kp : PySem.W.keepIn K (.ref f) = true
section
variable {P : Program} {w : World} {K : PySem.W.Frag} {mg : Str → Option Value} {base : Heap}
/-- THE RULE for a def: its body as a term of rules, and the reading of that term -/
theorem Fun.ok {x qual : Str} {st : Stmt} {f : Addr} {fd : FuncData} {N ps : List Str} {k : Nat} {sp : Sp} (F : Fun K x qual st f fd) (S : FnScope N ps (defScope st)) (len : ∀ vs H Q E, sp vs H Q E → vs.length = ps.length)
    (hbody : ∀ (cdv : Value) (A : Around) (outer : List Env) (s : Shared) (H : Hp) (vs : List V) (Q : VK) (E : XK), Room k (A.deeper (envOfC qual (defScope st) s.heap.objs.size f cdv)) → sp vs H Q E →
      ∃ t, PSs (cxOf CX0 P w K mg base N qual (defScope st) f cdv A outer s H E).nox (defBody st) t ∧ t { nx := fun _ H' => Q .non H', rt := Q } (start N vs) H) : FnOk P w K mg base CX0 (k + 1) f fd ps sp := by
  obtain ⟨oc, od, kV, doc, pm, an, cdv, ct, osl, rfl, lk, hcd⟩ := F.ex
  refine fn_of lk hcd S len fun A outer s H vs Q E hr hsp => ?_
  obtain ⟨t, h, q⟩ := hbody cdv A outer s H vs Q E hr hsp
  exact ⟨t, h.nox, q⟩
/-- how its arguments bind (no defaults): h is «fun _ _ _ _ _ _ us hl => match us, hl with | [_, _], _ => rfl», one _ a parameter -/
theorem Fun.binds {x qual : Str} {st : Stmt} {f : Addr} {fd : FuncData} {ps : List Str} (F : Fun K x qual st f fd)
    (h : ∀ (kV doc pm : Value) (an : Option Addr) (cdv ct : Value) (us : List Value), us.length = ps.length → bindArgs (PySem.W.fnOf x qual (defArgs st) (defBody st) (defScope st) .none kV doc pm an cdv ct) ⟨us, []⟩ = pure (ps.zip us)) : Binds K fd ps [] := by
  obtain ⟨oc, od, kV, doc, pm, an, cdv, ct, osl, rfl, lk, hcd⟩ := F.ex
  exact .all (h kV doc pm an cdv ct)
theorem fun_mk {x qual : Str} {st : Stmt} {f : Addr} {oc : Value} {od an : Option Addr} {osl : Array (Option Value)} {kV doc pm cdv ct : Value} (l : K.lookup f = some ⟨oc, od, .func (PySem.W.fnOf x qual (defArgs st) (defBody st) (defScope st) .none kV doc pm an cdv ct), osl⟩)
    (c : PySem.W.codeIn K cdv qual = true) (k : PySem.W.keepIn K (.ref f) = true) : Fun K x qual st f (PySem.W.fnOf x qual (defArgs st) (defBody st) (defScope st) .none kV doc pm an cdv ct) := ⟨⟨oc, od, kV, doc, pm, an, cdv, ct, osl, rfl, l, c⟩, k⟩
end
theorem hu_of {A : Around} {k : Nat} (hr : Room k A) : A.units + 1 < cLine := Nat.lt_of_le_of_lt (Nat.add_le_add_left (by decide : 1 ≤ 64) _) hr.units
theorem small1000 {n : Nat} (h : n ≤ 1000) : n < sizeLine := Nat.lt_of_le_of_lt h (by decide)

/-! ### expressions in short: the name that stands in the i-th slot -/
section
variable {X : Cx}
theorem pv (i : Nat) {x : Str} {pos : Pos} (hN : X.N[i]? = some x := by rfl) (hv : Vis X.env.scope x := by first | exact Or.inl rfl | exact Or.inr (Or.inl rfl) | exact Or.inr (Or.inr rfl)) (hd : (x == ("__debug__" : Str)) = false := by decide)
    (hcd : (x == ("__classdict__" : Str)) = false := by decide) : PE X (.Name x pos) (tVar i) := pe_var hN hv hd hcd
end

/-! ### tests -/
theorem iteF {A B : Prop} (h : B) : if false = true then A else B := by
  rw [if_neg Bool.false_ne_true]
  exact h
theorem iteT {A B : Prop} (h : A) : if true = true then A else B := by
  rw [if_pos rfl]
  exact h
theorem ite2 {c A B : Prop} [Decidable c] (h1 : c → A) (h2 : ¬ c → B) : if c then A else B := by
  by_cases h : c
  · rw [if_pos h]
    exact h1 h
  · rw [if_neg h]
    exact h2 h
/-! ### heaps -/
/-- all that was tracked is as it was -/
def Same (H H' : Hp) : Prop := ∀ b o, H b = some o → H' b = some o
theorem Same.refl (H : Hp) : Same H H := fun _ _ h => h
theorem Same.trans {H H1 H2 : Hp} (a : Same H H1) (b : Same H1 H2) : Same H H2 := fun c o h => b c o (a c o h)
theorem Same.free {H H' : Hp} (e : Same H H') {l : Addr} (h : H' l = Option.none) : H l = Option.none := by
  cases q : H l with
  | none => rfl
  | some o =>
    rw [e l o q] at h
    cases h
theorem Same.seq {K : PySem.W.Frag} {H H' : Hp} {a : Addr} {xs : List V} (e : Same H H') (h : SqL K H a xs) : SqL K H' a xs := by
  rcases h with (h | ⟨o, h⟩) | h
  · exact .inl (.inl (e _ _ h))
  · exact .inl (.inr ⟨o, e _ _ h⟩)
  · exact .inr h

end L2

namespace Oh
open PySem PySem.Spec PyProof.Rows L2
abbrev St := L2.St
theorem compLoop_any {prog : Program} {w : World} {A : Around} {R : Result → Shared → Prop} {s : Shared} {elt target iter : Expr} {ifs : List Expr} {scope : Scope} {pos : Pos} {it acc : Value} {env : Env} (I : Nat → Shared → Prop)
    (turn : ∀ n s, I n s → wpAny (model prog w) A (pyNext it) (fun r s₁ => match r with
      | none => R (.ok .next) s₁
      | some v => wpAny (model prog w) A (letOwnedTupleGo target it v) (fun _ s₁' => wpAny (model prog w) A (assign target env v) (fun _ s₂ =>
          wpAny (model prog w) A (forIn ifs true fun c r => if r = true then do let ok ← isTrue c env (eval c env); pure (ForInStep.yield ok) else pure (ForInStep.yield r)) (fun ok s₃ =>
            if ok = true then wpAny (model prog w) A (eval elt env) (fun x s₄ =>
              wpAny (model prog w) A (call (.builtin "list.append") [acc, x]) (fun _ s₅ => ∃ m, m < n ∧ I m s₅) (fun _ _ => False) s₄) (fun _ _ => False) s₃
            else ∃ m, m < n ∧ I m s₃) (fun _ _ => False) s₂) (fun _ _ => False) s₁') (fun _ _ => False) s₁) (fun _ _ => False) s)
    (n : Nat) (h : I n s) :
    codeAny (model prog w) A (.compLoop (.ListComp elt [⟨target, iter, ifs, 0⟩] scope pos) 0 it acc env) R s := by
  refine codeAny_loop rfl I (fun n s hI => ?_) n h
  show wpAny _ A ((compTurn (.ListComp elt [⟨target, iter, ifs, 0⟩] scope pos) 0 it acc env).onRaise (fun x => do noteFrame x env; theTreesLotGoes x)) _ _ s
  refine wpAny_noted ?_
  rw [compTurn_list]
  refine wpAny_bind (wpAny_standAt (wpAny_bind (wpAny_mono (turn n s hI) (fun r s₁ h₁ => ?_) fun _ _ h' => h'.elim)))
  cases r with
  | none => exact wpAny_pure h₁
  | some v =>
    refine wpAny_bind (wpAny_mono h₁ (fun _ s₁' h₁' => ?_) fun _ _ h' => h'.elim)
    refine wpAny_bind (wpAny_mono h₁' (fun _ s₂ h₂ => wpAny_bind (wpAny_mono h₂ (fun ok s₃ h₃ => ?_) fun _ _ h' => h'.elim)) fun _ _ h' => h'.elim)
    cases ok with
    | false => exact wpAny_pure ⟨rfl, h₃⟩
    | true =>
      exact wpAny_bind (wpAny_bind (wpAny_mono h₃ (fun x s₄ h₄ => wpAny_bind (wpAny_mono h₄ (fun _ s₅ h₅ => wpAny_pure (wpAny_pure ⟨rfl, h₅⟩)) fun _ _ h' => h'.elim)) fun _ _ h' => h'.elim))

def clOf (cells : List (Str × Addr)) : List (Str × NameKind) → List (Str × Addr) → List (Str × Addr)
  | [], cs => cs
  | (n, k) :: r, cs => if k == .free then clOf cells r ((n, (cells.lookup n).getD 0) :: cs) else clOf cells r cs
theorem closureFor_eq {scope : Scope} {env : Env} (h : ∀ y ∈ scope.names, y.2 = .free → ∃ c, env.cells.lookup y.1 = some c) : closureFor scope env = pure (clOf env.cells scope.names []) := by
  unfold closureFor
  generalize hl : scope.names = l at h
  clear hl
  suffices go : ∀ (l : List (Str × NameKind)) (cs : List (Str × Addr)), (∀ y ∈ l, y.2 = .free → ∃ c, env.cells.lookup y.1 = some c) →
      (forIn l cs fun (x : Str × NameKind) (r : List (Str × Addr)) => match x with | (name, kind) => if (kind == NameKind.free) = true then do let c ← cellOf env name; pure (ForInStep.yield ((name, c) :: r)) else pure (ForInStep.yield r) : Sem _) = pure (clOf env.cells l cs) by
    have := go l [] h
    simp only [] at this ⊢
    rw [this]; rfl
  intro l
  induction l with
  | nil => intro cs _; rfl
  | cons y r ih =>
    intro cs hy
    obtain ⟨n, k⟩ := y
    rw [List.forIn_cons]
    by_cases hk : k = .free
    · subst hk
      obtain ⟨c, hc⟩ := hy (n, .free) List.mem_cons_self rfl
      have hc' : env.cells.lookup n = some c := hc
      simp only [beq_self_eq_true, if_true]
      have e : cellOf env n = pure c := by unfold cellOf; rw [hc']
      rw [e]
      simp only [pure_bind]
      rw [ih _ fun z hz => hy z (List.mem_cons_of_mem _ hz)]
      simp [clOf, hc']
    · have hb : (k == NameKind.free) = false := by simpa using hk
      simp only [hb, Bool.false_eq_true, if_false, pure_bind]
      rw [ih _ fun z hz => hy z (List.mem_cons_of_mem _ hz)]
      simp [clOf, hb]
theorem clOf_mem {cells : List (Str × Addr)} : ∀ {l : List (Str × NameKind)} {cs : List (Str × Addr)} {p : Str × Addr}, p ∈ clOf cells l cs → p ∈ cs ∨ ((p.1, NameKind.free) ∈ l ∧ p.2 = (cells.lookup p.1).getD 0)
  | [], _, _, h => .inl h
  | (n, k) :: r, cs, p, h => by
    unfold clOf at h
    split at h
    · rename_i hk
      have hk' : k = .free := by simpa using hk
      subst hk'
      rcases clOf_mem h with q | ⟨q1, q2⟩
      · rcases List.mem_cons.mp q with q | q
        · subst q; exact .inr ⟨List.mem_cons_self, rfl⟩
        · exact .inl q
      · exact .inr ⟨List.mem_cons_of_mem _ q1, q2⟩
    · rcases clOf_mem h with q | ⟨q1, q2⟩
      · exact .inl q
      · exact .inr ⟨List.mem_cons_of_mem _ q1, q2⟩
theorem clOf_old {cells : List (Str × Addr)} : ∀ {l : List (Str × NameKind)} {cs : List (Str × Addr)} {p : Str × Addr}, p ∈ cs → p ∈ clOf cells l cs
  | [], _, _, h => h
  | (n, k) :: r, cs, p, h => by
    unfold clOf
    split
    · exact clOf_old (List.mem_cons_of_mem _ h)
    · exact clOf_old h
theorem clOf_has {cells : List (Str × Addr)} {x : Str} : ∀ {l : List (Str × NameKind)} {cs : List (Str × Addr)}, (x, NameKind.free) ∈ l → (x, (cells.lookup x).getD 0) ∈ clOf cells l cs
  | (n, k) :: r, cs, h => by
    unfold clOf
    rcases List.mem_cons.mp h with q | q
    · obtain ⟨rfl, rfl⟩ := Prod.mk.inj q
      simp only [beq_self_eq_true, if_true]
      exact clOf_old List.mem_cons_self
    · split
      · exact clOf_has q
      · exact clOf_has q
theorem lookup_mem {α : Type} {x : Str} {c : α} : ∀ {l : List (Str × α)}, l.lookup x = some c → (x, c) ∈ l
  | (n, k) :: r, h => by
    rw [List.lookup_cons] at h
    cases hx : x == n with
    | true =>
      rw [hx] at h
      have e := eq_of_beq hx
      simp at h
      subst h; subst e
      exact List.mem_cons_self
    | false =>
      rw [hx] at h
      exact List.mem_cons_of_mem _ (lookup_mem h)
theorem mem_lookup {α : Type} {x : Str} {c : α} : ∀ {l : List (Str × α)}, (x, c) ∈ l → ∃ d, l.lookup x = some d
  | (n, k) :: r, h => by
    rw [List.lookup_cons]
    cases hx : x == n with
    | true => exact ⟨k, rfl⟩
    | false =>
      rcases List.mem_cons.mp h with q | q
      · obtain ⟨rfl, rfl⟩ := Prod.mk.inj q
        simp at hx
      · exact mem_lookup q

/-! ### an object that lies there untracked is tracked from now on -/
section
variable {X : Cx} {pins : List (Addr × Obj)} {σ : St} {H : Hp} {s : Shared} {D : Addr} {o : HO}
theorem HOk_track {P : Program} {w : World} {H : Hp} {h : Heap} {a : Addr} {o : HO} (x : HOk P w H h) (hn : H a = none) (new : ObjOk P w (upd H a o) h a o) : HOk P w (upd H a o) h := fun b u e => by
  by_cases hb : b = a
  · subst hb; rw [upd_same] at e; cases e; exact new
  · rw [upd_ne hb] at e
    exact (x b u e).stay (fun c v _ q => q) (fun c q => by rw [upd_ne (ne_of_none q hn)]; exact q) fun c xs q => by rw [upd_ne (ne_of_none q hn)]; exact q
theorem Inv_track (I : Inv X pins σ H s) (f : FpOk X pins H D) (new : ObjOk X.prog X.w (upd H D o) s.heap D o) : Inv X pins σ (upd H D o) s := by
  obtain ⟨f0, f1, f2, f3, f4, f5⟩ := f
  have J := I.step (g' := s.gens) (d' := s.drawn) (t' := s.toks) (h' := s.heap) (H' := upd H D o) (ch := [D]) (fun b hb => by
      have e : b = D := by simpa using hb
      subst e; exact ⟨f3, f1, f4, f5⟩) (fun b ob _ _ _ e _ => e) (fun b ob _ _ _ e _ => ⟨ob.slots, e⟩)
    (fun b ob hb e n => by rw [upd_ne (by simpa using hb)]; exact n) (fun b ob _ e => ⟨ob, e⟩) (fun b xs e => by rw [upd_ne (ne_of_none e f0)]; exact e) (fun b ob u e => by rw [upd_ne (ne_of_none e f0)]; exact e)
    (fun b ps e => ⟨#[], by rw [upd_ne (ne_of_none e f0), e]; simp⟩) (fun m hm => hm) (HOk_track I.hok f0 new) I.bare
  exact J
end

/-! ### comprehensions -/
structure CompOk (X : Cx) (N' : List Str) (mp : List (Option Nat)) (scope : Scope) : Prop where
  kind : scope.kind = .function
  hcell : ∀ y ∈ scope.names, y.2 ≠ .cell
  names : ∀ y ∈ scope.names, y.2 = .local → scope.names.lookup y.1 = some .local
  free : ∀ y ∈ scope.names, y.2 = .free → X.env.kindOf y.1 = some .cell ∨ X.env.kindOf y.1 = some .free
  len : mp.length = N'.length
  vars : ∀ (i j : Nat) (x : Str), N'[i]? = some x → mp[i]? = some (some j) → X.N[j]? = some x ∧ scope.names.lookup x = some .free
def compOkB (N : List Str) (sc : Scope) (N' : List Str) (mp : List (Option Nat)) (scope : Scope) : Bool :=
  decide (scope.kind = .function) && scope.names.all (fun y => decide (y.2 ≠ .cell)) && scope.names.all (fun y => decide (y.2 = .local → scope.names.lookup y.1 = some .local)) &&
  scope.names.all (fun y => decide (y.2 = .free → sc.names.lookup y.1 = some .cell ∨ sc.names.lookup y.1 = some .free)) && decide (mp.length = N'.length) &&
  (mp.zip N').all fun p => match p.1 with
    | none => true
    | some j => decide (N[j]? = some p.2) && decide (scope.names.lookup p.2 = some .free)
theorem CompOk.of {X : Cx} {N' : List Str} {mp : List (Option Nat)} {scope : Scope} (h : compOkB X.N X.env.scope N' mp scope = true) : CompOk X N' mp scope := by
  unfold compOkB at h
  simp only [Bool.and_eq_true, List.all_eq_true, decide_eq_true_eq] at h
  obtain ⟨⟨⟨⟨⟨h1, h2⟩, h3⟩, h4⟩, h5⟩, h6⟩ := h
  refine ⟨h1, h2, h3, h4, h5, fun i j x a b => ?_⟩
  have hm : (some j, x) ∈ mp.zip N' := List.mem_of_getElem? (i := i) (by rw [List.getElem?_zip_eq_some]; exact ⟨b, a⟩)
  have q := h6 _ hm
  simp only [Bool.and_eq_true, decide_eq_true_eq] at q
  exact q

def compSt (mp : List (Option Nat)) (σ : St) : St := mp.map fun o => o.bind fun j => (σ[j]?).join

def compCx (X : Cx) (N' : List Str) (scope : Scope) (C : Addr) (s : Shared) (H : Hp) (fp : List Addr) : Cx where
  prog := X.prog
  w := X.w
  K := X.K
  mg := X.mg
  base := X.base
  A := X.A
  N := N'
  s₀ := s
  H₀ := H
  env := compEnvC scope (clOf X.env.cells scope.names []) C X.env
  outer := X.stack
  stack := X.stack
  ex := fp
  fn := fun _ => false
  calm := X.calm
  pn := []
  xe := fun _ _ => False

theorem relabel_free {env : Env} {x : Str} : ∀ {names : List (Str × NameKind)}, names.lookup x = some .free →
    (names.map fun (n, k) => if (k == NameKind.free && env.scope.kind == .function && env.kindOf n == some .cell) then (n, NameKind.cell) else (n, k)).lookup x = some .cell ∨
    (names.map fun (n, k) => if (k == NameKind.free && env.scope.kind == .function && env.kindOf n == some .cell) then (n, NameKind.cell) else (n, k)).lookup x = some .free
  | [], h => by simp at h
  | (n, k) :: r, h => by
    have ih := @relabel_free env x r
    rw [List.map_cons]
    rw [List.lookup_cons] at h
    by_cases hc : (k == NameKind.free && env.scope.kind == .function && env.kindOf n == some .cell) = true
    · simp only [hc, if_true, List.lookup_cons]
      cases hx : x == n with
      | true => exact .inl rfl
      | false => rw [hx] at h; exact ih h
    · simp only [hc, Bool.false_eq_true, if_false, List.lookup_cons]
      cases hx : x == n with
      | true => rw [hx] at h; exact .inr h
      | false => rw [hx] at h; exact ih h
theorem relabel_back {env : Env} {x : Str} : ∀ {names : List (Str × NameKind)}, (∀ y ∈ names, y.2 ≠ .cell) →
    ((names.map fun (n, k) => if (k == NameKind.free && env.scope.kind == .function && env.kindOf n == some .cell) then (n, NameKind.cell) else (n, k)).lookup x = some .cell ∨
    (names.map fun (n, k) => if (k == NameKind.free && env.scope.kind == .function && env.kindOf n == some .cell) then (n, NameKind.cell) else (n, k)).lookup x = some .free) → (x, NameKind.free) ∈ names
  | [], _, h => by simp at h
  | (n, k) :: r, hn, h => by
    have ih := @relabel_back env x r fun y hy => hn y (List.mem_cons_of_mem _ hy)
    rw [List.map_cons] at h
    by_cases hc : (k == NameKind.free && env.scope.kind == .function && env.kindOf n == some .cell) = true
    · simp only [hc, if_true, List.lookup_cons] at h
      have hk : k = .free := by
        have := hc
        simp only [Bool.and_eq_true, beq_iff_eq] at this
        exact this.1.1
      cases hx : x == n with
      | true => rw [eq_of_beq hx, hk]; exact List.mem_cons_self
      | false => rw [hx] at h; exact List.mem_cons_of_mem _ (ih h)
    · simp only [hc, Bool.false_eq_true, if_false, List.lookup_cons] at h
      cases hx : x == n with
      | true =>
        rw [hx] at h
        rcases h with h | h
        · have : k = .cell := by simpa using h
          exact absurd this (hn (n, k) List.mem_cons_self)
        · have : k = .free := by simpa using h
          rw [eq_of_beq hx, this]; exact List.mem_cons_self
      | false => rw [hx] at h; exact List.mem_cons_of_mem _ (ih h)

section
variable {X : Cx} {pins : List (Addr × Obj)} {σ : St} {H : Hp} {s : Shared} {N' : List Str} {mp : List (Option Nat)} {scope : Scope} {C D : Addr} {fp : List Addr}
theorem cl_back (ok : CompOk X N' mp scope) (I : Inv X pins σ H s) {x : Str} {c : Addr} (h : (clOf X.env.cells scope.names []).lookup x = some c) : X.env.cells.lookup x = some c ∧ (x, NameKind.free) ∈ scope.names := by
  rcases clOf_mem (lookup_mem h) with q | ⟨q1, q2⟩
  · exact absurd q (by simp)
  · obtain ⟨c', hc'⟩ := I.ok.has x (ok.free _ q1 rfl)
    have q2' : c = (X.env.cells.lookup x).getD 0 := q2
    rw [hc'] at q2' ⊢
    exact ⟨by rw [q2']; rfl, q1⟩
theorem cl_has (ok : CompOk X N' mp scope) {x : Str} (h : (x, NameKind.free) ∈ scope.names) : ∃ c, (clOf X.env.cells scope.names []).lookup x = some c := mem_lookup (clOf_has h)

theorem compCx_ok (ok : CompOk X N' mp scope) (I : Inv X pins σ H s) (hf : ∀ b ∈ fp, FpOk X pins H b) (hlt : ∀ b ∈ fp, b < s.heap.objs.size) (hC : s.heap.objs.size ≤ C) : (compCx X N' scope C s H fp).Ok where
  mod := I.ok.mod
  kind := ok.kind
  glob := I.ok.glob
  blt := I.ok.blt
  above := hC
  inj := fun x y c h1 h2 => I.ok.inj x y c (cl_back ok I h1).1 (cl_back ok I h2).1
  has := fun x hx => cl_has ok (relabel_back ok.hcell hx)
  cab := fun x c h => nomatch h
  hd := I.ok.hd
  frames := I.ok.frames
  stk := .inl rfl
  exf := fun b hb => ⟨Nat.ne_of_lt (Nat.lt_of_lt_of_le (hlt b hb) hC), fun x c h => (hf b hb).2.2.2.2.1 x c (cl_back ok I h).1⟩
  bs := I.bs
  bsz := Nat.le_trans I.ok.bsz I.sz
  noex := fun b o e hb => by
    rcases (hf b hb).2.2.2.1 with z | z
    · exact I.ok.noex b o e z
    · exact absurd (Nat.lt_of_lt_of_le (Heap.lt_size e) (Nat.le_trans I.ok.bsz z)) (Nat.lt_irrefl _)
  exfs := fun b hb hfs => by
    rcases List.mem_cons.mp (I.stkSub b hfs) with e | e
    · exact (hf b hb).2.1 e
    · exact (hf b hb).2.2.1 e
  funs := I.stack
  frf := I.stkFree

theorem new_nofs (I : Inv X pins σ H s) (h : s.heap.objs.size ≤ D) : D ∉ frs X.stack := fun z => by
  rcases List.mem_cons.mp (I.stkSub D z) with e | e
  · exact absurd (Nat.lt_of_lt_of_le I.lt (e ▸ h)) (Nat.lt_irrefl _)
  · exact I.nofs h e

theorem comp_start (ok : CompOk X N' mp scope) (I : Inv X pins σ H s) (hf : ∀ b ∈ fp, FpOk X pins H b) (hlt : ∀ b ∈ fp, b < s.heap.objs.size) (hC : s.heap.objs.size ≤ C) (hD : s.heap.objs.size ≤ D) (hDC : D ≠ C)
    {h₁ : Heap} {tk : Nat} {m₀ : Str → Option Value} {od : Obj} (hns : h₁.Ns C m₀) (old : ∀ b o, s.heap.get? b = some o → h₁.get? b = some o) (hd : h₁.get? D = some od) (hod : ∀ v, od.data ≠ .cell v) :
    Inv (compCx X N' scope C s H fp) [(D, od)] (compSt mp σ) H { s with heap := h₁, toks := tk } := by
  refine ⟨compCx_ok ok I hf hlt hC, rfl, I.bare, Un.kept old, ⟨m₀, hns, fun i x v e1 e2 e3 => ?_⟩, fun x c h => ?_, I.hok.fresh hC, fun x c h => ?_, fun p hp => ?_, I.hok.kept old, ?_⟩
  · have e2' : ((mp[i]?).map fun o => o.bind fun j => (σ[j]?).join) = some (some v) := by rw [← List.getElem?_map]; exact e2
    cases hm : mp[i]? with
    | none => rw [hm] at e2'; cases e2'
    | some o =>
      rw [hm] at e2'
      cases o with
      | none => cases e2'
      | some j =>
        have e2'' : (σ[j]?).join = some v := Option.some.inj e2'
        have hσ : σ[j]? = some (some v) := by
          cases q : σ[j]? with
          | none => rw [q] at e2''; cases e2''
          | some z => rw [q] at e2''; exact congrArg some e2''
        obtain ⟨hN, hx⟩ := ok.vars i j x e1 hm
        have hmem : (x, NameKind.free) ∈ scope.names := lookup_mem hx
        have hk := ok.free _ hmem rfl
        obtain ⟨m, hn, hl⟩ := I.loc
        obtain ⟨u, r, l⟩ := hl j x v hN hσ (.inr hk)
        refine ⟨u, r, .inr ⟨relabel_free hx, ?_⟩⟩
        obtain ⟨c, hc⟩ := cl_has ok hmem
        have hc' := (cl_back ok I hc).1
        rcases l with ⟨hloc, _⟩ | ⟨_, c', e', z⟩
        · rcases hk with hk | hk
          · rw [hloc] at hk; cases hk
          · rw [hloc] at hk; cases hk
        · rw [hc'] at e'
          cases e'
          obtain ⟨oc, ho, hdc⟩ := z
          exact ⟨c, hc, oc, old _ _ ho, hdc⟩
  · obtain ⟨v, oc, ho, hdc⟩ := I.cell x c (cl_back ok I h).1
    exact ⟨v, oc, old _ _ ho, hdc⟩
  · exact I.freeC x c (cl_back ok I h).1
  · have e : p = (D, od) := by
      have hp' : p ∈ ([] : List (Addr × Obj)) ++ [(D, od)] := hp
      simpa using hp'
    subst e
    exact ⟨hd, I.hok.fresh hD, hDC, new_nofs I hD, hod⟩
  · show (compSt mp σ).length = N'.length
    unfold compSt
    rw [List.length_map]
    exact ok.len
end

def PTs (X : Cx) (ifs : List Expr) (t : TT) : Prop :=
  ∀ (pins : List (Addr × Obj)) (s : Shared) (σ : St) (H : Hp) (Q : Bool → Hp → Prop), Inv X pins σ H s → t σ H Q →
    wpAny (model X.prog X.w) X.A (forIn ifs true fun c r => if r = true then do let ok ← isTrue c X.env (eval c X.env); pure (ForInStep.yield ok) else pure (ForInStep.yield r)) (TP X pins σ Q) X.xe s
def tYes : TT := fun _ H Q => Q true H
theorem pts_nil {X : Cx} : PTs X [] tYes := fun _ _ _ H _ I h => wpAny_tests_nil ⟨H, I, h⟩
theorem pts_one {X : Cx} {c : Expr} {t : TT} (h : PT X c t) : PTs X [c] t := fun pins s σ H Q I hw => wpAny_tests_one (h pins s σ H Q I hw)

/-- [te for g in wi if tt]: W by the turn, a measure, the block's names, the heap, what was gathered -/
def CompW (J : It) (g : TG) (tt : TT) (te : TE) (Fin : List V → Hp → Prop) (W : Nat → Nat → St → Hp → List V → Prop) : Prop := ∀ i m σ H acc, W i m σ H acc →
  (J.stop i H ∧ Fin acc H) ∨ (J.go i H ∧ acc.length < sizeLine ∧ ∃ N : St → Hp → List V → Prop, (∀ σ' H' acc', N σ' H' acc' → ∃ m', m' < m ∧ W (i + 1) m' σ' H' acc') ∧
    ∀ x H', J.yld i H x H' → g x σ H' fun σ2 H2 => tt σ2 H2 fun b H3 => if b = true then te σ2 H3 fun y H4 => N σ2 H4 (acc ++ [y]) else N σ2 H3 acc)
def tComp (mp : List (Option Nat)) (wi : TI) (g : TG) (tt : TT) (te : TE) : TE := fun σ H Q => wi σ H fun J H1 => ∃ W : Nat → Nat → St → Hp → List V → Prop, (∃ m, W 0 m (compSt mp σ) H1 []) ∧
  CompW J g tt te (fun acc H => ∀ p, H p = none → Q (.ref p) (upd H p (.lst acc))) W

section
variable {X : Cx} {elt target iter : Expr} {ifs : List Expr} {scope : Scope} {pos : Pos} {N' : List Str} {mp : List (Option Nat)} {wi : TI} {g : TG} {tt : TT} {te : TE}
theorem comp_block {pins : List (Addr × Obj)} {σ : St} {H2 : Hp} {s2 : Shared} {it : Addr} {fp : List Addr} {tn : Nat → Heap → Prop} {J : It} {W : Nat → Nat → St → Hp → List V → Prop} {m0 : Nat} {Fin : List V → Hp → Prop}
    {RR : Value → Addr → Result → Shared → Prop} {E : Value → Shared → Prop}
    (ok : CompOk X N' mp scope) (hc : X.calm = true) (hg : ∀ C s H fp, PG (compCx X N' scope C s H fp) target g) (ht : ∀ C s H fp, PTs (compCx X N' scope C s H fp) ifs tt) (he : ∀ C s H fp, PE (compCx X N' scope C s H fp) elt te)
    (I2 : Inv X pins σ H2 s2) (T : Turn X.prog X.w X.K target J fp it tn) (st2 : tn 0 s2.heap) (f2 : ∀ b ∈ fp, FpOk X pins H2 b) (w0 : W 0 m0 (compSt mp σ) H2 []) (turn : CompW J g tt te Fin W)
    (hRR : ∀ (D C : Addr) (H' : Hp) (s' : Shared) (acc : List V), Inv X pins σ (upd H' D (.lst acc)) s' → H' D = none → H' C = none → D ≠ C → s2.heap.objs.size ≤ C → (∃ m, s'.heap.Ns C m) → Fin acc H' → RR (.ref D) C (.ok .next) s') :
    wpAny (model X.prog X.w) X.A (newList []) (fun acc s₃ => wpAny (model X.prog X.w) X.A (newFunctionEnv scope X.env.globals (clOf X.env.cells scope.names []) [] X.env.qual none .none (some X.env)) (fun cenv s₄ =>
      codeAny (model X.prog X.w) X.A (.compStart (.ListComp elt [⟨target, iter, ifs, 0⟩] scope pos) 0 (.ref it) acc { cenv with scope := relabel scope X.env }) (RR acc cenv.locals) s₄) E s₃) E s2 := by
  have hlt : ∀ b ∈ fp, b < s2.heap.objs.size := fun b hb => by
    obtain ⟨o, e, _⟩ := T.obj 0 _ st2 b hb
    exact Heap.lt_size e
  refine wpAny_newObj_type (wpAny_newFunctionEnv ok.hcell (by intro y hy; simp at hy) (fun h₁ hns₁ hsb₁ => ?_) ok.kind)
  dsimp only at hns₁ hsb₁ ⊢
  generalize hG : s2.heap.push { cls := .type "list", dict := none, data := .seq ([] : List Value).toArray } = G2 at hns₁ hsb₁ ⊢
  have hCs : G2.objs.size = s2.heap.objs.size + 1 := by rw [← hG, Heap.size_push]
  have hDC : s2.heap.objs.size ≠ G2.objs.size := by rw [hCs]; exact Nat.ne_of_lt (Nat.lt_succ_self _)
  have hCle : s2.heap.objs.size ≤ G2.objs.size := by rw [hCs]; exact Nat.le_succ _
  have below : ∀ b, b < s2.heap.objs.size → b ≠ G2.objs.size := fun b hb => by rw [hCs]; exact Nat.ne_of_lt (Nat.lt_succ_of_lt hb)
  have old : ∀ b o, s2.heap.get? b = some o → h₁.get? b = some o := fun b o e => hsb₁.extBut b o (below b (Heap.lt_size e)) (Heap.get?_push_of_some _ (hG ▸ Heap.get?_push_of_some _ e))
  have hacc : h₁.get? s2.heap.objs.size = some { cls := .type "list", data := .seq ([] : List Value).toArray 0 } := hsb₁.extBut _ _ hDC (Heap.get?_push_of_some _ (hG ▸ Heap.get?_push_size _ rfl))
  have hDf : s2.heap.objs.size ∉ fp := fun hm => Nat.lt_irrefl _ (hlt _ hm)
  have hCf : G2.objs.size ∉ fp := fun hm => by have h1 := hlt _ hm; rw [hCs] at h1; exact absurd h1 (Nat.not_lt.mpr (Nat.le_succ _))
  have st1 : tn 0 h₁ := T.keep 0 _ _ st2 fun b _ o e => old b o e
  generalize hD : s2.heap.objs.size = D at hDC hDf hacc hlt below
  generalize hCC : G2.objs.size = C at hDC hCf hCle below hns₁ hsb₁
  have cells_ne : ∀ (a : Addr), s2.heap.objs.size ≤ a → ∀ x c, (compCx X N' scope C s2 H2 fp).env.cells.lookup x = some c → c ≠ a := fun a ha x c h z => by
    obtain ⟨v, oc, ho, _⟩ := I2.cell x c (cl_back ok I2 h).1
    exact absurd (Nat.lt_of_lt_of_le (Heap.lt_size ho) (z ▸ ha)) (Nat.lt_irrefl _)
  have loop : ∀ s₃ : Shared, s₃ = { s2 with heap := h₁, toks := s2.toks + ([] : List (Str × Value)).length } →
      codeAny (model X.prog X.w) X.A (.compLoop (.ListComp elt [⟨target, iter, ifs, 0⟩] scope pos) 0 (.ref it) (.ref D) (compEnvC scope (clOf X.env.cells scope.names []) C X.env)) (RR (.ref D) C) s₃ := by
    rintro s₃ rfl
    have I0 : Inv (compCx X N' scope C s2 H2 fp) [(D, { cls := .type "list", data := .seq ([] : List Value).toArray 0 })] (compSt mp σ) H2 { s2 with heap := h₁, toks := s2.toks + ([] : List (Str × Value)).length } :=
      comp_start ok I2 f2 (by rw [hD]; exact hlt) (by rw [hD] at hCle ⊢; exact hCle) (by rw [hD]; exact Nat.le_refl _) hDC hns₁ old hacc (fun v z => by cases z)
    refine compLoop_any (fun n s' => ∃ i σ' H' acc, ∃ (its : List Value) (k : Nat), Inv (compCx X N' scope C s2 H2 fp) [(D, { cls := .type "list", data := .seq its.toArray k })] σ' H' s' ∧ Vals acc its ∧ acc.length ≤ sizeLine ∧ tn i s'.heap ∧
      (∀ b ∈ fp, H' b = none) ∧ W i n σ' H' acc) ?_ m0 ⟨0, compSt mp σ, H2, [], [], 0, I0, .nil, Nat.zero_le _, st1, fun b hb => (f2 b hb).1, w0⟩
    rintro n s3 ⟨i, σ3, H3, acc, its, k, I3, rv, hz, st3, fr3, w3⟩
    have stat : ∀ {H' : Hp} {pn : List (Addr × Obj)}, (∀ b ∈ fp, H' b = none) → (∀ p ∈ pn, p.1 = D) → ∀ b ∈ fp, FpOk (compCx X N' scope C s2 H2 fp) pn H' b := fun {H' pn} hn hp b hb =>
      ⟨hn b hb, below b (hlt b hb), fun z => by
          rcases List.mem_cons.mp (I2.stkSub b z) with e | e
          · exact (f2 b hb).2.1 e
          · exact (f2 b hb).2.2.1 e, .inl hb, fun x c h => (f2 b hb).2.2.2.2.1 x c (cl_back ok I2 h).1, fun p hp' z => by
          have hp'' : p ∈ ([] : List (Addr × Obj)) ++ pn := hp'
          rw [List.nil_append] at hp''
          exact hDf (by rw [← hp p hp'', z]; exact hb)⟩
    have oneD : ∀ {od : Obj}, ∀ p ∈ [(D, od)], p.1 = D := fun {od} p hp => by
      have e : p = (D, od) := by simpa using hp
      rw [e]
    rcases turn i n σ3 H3 acc w3 with ⟨stop, qn⟩ | ⟨go, hz', N, hN, step⟩
    · refine thn (T.done (compCx X N' scope C s2 H2 fp) rfl rfl rfl hc i _ s3 σ3 H3 (fun _ _ => False) I3 (stat fr3 oneD) st3 stop) fun r s4 ⟨hr, I4⟩ => ?_
      subst hr
      have pD := I4.pin (D, _) (List.mem_append_right _ List.mem_cons_self)
      have I5 : Inv X pins σ H3 s4 := I2.call' (ch := fp) I4.os I4.base I4.hok I4.bare fun b hb => ⟨(f2 b hb).2.2.2.1, (f2 b hb).2.1, (f2 b hb).2.2.2.2.1, (f2 b hb).2.2.2.2.2⟩
      have fD : FpOk X pins H3 D := I2.fpOk (by rw [hD]; exact Nat.le_refl _) pD.2.1
      have I6 : Inv X pins σ (upd H3 D (.lst acc)) s4 := Inv_track I5 fD ⟨hz, its, k, rv, pD.1⟩
      obtain ⟨m4, hn4, _⟩ := I4.loc
      exact hRR D C H3 s4 acc I6 pD.2.1 I4.free hDC (by rw [hD] at hCle ⊢; exact hCle) ⟨m4, hn4⟩ qn
    · refine thn (T.item (compCx X N' scope C s2 H2 fp) rfl rfl rfl hc i _ s3 σ3 H3 (fun _ _ => False) I3 (stat fr3 oneD) st3 go) fun r s4 ⟨u, hr, h4⟩ => ?_
      subst hr
      refine thn h4 fun _ s5 ⟨x, H5, I5, r5, y5, st5, fr5⟩ => ?_
      have I5' := I5.pinned (stat fr5 oneD) (T.obj _ _ st5)
      have fin : ∀ {σ7 : St} {H7 : Hp} {s7 : Shared} {its7 : List Value} {k7 : Nat}, Inv (compCx X N' scope C s2 H2 fp) ([(D, { cls := .type "list", data := .seq its7.toArray k7 })] ++ pinsAt fp s5.heap) σ7 H7 s7 →
          Inv (compCx X N' scope C s2 H2 fp) [(D, { cls := .type "list", data := .seq its7.toArray k7 })] σ7 H7 s7 ∧ tn (i + 1) s7.heap ∧ ∀ b ∈ fp, H7 b = none := fun {σ7 H7 s7 its7 k7} I7 => by
        refine ⟨I7.unpinned, T.keep _ _ _ st5 fun b hb o e => (I7.pin (b, o) (List.mem_append_right _ (List.mem_append_right _ (mem_pinsAt hb e)))).1, fun b hb => ?_⟩
        obtain ⟨o, e, d⟩ := T.obj _ _ st5 b hb
        exact (I7.pin (b, o) (List.mem_append_right _ (List.mem_append_right _ (mem_pinsAt hb e)))).2.1
      refine thn (hg C s2 H2 fp _ s5 σ3 H5 x u _ I5' r5 (step x H5 y5)) fun _ s6 ⟨σ6, H6, I6, q6⟩ => ?_
      refine thn (ht C s2 H2 fp _ s6 σ6 H6 _ I6 q6) fun b s7 ⟨H7, I7, q7⟩ => ?_
      cases b with
      | false =>
        rw [if_neg (by simp)] at q7 ⊢
        obtain ⟨m', hm, w7⟩ := hN _ _ _ q7
        obtain ⟨a1, a2, a3⟩ := fin I7
        exact ⟨m', hm, i + 1, σ6, H7, acc, its, k, a1, rv, hz, a2, a3, w7⟩
      | true =>
        rw [if_pos rfl] at q7 ⊢
        refine thn (he C s2 H2 fp _ s7 σ6 H7 _ I7 q7) fun y s8 ⟨v, H8, I8, r8, q8⟩ => ?_
        obtain ⟨m', hm, w8⟩ := hN _ _ _ q8
        obtain ⟨a1, a2, a3⟩ := fin I8
        have pD := I8.pin (D, _) (List.mem_append_right _ (List.mem_append_left _ List.mem_cons_self))
        have hl := rv.length
        refine call_meets F.slot_list_append ⟨_, pD.1, rfl⟩ F.entry_list_append (F.args_list_append_2 _ _) (PySem.list_append D its.toArray k y (by rw [List.size_toArray]; omega)) ⟨pD.1, ?_⟩
        have up : ∀ b o, b ≠ D → s8.heap.get? b = some o → (s8.heap.update D (Obj.mapSeq (·.push y))).get? b = some o := fun b o hb e => (Heap.get?_update_other _ _ (Ne.symm hb)).trans e
        have I9 : Inv (compCx X N' scope C s2 H2 fp) [] σ6 H8 { s8 with heap := s8.heap.update D (Obj.mapSeq (·.push y)), toks := s8.toks } :=
          (I8.pins_of (pins' := []) (fun p hp => absurd hp (by simp))).turned (fun b o hb e => up b o hb e) pD.2.1 hDC (.inr (by show s2.heap.objs.size ≤ D; rw [hD]; exact Nat.le_refl _)) (cells_ne D (by rw [hD]; exact Nat.le_refl _)) (fun p hp => absurd hp (by
            have : p ∈ ([] : List (Addr × Obj)) ++ [] → False := by simp
            exact this))
        have ey : its.toArray.push y = (its ++ [y]).toArray := by simp
        have qD : ∃ k', (s8.heap.update D (Obj.mapSeq (·.push y))).get? D = some { cls := .type "list", data := .seq (its ++ [y]).toArray k' } := ⟨_, by rw [← ey]; exact PySem.IsL.update pD.1 (·.push y)⟩
        obtain ⟨k', qD⟩ := qD
        refine ⟨m', hm, i + 1, σ6, H8, acc ++ [v], its ++ [y], k', I9.pins_of (pins' := [(D, { cls := .type "list", data := .seq (its ++ [y]).toArray k' })]) (fun p hp => ?_), rv.append (.cons r8 .nil), by rw [List.length_append, List.length_singleton]; omega, ?_, a3, w8⟩
        · have e : p = (D, { cls := .type "list", data := .seq (its ++ [y]).toArray k' }) := by simpa using hp
          subst e
          exact ⟨qD, pD.2.1, pD.2.2.1, pD.2.2.2.1, fun v z => by cases z⟩
        · exact T.keep _ _ _ a2 fun b hb o e => up b o (fun z => hDf (z ▸ hb)) e
  exact codeAny_compStart_list (loop _ rfl) (T.self X.A 0 _ _ _ st1 (loop _ rfl))

theorem pe_comp (ok : CompOk X N' mp scope) (hc : X.calm = true) (hi : PI X target iter wi) (hg : ∀ C s H fp, PG (compCx X N' scope C s H fp) target g) (ht : ∀ C s H fp, PTs (compCx X N' scope C s H fp) ifs tt)
    (he : ∀ C s H fp, PE (compCx X N' scope C s H fp) elt te) (hs : ∀ x, foldedSetIterable iter X.env x = pure x := by intro _; rfl) : PE X (.ListComp elt [⟨target, iter, ifs, 0⟩] scope pos) (tComp mp wi g tt te) := by
  intro pins s σ H Q I hw
  rw [eval_ListComp]
  refine wpAny_comprehension_free (use := none) rfl hs (closureFor_eq fun y hy hk => I.ok.has y.1 (ok.free y hy hk)) ok.kind ok.names ?_
  show wpAny _ _ (eval iter X.env) _ _ s
  refine thn (hi pins s σ H _ I hw) fun v s1 h1 => thn h1 fun itv s2 h2 => ?_
  obtain ⟨it, fp, tn, J, H2, e, I2, T, st2, f2, W, ⟨m0, w0⟩, turn⟩ := h2
  subst e
  refine comp_block (RR := fun acc C => compPost (model X.prog X.w) X.A X.xe none (EP X pins σ Q) acc C) ok hc hg ht he I2 T st2 f2 w0 turn fun D C H' s' acc I' hD hC hDC hCl hns q => ?_
  obtain ⟨m, hn⟩ := hns
  refine ⟨m, hn, fun h' sb => ?_⟩
  have fC : FpOk X pins (upd H' D (.lst acc)) C := I2.fpOk hCl (by rw [upd_ne (Ne.symm hDC)]; exact hC)
  obtain ⟨f0, f1, f2, f3, f4, f5⟩ := fC
  exact ⟨.ref D, _, I'.turned (t' := s'.toks) (fun b o hb e => (sb.2 b hb).trans e) f0 f1 f3 f4 f5, rfl, q D hD⟩

/-- name = [..]: the store stands ahead of the block's end -/
theorem ps_setComp {i : Nat} {x : Str} {pos' spos : Pos} (hN : X.N.Nodup) (hi' : X.N[i]? = some x) (hx : Loc X.env.scope x) (ok : CompOk X N' mp scope) (hc : X.calm = true) (hi : PI X target iter wi)
    (hg : ∀ C s H fp, PG (compCx X N' scope C s H fp) target g) (ht : ∀ C s H fp, PTs (compCx X N' scope C s H fp) ifs tt) (he : ∀ C s H fp, PE (compCx X N' scope C s H fp) elt te)
    (hsw : swapsWith (.ListComp elt [⟨target, iter, ifs, 0⟩] scope pos) (some (.Name x pos')) spos.line X.env = pure true := by rfl)
    (hf : X.fn x = true ∨ X.env.scope.names.lookup x = some .local := by first | exact .inl rfl | exact .inr rfl | assumption) (hs : ∀ x, foldedSetIterable iter X.env x = pure x := by intro _; rfl) :
    PS X (.Assign [.Name x pos'] (.ListComp elt [⟨target, iter, ifs, 0⟩] scope pos) spos) (tAsg (tComp mp wi g tt te) (gName i)) := by
  intro pins s σ H D I hw
  rw [exec_Assign_Name_used _ _ _ _ hsw]
  refine wpAny_bind (wpAny_standAt (wpAny_bind ?_))
  show wpAny _ X.A (do let _ ← comprehension (.ListComp elt [⟨target, iter, ifs, 0⟩] scope pos) scope X.env _ (newList []) false (eval iter X.env) (some (assign (.Name x pos') X.env))) _ _ s
  refine wpAny_bind (wpAny_mono (wpAny_comprehension_free (use := some (assign (.Name x pos') X.env)) (Q := fun _ s' => SP X pins D .next s') rfl hs (closureFor_eq fun y hy hk => I.ok.has y.1 (ok.free y hy hk)) ok.kind ok.names ?_)
    (fun _ s' hq => wpAny_pure (wpAny_pure hq)) fun _ _ e => e)
  refine thn (hi pins s σ H _ I hw) fun v s1 h1 => thn h1 fun itv s2 h2 => ?_
  obtain ⟨it, fp, tn, J, H2, e, I2, T, st2, f2, W, ⟨m0, w0⟩, turn⟩ := h2
  subst e
  refine comp_block (RR := fun acc C => compPost (model X.prog X.w) X.A X.xe (some (assign (.Name x pos') X.env)) (fun _ s' => SP X pins D .next s') acc C) ok hc hg ht he I2 T st2 f2 w0 turn fun L C H' s' acc I' hD hC hDC hCl hns q => ?_
  obtain ⟨m, oC, es, ep, hoC, hdC, rC⟩ := hns
  have fC : FpOk X pins (upd H' L (.lst acc)) C := I2.fpOk hCl (by rw [upd_ne (Ne.symm hDC)]; exact hC)
  obtain ⟨f0, f1, f2', f3, f4, f5⟩ := fC
  have I3 : Inv X (pins ++ [(C, oC)]) σ (upd H' L (.lst acc)) s' := I'.pins_of fun p hp => (List.mem_append.mp hp).elim (fun z => I'.pin p (List.mem_append_right _ z)) fun z => by
    have e : p = (C, oC) := by simpa using z
    subst e
    exact ⟨hoC, f0, f1, f2', fun v z => by rw [hdC] at z; cases z⟩
  show wpAny _ X.A (assign (.Name x pos') X.env (.ref L)) _ _ _
  refine wpAny_assign_Name (store_ok (v := .ref L) I3 hN hi' hx rfl (fun s4 I4 => ?_) hf)
  have pC := I4.pin (C, oC) (List.mem_append_right _ (List.mem_append_right _ List.mem_cons_self))
  refine ⟨m, ⟨oC, es, ep, pC.1, hdC, rC⟩, fun h' sb => ?_⟩
  have I5 : Inv X pins (σ.set i (some (.ref L))) (upd H' L (.lst acc)) s4 := I4.unpinned
  exact ⟨_, _, I5.turned (t' := s4.toks) (fun b o hb e => (sb.2 b hb).trans e) pC.2.1 f1 f3 f4 f5, q L hD⟩
end

/-! ### the forms one uses -/
theorem comp_list {K : PySem.W.Frag} {a : Addr} {xs : List V} {g : TG} {tt : TT} {te : TE} {Fin : List V → Hp → Prop} {σ₀ : St} {H₀ : Hp} (Pv : Nat → St → Hp → List V → Prop) (h0 : Pv 0 σ₀ H₀ [])
    (hl : ∀ i σ H acc, i ≤ xs.length → Pv i σ H acc → SqL K H a xs ∧ acc.length ≤ i) (hz : xs.length ≤ sizeLine)
    (hs : ∀ i x σ H acc, xs[i]? = some x → Pv i σ H acc → g x σ H fun σ2 H2 => tt σ2 H2 fun b H3 => if b = true then te σ2 H3 fun y H4 => Pv (i + 1) σ2 H4 (acc ++ [y]) else Pv (i + 1) σ2 H3 acc)
    (hd : ∀ σ H acc, Pv xs.length σ H acc → Fin acc H) : ∃ W : Nat → Nat → St → Hp → List V → Prop, (∃ m, W 0 m σ₀ H₀ []) ∧ CompW (Itl K a) g tt te Fin W := by
  refine ⟨fun i m σ H acc => m = xs.length - i ∧ i ≤ xs.length ∧ Pv i σ H acc, ⟨xs.length, by simp, Nat.zero_le _, h0⟩, ?_⟩
  rintro i m σ H acc ⟨rfl, hi, p⟩
  obtain ⟨q, hacc⟩ := hl i σ H acc hi p
  by_cases hlt : i < xs.length
  · refine .inr ⟨⟨xs, xs[i], q, by simp [hlt]⟩, by omega, fun σ' H' acc' => Pv (i + 1) σ' H' acc', fun σ' H' acc' p' => ⟨xs.length - (i + 1), by omega, rfl, hlt, p'⟩, fun x H' y => ?_⟩
    obtain ⟨e, y⟩ := y
    subst e
    exact hs i x σ _ acc (y xs q) p
  · have e : i = xs.length := by omega
    subst e
    exact .inl ⟨⟨xs, q, Nat.le_refl _⟩, hd σ H acc p⟩
/-! ### a def that one may call -/
structure Cal (P : Program) (w : World) (K : PySem.W.Frag) (mg : Str → Option Value) (base : Heap) (k : Nat) (x : Str) (ps : List Str) (sp : Sp) : Prop where
  ex : ∃ f fd, FnOk P w K mg base CX0 k f fd ps sp ∧ Binds K fd ps [] ∧ PySem.W.keepIn K (.ref f) = true ∧ mg x = some (.ref f)
theorem Cal.mono {P : Program} {w : World} {K : PySem.W.Frag} {mg : Str → Option Value} {base : Heap} {j k : Nat} {x : Str} {ps : List Str} {sp : Sp} (c : Cal P w K mg base j x ps sp) (h : j ≤ k) : Cal P w K mg base k x ps sp := by
  obtain ⟨f, fd, a, b, d, e⟩ := c.ex
  exact ⟨f, fd, a.mono h, b, d, e⟩
theorem pe_cal {X : Cx} {k : Nat} {x : Str} {ps : List Str} {sp : Sp} {p pos : Pos} {e : Expr} {es : List Expr} {t : TA} (c : Cal X.prog X.w X.K X.mg X.base k x ps sp) (hr : Room k X.A) (hg : Gl X x) (ha : PA X (e :: es) t)
    (hdb : (x == ("__debug__" : Str)) = false := by decide) (he : starEach (e :: es) X.env = (false, eval e X.env) :: starEach es X.env := by rfl) (hpl : (backTo pos (starEach es X.env)).any (·.1) = false := by rfl) :
    PE X (.Call (.Name x p) (e :: es) [] pos) (tCall sp [] E0 t) := by
  obtain ⟨f, fd, a, b, d, m⟩ := c.ex
  exact pe_call a hr hg m d b .nil pass0 ha hdb he hpl

/-! ### built-in calls -/
section
variable {X : Cx}
theorem call_sum (hc : X.calm = true) : CallR X (.builtin "sum") (fun xs H Q => ∃ (p : Addr) (ns : List Int), xs = [.ref p] ∧ SqL X.K H p (ns.map V.int) ∧ Q (.int ns.sum) H) := by
  intro pins s σ H xs us Q I r h
  obtain ⟨p, ns, rfl, hq, q⟩ := h
  obtain ⟨u, rfl, rx⟩ := vals1 r
  cases rx
  obtain ⟨its, r', pl, hz⟩ := I.list hq
  have hi : IntsAre its ns := intsAre_of r'
  obtain ⟨zs, hzs⟩ := hi.allInts.items
  refine sum_intListG (xs := zs) (I.ok.hd hc) (by rw [← hzs]; exact pl.isList) fun h' tk t' hk => ?_
  have e : preSum (numAt zs) zs.size = ns.sum := by
    rw [preSum_eq, List.take_of_length_le (by simp), ← nums_intItems, ← hzs]
    exact congrArg List.sum hi.numsOf
  rw [e]
  exact ⟨.int ns.sum, H, I.kept hk, ⟨_, rfl⟩, q⟩
def rMinT (K : PySem.W.Frag) : List V → Hp → VK → Prop := fun xs H Q => ∃ (p : Addr) (a b : Int), xs = [.ref p] ∧ SqT K H p [.int a, .int b] ∧ Q (.int (if b < a then b else a)) H
def rMaxT (K : PySem.W.Frag) : List V → Hp → VK → Prop := fun xs H Q => ∃ (p : Addr) (a b : Int), xs = [.ref p] ∧ SqT K H p [.int a, .int b] ∧ Q (.int (if b > a then b else a)) H
theorem call_min_tup (hc : X.calm = true) : CallR X (.builtin "min") (rMinT X.K) := by
  intro pins s σ H xs us Q I r h
  obtain ⟨p, a, b, rfl, hq, q⟩ := h
  obtain ⟨u, rfl, rx⟩ := vals1 r
  cases rx
  obtain ⟨its, r', pl, hz⟩ := I.tuple hq
  obtain ⟨u1, u2, rfl, ⟨t, rfl⟩, ⟨t', rfl⟩⟩ := vals2 r'
  have hT : s.heap.IsTuple p (intItems #[(a, t), (b, t')]) := by
    have : s.heap.IsTuple p [Value.int a t, Value.int b t'].toArray := pl
    simpa [intItems] using this
  have hlt : p < s.heap.objs.size := by obtain ⟨_, e, _⟩ := hT; exact Heap.lt_size e
  refine call_min_walk (wpAny_pyIter_tuple hT ?_)
  refine ⟨_, [_, p], [_], _, _, _, _, rfl, Walks.tuple (A := X.A.in1) (I.ok.hd hc) _ p (Nat.ne_of_lt hlt) (intItems #[(a, t), (b, t')]),
    ⟨⟨_, Heap.get?_push_size _ rfl, rfl, rfl⟩, hT.push _⟩, fun c hc' => ?_, by simp [intItems], CmpOf.ints_lt (numAt #[(a, t), (b, t')]) (fun _ _ => intItems_at), fun v h' tk hP hk => ?_⟩
  · show c < (s.heap.push _).objs.size
    rw [Heap.size_push]
    rcases List.mem_cons.mp hc' with rfl | hc'
    · exact Nat.lt_succ_self _
    · rcases List.mem_cons.mp hc' with rfl | hc'
      · exact Nat.lt_succ_of_lt hlt
      · cases hc'
  · have hold : ∀ c o, s.heap.get? c = some o → h'.get? c = some o := fun c o e => by
      refine hk c o (fun hm => ?_) (Heap.get?_push_of_some _ e)
      rcases List.mem_cons.mp hm with e1 | hm
      · exact absurd (e1 ▸ Heap.lt_size e) (Nat.lt_irrefl _)
      · cases hm
    have hP' : (intItems #[(a, t), (b, t')])[argBest (fun i j => decide (numAt #[(a, t), (b, t')] i < numAt #[(a, t), (b, t')] j)) 1]? = some v := by
      have hsz2 : (intItems #[(a, t), (b, t')]).size - 1 = 1 := by simp [intItems]
      rw [← hsz2]; exact hP
    by_cases hba : b < a
    · have e : argBest (fun i j => decide (numAt #[(a, t), (b, t')] i < numAt #[(a, t), (b, t')] j)) 1 = 1 := by simp [argBest, numAt, hba]
      rw [e] at hP'
      have hv : v = .int b t' := by simpa [intItems] using hP'.symm
      rw [hv]
      rw [if_pos hba] at q
      exact ⟨.int b, H, I.kept hold, ⟨_, rfl⟩, q⟩
    · have e : argBest (fun i j => decide (numAt #[(a, t), (b, t')] i < numAt #[(a, t), (b, t')] j)) 1 = 0 := by simp [argBest, numAt, hba]
      rw [e] at hP'
      have hv : v = .int a t := by simpa [intItems] using hP'.symm
      rw [hv]
      rw [if_neg hba] at q
      exact ⟨.int a, H, I.kept hold, ⟨_, rfl⟩, q⟩
theorem call_max_tup (hc : X.calm = true) : CallR X (.builtin "max") (rMaxT X.K) := by
  intro pins s σ H xs us Q I r h
  obtain ⟨p, a, b, rfl, hq, q⟩ := h
  obtain ⟨u, rfl, rx⟩ := vals1 r
  cases rx
  obtain ⟨its, r', pl, hz⟩ := I.tuple hq
  obtain ⟨u1, u2, rfl, ⟨t, rfl⟩, ⟨t', rfl⟩⟩ := vals2 r'
  have hT : s.heap.IsTuple p (intItems #[(a, t), (b, t')]) := by
    have : s.heap.IsTuple p [Value.int a t, Value.int b t'].toArray := pl
    simpa [intItems] using this
  have hlt : p < s.heap.objs.size := by obtain ⟨_, e, _⟩ := hT; exact Heap.lt_size e
  refine call_max_walk (wpAny_pyIter_tuple hT ?_)
  refine ⟨_, [_, p], [_], _, _, _, _, rfl, Walks.tuple (A := X.A.in1) (I.ok.hd hc) _ p (Nat.ne_of_lt hlt) (intItems #[(a, t), (b, t')]),
    ⟨⟨_, Heap.get?_push_size _ rfl, rfl, rfl⟩, hT.push _⟩, fun c hc' => ?_, by simp [intItems], CmpOf.ints_gt (numAt #[(a, t), (b, t')]) (fun _ _ => intItems_at), fun v h' tk hP hk => ?_⟩
  · show c < (s.heap.push _).objs.size
    rw [Heap.size_push]
    rcases List.mem_cons.mp hc' with rfl | hc'
    · exact Nat.lt_succ_self _
    · rcases List.mem_cons.mp hc' with rfl | hc'
      · exact Nat.lt_succ_of_lt hlt
      · cases hc'
  · have hold : ∀ c o, s.heap.get? c = some o → h'.get? c = some o := fun c o e => by
      refine hk c o (fun hm => ?_) (Heap.get?_push_of_some _ e)
      rcases List.mem_cons.mp hm with e1 | hm
      · exact absurd (e1 ▸ Heap.lt_size e) (Nat.lt_irrefl _)
      · cases hm
    have hP' : (intItems #[(a, t), (b, t')])[argBest (fun i j => decide (numAt #[(a, t), (b, t')] i > numAt #[(a, t), (b, t')] j)) 1]? = some v := by
      have hsz2 : (intItems #[(a, t), (b, t')]).size - 1 = 1 := by simp [intItems]
      rw [← hsz2]; exact hP
    by_cases hba : b > a
    · have e : argBest (fun i j => decide (numAt #[(a, t), (b, t')] i > numAt #[(a, t), (b, t')] j)) 1 = 1 := by simp [argBest, numAt, hba]
      rw [e] at hP'
      have hv : v = .int b t' := by simpa [intItems] using hP'.symm
      rw [hv]
      rw [if_pos hba] at q
      exact ⟨.int b, H, I.kept hold, ⟨_, rfl⟩, q⟩
    · have e : argBest (fun i j => decide (numAt #[(a, t), (b, t')] i > numAt #[(a, t), (b, t')] j)) 1 = 0 := by simp [argBest, numAt, hba]
      rw [e] at hP'
      have hv : v = .int a t := by simpa [intItems] using hP'.symm
      rw [hv]
      rw [if_neg hba] at q
      exact ⟨.int a, H, I.kept hold, ⟨_, rfl⟩, q⟩
def rInsert : V → List V → Hp → VK → Prop := fun x vs H Q => ∃ l xs k y, x = .ref l ∧ vs = [.int k, y] ∧ H l = some (.lst xs) ∧ 0 ≤ k ∧ k ≤ (xs.length : Int) ∧ xs.length < sizeLine ∧ Q .non (upd H l (.lst (xs.take k.toNat ++ y :: xs.drop k.toNat)))
theorem mt_insert : MtM X "list.insert" rInsert := by
  intro pins s σ H x vs v us Q I rx rv h
  obtain ⟨l, xs, k, y, rfl, rfl, hH, k0, k1, hz, q⟩ := h
  cases rx
  obtain ⟨u1, u, rfl, ⟨t, rfl⟩, ru⟩ := rv.two
  obtain ⟨z, its, n, r, hl, e⟩ := I.lstM hH
  have hs : sizeLine = 16777216 := sizeLine_eq
  have hfit : ¬ (!Builtin.List.listFitsIndex k) = true := by
    have : Builtin.List.listFitsIndex k = true := by
      unfold Builtin.List.listFitsIndex
      simp only [Bool.and_eq_true, decide_eq_true_eq]
      omega
    simp [this]
  refine call_meets F.slot_list_insert ⟨_, e, rfl⟩ F.entry_list_insert (F.args_list_insert_3 _ _ _) (AutoSeq1.list_insert_list_int_val_1 l its.toArray n k t u hfit (by rw [List.size_toArray]; omega)) ⟨e, ?_⟩
  refine ⟨.non, _, I.lset (its' := its.take k.toNat ++ u :: its.drop k.toNat) hH e ?_ ((r.take _).append (.cons ru (r.drop _))) ?_, rfl, q⟩
  · have hk : (if k < 0 then (k + (its.toArray.size : Int)).toNat else min k.toNat its.toArray.size) = k.toNat := by
      rw [if_neg (by omega), List.size_toArray]; omega
    show (its.toArray.extract 0 (if k < 0 then (k + (its.toArray.size : Int)).toNat else min k.toNat its.toArray.size)).push u ++ its.toArray.extract (if k < 0 then (k + (its.toArray.size : Int)).toNat else min k.toNat its.toArray.size) = _
    rw [hk]
    apply Array.toList_inj.mp
    simp [List.extract_eq_drop_take]
    exact List.take_of_length_le (by rw [List.length_drop]; exact Nat.le_refl _)
  · rw [List.length_append, List.length_cons, List.length_take, List.length_drop]
    omega
/-- isinstance(x, a built-in type) -/
theorem call_isinst : CallR X (.builtin "isinstance") (fun xs H Q => ∃ x n t b, xs = [x, .ty n] ∧ TyOf X.K H x t ∧ PySem.W.kitOne X.K t (.type n) = some b ∧ Q (.bl b) H) := by
  intro pins s σ H xs us Q I r h
  obtain ⟨x, n, t, b, rfl, ty, e, q⟩ := h
  obtain ⟨u, u', rfl, ru, rn⟩ := vals2 r
  cases (show u' = Value.type n from rn)
  exact isinst_ok I ru ty e fun tk => ⟨.bl b, H, I.tok _, rfl, q⟩
end
end Oh

namespace Oh
open PySem.W PyProof.Rows

def kgo {α : Type} (lt : Nat → Nat → Bool) : KasT α → α
  | .ret a => a
  | .ask i j k => kgo lt (k (lt i j))
theorem kgo_bind {α β : Type} (lt : Nat → Nat → Bool) (f : α → KasT β) : ∀ t : KasT α, kgo lt (t.bind f) = kgo lt (f (kgo lt t))
  | .ret a => rfl
  | .ask i j k => kgo_bind lt f (k (lt i j))

def ltc (c : Nat → Int) (i j : Nat) : Bool := decide (c i < c j)
def kk (c : Nat → Int) (p : Array Nat) (i : Nat) : Int := c (p[i]?.getD 0)
theorem kk_getD (c : Nat → Int) (p : Array Nat) (i : Nat) : c (p.getD i 0) = kk c p i := by unfold kk; simp [Array.getD_eq_getD_getElem?]
def SortTo (c : Nat → Int) (p : Array Nat) (k : Nat) : Prop := ∀ i j, i ≤ j → j < k → kk c p i ≤ kk c p j
def NonInc (c : Nat → Int) (p : Array Nat) (k : Nat) : Prop := ∀ i j, i ≤ j → j < k → kk c p j ≤ kk c p i
section
variable {c : Nat → Int}
theorem kk_congr {xs ys : Array Nat} {i j : Nat} (h : xs[i]? = ys[j]?) : kk c xs i = kk c ys j := by unfold kk; rw [h]
theorem kk_bubble {xs : Array Nat} {src d : Nat} (hs : src < xs.size) (hd : d ≤ src) (k : Nat) :
    kk c (bubble xs src d) k = if k = src - d then kk c xs src else if src - d < k ∧ k ≤ src then kk c xs (k - 1) else kk c xs k := by
  have e := getElem?_bubble hs d hd k
  by_cases h1 : k = src - d
  · rw [if_pos h1] at e ⊢; exact kk_congr e
  · rw [if_neg h1] at e ⊢
    by_cases h2 : src - d < k ∧ k ≤ src
    · rw [if_pos h2] at e ⊢; exact kk_congr e
    · rw [if_neg h2] at e ⊢; exact kk_congr e
theorem kk_mirror {xs : Array Nat} {i j : Nat} (hj : j ≤ xs.size) (k : Nat) :
    kk c (mirror xs i j ((j - i) / 2)) k = if i ≤ k ∧ k < j then kk c xs (i + j - 1 - k) else kk c xs k := by
  have e := getElem?_mirror_all (i := i) hj k
  by_cases h1 : i ≤ k ∧ k < j
  · rw [if_pos h1] at e ⊢; exact kk_congr e
  · rw [if_neg h1] at e ⊢; exact kk_congr e
theorem kk_mirror_equal {xs : Array Nat} {i j : Nat} (hj : j ≤ xs.size) (heq : ∀ k, i ≤ k → k < j → kk c xs k = kk c xs (j - 1)) (k : Nat) :
    kk c (mirror xs i j ((j - i) / 2)) k = kk c xs k := by
  rw [kk_mirror hj]
  split
  · rw [heq _ (by omega) (by omega), heq k (by omega) (by omega)]
  · rfl

theorem ltc_kk (p : Array Nat) (i j : Nat) : ltc c (p.getD i 0) (p.getD j 0) = decide (kk c p i < kk c p j) := by
  unfold ltc; rw [kk_getD c p i, kk_getD c p j]

theorem asc_ok (p : Array Nat) : ∀ (f n : Nat), 1 ≤ n → SortTo c p n → n ≤ kgo (ltc c) (kas_asc p f n) ∧ kgo (ltc c) (kas_asc p f n) ≤ n + f ∧ SortTo c p (kgo (ltc c) (kas_asc p f n)) ∧
    (kgo (ltc c) (kas_asc p f n) = n + f ∨ kk c p (kgo (ltc c) (kas_asc p f n)) < kk c p (kgo (ltc c) (kas_asc p f n) - 1))
  | 0, n, h1, hs => ⟨Nat.le_refl _, Nat.le_refl _, hs, .inl rfl⟩
  | f + 1, n, h1, hs => by
    show n ≤ kgo (ltc c) (if ltc c (p.getD n 0) (p.getD (n - 1) 0) = true then .ret n else kas_asc p f (n + 1)) ∧ kgo (ltc c) (if ltc c (p.getD n 0) (p.getD (n - 1) 0) = true then .ret n else kas_asc p f (n + 1)) ≤ _ ∧
      SortTo c p (kgo (ltc c) (if ltc c (p.getD n 0) (p.getD (n - 1) 0) = true then .ret n else kas_asc p f (n + 1))) ∧ (kgo (ltc c) (if ltc c (p.getD n 0) (p.getD (n - 1) 0) = true then .ret n else kas_asc p f (n + 1)) = _ ∨
       kk c p (kgo (ltc c) (if ltc c (p.getD n 0) (p.getD (n - 1) 0) = true then .ret n else kas_asc p f (n + 1))) < kk c p (kgo (ltc c) (if ltc c (p.getD n 0) (p.getD (n - 1) 0) = true then .ret n else kas_asc p f (n + 1)) - 1))
    rw [ltc_kk]
    by_cases hl : kk c p n < kk c p (n - 1)
    · rw [if_pos (decide_eq_true hl)]
      exact ⟨Nat.le_refl _, by show n ≤ _; omega, hs, .inr hl⟩
    · rw [if_neg (by simpa using hl)]
      have hs' : SortTo c p (n + 1) := fun i j hij hj => by
        by_cases hjx : j < n
        · exact hs i j hij hjx
        · have hj' : j = n := by omega
          subst hj'
          by_cases hi' : i = j
          · subst hi'; exact Int.le_refl _
          · have := hs i (j - 1) (by omega) (by omega); omega
      obtain ⟨a1, a2, a3, a4⟩ := asc_ok p f (n + 1) (by omega) hs'
      refine ⟨by omega, by omega, a3, ?_⟩
      rcases a4 with a4 | a4
      · exact .inl (by omega)
      · exact .inr a4

theorem tail3_ok {p : Array Nat} {n nrem : Nat} (h1 : 1 ≤ n) (hn : n ≤ nrem) (hz : nrem ≤ p.size) (hs : NonInc c p n) :
    (kgo (ltc c) (kas_tail3 n nrem p)).2.Perm p ∧ 1 ≤ (kgo (ltc c) (kas_tail3 n nrem p)).1 ∧ (kgo (ltc c) (kas_tail3 n nrem p)).1 ≤ nrem ∧ SortTo c (kgo (ltc c) (kas_tail3 n nrem p)).2 (kgo (ltc c) (kas_tail3 n nrem p)).1 := by
  unfold kas_tail3
  rw [kgo_bind]
  have hs' : SortTo c (kas_rev p 0 n) n := by
    intro i j hij hj
    unfold kas_rev
    rw [kk_mirror (by omega), kk_mirror (by omega), if_pos (by omega), if_pos (by omega)]
    exact hs _ _ (by omega) (by omega)
  obtain ⟨a1, a2, a3, _⟩ := asc_ok (c := c) (kas_rev p 0 n) (nrem - n) n h1 hs'
  exact ⟨mirror_perm _ _ _ _, by show 1 ≤ kgo _ _; omega, by show kgo _ _ ≤ _; omega, a3⟩

theorem desc_ok : ∀ (f : Nat) (p : Array Nat) (n q : Nat), n + f ≤ p.size → 1 ≤ n → NonInc c p n → q + 1 ≤ n → (∀ i, n - (q + 1) ≤ i → i < n → kk c p i = kk c p (n - 1)) →
    ∃ p' m q', kgo (ltc c) (kas_desc f p n q) = (p', m, q') ∧ p'.Perm p ∧ n ≤ m ∧ m ≤ n + f ∧ NonInc c p' m ∧ q' + 1 ≤ m ∧ ∀ i, m - (q' + 1) ≤ i → i < m → kk c p' i = kk c p' (m - 1)
  | 0, p, n, q, hz, h1, hs, hq, he => ⟨p, n, q, rfl, Array.Perm.refl _, Nat.le_refl _, Nat.le_refl _, hs, hq, he⟩
  | f + 1, p, n, q, hz, h1, hs, hq, he => by
    show ∃ p' m q', kgo (ltc c) (if ltc c (p.getD n 0) (p.getD (n - 1) 0) = true then (if q > 0 then kas_desc f (kas_rev p (n - (q + 1)) n) (n + 1) 0 else kas_desc f p (n + 1) 0)
      else .ask (p.getD (n - 1) 0) (p.getD n 0) fun d => if d = true then .ret (p, n, q) else kas_desc f p (n + 1) (q + 1)) = (p', m, q') ∧ _
    rw [ltc_kk]
    by_cases hl : kk c p n < kk c p (n - 1)
    · rw [if_pos (decide_eq_true hl)]
      have step1 : ∀ xs : Array Nat, (∀ k, kk c xs k = kk c p k) → NonInc c xs (n + 1) := by
        intro xs hk i j hij hj
        rw [hk, hk]
        by_cases hjx : j < n
        · exact hs i j hij hjx
        · have hj' : j = n := by omega
          subst hj'
          by_cases hi' : i = j
          · subst hi'; exact Int.le_refl _
          · have := hs i (j - 1) (by omega) (by omega); omega
      by_cases hq0 : q > 0
      · rw [if_pos hq0]
        have hp : (kas_rev p (n - (q + 1)) n).Perm p := mirror_perm _ _ _ _
        obtain ⟨p', m, q', e1, e2, e3, e4, e5, e6, e7⟩ := desc_ok f (kas_rev p (n - (q + 1)) n) (n + 1) 0 (by rw [hp.size_eq]; omega) (by omega) (step1 _ (kk_mirror_equal (by omega) he)) (by omega) (fun i _ _ => by congr 1; omega)
        exact ⟨p', m, q', e1, e2.trans hp, by omega, by omega, e5, e6, e7⟩
      · rw [if_neg hq0]
        obtain ⟨p', m, q', e1, e2, e3, e4, e5, e6, e7⟩ := desc_ok f p (n + 1) 0 (by omega) (by omega) (step1 _ (fun _ => rfl)) (by omega) (fun i _ _ => by congr 1; omega)
        exact ⟨p', m, q', e1, e2, by omega, by omega, e5, e6, e7⟩
    · rw [if_neg (by simpa using hl)]
      show ∃ p' m q', kgo (ltc c) (if ltc c (p.getD (n - 1) 0) (p.getD n 0) = true then .ret (p, n, q) else kas_desc f p (n + 1) (q + 1)) = (p', m, q') ∧ _
      rw [ltc_kk]
      by_cases hg : kk c p (n - 1) < kk c p n
      · rw [if_pos (decide_eq_true hg)]
        exact ⟨p, n, q, rfl, Array.Perm.refl _, Nat.le_refl _, by omega, hs, hq, he⟩
      · rw [if_neg (by simpa using hg)]
        have heq : kk c p n = kk c p (n - 1) := by omega
        obtain ⟨p', m, q', e1, e2, e3, e4, e5, e6, e7⟩ := desc_ok f p (n + 1) (q + 1) (by omega) (by omega) (fun i j hij hj => by
            by_cases hjx : j < n
            · exact hs i j hij hjx
            · have hj' : j = n := by omega
              subst hj'
              by_cases hi' : i = j
              · subst hi'; exact Int.le_refl _
              · rw [heq]; exact hs i (j - 1) (by omega) (by omega)) (by omega) (fun i a1 a2 => by
            rw [show n + 1 - 1 = n by omega]
            by_cases hix : i = n
            · subst hix; rfl
            · rw [heq]; exact he i (by omega) (by omega))
        exact ⟨p', m, q', e1, e2, by omega, by omega, e5, e6, e7⟩

theorem descPart_ok {p : Array Nat} {n nrem : Nat} (hn : n + 1 ≤ nrem) (hz : nrem ≤ p.size) (hs : NonInc c p (n + 1)) :
    (kgo (ltc c) (kas_descPart n nrem p)).2.Perm p ∧ 1 ≤ (kgo (ltc c) (kas_descPart n nrem p)).1 ∧ (kgo (ltc c) (kas_descPart n nrem p)).1 ≤ nrem ∧ SortTo c (kgo (ltc c) (kas_descPart n nrem p)).2 (kgo (ltc c) (kas_descPart n nrem p)).1 := by
  unfold kas_descPart
  rw [kgo_bind]
  obtain ⟨p', m, q', e1, e2, e3, e4, e5, e6, e7⟩ := desc_ok (c := c) (nrem - (n + 1)) p (n + 1) 0 (by omega) (by omega) hs (by omega) (fun i _ _ => by congr 1; omega)
  have hz' := e2.size_eq
  rw [e1]
  dsimp only
  by_cases hq : q' > 0
  · rw [if_pos hq]
    have hp : (kas_rev p' (m - (q' + 1)) m).Perm p' := mirror_perm _ _ _ _
    have hs' : NonInc c (kas_rev p' (m - (q' + 1)) m) m := by
      intro i j hij hj
      unfold kas_rev
      rw [kk_mirror_equal (by omega) e7, kk_mirror_equal (by omega) e7]
      exact e5 i j hij hj
    obtain ⟨a1, a2, a3, a4⟩ := tail3_ok (c := c) (nrem := nrem) (by omega) (by omega) (by rw [hp.size_eq]; omega) hs'
    exact ⟨a1.trans (hp.trans e2), a2, a3, a4⟩
  · rw [if_neg hq]
    obtain ⟨a1, a2, a3, a4⟩ := tail3_ok (c := c) (nrem := nrem) (by omega) (by omega) (by omega) e5
    exact ⟨a1.trans e2, a2, a3, a4⟩

theorem count_ok {p : Array Nat} {nrem : Nat} (h1 : 1 ≤ nrem) (hz : nrem ≤ p.size) :
    (kgo (ltc c) (kas_count nrem p)).2.Perm p ∧ 1 ≤ (kgo (ltc c) (kas_count nrem p)).1 ∧ (kgo (ltc c) (kas_count nrem p)).1 ≤ nrem ∧ SortTo c (kgo (ltc c) (kas_count nrem p)).2 (kgo (ltc c) (kas_count nrem p)).1 := by
  unfold kas_count
  rw [kgo_bind]
  obtain ⟨a1, a2, a3, a4⟩ := asc_ok (c := c) p (nrem - 1) 1 (by omega) (fun i j hij hj => by have : i = j := (by omega); subst this; exact Int.le_refl _)
  generalize kgo (ltc c) (kas_asc p (nrem - 1) 1) = n at a1 a2 a3 a4
  by_cases hnn : n = nrem
  · rw [if_pos (by simpa using hnn)]
    exact ⟨Array.Perm.refl _, by show 1 ≤ n; omega, by show n ≤ _; omega, a3⟩
  · rw [if_neg (by simpa using hnn)]
    have hlt : kk c p n < kk c p (n - 1) := a4.resolve_left (by omega)
    by_cases hgt : n > 1
    · rw [if_pos hgt]
      show (kgo (ltc c) (if ltc c (p.getD 0 0) (p.getD (n - 1) 0) = true then .ret (n, p) else kas_descPart n nrem (kas_rev p 0 n))).2.Perm p ∧ 1 ≤ (kgo (ltc c) (if ltc c (p.getD 0 0) (p.getD (n - 1) 0) = true then .ret (n, p) else kas_descPart n nrem (kas_rev p 0 n))).1 ∧
        (kgo (ltc c) (if ltc c (p.getD 0 0) (p.getD (n - 1) 0) = true then .ret (n, p) else kas_descPart n nrem (kas_rev p 0 n))).1 ≤ nrem ∧ SortTo c (kgo (ltc c) (if ltc c (p.getD 0 0) (p.getD (n - 1) 0) = true then .ret (n, p) else kas_descPart n nrem (kas_rev p 0 n))).2 (kgo (ltc c) (if ltc c (p.getD 0 0) (p.getD (n - 1) 0) = true then .ret (n, p) else kas_descPart n nrem (kas_rev p 0 n))).1
      rw [ltc_kk]
      by_cases hr : kk c p 0 < kk c p (n - 1)
      · rw [if_pos (decide_eq_true hr)]
        exact ⟨Array.Perm.refl _, by show 1 ≤ n; omega, by show n ≤ _; omega, a3⟩
      · rw [if_neg (by simpa using hr)]
        have hall : ∀ k, 0 ≤ k → k < n → kk c p k = kk c p (n - 1) := by
          intro k _ hk
          have b1 := a3 0 k (by omega) hk
          have b2 := a3 k (n - 1) (by omega) (by omega)
          omega
        have hp : (kas_rev p 0 n).Perm p := mirror_perm _ _ _ _
        have hs' : NonInc c (kas_rev p 0 n) (n + 1) := by
          intro i j hij hj
          unfold kas_rev
          rw [kk_mirror_equal (by omega) hall, kk_mirror_equal (by omega) hall]
          by_cases hjn : j < n
          · rw [hall i (by omega) (by omega), hall j (by omega) hjn]; exact Int.le_refl _
          · have hj' : j = n := by omega
            subst hj'
            by_cases hi' : i = j
            · subst hi'; exact Int.le_refl _
            · rw [hall i (by omega) (by omega)]; omega
        obtain ⟨b1, b2, b3, b4⟩ := descPart_ok (c := c) (nrem := nrem) (by omega) (by rw [hp.size_eq]; omega) hs'
        exact ⟨b1.trans hp, b2, b3, b4⟩
    · rw [if_neg hgt]
      have hn1 : n = 1 := by omega
      subst hn1
      refine descPart_ok (by omega) hz ?_
      intro i j hij hj
      by_cases hi' : i = j
      · subst hi'; exact Int.le_refl _
      · have hi0 : i = 0 := by omega
        have hj1 : j = 1 := by omega
        subst hi0; subst hj1
        simp at hlt
        omega

theorem place_ok (p : Array Nat) (k : Nat) (hs : SortTo c p k) : ∀ (f l r : Nat), l ≤ r → r ≤ k → r - l ≤ f → (∀ i, i < l → kk c p i ≤ kk c p k) → (∀ i, r ≤ i → i < k → kk c p k < kk c p i) →
    kgo (ltc c) (kas_place p k f l r) ≤ k ∧ (∀ i, i < kgo (ltc c) (kas_place p k f l r) → kk c p i ≤ kk c p k) ∧ (∀ i, kgo (ltc c) (kas_place p k f l r) ≤ i → i < k → kk c p k < kk c p i)
  | 0, l, r, hlr, hrk, hf, hlo, hhi => by
    have : l = r := by omega
    subst this
    exact ⟨hrk, hlo, hhi⟩
  | f + 1, l, r, hlr, hrk, hf, hlo, hhi => by
    unfold kas_place
    by_cases hge : l ≥ r
    · rw [if_pos hge]
      have : l = r := by omega
      subst this
      exact ⟨hrk, hlo, hhi⟩
    · rw [if_neg hge]
      show kgo (ltc c) (if ltc c (p.getD k 0) (p.getD ((l + r) / 2) 0) = true then kas_place p k f l ((l + r) / 2) else kas_place p k f ((l + r) / 2 + 1) r) ≤ k ∧ (∀ i, i < kgo (ltc c) (if ltc c (p.getD k 0) (p.getD ((l + r) / 2) 0) = true then kas_place p k f l ((l + r) / 2) else kas_place p k f ((l + r) / 2 + 1) r) → _) ∧
        (∀ i, kgo (ltc c) (if ltc c (p.getD k 0) (p.getD ((l + r) / 2) 0) = true then kas_place p k f l ((l + r) / 2) else kas_place p k f ((l + r) / 2 + 1) r) ≤ i → _)
      rw [ltc_kk]
      by_cases hl : kk c p k < kk c p ((l + r) / 2)
      · rw [if_pos (decide_eq_true hl)]
        exact place_ok p k hs f l ((l + r) / 2) (by omega) (by omega) (by omega) hlo fun i h1 h2 => by have := hs _ _ h1 h2; omega
      · rw [if_neg (by simpa using hl)]
        exact place_ok p k hs f ((l + r) / 2 + 1) r (by omega) (by omega) (by omega) (fun i h1 => by have := hs i ((l + r) / 2) (by omega) (by omega); omega) hhi

theorem bin_ok : ∀ (f : Nat) (p : Array Nat) (k : Nat), k + f ≤ p.size → SortTo c p k → (kgo (ltc c) (kas_bin f p k)).Perm p ∧ SortTo c (kgo (ltc c) (kas_bin f p k)) (k + f)
  | 0, p, k, hz, hs => ⟨Array.Perm.refl _, hs⟩
  | f + 1, p, k, hz, hs => by
    unfold kas_bin
    rw [kgo_bind]
    obtain ⟨a1, a2, a3⟩ := place_ok (c := c) p k hs k 0 k (by omega) (by omega) (by omega) (fun i hi => by omega) (fun i h1 h2 => by omega)
    generalize kgo (ltc c) (kas_place p k k 0 k) = l at a1 a2 a3
    have hp : (bubble p k (k - l)).Perm p := bubble_perm _ _ _
    have hs' : SortTo c (bubble p k (k - l)) (k + 1) := by
      intro i j hij hj
      rw [kk_bubble (by omega) (by omega), kk_bubble (by omega) (by omega), show k - (k - l) = l by omega]
      repeat' split
      all_goals first
        | (exfalso; omega)
        | exact Int.le_refl _
        | exact a2 _ (by omega)
        | (have := a3 (j - 1) (by omega) (by omega); omega)
        | exact hs _ _ (by omega) (by omega)
    obtain ⟨b1, b2⟩ := bin_ok f (bubble p k (k - l)) (k + 1) (by rw [hp.size_eq]; omega) hs'
    exact ⟨b1.trans hp, fun i j hij hj => b2 i j hij (by omega)⟩

theorem ksort_ok (n : Nat) (h1 : 1 ≤ n) : (kgo (ltc c) (kas_sort n)).Perm (List.toArray (List.range n)) ∧ SortTo c (kgo (ltc c) (kas_sort n)) n := by
  unfold kas_sort
  rw [kgo_bind]
  obtain ⟨a1, a2, a3, a4⟩ := count_ok (c := c) (p := List.toArray (List.range n)) (nrem := n) h1 (by simp)
  have hz := a1.size_eq
  have hz' : (List.toArray (List.range n)).size = n := by simp
  by_cases hl : (kgo (ltc c) (kas_count n (List.toArray (List.range n)))).1 < n
  · rw [if_pos hl]
    obtain ⟨b1, b2⟩ := bin_ok (c := c) (n - max (kgo (ltc c) (kas_count n (List.toArray (List.range n)))).1 1) _ (max (kgo (ltc c) (kas_count n (List.toArray (List.range n)))).1 1) (by omega) (fun i j hij hj => a4 i j hij (by omega))
    exact ⟨b1.trans a1, fun i j hij hj => b2 i j hij (by omega)⟩
  · rw [if_neg hl]
    exact ⟨a1, fun i j hij hj => a4 i j hij (by omega)⟩
end

/-! every question is about items that are there -/
def kall {α : Type} (n : Nat) : KasT α → (α → Prop) → Prop
  | .ret a, P => P a
  | .ask i j k, P => i < n ∧ j < n ∧ ∀ b, kall n (k b) P
theorem kall_bind {α β : Type} {n : Nat} {f : α → KasT β} {P : β → Prop} : ∀ (t : KasT α), kall n t (fun a => kall n (f a) P) → kall n (t.bind f) P
  | .ret a, h => h
  | .ask i j k, h => ⟨h.1, h.2.1, fun b => kall_bind (k b) (h.2.2 b)⟩
theorem kall_mono {α : Type} {n : Nat} {P P' : α → Prop} (hp : ∀ a, P a → P' a) : ∀ (t : KasT α), kall n t P → kall n t P'
  | .ret a, h => hp a h
  | .ask i j k, h => ⟨h.1, h.2.1, fun b => kall_mono hp (k b) (h.2.2 b)⟩
def RR (n : Nat) (p : Array Nat) : Prop := 0 < n ∧ ∀ x ∈ p.toList, x < n
section
variable {n : Nat} {p : Array Nat}
theorem RR.get (h : RR n p) (i : Nat) : p.getD i 0 < n := by
  by_cases hi : i < p.size
  · have e : p.getD i 0 = p[i] := by simp [Array.getD, hi]
    rw [e]
    exact h.2 _ (by simp)
  · have e : p.getD i 0 = 0 := by simp [Array.getD, hi]
    rw [e]
    exact h.1
theorem RR.perm {q : Array Nat} (h : RR n p) (hp : q.Perm p) : RR n q := ⟨h.1, fun x hx => h.2 x ((Array.perm_iff_toList_perm.mp hp).mem_iff.mp hx)⟩
theorem asc_all (h : RR n p) : ∀ (f m : Nat), kall n (kas_asc p f m) (fun _ => True)
  | 0, _ => trivial
  | f + 1, m => ⟨h.get _, h.get _, fun b => by
      cases b
      · exact asc_all h f (m + 1)
      · exact trivial⟩
theorem desc_all : ∀ (f : Nat) (p : Array Nat) (m q : Nat), RR n p → kall n (kas_desc f p m q) (fun r => RR n r.1)
  | 0, p, _, _, h => h
  | f + 1, p, m, q, h => ⟨h.get _, h.get _, fun b => by
      cases b
      · show kall n (.ask (p.getD (m - 1) 0) (p.getD m 0) fun d => if d = true then .ret (p, m, q) else kas_desc f p (m + 1) (q + 1)) _
        refine ⟨h.get _, h.get _, fun b => ?_⟩
        cases b
        · exact desc_all f p (m + 1) (q + 1) h
        · exact h
      · show kall n (if q > 0 then kas_desc f (kas_rev p (m - (q + 1)) m) (m + 1) 0 else kas_desc f p (m + 1) 0) _
        split
        · exact desc_all f _ _ _ (h.perm (mirror_perm _ _ _ _))
        · exact desc_all f _ _ _ h⟩
theorem tail3_all (h : RR n p) (m nrem : Nat) : kall n (kas_tail3 m nrem p) (fun r => RR n r.2) := by
  unfold kas_tail3
  have h' : RR n (kas_rev p 0 m) := h.perm (mirror_perm _ _ _ _)
  exact kall_bind _ (kall_mono (fun _ _ => h') _ (asc_all h' _ _))
theorem descPart_all (h : RR n p) (m nrem : Nat) : kall n (kas_descPart m nrem p) (fun r => RR n r.2) := by
  unfold kas_descPart
  refine kall_bind _ (kall_mono (fun r hr => ?_) _ (desc_all _ p _ _ h))
  split
  · exact tail3_all (hr.perm (mirror_perm _ _ _ _)) _ _
  · exact tail3_all hr _ _
theorem count_all (h : RR n p) (nrem : Nat) : kall n (kas_count nrem p) (fun r => RR n r.2) := by
  unfold kas_count
  refine kall_bind _ (kall_mono (fun m _ => ?_) _ (asc_all h _ _))
  split
  · exact h
  · split
    · refine ⟨h.get _, h.get _, fun b => ?_⟩
      cases b
      · exact descPart_all (h.perm (mirror_perm _ _ _ _)) _ _
      · exact h
    · exact descPart_all h _ _
theorem place_all (h : RR n p) (k : Nat) : ∀ (f l r : Nat), kall n (kas_place p k f l r) (fun _ => True)
  | 0, _, _ => trivial
  | f + 1, l, r => by
    unfold kas_place
    split
    · trivial
    · refine ⟨h.get _, h.get _, fun b => ?_⟩
      cases b
      · exact place_all h k f _ _
      · exact place_all h k f _ _
theorem bin_all : ∀ (f : Nat) (p : Array Nat) (k : Nat), RR n p → kall n (kas_bin f p k) (fun _ => True)
  | 0, _, _, _ => trivial
  | f + 1, p, k, h => by
    unfold kas_bin
    exact kall_bind _ (kall_mono (fun l _ => bin_all f _ _ (h.perm (bubble_perm _ _ _))) _ (place_all h k _ _ _))
theorem ksort_all (h1 : 0 < n) : kall n (kas_sort n) (fun _ => True) := by
  unfold kas_sort
  have h : RR n (List.toArray (List.range n)) := ⟨h1, fun x hx => by simpa using hx⟩
  refine kall_bind _ (kall_mono (fun r hr => ?_) _ (count_all h n))
  split
  · exact bin_all _ _ _ hr
  · trivial
end
end Oh
namespace Oh
open PySem PySem.Spec PyProof.Rows L2 PySem.W

def code (t : Int × Int) : Int := 8 * t.1 + t.2
def TupsAre (h : Heap) (vs : List Value) (ts : List (Int × Int)) : Prop := Paired (fun v (t : Int × Int) => ∃ (b : Addr) (o : Obj) (n : Nat) (u w : Tok), v = Value.ref b ∧ h.get? b = some o ∧ o.cls = .type "tuple" ∧ o.data = .seq #[.int t.1 u, .int t.2 w] n) vs ts
theorem paired_get {α β : Type} {F : α → β → Prop} : ∀ {l : List α} {m : List β} {i : Nat}, Paired F l m → i < l.length → ∃ a b, l[i]? = some a ∧ m[i]? = some b ∧ F a b
  | _, _, _, .nil, h => by simp at h
  | _, _, 0, .cons r _, _ => ⟨_, _, rfl, rfl, r⟩
  | _, _, i + 1, .cons _ t, h => by
    obtain ⟨a, b, e1, e2, r⟩ := paired_get (i := i) t (by simpa using h)
    exact ⟨a, b, by simpa using e1, by simpa using e2, r⟩
theorem tups_kat {h : Heap} : ∀ {vs : List Value} {ts : List (Int × Int)}, TupsAre h vs ts → ∃ fs, KatTups h vs fs ∧ fs.length = vs.length ∧ ∀ v ∈ fs, ∃ i t, v = Value.int i t
  | _, _, .nil => ⟨[], trivial, rfl, fun _ h => nomatch h⟩
  | _, _, .cons (b := t) r rs => by
    obtain ⟨b, o, n, u, w, rfl, e, c, d⟩ := r
    obtain ⟨fs, k, l, a⟩ := tups_kat rs
    refine ⟨Value.int t.1 u :: fs, ⟨⟨b, o, _, n, rfl, e, c, d, rfl⟩, k⟩, by simp [l], fun v hv => ?_⟩
    rcases List.mem_cons.mp hv with rfl | hv
    · exact ⟨_, _, rfl⟩
    · exact a v hv
theorem kas_pure {n : Nat} {cmp : Nat → Nat → (Bool → Shared → Prop) → Shared → Prop} {s : Shared} {lt : Nat → Nat → Bool} {G : Array Nat → Shared → Prop} (hc : ∀ i j C, i < n → j < n → C (lt i j) s → cmp i j C s) :
    ∀ (t : KasT (Array Nat)), kall n t (fun _ => True) → G (kgo lt t) s → t.kasWp cmp G s
  | .ret _, _, h => h
  | .ask i j k, ha, h => hc i j _ ha.1 ha.2.1 (kas_pure hc (k (lt i j)) (ha.2.2 _) h)

section
variable {prog : Program} {w : World} {A : Around} {E : Value → Shared → Prop} {s : Shared}
theorem ask_tup {vs : List Value} {ts : List (Int × Int)} (ht : TupsAre s.heap vs ts) (hb : ∀ t ∈ ts, 0 ≤ t.2 ∧ t.2 < 8) {i j : Nat} {C : Bool → Shared → Prop} (hi : i < vs.length) (hj : j < vs.length)
    (h : C (ltc (fun i => code (ts.getD i (0, 0))) i j) s) : kas_ask prog w A (tuples' true) vs i j C s := by
  obtain ⟨v1, t1, a1, a2, b1, o1, n1, u1, w1, rfl, c1, d1, e1⟩ := paired_get ht hi
  obtain ⟨v2, t2, f1, f2, b2, o2, n2, u2, w2, rfl, c2, d2, e2⟩ := paired_get ht hj
  have g1 : vs.getD i Value.none = .ref b1 := by rw [List.getD_eq_getElem?_getD, a1]; rfl
  have g2 : vs.getD j Value.none = .ref b2 := by rw [List.getD_eq_getElem?_getD, f1]; rfl
  have k1 : ts.getD i (0, 0) = t1 := by rw [List.getD_eq_getElem?_getD, a2]; rfl
  have k2 : ts.getD j (0, 0) = t2 := by rw [List.getD_eq_getElem?_getD, f2]; rfl
  have r1 := hb t1 (List.mem_of_getElem? a2)
  have r2 := hb t2 (List.mem_of_getElem? f2)
  have hl : ltc (fun i => code (ts.getD i (0, 0))) i j = decide (8 * t1.1 + t1.2 < 8 * t2.1 + t2.2) := by
    show decide (code (ts.getD i (0, 0)) < code (ts.getD j (0, 0))) = _
    rw [k1, k2]
    rfl
  rw [hl] at h
  unfold kas_ask
  rw [g1, g2]
  refine kat_lt c1 e1 c2 e2 ?_
  show KatLex prog w A true _ C [(Value.int t1.1 u1, Value.int t2.1 u2), (Value.int t1.2 w1, Value.int t2.2 w2)] 0 s
  refine kat_cons (wpAny_eqBool_int ?_)
  by_cases q1 : t1.1 = t2.1
  · rw [show (t1.1 == t2.1) = true by simpa using q1]
    refine kat_yes (kat_cons (wpAny_eqBool_int ?_))
    by_cases q2 : t1.2 = t2.2
    · rw [show (t1.2 == t2.2) = true by simpa using q2]
      refine kat_yes (kat_nil ?_)
      rw [show decide (8 * t1.1 + t1.2 < 8 * t2.1 + t2.2) = false by rw [q1, q2]; simp] at h
      exact h
    · rw [show (t1.2 == t2.2) = false by simpa using q2]
      refine kat_no ?_
      show wpAny (model prog w) A (oneLt' false _ _) C _ s
      refine kat_one _ _ (lt_int ?_)
      show C (decide (t1.2 < t2.2)) s
      rw [show decide (8 * t1.1 + t1.2 < 8 * t2.1 + t2.2) = decide (t1.2 < t2.2) by rw [q1]; exact decide_eq_decide.mpr (by omega)] at h
      exact h
  · rw [show (t1.1 == t2.1) = false by simpa using q1]
    refine kat_no ?_
    show wpAny (model prog w) A (oneLt' true _ _) C _ s
    refine oneLt_int ?_
    rw [show decide (8 * t1.1 + t1.2 < 8 * t2.1 + t2.2) = decide (t1.1 < t2.1) by exact decide_eq_decide.mpr (by omega)] at h
    exact h

theorem tups_keep {h h' : Heap} {vs : List Value} {ts : List (Int × Int)} (ht : TupsAre h vs ts) (k : ∀ b o, o.cls = .type "tuple" → h.get? b = some o → h'.get? b = some o) : TupsAre h' vs ts :=
  L2.Paired.mapP ht fun v t ⟨b, o, n, u, w, e, g, c, d⟩ => ⟨b, o, n, u, w, e, k b o c g, c, d⟩

theorem list_sort_tup {a : Addr} {vs : List Value} {ts : List (Int × Int)} {n : Nat} {P : PySem.Fin → Shared → Prop} (ho : s.heap.get? a = some (seqObj "list" vs.toArray n)) (ht : TupsAre s.heap vs ts) (hb : ∀ t ∈ ts, 0 ≤ t.2 ∧ t.2 < 8) (h64 : vs.length < 64)
    (h : ∀ p : List Nat, p.Perm (List.range vs.length) → (p.map fun i => code (ts.getD i (0, 0))).Pairwise (· ≤ ·) → P (.done (.ret .none)) { s with heap := sortedHeap s.heap a vs (p.map fun i => vs.getD i Value.none).toArray }) :
    wpAny (model prog w) A (Builtin.«list.sort» ⟨[.ref a], []⟩) P E s := by
  rw [list_sort_plain]
  have ha : a < s.heap.objs.size := Heap.lt_size ho
  have hs16 : sizeLine = 16777216 := sizeLine_eq
  refine wpAny_bind (listItems_at ho rfl ?_)
  refine wpAny_bind (listUpdate_at ho rfl ?_ (by rw [List.size_toArray]; omega) (Nat.zero_le _))
  obtain ⟨e1, ho1⟩ : ∃ e1, (s.heap.update a (Obj.mapSeq fun _ => #[])).get? a = some (seqObj "list" #[] e1) := ⟨_, get?_update_seq ho (fun _ => #[])⟩
  refine wpAny_bind (seqEpoch_at ho1 rfl ?_)
  refine wpAny_bind (wpAny_newTuple ?_ (by show vs.length ≤ _; omega))
  refine wpAny_bind (wpAny_newList ?_ (Nat.zero_le _))
  refine wpAny_holding ?_
  have ho6 : (((s.heap.update a (Obj.mapSeq fun _ => #[])).push (seqObj "tuple" vs.toArray 0)).push (seqObj "list" #[] 0)).get? a = some (seqObj "list" #[] e1) := Heap.get?_push_of_some _ (Heap.get?_push_of_some _ ho1)
  show wpAny (model prog w) A _ P E { s with heap := ((s.heap.update a (Obj.mapSeq fun _ => #[])).push (seqObj "tuple" vs.toArray 0)).push (seqObj "list" #[] 0) }
  dsimp only
  have ht6 : TupsAre (((s.heap.update a (Obj.mapSeq fun _ => #[])).push (seqObj "tuple" vs.toArray 0)).push (seqObj "list" #[] 0)) vs ts := tups_keep ht fun b o c e => by
    refine Heap.get?_push_of_some _ (Heap.get?_push_of_some _ ?_)
    refine (Heap.get?_update_other _ _ ?_).trans e
    intro z
    subst z
    rw [ho] at e
    cases e
    have c' : Value.type "list" = Value.type "tuple" := c
    injection c' with c''
    exact absurd c'' (by decide)
  have hsz : vs.toArray.size = vs.length := by simp
  by_cases h2 : vs.toArray.size < 2
  · rw [if_pos h2, if_pos h2]
    refine wpAny_bind (wpAny_pure ?_)
    rw [StateT.run_pure]
    refine wpAny_bind (wpAny_pure ?_)
    dsimp only
    refine wpAny_bind (seqEpoch_at ho6 rfl ?_)
    refine wpAny_bind (listUpdate_at ho6 rfl ?_ (hsz2 := by rw [Array.size_map]; show (pairsOf vs).size ≤ _; rw [pairsOf_size, sizeLine_eq]; omega))
    simp only [bne_self_eq_false, Bool.false_eq_true, if_false]
    have h2n : vs.length < 2 := by rw [← hsz]; exact h2
    have q := h (List.range vs.length) (List.Perm.refl _) (by
      have z : vs.length = 0 ∨ vs.length = 1 := by omega
      rcases z with z | z <;> rw [z] <;> simp)
    have e : (List.map (fun i => vs.getD i Value.none) (List.range vs.length)).toArray = (vs.toArray.zip vs.toArray).map (·.2) := by
      clear h ht ho ho1 ho6 ht6 q
      rcases vs with _ | ⟨v, _ | ⟨v2, r⟩⟩
      · simp
      · simp
      · rw [List.length_cons, List.length_cons] at h2n; omega
    rw [e] at q
    exact wpAny_pure q
  · rw [if_neg h2, if_neg h2]
    have h2' : 2 ≤ vs.length := by omega
    obtain ⟨fs, kt, kl, ka⟩ := tups_kat ht6
    refine wpAny_bind (kat_kind (T := .type "int") kt (by omega) (fun v hv => ?_) rfl ?_)
    · obtain ⟨i, t, rfl⟩ := ka v hv
      exact Looks.now
    have ek : tuples' (Value.type "int" != Value.type "tuple") = tuples' true := rfl
    rw [ek]
    refine wpAny_bind (wpAny_mono (kat_run (ks := vs) (Q := fun st' s' => s' = { s with heap := ((s.heap.update a (Obj.mapSeq fun _ => #[])).push (seqObj "tuple" vs.toArray 0)).push (seqObj "list" #[] 0) } ∧ ∃ p : Array Nat, p = kgo (ltc fun i => code (ts.getD i (0, 0))) (kas_sort vs.length) ∧ arrOf st' = p.map (kas_item (vs.toArray.zip vs.toArray)) ∧ failedOf st' = none)
      (G := fun p s' => s' = { s with heap := ((s.heap.update a (Obj.mapSeq fun _ => #[])).push (seqObj "tuple" vs.toArray 0)).push (seqObj "list" #[] 0) } ∧ p = kgo (ltc fun i => code (ts.getD i (0, 0))) (kas_sort vs.length))
      rfl h2' h64 (fun p st' s' b1 b2 b3 b4 => ⟨b4.1, p, b4.2, b2, b3⟩) (kas_pure (fun i j C hi hj hC => ask_tup ht6 hb hi hj hC) _ (ksort_all (by omega)) ⟨rfl, rfl⟩)) ?_ fun _ _ e => e)
    rintro ⟨⟨⟩, st'⟩ s' ⟨rfl, p, hp, har, hf⟩
    obtain ⟨pp, ps⟩ := ksort_ok (c := fun i => code (ts.getD i (0, 0))) vs.length (by omega)
    rw [← hp] at pp ps
    dsimp only
    refine wpAny_bind (seqEpoch_at ho6 rfl ?_)
    have es := kat_snds (ks := vs) (vs := vs) rfl har
    have pl : p.size = vs.length := by rw [pp.size_eq]; simp
    refine wpAny_bind (listUpdate_at ho6 rfl ?_ (hsz2 := by
      show ((arrOf st').map (·.2)).size ≤ _
      rw [es, List.size_toArray, List.length_map, Array.length_toList, pl]; omega))
    rw [hf]
    simp only [bne_self_eq_false, Bool.false_eq_true, if_false]
    have q := h p.toList (by simpa using Array.perm_iff_toList_perm.mp pp) (by
      rw [List.pairwise_map, List.pairwise_iff_getElem]
      intro i j hi hj hij
      have b := ps i j (Nat.le_of_lt hij) (by rw [← pl]; simpa using hj)
      have hi' : i < p.size := by simpa using hi
      have hj' : j < p.size := by simpa using hj
      have e1 : kk (fun i => code (ts.getD i (0, 0))) p i = code (ts.getD p.toList[i] (0, 0)) := by unfold kk; simp [hi']
      have e2 : kk (fun i => code (ts.getD i (0, 0))) p j = code (ts.getD p.toList[j] (0, 0)) := by unfold kk; simp [hj']
      rw [e1, e2] at b
      exact b)
    rw [← es] at q
    exact wpAny_pure q
theorem sorted_tup {l : Addr} {vs : List Value} {ts : List (Int × Int)} {Q : Value → Shared → Prop} (hl : s.heap.IsList l vs.toArray) (ht : TupsAre s.heap vs ts) (hb : ∀ t ∈ ts, 0 ≤ t.2 ∧ t.2 < 8) (h64 : vs.length < 64)
    (h : ∀ p : List Nat, p.Perm (List.range vs.length) → (p.map fun i => code (ts.getD i (0, 0))).Pairwise (· ≤ ·) → Q (.ref (s.heap.objs.size + 1)) { s with heap := sortedAll s.heap vs (p.map fun i => vs.getD i Value.none).toArray }) :
    wpAny (model prog w) A (call (.builtin "sorted") [.ref l]) Q E s := by
  have hs16 : sizeLine = 16777216 := sizeLine_eq
  refine Calls.call_function_entry kind_sorted plain_sorted entry_sorted (args_sorted1 _) ?_
  unfold Builtin.«sorted»
  refine wpAny_bind (m := checkCount "sorted" 1 1 _) (wpAny_pure ?_)
  refine wpAny_bind (collect_list hl ?_ (by omega))
  refine wpAny_bind (wpAny_newList ?_ (by omega))
  have hsz : ((s.heap.push (seqObj "list" #[] 0)).update s.heap.objs.size (Obj.mapSeq (· ++ vs.toArray))).objs.size = s.heap.objs.size + 1 := by
    rw [Heap.size_update, size_push']
  have hoL : (((s.heap.push (seqObj "list" #[] 0)).update s.heap.objs.size (Obj.mapSeq (· ++ vs.toArray))).push (seqObj "list" vs.toArray 0)).get? (s.heap.objs.size + 1) = some (seqObj "list" vs.toArray 0) := by
    rw [← hsz]; exact Heap.get?_push_size _ rfl
  show wpAny _ _ _ _ _ { s with heap := ((s.heap.push (seqObj "list" #[] 0)).update s.heap.objs.size (Obj.mapSeq (· ++ vs.toArray))).push (seqObj "list" vs.toArray 0) }
  rw [hsz]
  have ht' : TupsAre (((s.heap.push (seqObj "list" #[] 0)).update s.heap.objs.size (Obj.mapSeq (· ++ vs.toArray))).push (seqObj "list" vs.toArray 0)) vs ts := tups_keep ht fun b o _ e =>
    Heap.get?_push_of_some _ ((Heap.get?_update_other _ _ (Ne.symm (Nat.ne_of_lt (Heap.lt_size e)))).trans (Heap.get?_push_of_some _ e))
  refine wpAny_bind (wpAny_holding (wpAny_call_entry slot_list_sort ⟨_, hoL, rfl⟩ entry_list_sort (list_sort_tup hoL ht' hb h64 fun p a1 a2 => ⟨_, rfl, ?_⟩) (args_list_sort _)))
  exact wpAny_pure ⟨_, rfl, h p a1 a2⟩
end

def isPair (H : Hp) (v : V) (t : Int × Int) : Prop := ∃ r, v = .ref r ∧ H r = some (.tup [.int t.1, .int t.2])
def Pairs (H : Hp) (vs : List V) (T : List (Int × Int)) : Prop := Paired (isPair H) vs T
theorem Pairs.same {H H' : Hp} {vs : List V} {T : List (Int × Int)} (p : Pairs H vs T) (e : Same H H') : Pairs H' vs T := L2.Paired.mapP p fun v t ⟨r, a, b⟩ => ⟨r, a, e _ _ b⟩
theorem Pairs.length {H : Hp} {vs : List V} {T : List (Int × Int)} (p : Pairs H vs T) : vs.length = T.length := Paired.length p
theorem Pairs.get {H : Hp} {vs : List V} {T : List (Int × Int)} {i : Nat} {v : V} (p : Pairs H vs T) (h : vs[i]? = some v) : ∃ t, T[i]? = some t ∧ isPair H v t := by
  have hi : i < vs.length := by
    obtain ⟨q, _⟩ := List.getElem?_eq_some_iff.mp h
    exact q
  obtain ⟨a, b, e1, e2, r⟩ := paired_get p hi
  rw [h] at e1
  cases e1
  exact ⟨b, e2, r⟩
theorem Pairs.append {H : Hp} {vs ws : List V} {T U : List (Int × Int)} (p : Pairs H vs T) (q : Pairs H ws U) : Pairs H (vs ++ ws) (T ++ U) := by
  induction p with
  | nil => exact q
  | cons r _ ih => exact .cons r ih
theorem Pairs.one {H : Hp} {v : V} {t : Int × Int} (p : isPair H v t) : Pairs H [v] [t] := .cons p .nil
theorem Pairs.pick {H : Hp} {vs : List V} {T : List (Int × Int)} (p : Pairs H vs T) : ∀ (is : List Nat), (∀ i ∈ is, i < vs.length) → Pairs H (is.map fun i => vs.getD i .non) (is.map fun i => T.getD i (0, 0))
  | [], _ => .nil
  | i :: r, h => by
    obtain ⟨a, b, e1, e2, q⟩ := paired_get p (h i List.mem_cons_self)
    refine .cons ?_ (Pairs.pick p r fun j hj => h j (List.mem_cons_of_mem _ hj))
    show isPair H (vs.getD i .non) (T.getD i (0, 0))
    rw [List.getD_eq_getElem?_getD, List.getD_eq_getElem?_getD, e1, e2]
    exact q
theorem Pairs.tups {P : Program} {w : World} {H : Hp} {h : Heap} (ok : HOk P w H h) : ∀ {vs : List V} {T : List (Int × Int)} {us : List Value}, Pairs H vs T → Vals vs us → TupsAre h us T
  | _, _, _, .nil, .nil => .nil
  | _, _, _, .cons (b := t) r rs, .cons ru rus => by
    obtain ⟨a, rfl, e⟩ := r
    cases ru
    obtain ⟨_, its, rv, ob, e1, e2, n, e3⟩ := (show ObjOk P w H h a (.tup [.int t.1, .int t.2]) from ok a _ e)
    obtain ⟨u1, u2, rfl, ⟨x, rfl⟩, ⟨y, rfl⟩⟩ := vals2 rv
    exact .cons ⟨a, ob, n, x, y, rfl, e1, e2, e3⟩ (Pairs.tups ok rs rus)
theorem vals_pick {xs : List V} {us : List Value} (r : Vals xs us) : ∀ (is : List Nat), (∀ i ∈ is, i < xs.length) → Vals (is.map fun i => xs.getD i .non) (is.map fun i => us.getD i Value.none)
  | [], _ => .nil
  | i :: t, h => by
    obtain ⟨a, b, e1, e2, q⟩ := paired_get r (h i List.mem_cons_self)
    refine .cons ?_ (vals_pick r t fun j hj => h j (List.mem_cons_of_mem _ hj))
    show RelV (xs.getD i .non) (us.getD i Value.none)
    rw [List.getD_eq_getElem?_getD, List.getD_eq_getElem?_getD, e1, e2]
    exact q
/-- sorted of a list of pairs -/
theorem call_sorted {X : Cx} : CallR X (.builtin "sorted") (fun xs H Q => ∃ p ys T, xs = [.ref p] ∧ SqL X.K H p ys ∧ Pairs H ys T ∧ (∀ t ∈ T, 0 ≤ t.2 ∧ t.2 < 8) ∧ ys.length < 64 ∧
    ∀ (is : List Nat) (l : Addr), is.Perm (List.range ys.length) → (is.map fun i => code (T.getD i (0, 0))).Pairwise (· ≤ ·) → H l = none → Q (.ref l) (upd H l (.lst (is.map fun i => ys.getD i .non)))) := by
  intro pins s σ H xs us Q I r h
  obtain ⟨p, ys, T, rfl, hq, hp, hb, hz, q⟩ := h
  obtain ⟨u, rfl, rx⟩ := vals1 r
  cases rx
  obtain ⟨its, r', pl, hz'⟩ := I.list hq
  have hl := r'.length
  have hs16 : sizeLine = 16777216 := sizeLine_eq
  refine sorted_tup pl.isList (hp.tups I.hok r') hb (by omega) fun is a1 a2 => ?_
  obtain ⟨e, he⟩ := sortedAll_at s.heap its (is.map fun i => its.getD i Value.none).toArray
  rw [← hl] at a1
  have hm : ∀ i ∈ is, i < ys.length := fun i hi => List.mem_range.mp (a1.mem_iff.mp hi)
  have hn : H (s.heap.objs.size + 1) = none := I.hok.fresh (Nat.le_succ _)
  refine ⟨.ref (s.heap.objs.size + 1), _, I.laid (t' := s.toks) (fun b o e => sortedAll_old e) (Nat.le_succ _) ?_, rfl, q is _ a1 a2 hn⟩
  refine ⟨?_, _, e, vals_pick r' is hm, he⟩
  rw [List.length_map, a1.length_eq, List.length_range]
  omega
end Oh

namespace Oh

theorem ins_perm {α : Type} (xs : List α) (k : Nat) (y : α) : (xs.take k ++ y :: xs.drop k).Perm (y :: xs) := by
  have h := List.perm_middle (a := y) (l₁ := xs.take k) (l₂ := xs.drop k)
  rw [List.take_append_drop] at h
  exact h

/-- the houses 0, 1, .. -/
def hs (n : Nat) : List Int := (List.range n).map fun i : Nat => (i : Int)
theorem hs_succ (n : Nat) : hs (n + 1) = hs n ++ [(n : Int)] := by unfold hs; rw [List.range_succ, List.map_append]; rfl
theorem mem_hs {n : Nat} {x : Int} : x ∈ hs n ↔ 0 ≤ x ∧ x < n := by
  unfold hs
  rw [List.mem_map]
  constructor
  · rintro ⟨i, hi, rfl⟩
    have := List.mem_range.mp hi
    omega
  · rintro ⟨h0, h1⟩
    exact ⟨x.toNat, List.mem_range.mpr (by omega), by omega⟩
theorem hs_length (n : Nat) : (hs n).length = n := by unfold hs; simp
theorem hs_nodup (n : Nat) : (hs n).Nodup := by
  unfold hs
  rw [List.nodup_iff_pairwise_ne, List.pairwise_map]
  exact (List.nodup_iff_pairwise_ne.mp List.nodup_range).imp fun h e => h (by omega)

def inb (h : Int) (t : Int × Int) : Prop := 0 ≤ t.1 ∧ t.1 < h ∧ 0 ≤ t.2 ∧ t.2 < h ∧ t.1 ≠ t.2
def Conn (h : Int) (T : List (Int × Int)) : Prop := ∀ S : Int → Prop, (∃ x, 0 ≤ x ∧ x < h ∧ S x) → (∀ t ∈ T, S t.1 ↔ S t.2) → ∀ x, 0 ≤ x → x < h → S x
structure Good (h : Int) (T : List (Int × Int)) : Prop where
  len : T.length ≤ 16
  rng : ∀ t ∈ T, inb h t
  conn : Conn h T

theorem conn_tree {h : Int} {T : List (Int × Int)} (tree : ∀ k, 1 ≤ k → k < h → ∃ p, 0 ≤ p ∧ p < k ∧ (p, k) ∈ T) : Conn h T := by
  intro S ⟨x0, a0, a1, s0⟩ cl
  have down : ∀ (n : Nat) (x : Int), x.toNat = n → 0 ≤ x → x < h → S x → S 0 := by
    intro n
    induction n using Nat.strongRecOn with
    | ind n ih =>
      intro x hn h0 h1 hx
      by_cases e : x = 0
      · rw [← e]; exact hx
      · obtain ⟨p, p0, p1, hm⟩ := tree x (by omega) h1
        exact ih p.toNat (by omega) p rfl p0 (by omega) ((cl _ hm).mpr hx)
  have s00 : S 0 := down _ x0 rfl a0 a1 s0
  have up : ∀ (n : Nat) (x : Int), x.toNat = n → 0 ≤ x → x < h → S x := by
    intro n
    induction n using Nat.strongRecOn with
    | ind n ih =>
      intro x hn h0 h1
      by_cases e : x = 0
      · rw [e]; exact s00
      · obtain ⟨p, p0, p1, hm⟩ := tree x (by omega) h1
        exact (cl _ hm).mp (ih p.toNat (by omega) p rfl p0 (by omega))
  exact fun x h0 h1 => up _ x rfl h0 h1

theorem Conn.mono {h : Int} {T T' : List (Int × Int)} (c : Conn h T) (sub : ∀ t ∈ T, t ∈ T' ∨ (t.2, t.1) ∈ T') : Conn h T' := by
  intro S hx cl
  refine c S hx fun t ht => ?_
  rcases sub t ht with q | q
  · exact cl t q
  · exact (cl _ q).symm

def ren (o : List Int) (t : Int × Int) : Int × Int := (o.getD t.1.toNat 0, o.getD t.2.toNat 0)
section
variable {n : Nat} {o : List Int}
theorem perm_get (hp : o.Perm (hs n)) {x : Int} (h0 : 0 ≤ x) (h1 : x < n) : o[x.toNat]? = some (o.getD x.toNat 0) ∧ 0 ≤ o.getD x.toNat 0 ∧ o.getD x.toNat 0 < n := by
  have hl : o.length = n := by rw [hp.length_eq, hs_length]
  have hi : x.toNat < o.length := by omega
  have e : o.getD x.toNat 0 = o[x.toNat] := by simp [hi]
  rw [e]
  refine ⟨by simp [hi], ?_⟩
  exact mem_hs.mp (hp.mem_iff.mp (List.getElem_mem hi))
theorem perm_ne (hp : o.Perm (hs n)) {x y : Int} (h0 : 0 ≤ x) (h1 : x < n) (g0 : 0 ≤ y) (g1 : y < n) (hne : x ≠ y) : o.getD x.toNat 0 ≠ o.getD y.toNat 0 := by
  have hl : o.length = n := by rw [hp.length_eq, hs_length]
  have nd : o.Nodup := hp.nodup_iff.mpr (hs_nodup n)
  have hi : x.toNat < o.length := by omega
  have hj : y.toNat < o.length := by omega
  have e1 : o.getD x.toNat 0 = o[x.toNat] := by simp [hi]
  have e2 : o.getD y.toNat 0 = o[y.toNat] := by simp [hj]
  rw [e1, e2]
  intro e
  have pw := List.pairwise_iff_getElem.mp nd
  rcases Nat.lt_trichotomy x.toNat y.toNat with q | q | q
  · exact pw _ _ hi hj q e
  · omega
  · exact pw _ _ hj hi q e.symm
theorem perm_onto (hp : o.Perm (hs n)) {x : Int} (h0 : 0 ≤ x) (h1 : x < n) : ∃ j : Int, 0 ≤ j ∧ j < n ∧ o.getD j.toNat 0 = x := by
  have hl : o.length = n := by rw [hp.length_eq, hs_length]
  have hm : x ∈ o := hp.mem_iff.mpr (mem_hs.mpr ⟨h0, h1⟩)
  obtain ⟨i, hi, e⟩ := List.getElem_of_mem hm
  refine ⟨(i : Int), by omega, by omega, ?_⟩
  simp [hi, e]
theorem good_ren {T : List (Int × Int)} (hp : o.Perm (hs n)) (g : Good n T) : Good n (T.map (ren o)) where
  len := by rw [List.length_map]; exact g.len
  rng := fun t ht => by
    obtain ⟨u, hu, rfl⟩ := List.mem_map.mp ht
    obtain ⟨a, b, c, d, e⟩ := g.rng u hu
    have q1 := perm_get hp a b
    have q2 := perm_get hp c d
    exact ⟨q1.2.1, q1.2.2, q2.2.1, q2.2.2, perm_ne hp a b c d e⟩
  conn := by
    intro S ⟨x0, a0, a1, s0⟩ cl x h0 h1
    obtain ⟨j0, b0, b1, e0⟩ := perm_onto hp a0 a1
    have all := g.conn (fun j => S (o.getD j.toNat 0)) ⟨j0, b0, b1, by show S _; rw [e0]; exact s0⟩ fun t ht => cl (ren o t) (List.mem_map.mpr ⟨t, ht, rfl⟩)
    obtain ⟨j, c0, c1, e⟩ := perm_onto hp h0 h1
    rw [← e]
    exact all j c0 c1
end

/-- (the lesser, the greater) -/
def nrm (t : Int × Int) : Int × Int := (if t.2 < t.1 then t.2 else t.1, if t.2 > t.1 then t.2 else t.1)
theorem nrm_or (t : Int × Int) : (nrm t = t ∧ t.1 ≤ t.2) ∨ (nrm t = (t.2, t.1) ∧ t.2 < t.1) := by
  unfold nrm
  by_cases h : t.2 < t.1
  · right; rw [if_pos h, if_neg (by omega)]; exact ⟨rfl, h⟩
  · left
    rw [if_neg h]
    by_cases h' : t.2 > t.1
    · rw [if_pos h']; exact ⟨rfl, by omega⟩
    · rw [if_neg h']
      have e : t.1 = t.2 := by omega
      refine ⟨?_, by omega⟩
      rw [e]
      exact Prod.ext e.symm rfl
theorem inb_nrm {h : Int} {t : Int × Int} (g : inb h t) : inb h (nrm t) := by
  obtain ⟨a, b, c, d, e⟩ := g
  rcases nrm_or t with ⟨q, _⟩ | ⟨q, _⟩ <;> rw [q]
  · exact ⟨a, b, c, d, e⟩
  · exact ⟨c, d, a, b, fun z => e z.symm⟩
theorem good_sub {h : Int} {T T' : List (Int × Int)} (g : Good h T) (hl : T'.length = T.length) (s1 : ∀ t ∈ T', t ∈ T ∨ (t.2, t.1) ∈ T) (s2 : ∀ t ∈ T, t ∈ T' ∨ (t.2, t.1) ∈ T') : Good h T' where
  len := by rw [hl]; exact g.len
  rng := fun t ht => by
    rcases s1 t ht with q | q
    · exact g.rng t q
    · obtain ⟨a, b, c, d, e⟩ := g.rng _ q
      exact ⟨c, d, a, b, fun z => e z.symm⟩
  conn := g.conn.mono s2
theorem good_nrm {h : Int} {T T' : List (Int × Int)} (g : Good h T) (hp : T'.Perm (T.map nrm)) : Good h T' := by
  refine good_sub g (by rw [hp.length_eq, List.length_map]) (fun t ht => ?_) fun t ht => ?_
  · obtain ⟨u, hu, rfl⟩ := List.mem_map.mp (hp.mem_iff.mp ht)
    rcases nrm_or u with ⟨q, _⟩ | ⟨q, _⟩ <;> rw [q]
    · exact .inl hu
    · exact .inr hu
  · have hm : nrm t ∈ T' := hp.mem_iff.mpr (List.mem_map.mpr ⟨t, ht, rfl⟩)
    rcases nrm_or t with ⟨q, _⟩ | ⟨q, _⟩ <;> rw [q] at hm
    · exact .inl hm
    · exact .inr hm

theorem nodup_le : ∀ {l m : List Int}, l.Nodup → (∀ x ∈ l, x ∈ m) → l.length ≤ m.length
  | [], _, _, _ => Nat.zero_le _
  | a :: l, m, nd, sub => by
    obtain ⟨na, nd'⟩ := List.nodup_cons.mp nd
    have ha : a ∈ m := sub a List.mem_cons_self
    have := nodup_le (l := l) (m := m.erase a) nd' fun x hx => (List.mem_erase_of_ne (fun (e : x = a) => na (e ▸ hx))).mpr (sub x (List.mem_cons_of_mem _ hx))
    rw [List.length_erase_of_mem ha] at this
    have hp := List.length_pos_of_mem ha
    rw [List.length_cons]
    omega
/-- what is come to, is all -/
theorem all_met {n : Nat} {T : List (Int × Int)} (g : Good n T) {met : List Int} (h0 : (0 : Int) ∈ met) (hn : 1 ≤ n) (cl : ∀ t ∈ T, (t.1 ∈ met ↔ t.2 ∈ met)) : n ≤ met.length := by
  have all : ∀ x, 0 ≤ x → x < (n : Int) → x ∈ met := g.conn (fun x => x ∈ met) ⟨0, Int.le_refl 0, by omega, h0⟩ cl
  have := nodup_le (hs_nodup n) (m := met) fun x hx => by
    have := mem_hs.mp hx
    exact all x this.1 this.2
  rwa [hs_length] at this

/-! ### the drawn ties -/
theorem other_ne {h one q : Int} (h0 : 0 ≤ one) (h1 : one < h) (q0 : 0 ≤ q) (q1 : q < h - 1) : inb h (one, (one + 1 + q) % h) := by
  have a : 0 ≤ (one + 1 + q) % h := Int.emod_nonneg _ (by omega)
  have b : (one + 1 + q) % h < h := Int.emod_lt_of_pos _ (by omega)
  refine ⟨h0, h1, a, b, ?_⟩
  show one ≠ (one + 1 + q) % h
  by_cases c : one + 1 + q < h
  · rw [Int.emod_eq_of_lt (by omega) c]; omega
  · have e : one + 1 + q = (one + 1 + q - h) + h := by omega
    rw [e, Int.add_emod_right, Int.emod_eq_of_lt (by omega) (by omega)]
    omega

/-! ### lendings -/
theorem ext_getD {a b : List Int} (hl : a.length = b.length) (h : ∀ i, a.getD i 0 = b.getD i 0) : a = b := by
  apply List.ext_getElem hl
  intro i h1 h2
  have := h i
  simpa [h1, h2] using this

theorem sum_perm : ∀ {a b : List Int}, a.Perm b → a.sum = b.sum := by
  intro a b h
  induction h with
  | nil => rfl
  | cons x _ ih => simp [ih]
  | swap x y l => simp only [List.sum_cons]; omega
  | trans _ _ h1 h2 => rw [h1, h2]
end Oh

namespace Oh
open PySem PySem.Spec PyProof.Rows L2

theorem iteD {c A B : Prop} [Decidable c] (hc : ¬ c) (h : B) : if decide c = true then A else B := by rw [decide_eq_false hc]; exact iteF h
theorem iteDT {c A B : Prop} [Decidable c] (hc : c) (h : A) : if decide c = true then A else B := by rw [decide_eq_true hc]; exact iteT h
theorem iteB {b : Bool} {A B : Prop} (hb : b = false) (h : B) : if b = true then A else B := by rw [hb]; exact iteF h
theorem iteBT {b : Bool} {A B : Prop} (hb : b = true) (h : A) : if b = true then A else B := by rw [hb]; exact iteT h
theorem ite2B {b : Bool} {A B : Prop} (h1 : b = true → A) (h2 : b = false → B) : if b = true then A else B := by
  cases b
  · exact iteF (h2 rfl)
  · exact iteT (h1 rfl)
theorem same_new {H : Hp} {p : Addr} (h : H p = none) (o : HO) : Same H (upd H p o) := fun b u q => by rw [upd_ne (ne_of_none q h)]; exact q
theorem same_upd {H H' : Hp} {p : Addr} (h : H p = none) (e : Same H H') (o : HO) : Same H (upd H' p o) := fun b u q => by rw [upd_ne (ne_of_none q h)]; exact e _ _ q
theorem pairs_upd {H : Hp} {vs ys : List V} {T : List (Int × Int)} {p : Addr} (h : Pairs H vs T) (hp : H p = some (.lst ys)) (o : HO) : Pairs (upd H p o) vs T :=
  L2.Paired.mapP h fun v t ⟨r, a, b⟩ => ⟨r, a, by rw [upd_ne (ne_of b hp (by intro z; cases z))]; exact b⟩
theorem SqT_same {K : PySem.W.Frag} {H H' : Hp} {a : Addr} {xs : List V} (e : Same H H') (h : SqT K H a xs) : SqT K H' a xs := by
  rcases h with (h | ⟨o, h⟩) | h
  · exact .inl (.inl (e _ _ h))
  · exact .inl (.inr ⟨o, e _ _ h⟩)
  · exact .inr h
theorem atI_ints {ns : List Int} {k : Int} (h0 : 0 ≤ k) (h1 : k < (ns.length : Int)) : atI (ns.map V.int) k = some (.int (ns.getD k.toNat 0)) := by
  have hk : k.toNat < ns.length := by omega
  have q : atI (ns.map V.int) ((k.toNat : Nat) : Int) = some (.int (ns.getD k.toNat 0)) := atI_nat (by rw [List.getElem?_map]; simp [hk])
  rwa [show ((k.toNat : Nat) : Int) = k by omega] at q
theorem ixN_nat {n : Nat} {k : Int} (h0 : 0 ≤ k) (h1 : k < (n : Int)) : ixN n k = some k.toNat := by unfold ixN; rw [if_pos h0, if_pos h1]
theorem inV_int {x : Int} : ∀ {ms : List Int}, inV (.int x) (ms.map V.int) = decide (x ∈ ms)
  | [] => by simp [inV]
  | m :: ms => by
    have ih := inV_int (x := x) (ms := ms)
    unfold inV at ih ⊢
    rw [List.map_cons, List.any_cons, ih]
    show (m == x || decide (x ∈ ms)) = decide (x ∈ m :: ms)
    by_cases e : m = x
    · subst e; simp
    · have : (m == x) = false := by simpa using e
      rw [this, Bool.false_or]
      simp [List.mem_cons, Ne.symm e]
theorem flat_ints (ms : List Int) : (ms.map V.int).all flatV = true := by
  rw [List.all_map, List.all_eq_true]
  intro _ _; rfl
theorem cut_ints (ns : List Int) (lo hi : Option Int) : cutV (ns.map V.int) lo hi = ((ns.drop (HT.sIx ns.length 0 lo)).take (HT.sIx ns.length ns.length hi - HT.sIx ns.length 0 lo)).map V.int := by
  unfold cutV
  rw [List.length_map, List.map_take, List.map_drop]
theorem pick_perm {α : Type} (d : α) {L : List α} {is : List Nat} (h : is.Perm (List.range L.length)) : (is.map fun i => L.getD i d).Perm L := by
  have e : (List.range L.length).map (fun i => L.getD i d) = L := by
    apply List.ext_getElem (by simp)
    intro i h1 h2
    simp [h2]
  have := h.map fun i => L.getD i d
  rwa [e] at this
theorem take_one {α : Type} {l : List α} {i : Nat} {x : α} (h : l[i]? = some x) : l.take (i + 1) = l.take i ++ [x] := by rw [List.take_add_one, h]; rfl
theorem mapI_get {ns : List Int} {i : Nat} {v : V} (h : (ns.map V.int)[i]? = some v) : ∃ x, ns[i]? = some x ∧ v = .int x := by
  rw [List.getElem?_map] at h
  cases q : ns[i]? with
  | none => rw [q] at h; cases h
  | some x => rw [q] at h; exact ⟨x, rfl, (Option.some.inj h).symm⟩
section
variable {X : Cx}
end
theorem kit_ll (K : PySem.W.Frag) : PySem.W.kitOne K (.type "list") (.type "list") = some true := by kernel_rfl
theorem kit_ii (K : PySem.W.Frag) : PySem.W.kitOne K (.type "int") (.type "int") = some true := by kernel_rfl
theorem kit_ib (K : PySem.W.Frag) : PySem.W.kitOne K (.type "int") (.type "bool") = some false := by kernel_rfl

/-! ### the law's own call: the script's ints have a size -/
open PySem.W in
theorem bits_of {d : WData} : ∀ {ns : List Int}, WData.weightAll (ns.map WData.int) ≤ 2 ^ 20 → ∀ n ∈ ns, Builtin.Int.intBits n ≤ 2 ^ 20
  | [], _, _, h => nomatch h
  | m :: ns, hw, n, h => by
    have e : WData.weightAll ((m :: ns).map WData.int) = (if m == 0 then 0 else m.natAbs.log2 + 1) + 1 + WData.weightAll (ns.map WData.int) := by
      rw [List.map_cons]; simp [WData.weightAll, WData.weight]
    rw [e] at hw
    rcases List.mem_cons.mp h with rfl | h
    · have : Builtin.Int.intBits n = if n == 0 then 0 else n.natAbs.log2 + 1 := by
        unfold Builtin.Int.intBits
        by_cases hz : n = 0
        · subst hz; simp
        · have h2 : ¬ (n == 0) = true := by simpa using hz
          rw [if_neg h2]
      rw [this]; omega
    · exact bits_of (d := d) (by omega) n h
def Small (ns : List Int) : Prop := ∀ n ∈ ns, Builtin.Int.intBits n ≤ 2 ^ 20
open PySem.W PySem.Calls Att in
theorem attach_callB {l : OpenLaw} {n : Nat} {q : Program} {loose : List Str} {XP : (Str → Option Value) → Heap → Prop} {YP : World → Heap → Prop} {d : DefRec}
    (hn : l.most = some n) (hdf : d.params.defaults = [])
    (call : ∀ (w : World) (s₀ s₁ : Shared) (mg mb : Str → Option Value) (fa : Addr) (o : Obj) (pm cd doc : Value) (a : Addr) (vs : List Value) (ns : List Int),
      Ground q loose [] XP w s₀ mg mb s₁.heap → YP w s₁.heap →
      s₁.heap.get? fa = some o → o.data = .func (docDef d.name d.params d.body d.scope pm cd doc) → s₁.heap.CodeRec cd d.name → mg d.name = some (.ref fa) →
      s₁.heap.get? a = some { cls := .type "list", data := .seq vs.toArray } → IntsAre vs ns → ns.length ≤ n → Small ns → s₁.gens = #[] →
      codeAny (model l.prog w) callerA (.call (.ref fa) ⟨[.ref a], []⟩) (fun r s' => r = .ok (.ret (.bool true)) ∧ OldK s₁.heap s'.heap ∧ s'.os = s₁.os ∧ AllBare s'.gens) s₁) :
    WalkO q loose XP YP l.row.toRowW d [] (fun f vs => PySem.call f vs) := by
  intro w s₀ s₁ mg mb G Y fa o pm cd doc dV kV ho hd hcd hD hmg hg args vals as hpre hlay hrd hwl hlo
  obtain rfl : dV = .none := Dflts.none hD hdf
  obtain rfl : kV = .none := Dflts.noKw hD
  obtain ⟨a, vs, ns, rfl, rfl, hobj, hints, hlen⟩ := script_of hn hpre hwl
  have hsm : Small ns := by
    have h1 : WData.layable (WData.list (ns.map WData.int)) = true := by
      have := hlay
      unfold WData.layableAll at this
      exact List.all_eq_true.mp this _ List.mem_cons_self
    unfold WData.layable at h1
    simp only [Bool.and_eq_true, decide_eq_true_eq] at h1
    exact bits_of (d := .none) (by simpa [WData.weight] using h1.2)
  refine enter_call (codeAny_mono (call w s₀ s₁ mg mb fa o pm cd doc a vs ns G Y ho (fd_plain hd) hcd hmg hobj hints hlen hsm hg) fun r s' hq => ?_)
  obtain ⟨rfl, h2, h3, h4⟩ := hq
  exact ⟨.inl ⟨.bool true, .bool true, [], rfl, fun _ => rfl, .bool true, post_true l _, fun _ => ⟨List.Pairwise.nil, fun _ hm => (nomatch hm)⟩⟩, h2, h3, h4⟩
/-- what law(script) promises: for a list of at most 63 ints the answer is True -/
def spLaw (K : PySem.W.Frag) : Sp := fun vs H Q _ => ∃ (a : Addr) (ns : List Int), vs = [.ref a] ∧ SqL K H a (ns.map V.int) ∧ ns.length ≤ 63 ∧ Small ns ∧ ∀ H', Q (.bl true) H'
theorem walkB {l : PySem.W.OpenLaw} {k : Nat} {q : Program} {loose : List Str} {XP : (Str → Option Value) → Heap → Prop} {YP : World → Heap → Prop} {d : DefRec} {K : Params → PySem.W.Frag} {CX : World → CXT}
    (hn : l.most = some 63) (hdf : d.params.defaults = []) (hr : Room k callerA)
    (hY : ∀ (w : World) (h : Heap), YP w h → (K w.params).In h)
    (F : ∀ (w : World) (mg : Str → Option Value) (fa : Addr) (h : Heap), (K w.params).In h → h.Ns mainGlobals mg → mg d.name = some (.ref fa) →
      ∃ fd : FuncData, (∀ (s : Shared) (u : Value), BindsTo s fd ⟨[u], []⟩ [("script", u)]) ∧
        ∀ base : Heap, (K w.params).In base → base.Ns mainGlobals mg → FnOk l.prog w (K w.params) mg base (CX w) k fa fd ["script"] (spLaw (K w.params)))
    (hCX : ∀ (w : World) (H : Hp) (s : Shared) (e : Value) (s' : Shared), CX w [] H s (fun _ _ _ => False) e s' → False) :
    PySem.W.WalkO q loose XP YP l.row.toRowW d [] (fun f vs => PySem.call f vs) := by
  refine attach_callB hn hdf fun w s₀ s₁ mg mb fa o pm cd doc a vs ns G Y ho hd hcd hmg hobj hints hlen hsm hg => ?_
  have KX := hY w _ Y
  obtain ⟨fd, hb, hF⟩ := F w mg fa _ KX G.T.g hmg
  exact law_call KX G.T.g G.T.b G.T.builtins G.T.nolimit hg hobj hints (Nat.le_trans hlen (by decide)) hr hF hb (fun H hO hS => ⟨a, ns, rfl, hS, hlen, hsm, fun _ => rfl⟩) fun H e s' => hCX w H s₁ e s'
end Oh

namespace Oh
open PySem PySem.Spec PyProof.Rows L2

/-! ### == of lists and tuples that hold the same -/
def okV : V → Bool
  | .non => true | .bl _ => true | .int _ => true | .str _ => true | .ref _ => true | _ => false
def EqS (K : PySem.W.Frag) (H : Hp) : Nat → V → V → Prop
  | 0, x, y => x = y ∧ okV x = true
  | n + 1, x, y => (x = y ∧ okV x = true) ∨ ∃ a b xs ys, x = .ref a ∧ y = .ref b ∧ ((SqL K H a xs ∧ SqL K H b ys) ∨ (SqT K H a xs ∧ SqT K H b ys)) ∧ Paired (EqS K H n) xs ys
theorem eq_same {A : Around} {s : Shared} {x : V} {u v : Value} (ok : okV x = true) (ru : RelV x u) (rv : RelV x v) : SeqAt.EqAt A s u v true := by
  cases x with
  | non => cases (show u = Value.none from ru); cases (show v = Value.none from rv); exact SeqAt.EqAt.same _
  | bl b => cases (show u = Value.bool b from ru); cases (show v = Value.bool b from rv); exact SeqAt.EqAt.same _
  | int i =>
    obtain ⟨t, rfl⟩ := ru; obtain ⟨t', rfl⟩ := rv
    have := SeqAt.EqAt.int_int (A := A) (s := s) i t i t'
    rwa [beq_self_eq_true] at this
  | str z =>
    obtain ⟨t, rfl⟩ := ru; obtain ⟨t', rfl⟩ := rv
    have := SeqAt.EqAt.str_str (A := A) (s := s) z t z t'
    rwa [beq_self_eq_true] at this
  | ref a => cases (show u = Value.ref a from ru); cases (show v = Value.ref a from rv); exact SeqAt.EqAt.same _
  | byt _ => exact absurd ok (by simp [okV])
  | flt _ => exact absurd ok (by simp [okV])
  | ty _ => exact absurd ok (by simp [okV])
theorem all_true (n : Nat) : (List.range n).all (fun _ => true) = true := by rw [List.all_eq_true]; intro _ _; rfl
section
variable {X : Cx} {pins : List (Addr × Obj)} {σ : St} {H : Hp} {s : Shared}
theorem eqS_items {A : Around} {n : Nat} (ih : ∀ (A : Around) (x y : V) (u v : Value), A.units + n < cLine → EqS X.K H n x y → RelV x u → RelV y v → SeqAt.EqAt A s u v true) (hu : A.units + (n + 1) < cLine) {xs ys : List V} {us vs : List Value} (p : Paired (EqS X.K H n) xs ys) (ru : Vals xs us) (rv : Vals ys vs) :
    ∀ j (h1 : j < us.toArray.size) (h2 : j < vs.toArray.size), SeqAt.EqAt A.in1 s us.toArray[j] vs.toArray[j] true := by
  intro j h1 h2
  have hl := ru.length
  have h1' : j < us.length := by simpa using h1
  have h2' : j < vs.length := by simpa using h2
  obtain ⟨a, b, e1, e2, q⟩ := paired_get p (i := j) (by omega)
  obtain ⟨u, eu, qu⟩ := ru.get e1
  obtain ⟨v, ev, qv⟩ := rv.get e2
  have eu' : us.toArray[j] = u := by
    rw [List.getElem_toArray]
    exact Option.some.inj ((List.getElem?_eq_getElem h1').symm.trans eu)
  have ev' : vs.toArray[j] = v := by
    rw [List.getElem_toArray]
    exact Option.some.inj ((List.getElem?_eq_getElem h2').symm.trans ev)
  rw [eu', ev']
  exact ih A.in1 a b u v (by show A.units + 1 + n < cLine; omega) q qu qv
theorem eqS_at (I : Inv X pins σ H s) : ∀ (n : Nat) (A : Around) (x y : V) (u v : Value), A.units + n < cLine → EqS X.K H n x y → RelV x u → RelV y v → SeqAt.EqAt A s u v true
  | 0, A, x, y, u, v, _, e, ru, rv => by
    obtain ⟨rfl, ok⟩ := e
    exact eq_same ok ru rv
  | n + 1, A, x, y, u, v, hu, e, ru, rv => by
    rcases e with ⟨rfl, ok⟩ | ⟨a, b, xs, ys, rfl, rfl, hq, p⟩
    · exact eq_same ok ru rv
    · cases (show u = Value.ref a from ru)
      cases (show v = Value.ref b from rv)
      by_cases hab : a = b
      · subst hab; exact SeqAt.EqAt.same _
      · have hp := Paired.length p
        rcases hq with ⟨h1, h2⟩ | ⟨h1, h2⟩
        · obtain ⟨us, r1, p1, _⟩ := I.list h1
          obtain ⟨vs, r2, p2, _⟩ := I.list h2
          have l1 := r1.length
          have l2 := r2.length
          have := SeqAt.RcAt.lists (A := A) (s := s) (e := fun _ => true) p1.isList p2.isList (by rw [List.size_toArray, List.size_toArray]; omega) (by omega) (eqS_items (eqS_at I n) hu p r1 r2)
          rw [all_true] at this
          exact SeqAt.EqAt.of_refs hab this
        · obtain ⟨us, r1, p1, _⟩ := I.tuple h1
          obtain ⟨vs, r2, p2, _⟩ := I.tuple h2
          have l1 := r1.length
          have l2 := r2.length
          have := SeqAt.RcAt.tuples (A := A) (s := s) (e := fun _ => true) p1 p2 (by omega) (eqS_items (eqS_at I n) hu p r1 r2)
          have hz : us.toArray.size = vs.toArray.size := by rw [List.size_toArray, List.size_toArray]; omega
          rw [all_true, hz, beq_self_eq_true] at this
          exact SeqAt.EqAt.of_refs hab this
/-- a == b, a != b of two lists that hold the same -/
theorem op_eqL (n : Nat) (hu : X.A.units + (n + 1) < cLine) : OpR X (compareOp .Eq) (fun x y H Q => ∃ a b xs ys, x = .ref a ∧ y = .ref b ∧ SqL X.K H a xs ∧ SqL X.K H b ys ∧ Paired (EqS X.K H n) xs ys ∧ Q (.bl true) H) := by
  intro pins s σ H x y v u Q I rx ry h
  obtain ⟨a, b, xs, ys, rfl, rfl, h1, h2, p, q⟩ := h
  cases rx
  cases ry
  obtain ⟨us, r1, p1, _⟩ := I.list h1
  obtain ⟨vs, r2, p2, _⟩ := I.list h2
  have l1 := r1.length
  have l2 := r2.length
  have hp := Paired.length p
  refine SeqAt.eq_listAt (e := fun _ => true) p1.isList p2.isList (by rw [List.size_toArray, List.size_toArray]; omega) (by omega) (eqS_items (eqS_at I n) hu p r1 r2) ?_
  rw [all_true]
  exact ⟨.bl true, H, I, rfl, q⟩
end
theorem paired_refl {K : PySem.W.Frag} {H : Hp} {n : Nat} : ∀ {xs : List V}, xs.all okV = true → Paired (EqS K H n) xs xs
  | [], _ => .nil
  | x :: xs, h => by
    rw [List.all_cons, Bool.and_eq_true] at h
    refine .cons ?_ (paired_refl h.2)
    cases n
    · exact ⟨rfl, h.1⟩
    · exact .inl ⟨rfl, h.1⟩
theorem ok_ints (ns : List Int) : (ns.map V.int).all okV = true := by rw [List.all_map, List.all_eq_true]; intro _ _; rfl
/-! ### for i, x in enumerate(a list) -/
def Ite (K : PySem.W.Frag) (a : Addr) : It :=
  ⟨fun i H => ∃ xs x, SqL K H a xs ∧ xs[i]? = some x, fun i H x H' => ∃ t v, H t = none ∧ x = .ref t ∧ H' = upd H t (.tup [.int i, v]) ∧ ∀ xs, SqL K H a xs → xs[i]? = some v, fun i H => ∃ xs, SqL K H a xs ∧ xs.length ≤ i⟩
theorem turn_enum {P : Program} {w : World} {K : PySem.W.Frag} {elts : List Expr} {k : Nat} {tp : Pos} (a it e : Addr) (hei : e ≠ it) :
    Turn P w K (.Tuple elts k tp) (Ite K a) [e, it] e (fun i h => (∃ old, IsEnum h e it i old) ∧ h.IsListIter it a i) where
  mem := by simp
  obj := fun i h st b hb => by
    obtain ⟨⟨old, he⟩, hit⟩ := st
    rcases List.mem_cons.mp hb with rfl | hb
    · exact ⟨_, he, fun v z => by cases z⟩
    · have e' : b = it := by simpa using hb
      subst e'
      obtain ⟨o, e, c, d⟩ := hit
      exact ⟨o, e, fun v z => by rw [d] at z; cases z⟩
  keep := fun i h h' st kp => by
    obtain ⟨⟨old, he⟩, hit⟩ := st
    exact ⟨⟨old, kp e (by simp) _ he⟩, hit.at fun o z => kp it (by simp) o z⟩
  item := by
    intro X hP hw hK hc i pins s σ H E I hf st hg
    subst hP hw hK
    obtain ⟨xs, x, hq, hx⟩ := hg
    obtain ⟨its, rv, p, hz⟩ := I.list hq
    obtain ⟨u, hu, ru⟩ := rv.get hx
    have fe := hf e (by simp)
    have fi := hf it (by simp)
    have hlen := rv.length
    have hi : i < its.toArray.size := by
      obtain ⟨z, _⟩ := List.getElem?_eq_some_iff.mp hu
      simpa using z
    have hae : a ≠ e := fun z => by
      obtain ⟨⟨old, he⟩, _⟩ := st
      obtain ⟨o, ho, hc', _⟩ := p.isList
      rw [z, he] at ho
      cases ho
      have c' : Value.type "enumerate" = Value.type "list" := hc'
      injection c' with c''
      exact absurd c'' (by decide)
    have hai : a ≠ it := fun z => by
      obtain ⟨_, ⟨o', ho', hc'', _⟩⟩ := st
      obtain ⟨o, ho, hc', _⟩ := p.isList
      rw [z, ho'] at ho
      cases ho
      rw [hc''] at hc'
      injection hc' with c3
      exact absurd c3 (by decide)
    have W := WalksT.enumerate (prog := X.prog) (w := X.w) (I.ok.hd hc) e it a hei hae hai its.toArray
    refine W.item i s _ _ hi ⟨st.1, st.2, p.isList⟩ fun T vals h' tk hv hT hTt hmid hk => ?_
    refine ⟨_, rfl, W.go elts k tp i T _ _ _ hmid fun h'' hst hk' => ?_⟩
    obtain ⟨t0, x0, hx0, rfl⟩ := hv
    have hx0' : x0 = u := by
      have : its[i]? = some x0 := by simpa using hx0
      rw [hu] at this
      exact (Option.some.inj this).symm
    subst hx0'
    have hTn : H T = none := I.hok.fresh hT
    have kept : ∀ b o, b ≠ e → b ≠ it → s.heap.get? b = some o → h''.get? b = some o := fun b o hb1 hb2 e' => hk' b o (by simp [hb1, hb2]) (hk b o (by simp [hb1, hb2]) e')
    have I1 : Inv X pins σ H { s with heap := h'', toks := tk } := by
      refine I.step (g' := s.gens) (d' := s.drawn) (ch := [e, it]) (fun b hb => ?_) (fun b o _ _ hb e' _ => ?_) (fun b o _ _ hb e' _ => ⟨o.slots, ?_⟩) (fun _ _ _ _ n => n) (fun b o hb e' => ⟨o, ?_⟩) (fun _ _ e' => e') (fun _ _ _ e' => e') (fun b ps e' => ⟨#[], by rw [e']; simp⟩) (fun m hm => ?_) (fun b o e' => ?_) I.bare
      · rcases List.mem_cons.mp hb with rfl | hb
        · exact ⟨fe.2.2.2.1, fe.2.1, fe.2.2.2.2.1, fe.2.2.2.2.2⟩
        · have e' : b = it := by simpa using hb
          subst e'
          exact ⟨fi.2.2.2.1, fi.2.1, fi.2.2.2.2.1, fi.2.2.2.2.2⟩
      · exact kept b o (fun z => hb (by simp [z])) (fun z => hb (by simp [z])) e'
      · exact kept b o (fun z => hb (by simp [z])) (fun z => hb (by simp [z])) e'
      · exact kept b o (fun z => hb (by simp [z])) (fun z => hb (by simp [z])) e'
      · obtain ⟨o, es, ep, ho, r⟩ := hm
        exact ⟨o, es, ep, kept _ o (Ne.symm fe.2.1) (Ne.symm fi.2.1) ho, r⟩
      · refine (I.hok b o e').stay (fun c v hc q => kept c v ?_ ?_ q) (fun _ q => q) fun _ _ q => q
        · rintro rfl
          rcases hc with z | z
          · have q1 := fe.1; rw [z, e'] at q1; cases q1
          · have q1 := fe.1; rw [z] at q1; cases q1
        · rintro rfl
          rcases hc with z | z
          · have q1 := fi.1; rw [z, e'] at q1; cases q1
          · have q1 := fi.1; rw [z] at q1; cases q1
    have hTe : T ≠ e ∧ T ≠ it := ⟨fun z => by
        obtain ⟨⟨old, he⟩, _⟩ := st
        have := Heap.lt_size he
        exact Nat.lt_irrefl _ (Nat.lt_of_le_of_lt hT (by rw [z]; exact this)), fun z => by
        obtain ⟨_, ⟨o', ho', _⟩⟩ := st
        have := Heap.lt_size ho'
        exact Nat.lt_irrefl _ (Nat.lt_of_le_of_lt hT (by rw [z]; exact this))⟩
    have fT : FpOk X pins H T := I.fpOk hT hTn
    have hTt'' : IsTup h'' T #[Value.int (i : Int) t0, x0] := by
      obtain ⟨o, ho, r⟩ := hTt
      exact ⟨o, hk' T o (by simp [hTe.1, hTe.2]) ho, r⟩
    have I2 : Inv X pins σ (upd H T (.tup [.int i, x])) { s with heap := h'', toks := tk } := Inv_track I1 fT ⟨by show 2 ≤ sizeLine; decide, [Value.int (i : Int) t0, x0], .cons ⟨t0, rfl⟩ (.cons ru .nil), hTt''⟩
    refine ⟨.ref T, _, I2, rfl, ⟨T, x, hTn, rfl, rfl, fun ys hy => by rw [I.list_inj hy hq]; exact hx⟩, ⟨hst.1, hst.2.1⟩, fun b hb => ?_⟩
    rcases List.mem_cons.mp hb with rfl | hb
    · rw [upd_ne (Ne.symm hTe.1)]; exact fe.1
    · have e' : b = it := by simpa using hb
      subst e'
      rw [upd_ne (Ne.symm hTe.2)]; exact fi.1
  done := by
    intro X hP hw hK hc i pins s σ H E I hf st hg
    subst hP hw hK
    obtain ⟨xs, hq, hx⟩ := hg
    obtain ⟨its, rv, p, hz⟩ := I.list hq
    have fe := hf e (by simp)
    have fi := hf it (by simp)
    have hl := rv.length
    obtain ⟨⟨old, he⟩, hit⟩ := st
    refine wpAny_pyNext_enum_end (I.ok.hd hc) he hit p.isList (by simp; omega) fun h' kx => ⟨rfl, ?_⟩
    refine I.step (g' := s.gens) (d' := s.drawn) (t' := s.toks) (ch := [e, it]) (fun b hb => ?_) (fun b o _ _ hb e' _ => ?_) (fun b o _ _ hb e' _ => ⟨o.slots, ?_⟩) (fun _ _ _ _ n => n) (fun b o hb e' => ⟨o, ?_⟩) (fun _ _ e' => e') (fun _ _ _ e' => e') (fun b ps e' => ⟨#[], by rw [e']; simp⟩) (fun m hm => ?_) (fun b o e' => ?_) I.bare
    · rcases List.mem_cons.mp hb with rfl | hb
      · exact ⟨fe.2.2.2.1, fe.2.1, fe.2.2.2.2.1, fe.2.2.2.2.2⟩
      · have e' : b = it := by simpa using hb
        subst e'
        exact ⟨fi.2.2.2.1, fi.2.1, fi.2.2.2.2.1, fi.2.2.2.2.2⟩
    · exact kx b o (fun z => hb (by simp [z])) e'
    · exact kx b o (fun z => hb (by simp [z])) e'
    · exact kx b o (fun z => hb (by simp [z])) e'
    · obtain ⟨o, es, ep, ho, r⟩ := hm
      exact ⟨o, es, ep, kx _ o (Ne.symm fi.2.1) ho, r⟩
    · refine (I.hok b o e').stay (fun c v hc q => kx c v ?_ q) (fun _ q => q) fun _ _ q => q
      rintro rfl
      rcases hc with z | z
      · have q1 := fi.1; rw [z, e'] at q1; cases q1
      · have q1 := fi.1; rw [z] at q1; cases q1
  self := fun _ _ _ _ _ st h => by
    obtain ⟨⟨old, he⟩, _⟩ := st
    exact wpAny_pyIter_enum he h

def iEnum (K : PySem.W.Frag) (ta : TA) : TI := fun σ H R => ta σ H fun vs H1 => ∃ a xs, vs = [.ref a] ∧ H1 a = some (.lst xs) ∧ R (Ite K a) H1
theorem pi_enum {X : Cx} {elts : List Expr} {k : Nat} {tp p pos : Pos} {e : Expr} {ta : TA} (hg : Gl X "enumerate") (hm : X.mg "enumerate" = none) (ha : PA X [e] ta) (hs : starEach [e] X.env = [(false, eval e X.env)] := by rfl) :
    PI X (.Tuple elts k tp) (.Call (.Name "enumerate" p) [e] [] pos) (iEnum X.K ta) := by
  intro pins s σ H R I h
  refine Call_ (ld_blt I hg hm PyProof.Rows.boot_enumerate (PyProof.Rows.callWith_type1 (thn (ha pos pins s σ H _ I h) fun us s1 ⟨vs, H1, I1, r1, q1⟩ => ?_) hs rfl))
  obtain ⟨a, xs, rfl, ha, q⟩ := q1
  obtain ⟨u, rfl, ru⟩ := vals1 r1
  cases ru
  obtain ⟨z, its, n, r, hl, e1⟩ := I1.lstM ha
  refine call_enumerate_1 e1 fun h' hE hI hsz hk => ?_
  refine wpAny_pyIter_enum hE ?_
  have I2 : Inv X pins σ H1 { s1 with heap := h' } := I1.kept (t' := s1.toks) hk
  refine ⟨s1.heap.objs.size + 1, [s1.heap.objs.size + 1, s1.heap.objs.size], _, _, H1, rfl, I2, turn_enum a s1.heap.objs.size (s1.heap.objs.size + 1) (Nat.succ_ne_self _), ⟨⟨_, hE⟩, hI⟩, fun b hb => ?_, q⟩
  rcases List.mem_cons.mp hb with rfl | hb
  · exact I1.fpOk (Nat.le_succ _) (I1.hok.fresh (Nat.le_succ _))
  · have e' : b = s1.heap.objs.size := by simpa using hb
    subst e'
    exact I1.fpOk (Nat.le_refl _) (I1.hok.fresh (Nat.le_refl _))
theorem for_enum {K : PySem.W.Frag} {a : Addr} {xs : List V} {g : TG} {tb : TS} {D : Ends} {σ : St} {H : Hp} (Pv : Nat → St → Hp → Prop) (h0 : Pv 0 σ H) (hl : ∀ i σ H, i ≤ xs.length → Pv i σ H → SqL K H a xs)
    (hs : ∀ i x t σ H, xs[i]? = some x → H t = none → Pv i σ H → g (.ref t) σ (upd H t (.tup [.int i, x])) fun σ2 H2 => tb { D with nx := Pv (i + 1), ct := Pv (i + 1), bk := D.nx } σ2 H2) (hd : ∀ σ H, Pv xs.length σ H → D.nx σ H) :
    ∃ W : Nat → Nat → St → Hp → Prop, (∃ m, W 0 m σ H) ∧ ∀ i m σ H, W i m σ H →
      ((Ite K a).stop i H ∧ D.nx σ H) ∨ ((Ite K a).go i H ∧ ∃ N : St → Hp → Prop, (∀ σ' H', N σ' H' → ∃ m', m' < m ∧ W (i + 1) m' σ' H') ∧ ∀ x H', (Ite K a).yld i H x H' → g x σ H' fun σ2 H2 => tb { D with nx := N, ct := N, bk := D.nx } σ2 H2) := by
  refine ⟨fun i m σ H => m = xs.length - i ∧ i ≤ xs.length ∧ Pv i σ H, ⟨xs.length, by simp, Nat.zero_le _, h0⟩, ?_⟩
  rintro i m σ H ⟨rfl, hi, p⟩
  have q := hl i σ H hi p
  by_cases hlt : i < xs.length
  · refine .inr ⟨⟨xs, xs[i], q, by simp [hlt]⟩, Pv (i + 1), fun σ' H' p' => ⟨xs.length - (i + 1), by omega, rfl, hlt, p'⟩, fun x H' y => ?_⟩
    obtain ⟨t, v, ht, e1, e2, y⟩ := y
    subst e1 e2
    exact hs i v t σ H (y xs q) ht p
  · have e : i = xs.length := by omega
    subst e
    exact .inl ⟨⟨xs, q, Nat.le_refl _⟩, hd σ H p⟩
end Oh

namespace Oh
open PySem PySem.Spec PyProof.Rows L2

/-! ### an exception that flies: the heap B without the frames, the exception and its traces stays as it is -/
structure FlyB (X : Cx) (H : Hp) (B : Heap) : Prop where
  keep : ∀ b o, X.s₀.heap.get? b = some o → X.H₀ b = none → b ∉ X.fs → b ∉ X.ex → B.get? b = some o
  there : ∀ b o, X.s₀.heap.get? b = some o → b ∉ X.fs → b ∉ X.ex → ∃ o', B.get? b = some o'
  pin : ∀ p ∈ X.pn, B.get? p.1 = some p.2
  hok : HOk X.prog X.w H B

theorem ObjOk_there {P : Program} {w : World} {H : Hp} {h : Heap} {a : Addr} {o : HO} (x : ObjOk P w H h a o) : ∃ u, h.get? a = some u := by
  cases o with
  | lst xs => obtain ⟨_, _, _, _, e⟩ := x; exact ⟨_, e⟩
  | tup xs => obtain ⟨_, _, _, o, e, _⟩ := x; exact ⟨_, e⟩
  | dK kvs => obtain ⟨_, _, _, _, o, _, _, e, _⟩ := x; exact ⟨_, e⟩
  | dT kvs => obtain ⟨_, _, _, _, o, _, _, e, _⟩ := x; exact ⟨_, e⟩
  | set S n => obtain ⟨o, _, _, _, e, _⟩ := x; exact ⟨_, e⟩
  | ins C dx fs => obtain ⟨_, _, _, e, _⟩ := x; exact ⟨_, e⟩
  | own y => exact x
  | xd fs => obtain ⟨_, ⟨_, _, _, e, _⟩, _⟩ := x; exact ⟨_, e⟩
  | rng lo hi => obtain ⟨_, _, _, e⟩ := x; exact ⟨_, e⟩
  | frz ob u => obtain ⟨e, _⟩ := x; exact ⟨_, e⟩
  | tbl ps => exact ⟨_, x⟩
  | met f y => exact ⟨_, x⟩
  | ext φ => obtain ⟨_, e, _⟩ := x; exact e

section
variable {X : Cx} {pins : List (Addr × Obj)} {σ : St} {H : Hp} {s : Shared} {B h' : Heap}
theorem Inv_flown {t' : Nat} (I : Inv X pins σ H s) (f : FlyB X H B) (st : B.StaysIn h') (up : s.heap.UpToSlots h') : Inv X [] σ H { s with heap := h', toks := t' } := by
  have cellK : ∀ c v, s.heap.IsCell c v → h'.IsCell c v := fun c v ⟨o, ho, hd⟩ => by
    obtain ⟨sl, e⟩ := up c o ho fun vs q => by rw [hd] at q; cases q
    exact ⟨_, e, hd⟩
  have frK : ∀ b ∈ X.fs, ∀ o, s.heap.get? b = some o → ∃ sl, h'.get? b = some { o with slots := sl } := fun b hb o e => by
    obtain ⟨_, o2, ho2, hd⟩ := I.funs.mem hb
    rw [e] at ho2; cases ho2
    exact up b o e hd
  refine ⟨I.ok, I.os, I.bare, ⟨fun b o q n hb hx => st b o (f.keep b o q n hb hx), fun b o q n hb hx => ?_, I.base.free, fun b o q hx => ?_, I.base.tups, I.base.frzs, I.base.tbls⟩, ?_, fun x c e => ?_, I.free, I.freeC, fun p hp => ?_, f.hok.kept st, I.len⟩
  · obtain ⟨sl, e1⟩ := I.base.slot b o q n hb hx
    obtain ⟨sl', e2⟩ := frK b hb _ e1
    exact ⟨sl', e2⟩
  · by_cases hb : b ∈ X.fs
    · obtain ⟨o', e1⟩ := I.base.there b o q hx
      obtain ⟨sl', e2⟩ := frK b hb _ e1
      exact ⟨_, e2⟩
    · obtain ⟨o', e⟩ := f.there b o q hb hx
      exact ⟨o', st b o' e⟩
  · obtain ⟨m, hn, hl⟩ := I.loc
    refine ⟨m, up.ns hn, fun i x v e1 e2 e3 => ?_⟩
    obtain ⟨u, r, l⟩ := hl i x v e1 e2 e3
    refine ⟨u, r, ?_⟩
    rcases l with l | ⟨k, c, e, z⟩
    · exact .inl l
    · exact .inr ⟨k, c, e, cellK _ _ z⟩
  · obtain ⟨v, z⟩ := I.cell x c e
    exact ⟨v, cellK c v z⟩
  · have hp' : p ∈ X.pn := by simpa using hp
    obtain ⟨_, n, ne, nf, d⟩ := I.pin p (List.mem_append_left _ hp')
    exact ⟨st _ _ (f.pin p hp'), n, ne, nf, d⟩

/-- how an exception of an own class lies behind a call -/
def CXF (P : Program) (w : World) : CXT := fun outer H s E e s' => ∃ (ea : Addr) (C a0 : Value) (H' : Hp) (B : Heap), e = .ref ea ∧ s'.os = s.os ∧ AllBare s'.gens ∧ Un (frs outer) [] H H' s.heap s'.heap ∧
  (∀ b o, s.heap.get? b = some o → H b = none → b ∉ frs outer → B.get? b = some o) ∧ (∀ b o, s.heap.get? b = some o → b ∉ frs outer → ∃ o', B.get? b = some o') ∧ HOk P w H' B ∧ Heap.FlyingW B outer ea C a0 s'.heap ∧ E C none H'
/-- an exception may leave this body: ES is what is wanted of it -/
def Thr (X : Cx) (ES : St → Value → Hp → Prop) : Prop := ∀ (pins : List (Addr × Obj)) (σ : St) (H' : Hp) (s' : Shared) (B : Heap) (ea : Addr) (C a0 : Value),
  Inv X pins σ H' s' → FlyB X H' B → Heap.FlyingW B X.stack ea C a0 s'.heap → ES σ C H' → X.xe (.ref ea) s'
/-- .. raised in it -/
def Thr0 (X : Cx) (ES : St → Value → Hp → Prop) : Prop := ∀ (pins : List (Addr × Obj)) (σ : St) (H' : Hp) (s' : Shared) (h' : Heap) (ea : Addr) (C : Value) (vs : List Value),
  Inv X pins σ H' s' → Heap.MadeExcOf s'.heap h' ea C vs → ES σ C H' → X.xe (.ref ea) { s' with heap := h' }

theorem nstack (I : Inv X pins σ H s) {b : Addr} (h1 : b ≠ X.env.locals) (h2 : b ∉ X.fs) : b ∉ frs X.stack := fun z => (List.mem_cons.mp (I.stkSub b z)).elim h1 h2
theorem old_ne (I : Inv X pins σ H s) {b : Addr} {o : Obj} (e : X.s₀.heap.get? b = some o) : b ≠ X.env.locals := Nat.ne_of_lt (Nat.lt_of_lt_of_le (Heap.lt_size e) I.ok.above)

/-- a callee's exception reaches the wish -/
theorem thr_call {ES : St → Value → Hp → Prop} {e : Value} {s' : Shared} (T : Thr X ES) (I : Inv X pins σ H s) (h : CXF X.prog X.w X.stack H s (fun C _ H' => ES σ C H') e s') : X.xe e s' := by
  obtain ⟨ea, C, a0, H', B, rfl, os, bare, un, bk, bt, hok, fl, q⟩ := h
  refine T pins σ H' s' B ea C a0 (I.call' (ch := []) os un (hok.kept fl.1) bare (fun b z => absurd z (by simp))) ⟨fun b o q n hb hx => ?_, fun b o q hb hx => ?_, fun p hp => ?_, hok⟩ fl q
  · exact bk b o (I.base.keep b o q n hb hx) (I.base.free b o q n hx) (nstack I (old_ne I q) hb)
  · obtain ⟨o', e⟩ := I.base.there b o q hx
    exact bt b o' e (nstack I (old_ne I q) hb)
  · obtain ⟨e, n, ne, nf, _⟩ := I.pin p (List.mem_append_left _ hp)
    exact bk p.1 p.2 e n (nstack I ne nf)

/-- all but the frames, at a raise -/
theorem flyB_here (I : Inv X pins σ H s) : FlyB X H (PySem.W.hideAll s.heap (frs X.stack)) where
  keep := fun b o q n hb hx => PySem.W.hideAll_get _ (I.base.keep b o q n hb hx) (nstack I (old_ne I q) hb)
  there := fun b o q hb hx => by
    obtain ⟨o', e⟩ := I.base.there b o q hx
    exact ⟨o', PySem.W.hideAll_get _ e (nstack I (old_ne I q) hb)⟩
  pin := fun p hp => by
    obtain ⟨e, n, ne, nf, _⟩ := I.pin p (List.mem_append_left _ hp)
    exact PySem.W.hideAll_get _ e (nstack I ne nf)
  hok := fun a o e => (I.hok a o e).stay (fun b u hb q => PySem.W.hideAll_get _ q fun z => by
    have n := I.stkFree b z
    rcases hb with rfl | hb
    · rw [n] at e; cases e
    · rw [n] at hb; cases hb) (fun _ q => q) fun _ _ q => q
end

section
variable {P : Program} {w : World} {K : PySem.W.Frag} {mg : Str → Option Value} {base : Heap} {N : List Str} {qual : Str} {scope : Scope} {f : Addr} {cd : Value} {A : Around} {outer : List Env} {s : Shared} {H : Hp} {E : XK}
theorem thr0_cx : Thr0 (cxOf (CXF P w) P w K mg base N qual scope f cd A outer s H E) (fun _ C H' => E C none H') := by
  intro pins σ H' s' h' ea C vs I hx q
  show wpAny _ _ (leaving _ _) _ _ _
  have fb := flyB_here I
  have hin : ∀ env ∈ (cxOf (CXF P w) P w K mg base N qual scope f cd A outer s H E).stack, ∀ b, env.frame = some b → b ∈ frs (cxOf (CXF P w) P w K mg base N qual scope f cd A outer s H E).stack := fun env he b hb => List.mem_filterMap.mpr ⟨env, he, hb⟩
  refine wpAny_leaves_madeW I.ok.frames rfl (fun b o q => PySem.W.of_hideAll _ q) (PySem.W.funFrames_hide I.stack hin) hx fun h'' t fl tup hn up => ?_
  have J := Inv_flown (t' := s'.toks) I fb fl.1 ((Heap.UpToSlots.of_keeps hx.keeps).trans up)
  exact ⟨ea, C, _, H', _, rfl, J.os, J.bare, J.base, fun b o q n hb => fb.keep b o q n hb (by intro z; exact absurd (show b ∈ ([] : List Addr) from z) (by simp)), fun b o q hb => fb.there b o q hb (by intro z; exact absurd (show b ∈ ([] : List Addr) from z) (by simp)), fb.hok, fl, q⟩
/-- a def that may raise -/
theorem Fun_okX {x : Str} {st : Stmt} {fd : FuncData} {ps : List Str} {k : Nat} {sp : Sp} (F : Fun K x qual st f fd) (S : FnScope N ps (defScope st)) (len : ∀ vs H Q E, sp vs H Q E → vs.length = ps.length)
    (hbody : ∀ (cdv : Value) (A : Around) (outer : List Env) (s : Shared) (H : Hp) (vs : List V) (Q : VK) (E : XK), Room k (A.deeper (envOfC qual (defScope st) s.heap.objs.size f cdv)) → sp vs H Q E →
      ∃ t, PSs (cxOf (CXF P w) P w K mg base N qual (defScope st) f cdv A outer s H E) (defBody st) t ∧ t { nx := fun _ H' => Q .non H', rt := Q } (start N vs) H) : FnOk P w K mg base (CXF P w) (k + 1) f fd ps sp := by
  obtain ⟨oc, od, kV, doc, pm, an, cdv, ct, osl, rfl, lk, hcd⟩ := F.ex
  exact fn_of lk hcd S len fun A outer s H vs Q E hr hsp => hbody cdv A outer s H vs Q E hr hsp
end

/-! ### calls of a def that may raise -/
structure CalX (P : Program) (w : World) (K : PySem.W.Frag) (mg : Str → Option Value) (base : Heap) (k : Nat) (x : Str) (ps : List Str) (sp : Sp) : Prop where
  ex : ∃ f fd, FnOk P w K mg base (CXF P w) k f fd ps sp ∧ Binds K fd ps [] ∧ PySem.W.keepIn K (.ref f) = true ∧ mg x = some (.ref f)
theorem CalX.mono {P : Program} {w : World} {K : PySem.W.Frag} {mg : Str → Option Value} {base : Heap} {j k : Nat} {x : Str} {ps : List Str} {sp : Sp} (c : CalX P w K mg base j x ps sp) (h : j ≤ k) : CalX P w K mg base k x ps sp := by
  obtain ⟨f, fd, a, b, d, e⟩ := c.ex
  exact ⟨f, fd, a.mono h, b, d, e⟩
def tCallX (sp : Sp) (ES : St → Value → Hp → Prop) (t : TA) : TE := fun σ H Q => t σ H fun vs H1 => sp vs H1 Q fun C _ H' => ES σ C H'
theorem pe_calX {X : Cx} {k : Nat} {x : Str} {ps : List Str} {sp : Sp} {p pos : Pos} {e : Expr} {es : List Expr} {t : TA} {ES : St → Value → Hp → Prop} (T : Thr X ES) (c : CalX X.prog X.w X.K X.mg X.base k x ps sp) (hr : Room k X.A) (hg : Gl X x) (ha : PA X (e :: es) t)
    (hdb : (x == ("__debug__" : Str)) = false := by decide) (he : starEach (e :: es) X.env = (false, eval e X.env) :: starEach es X.env := by rfl) (hpl : (backTo pos (starEach es X.env)).any (·.1) = false := by rfl) :
    PE X (.Call (.Name x p) (e :: es) [] pos) (tCallX sp ES t) := by
  obtain ⟨f, fd, F, hb, hk, hm⟩ := c.ex
  intro pins s σ H Q I h
  refine wpAny_Call_Name_kw (ld_glob I hg hm ?_ hdb)
  refine PySem.W.callWith_K (h₀ := X.base) I.ok.mod.kin hk (thn (ha pos pins s σ H _ I h) fun us s1 ⟨vs, H1, I1, r, q⟩ => ⟨I1.kIn, ?_⟩) he hpl
  have hl : us.length = ps.length := by rw [← r.length]; exact F.len _ _ _ _ q
  have hb' := hb s1 us I1.kIn (by rw [List.append_nil]; exact hl)
  rw [List.append_nil] at hb'
  refine wpAny_call (codeAny_mono (F.run X.A X.stack s1 H1 ⟨us, []⟩ us vs Q _ hr I1.env0 hb' r q) fun r s' hq => ?_)
  cases r with
  | error e => exact thr_call T I1 hq
  | ok fl =>
    cases fl with
    | ret u => exact I1.after hq
    | next => exact False.elim hq
    | brk => exact False.elim hq
    | cont => exact False.elim hq

/-! ### raise C("..") -/
theorem ps_raise {X : Cx} {ES : St → Value → Hp → Prop} {x y : Str} {C : Addr} {bm : List Value} {newId initId B : String} {np cpos pos p0 : Pos} {j : Nat} (T : Thr0 X ES) (hc : X.calm = true) (O : OwnCls x C bm newId X.mg X.base) (FB : ExcBaseFacts B newId initId bm) (hg : Gl X x)
    (hd : (x == ("__debug__" : Str)) = false := by decide) (he : starEach [.Constant (.str y) j p0] X.env = (false, eval (.Constant (.str y) j p0) X.env) :: starEach [] X.env := by rfl) :
    PS X (.Raise (some (.Call (.Name x np) [.Constant (.str y) j p0] [] cpos)) none pos) (fun _ σ H => ES σ (.ref C) H) := by
  intro pins s σ H D I h
  obtain ⟨tl, N, nm, q, bs, hdct, sn, sub, ab, col, dd, k0, k1, k2, k3, k5, mN, hC, hN, hni, Tl⟩ := O.obj
  refine wpAny_Raise_call_subT (C := C) (nm := nm) (q := q) (N := N) (bs := bs) (bm := tl) (hdct := hdct) (sn := sn) (sub := sub) (ab := ab) (col := col) (dd := dd) (k0 := k0) (k1 := k1) (k2 := k2) (k3 := k3) (k5 := k5)
    FB (mN := mN) (Tl.hasType FB.hasBase) (I.ok.hd hc) (by rw [he]; rfl) hni (ld_glob I hg O.bound ⟨rfl, ?_⟩ hd)
  rw [he]
  have hp : PA X [.Constant (.str y) j p0] (tCons (tC (.str y)) tNil) := pa_cons pe_str pa_nil he
  have hw := hp cpos pins s σ H (fun us H' => us.length = 1 ∧ ES σ (.ref C) H') I ⟨rfl, h⟩
  rw [he] at hw
  refine Calls.evalArgs_plain (wpAny_mono hw (fun vs s₂ ⟨us, H', J, r, hl, q'⟩ => ?_) fun _ _ y => y)
  refine ⟨rfl, ?_, J.bk _ _ hC, hN.keeps J.bk, Tl.keeps J.bk, fun h' ea hm => T pins σ H' s₂ h' ea (.ref C) vs J hm q'⟩
  show vs.length ≤ sizeLine
  rw [← r.length, hl]
  decide

/-! ### try .. except C as n -/
abbrev tryC (X : Cx) (pins : List (Addr × Obj)) (E : Value → Shared → Prop) : Cx := { X with pn := X.pn ++ pins, xe := E }
abbrev suiteC (X : Cx) (pins : List (Addr × Obj)) (e : Addr) : Cx := { X with pn := X.pn ++ pins, A := X.A.mark (some (.ref e)), calm := false, xe := fun _ _ => False }
section
variable {X : Cx} {pins : List (Addr × Obj)} {σ : St} {H : Hp} {s : Shared} {E : Value → Shared → Prop} {e : Addr}
theorem Ok_try (ok : X.Ok) : (tryC X pins E).Ok := ⟨ok.mod, ok.kind, ok.glob, ok.blt, ok.above, ok.inj, ok.has, ok.cab, ok.hd, ok.frames, ok.stk, ok.exf, ok.bs, ok.bsz, ok.noex, ok.exfs, ok.funs, ok.frf⟩
theorem Ok_suite (ok : X.Ok) : (suiteC X pins e).Ok := ⟨ok.mod, ok.kind, ok.glob, ok.blt, ok.above, ok.inj, ok.has, ok.cab, (fun z => by cases z), ok.frames, ok.stk, ok.exf, ok.bs, ok.bsz, ok.noex, ok.exfs, ok.funs, ok.frf⟩
theorem Inv_try (I : Inv X pins σ H s) : Inv (tryC X pins E) [] σ H s := ⟨Ok_try I.ok, I.os, I.bare, I.base, I.loc, I.cell, I.free, I.freeC, fun p hp => I.pin p (by simpa using hp), I.hok, I.len⟩
theorem Ok_untry (ok : (tryC X pins E).Ok) : X.Ok := ⟨ok.mod, ok.kind, ok.glob, ok.blt, ok.above, ok.inj, ok.has, ok.cab, ok.hd, ok.frames, ok.stk, ok.exf, ok.bs, ok.bsz, ok.noex, ok.exfs, ok.funs, ok.frf⟩
theorem Inv_untry {pins' : List (Addr × Obj)} (I : Inv (tryC X pins E) pins' σ H s) : Inv X pins σ H s := ⟨Ok_untry I.ok, I.os, I.bare, I.base, I.loc, I.cell, I.free, I.freeC, fun p hp => I.pin p (List.mem_append_left _ hp), I.hok, I.len⟩
theorem Inv_tsuite {pins' : List (Addr × Obj)} (I : Inv (tryC X pins E) pins' σ H s) : Inv (suiteC X pins e) pins' σ H s := ⟨Ok_suite (Ok_untry I.ok), I.os, I.bare, I.base, I.loc, I.cell, I.free, I.freeC, fun p hp => I.pin p hp, I.hok, I.len⟩
theorem Inv_unsuite {pins' : List (Addr × Obj)} (ok : X.Ok) (I : Inv (suiteC X pins e) pins' σ H s) : Inv X pins σ H s := ⟨ok, I.os, I.bare, I.base, I.loc, I.cell, I.free, I.freeC, fun p hp => I.pin p (List.mem_append_left _ hp), I.hok, I.len⟩
theorem SP_untry {D : Ends} {f : Flow} {s' : Shared} (h : SP (tryC X pins E) [] D f s') : SP X pins D f s' := by
  cases f with
  | next => obtain ⟨σ', H', I, q⟩ := h; exact ⟨σ', H', Inv_untry I, q⟩
  | brk => obtain ⟨σ', H', I, q⟩ := h; exact ⟨σ', H', Inv_untry I, q⟩
  | cont => obtain ⟨σ', H', I, q⟩ := h; exact ⟨σ', H', Inv_untry I, q⟩
  | ret u => obtain ⟨v, σ', H', I, r, q⟩ := h; exact ⟨v, σ', H', Inv_untry I, r, q⟩

/-- an exception that was taken -/
def ExcAt (e : Addr) (C : Value) (h : Heap) : Prop := ∃ oe vs, h.get? e = some oe ∧ oe.cls = C ∧ oe.data = .fields vs
theorem excOk {P : Program} {w : World} {C : Value} {h : Heap} (x : ExcAt e C h) : ObjOk P w H h e (.ext (ExcAt e C)) := by
  obtain ⟨oe, vs, h1, h2, h3⟩ := id x
  exact ⟨x, ⟨oe, h1⟩, fun g1 g2 ⟨o, ws, a, b, c⟩ k => ⟨o, ws, k _ a, b, c⟩⟩
theorem Inv_seen {B : Heap} {C a0 : Value} (I : Inv X [] σ H s) (fb : FlyB X H B) (fl : Heap.FlyingW B X.stack e C a0 s.heap) : H e = none ∧ Inv X [] σ (upd H e (.ext (ExcAt e C))) s := by
  obtain ⟨f1, f2, f3, oe, vs, T, oT, ts, he, hc, hd, _⟩ := fl
  have xa : ExcAt e C s.heap := ⟨oe, vs, he, hc.1, hd⟩
  have hn : H e = none := by
    cases q : H e with
    | none => rfl
    | some o =>
      obtain ⟨u, z⟩ := ObjOk_there (fb.hok e o q)
      rw [f2] at z; cases z
  have nd : ∀ b, b ∈ frs X.stack → b ≠ e := fun b hb z => by
    obtain ⟨_, o, ho, hnf⟩ := f3.mem hb
    rw [z, he] at ho; cases ho
    exact hnf vs hd
  obtain ⟨m, hm, hl⟩ := I.loc
  have hL : e ≠ X.env.locals := fun z => by
    obtain ⟨o, es, ep, ho, hdd, _⟩ := hm
    rw [← z, he] at ho; cases ho
    rw [hd] at hdd; cases hdd
  have hcl : ∀ x c, X.env.cells.lookup x = some c → c ≠ e := fun x c q z => by
    obtain ⟨v, o, ho, hdd⟩ := I.cell x c q
    rw [z, he] at ho; cases ho
    rw [hd] at hdd; cases hdd
  have old : ∀ b o, X.s₀.heap.get? b = some o → b ∉ X.ex → b ≠ e := fun b o q hx z => by
    by_cases hb : b ∈ X.fs
    · obtain ⟨_, o2, ho2, hnf⟩ := I.funs.mem hb
      rw [z, he] at ho2; cases ho2
      exact hnf vs hd
    · obtain ⟨o', q'⟩ := fb.there b o q hb hx
      rw [z, f2] at q'; cases q'
  refine ⟨hn, I.ok, I.os, I.bare, ⟨I.base.keep, I.base.slot, fun b o q n hx => ?_, I.base.there, fun b xs q => ?_, fun b o u q => ?_, fun b ps q => ?_⟩, ⟨m, hm, hl⟩, I.cell, ?_, fun x c q => ?_, fun p hp => ?_, HOk_track I.hok hn (excOk xa), I.len⟩
  · rw [upd_ne (old b o q hx)]; exact I.base.free b o q n hx
  · have z := I.base.tups b xs q
    rw [upd_ne (ne_of_none z hn)]; exact z
  · have z := I.base.frzs b o u q
    rw [upd_ne (ne_of_none z hn)]; exact z
  · obtain ⟨mo, z⟩ := I.base.tbls b ps q
    exact ⟨mo, by rw [upd_ne (ne_of_none z hn)]; exact z⟩
  · rw [upd_ne (Ne.symm hL)]; exact I.free
  · rw [upd_ne (hcl x c q)]; exact I.freeC x c q
  · obtain ⟨q, n, ne, nf, d⟩ := I.pin p hp
    refine ⟨q, ?_, ne, nf, d⟩
    rw [upd_ne]; exact n
    intro z
    have hp' : p ∈ X.pn := by simpa using hp
    have := fb.pin p hp'
    rw [z, f2] at this; cases this

/-- the name of an except clause goes -/
theorem goes_ok {M : Model} {A : Around} {i : Nat} {x : Str} {pos : Pos} {Q : Unit → Shared → Prop} (I : Inv X pins σ H s) (hN : X.N.Nodup) (hi : X.N[i]? = some x) (hk : X.env.scope.names.lookup x = some .local)
    (h : ∀ s', Inv X pins (σ.set i none) H s' → Q () s') : wpAny M A (do bindName X.env x .none; unbindBehindTheSuite X.env x pos) Q E s := by
  obtain ⟨m, hn, hl⟩ := id I.loc
  have hcls : (X.env.scope.kind == .class || (X.env.scope.kind == .module && X.env.locals != X.env.globals)) = false := by rw [I.ok.kind]; rfl
  have hiσ : i < σ.length := by rw [I.len]; exact (List.getElem?_eq_some_iff.mp hi).1
  have cne := I.cne
  have tracked : ∀ {a : Addr} {h' : Heap}, (∃ o, s.heap.get? a = some o ∧ H a = none) → Heap.SameBut a s.heap h' → HOk X.prog X.w H h' := fun {a h'} ha hs b ob e => by
    obtain ⟨_, _, hfree⟩ := ha
    refine (I.hok b ob e).stay (fun c w' hc q => (hs.2 c ?_).trans q) (fun _ q => q) fun _ _ q => q
    rintro rfl
    rcases hc with rfl | hc
    · rw [hfree] at e; cases e
    · rw [hfree] at hc; cases hc
  refine wpAny_nameGoes_keeps hk hn hcls fun h' v hn' hs => ?_
  obtain ⟨oL, _, _, hoL, _⟩ := id hn
  refine h _ ⟨I.ok, I.os, I.bare, ⟨fun b o e n hb hx => ?_, fun b o e n hb hx => ?_, I.base.free, fun b o e hx => ?_, I.base.tups, I.base.frzs, I.base.tbls⟩, ⟨_, hn', fun j y v' e1 e2 e3 => ?_⟩, fun y c e => ?_, I.free, I.freeC, fun p hp => ?_, tracked ⟨oL, hoL, I.free⟩ hs, by simpa using I.len⟩
  · exact (hs.2 b (Nat.ne_of_lt (Nat.lt_of_lt_of_le (Heap.lt_size e) I.ok.above))).trans (I.base.keep b o e n hb hx)
  · obtain ⟨sl, e1⟩ := I.base.slot b o e n hb hx
    exact ⟨sl, (hs.2 b (Nat.ne_of_lt (Nat.lt_of_lt_of_le (Heap.lt_size e) I.ok.above))).trans e1⟩
  · obtain ⟨o', e1⟩ := I.base.there b o e hx
    exact ⟨o', (hs.2 b (Nat.ne_of_lt (Nat.lt_of_lt_of_le (Heap.lt_size e) I.ok.above))).trans e1⟩
  · by_cases hj : j = i
    · subst hj
      rw [List.getElem?_set_self hiσ] at e2
      cases e2
    · rw [List.getElem?_set_ne (Ne.symm hj)] at e2
      obtain ⟨u', r', q⟩ := hl j y v' e1 e2 e3
      refine ⟨u', r', ?_⟩
      rcases q with ⟨k, e⟩ | ⟨k, c, e, z⟩
      · refine .inl ⟨k, ?_⟩
        have : y ≠ x := fun e => hj (nodup_ix hN e1 (e ▸ hi))
        simp [this, e]
      · exact .inr ⟨k, c, e, z.sameBut hs (cne y c e)⟩
  · obtain ⟨w', z⟩ := I.cell y c e
    exact ⟨w', z.sameBut hs (cne y c e)⟩
  · obtain ⟨e, n, ne, nf, d⟩ := I.pin p hp
    exact ⟨(hs.2 p.1 ne).trans e, n, ne, nf, d⟩
end

def tTry (K : PySem.W.Frag) (C0 : Addr) (i : Nat) (tb : (St → Value → Hp → Prop) → TS) (ts : TS) : TS := fun D σ H => ∃ ES : St → Value → Hp → Prop, tb ES D σ H ∧
  ∀ σ' C H', ES σ' C H' → PySem.W.exmOne K C (.ref C0) = some true ∧ ∀ ea, H' ea = none → ts { nx := fun σ'' H'' => D.nx (σ''.set i none) H'', rt := fun _ _ => False } (σ'.set i (some (.ref ea))) (upd H' ea (.ext (ExcAt ea C)))
theorem ps_try {X : Cx} {body suite : List Stmt} {b₀ : Stmt} {n x : Str} {i : Nat} {C0 : Addr} {np hpos pos : Pos} {tb : (St → Value → Hp → Prop) → TS} {ts : TS}
    (hb : ∀ pins E ES, Thr (tryC X pins E) ES → PSs (tryC X pins E) body (tb ES)) (hs : ∀ pins e, PSs (suiteC X pins e) (b₀ :: suite) ts)
    (hN : X.N.Nodup) (hi : X.N[i]? = some n) (hk : X.env.scope.names.lookup n = some .local) (hg : Gl X x) (hm : X.mg x = some (.ref C0)) (hst : X.stack = X.env :: X.outer := by rfl) (hf : X.env.frame = some X.env.locals := by rfl) (hd : (x == ("__debug__" : Str)) = false := by decide) :
    PS X (.Try body [.ExceptHandler (some (.Name x np)) (some n) (b₀ :: suite) hpos] [] [] pos) (tTry X.K C0 i tb ts) := by
  intro pins s σ H D I h
  obtain ⟨ES, hB, hH⟩ := h
  refine wpAny_Try_except ?_
  refine wpAny_mono (hb pins _ ES ?_ [] s σ H D (Inv_try I) hB) (fun f s₁ q => ?_) (fun e s₁ q => q)
  · intro pins' σ' H' s' B ea C a0 J fb fl q
    obtain ⟨hx, hts⟩ := hH σ' C H' q
    have fl0 : Heap.FlyingW B (X.env :: X.outer) ea C a0 s'.heap := by rw [← hst]; exact fl
    have fr0 : X.A.frames = some (X.env :: X.outer) := by rw [← hst]; exact I.ok.frames
    refine wpAny_looks_onW fr0 hf fl0 fun h₄ held up₄ => ?_
    refine wpAny_landsW held fun h₅ fl₅ up₅ => ?_
    have J₅ := Inv_flown (t' := s'.toks) J fb fl₅.1 (up₄.trans up₅)
    have S₅ : Inv (suiteC X pins ea) [] σ' H' { s' with heap := h₅ } := Inv_tsuite J₅
    obtain ⟨oe, he, hec⟩ := fl₅.there
    refine wpAny_handleBy_cons (codeAny_handlers_test (ld_glob S₅ hg hm ?_ hd)) (by intro q; cases q)
    have LT : PySem.W.Looks (model X.prog X.w) h₅ (typeOf (.ref ea)) C := hec ▸ (PySem.W.Looks.ld he).andThen .now
    refine (PySem.W.exm_one S₅.kIn LT hx).here ?_
    show codeAny _ _ _ _ _
    refine codeAny_handlers_suite_as ?_
    refine lands_againW fl₅ fun h₆ fl₆ up₆ => ?_
    have J₆ := Inv_flown (t' := s'.toks) J₅ fb fl₆.1 up₆
    have S₆ : Inv (suiteC X pins ea) [] σ' H' { s' with heap := h₆ } := Inv_tsuite J₆
    obtain ⟨hn, S₇⟩ := Inv_seen (C := C) (a0 := a0) S₆ ⟨fb.keep, fb.there, fb.pin, fb.hok⟩ (by rw [show (suiteC X pins ea).stack = X.env :: X.outer from hst]; exact fl₆)
    refine store_ok (X := suiteC X pins ea) S₇ hN hi (Or.inl hk) (v := .ref ea) rfl (fun s₈ S₈ => ?_) (Or.inr hk)
    refine wpAny_mono (hs pins ea [] s₈ _ _ _ S₈ (hts ea hn)) (fun f s₉ q9 => ?_) (fun _ _ z => False.elim z)
    cases f with
    | next =>
      obtain ⟨σ'', H'', S₉, q⟩ := q9
      exact goes_ok (Inv_unsuite I.ok S₉) hN hi hk fun s' J => ⟨_, _, J, q⟩
    | brk => obtain ⟨_, _, _, z⟩ := q9; exact False.elim z
    | cont => obtain ⟨_, _, _, z⟩ := q9; exact False.elim z
    | ret u => obtain ⟨_, _, _, _, _, z⟩ := q9; exact False.elim z
  · have q' := SP_untry q
    cases f with
    | next => exact wpAny_execs_nil q'
    | brk => exact q'
    | cont => exact q'
    | ret u => exact q'
end Oh

namespace Oh
section
open PySem PySem.W PySem.Calls PyProof.Rows Builtin Builtin.ObjectAttr Builtin.Getset_descriptor

/-- what is asked of an own exception class -/
structure ExcK (K : Frag) (D : Addr) : Prop where
  ga : findIn K (.ref D) "__getattribute__" = some (some (.builtin "BaseException.__getattribute__"))
  gn : findIn K (.ref D) "__getattr__" = some none
  ha : findIn K (.ref D) "__class__" = some (some (.builtin "object.__class__"))
  hm : mroIn K D (.type "object") = some true
  hb : mroIn K D (.type "BaseException") = some true
  cl : (clsIn K D).isSome = true
theorem spec_cls (K : Frag) : specialIn K (.builtin "object.__class__") "__get__" = some (some (.builtin "getset_descriptor.__get__")) := by kernel_rfl
theorem takes_cls (K : Frag) : takesIn K (.builtin "object.__class__") = some true := by kernel_rfl

variable {prog : Program} {w : World} {A : Around} {E : Value → Shared → Prop} {s : Shared} {K : Frag} {x D : Addr}
theorem exc_gs {R : Result → Shared → Prop} {tp : Value} (X : K.In s.heap) (L0 : Looks (model prog w) s.heap (typeOf (.ref x)) (.ref D)) (hm : mroIn K D (.type "object") = some true)
    (h : R (.ok (.ret (.ref D))) s) : codeAny (model prog w) A (.call (.builtin "getset_descriptor.__get__") ⟨[.builtin "object.__class__", .ref x, tp], []⟩) R s := by
  obtain ⟨hh, g, dr, t, os⟩ := s
  have L1 := looks_mroIn (M := model prog w) X hm
  refine codeAny_call_builtin KF.slot_gs.plain KF.entry_gs (KF.slot_gs.check _ _ _ _ _ _ _ _ KF.type_class (KF.args_gs _ _ _) ?_)
  unfold Builtin.«getset_descriptor.__get__» descrGet
  rw [dga_obj]
  refine wpAny_bind (wpAny_pure ?_)
  unfold descrGetter descrCheckInstance descrNameAndClass isInstance
  simp only [KF.owner_class]
  repeat lk
  refine ⟨Code.quiet_builtin _ (by decide +kernel), codeAny_builtin KF.entry_class ?_⟩
  unfold Builtin.«object.__class__» shownTypeOf
  repeat lk
  exact h
theorem exc_find {M : Model} {h : Heap} (X : K.In h) (k : ExcK K D) : Looks M h (find (.ref x) (.ref D) "__class__") (.bind (.builtin "getset_descriptor.__get__") (.builtin "object.__class__")) := by
  have L1 := looks_findIn (M := M) X k.ha
  have L2 := looks_specialIn (M := M) X (spec_cls K)
  have L3 := looks_takesIn (M := M) X (takes_cls K)
  intro A Q E s kk q
  obtain ⟨hh, g, d, t, os⟩ := s
  have L1 := L1.keeps kk
  have L2 := L2.keeps kk
  have L3 := L3.keeps kk
  unfold find getOf dataDescriptor?
  repeat lk
  exact q
theorem exc_entry {tk : Tok} {Q : Fin → Shared → Prop} (X : K.In s.heap) (L0 : Looks (model prog w) s.heap (typeOf (.ref x)) (.ref D)) (k : ExcK K D) (h : Q (.done (.ret (.ref D))) s) :
    wpAny (model prog w) A (Builtin.«object.__getattribute__» ⟨[.ref x, .str "__class__" tk], []⟩) Q E s := by
  obtain ⟨hh, g, d, t, os⟩ := s
  have L1 := exc_find (x := x) (M := model prog w) X k
  unfold Builtin.«object.__getattribute__»
  refine wpAny_bind (wpAny_pure ?_)
  refine wpAny_bind (wpAny_pure ?_)
  refine wpAny_bind (L0.at ?_)
  refine wpAny_bind (L1.at ?_)
  show wpAny _ _ (holding [_] (call _ _) >>= ret) _ _ _
  refine wpAny_bind (wpAny_holding (wpAny_call (exc_gs X L0 k.hm ?_)))
  exact wpAny_pure h
theorem exc_check {M : Model} {nameV : Value} {Q : Unit → Shared → Prop} (X : K.In s.heap) (L0 : Looks M s.heap (typeOf (.ref x)) (.ref D)) (k : ExcK K D) (h : Q () s) : wpAny M A (checkBuiltinCall "BaseException.__getattribute__" ⟨[.ref x, nameV], []⟩) Q E s := by
  have hk : builtinKind "BaseException.__getattribute__" = some .slot := by decide +kernel
  have hsplit : splitId "BaseException.__getattribute__" = some ("BaseException", "__getattribute__") := by decide +kernel
  have ha := F.args_bexc_ga (.ref x) nameV
  have L1 := looks_mroIn (M := M) X k.hb
  obtain ⟨hh, g, d, t, os⟩ := s
  simp only [checkBuiltinCall, hk, hsplit]
  refine wpAny_bind ?_
  unfold isInstance
  refine wpAny_bind (L0.at ?_)
  refine L1.at ?_
  repeat (first | assumption | wp_step)
theorem exc_class {Q : Option Value → Shared → Prop} (X : K.In s.heap) (L0 : ∀ M, Looks M s.heap (typeOf (.ref x)) (.ref D)) (k : ExcK K D) (h : Q (some (.ref D)) { s with toks := s.toks + 1 }) :
    wpAny (model prog w) A (getAttr? (.ref x) "__class__") Q E s := by
  obtain ⟨hh, g, d, t, os⟩ := s
  have L1 := looks_findIn (M := model prog w) X k.ga
  have L2 := looks_findIn (M := model prog w) X k.gn
  have L0' := L0 (model prog w)
  have f3 := (PySem.F.attr_ValueError).ga.bind (.ref x)
  unfold getAttr? getAttrBy? getAttrBy
  refine wpAny_bind (wpAny_mkText (wpAny_bind (wpAny_attempt (wpAny_holding (wpAny_bind (L0'.at (wpAny_bind (L1.at ?_))))))))
  show wpAny _ _ (getAttrByItsOwn _ _ _ _ _ _) _ _ _
  unfold getAttrByItsOwn hookBefore callGetattribute boundAndCalled
  refine wpAny_bind (m := typeLookup (.ref D) "__getattr__") (L2.at ?_)
  refine wpAny_bind (wpAny_attempt (wpAny_holding ?_))
  show wpAny _ _ (bindSpecial _ _ >>= _) _ _ _
  rw [f3]
  refine wpAny_bind (wpAny_pure ?_)
  refine wpAny_call (codeAny_call_builtin PySem.F.attr_ValueError.ga.plain F.entry_bexc_ga (exc_check X (L0 _) k (exc_entry X (L0 _) k ?_)))
  exact handed_on rfl (wpAny_pure h)
theorem kitx_exc (k : ExcK K D) : KitX K (.ref x) (.ref D) (ExcAt x (.ref D)) where
  ty := fun M h _ ⟨oe, vs, h1, h2, _⟩ => h2 ▸ (Looks.ld h1).andThen .now
  it := fun _ _ X _ => by
    obtain ⟨cdD, hcD⟩ := Option.isSome_iff_exists.mp k.cl
    unfold clsIn at hcD
    split at hcD
    · rename_i c' d' cd' sl' ho
      intro A' Q' E' s' k q
      unfold isType loadHead
      exact wpAny_bind (wpAny_loadPart (k _ _ (X _ _ ho)) (wpAny_pure q))
    · cases hcD
  ne := fun h tp dd its n sl X htp => by
    obtain ⟨cdD, hcD⟩ := Option.isSome_iff_exists.mp k.cl
    refine Bool.eq_false_iff.mpr fun q => ?_
    have e : D = tp := Value.ref.inj (beq_iff_eq.mp q)
    subst e
    unfold clsIn at hcD
    split at hcD
    · rename_i c' d' cd' sl' ho
      have z := (X _ _ ho).symm.trans htp
      cases z
    · cases hcD
  ca := fun X ⟨oe, vs, h1, h2, _⟩ q => exc_class X (fun M => h2 ▸ (Looks.ld h1).andThen .now) k q
end

open PySem PySem.Spec PyProof.Rows L2
section
variable {X : Cx}
/-- a class as a value -/
def clsV : V → Option Value
  | .ty n => some (.type n)
  | .ref a => some (.ref a)
  | _ => none
def rExc (K : PySem.W.Frag) : List V → Hp → VK → Prop := fun xs H Q => ∃ x c u D b, xs = [.ref x, c] ∧ clsV c = some u ∧ H x = some (.ext (ExcAt x (.ref D))) ∧ ExcK K D ∧ PySem.W.kitOne K (.ref D) u = some b ∧ Q (.bl b) H
/-- isinstance(e, C) of a taken exception -/
theorem call_isExc : CallR X (.builtin "isinstance") (rExc X.K) := by
  intro pins s σ H xs us Q I r h
  obtain ⟨x, c, u, D, b, rfl, hc, hx, k, e, q⟩ := h
  obtain ⟨u1, u', rfl, ru, rn⟩ := vals2 r
  cases (show u1 = Value.ref x from ru)
  have hu : u' = u := by
    cases c with
    | ty n => cases hc; exact rn
    | ref a => cases hc; exact rn
    | _ => cases hc
  subst hu
  obtain ⟨p, _⟩ := (show ObjOk X.prog X.w H s.heap x (.ext (ExcAt x (.ref D))) from I.hok x _ hx)
  exact PySem.W.kia_one (kitx_exc k) I.kIn p e (fun z => nomatch z) fun tk => ⟨.bl b, H, I.tok _, rfl, q⟩
end
end Oh

namespace Oh
open PySem PySem.Spec PyProof.Rows L2

/-! ### records of an iterator have turned -/
/-! ### for x, y in zip(a list, a list) -/
/-! ### xs[lo:hi:step] of whole numbers: some of them -/
section
variable {X : Cx} {e se : Expr} {te : TE} {lo hi : Option Expr} {tl th ts : TO} {pos p2 : Pos}
end
end Oh

namespace Oh
open PySem PySem.Spec PyProof.Rows L2

/-! ### the own refusals: straight under one class that stands under ValueError -/
abbrev bmVE : List Value := [.type "ValueError", .type "Exception", .type "BaseException", .type "object"]
theorem own_mk {K : PySem.W.Frag} {h : Heap} {mg : Str → Option Value} {x : Str} {C : Addr} {bmB : List Value} {newId : String} (X : K.In h) (g : mg x = some (.ref C)) (q : PySem.W.excIn K C bmB newId = true) : OwnCls x C bmB newId mg h := by
  refine ⟨g, ?_⟩
  unfold PySem.W.excIn at q
  split at q <;> try cases q
  rename_i D cls sl ho
  split at q <;> try cases q
  rename_i C1 bm a0 a1 a2 a3 n1 a5 hm hs
  rw [Bool.and_eq_true, Bool.and_eq_true, Bool.and_eq_true, Bool.and_eq_true, Bool.and_eq_true] at q
  obtain ⟨⟨⟨⟨⟨q1, q2⟩, q3⟩, q4⟩, q5⟩, q6⟩ := q
  cases eq_of_beq q1
  cases eq_of_beq q2
  obtain ⟨c1, c2, c3, c4, c5, c6, c7, c8, c9, c10, c11⟩ := cls
  have q3' : c11 = false := by simpa using q3
  have hm' : c3 = .ref C :: bm := hm
  subst q3' hm'
  have hsl : sl = #[a0, a1, a2, a3, some (.builtin newId), a5] := Array.toList_inj.mp hs
  subst hsl
  exact ⟨bm, c4, c1, c5, c2, c6, c7, c8, c9, c10, D, a0, a1, a2, a3, a5, _, X _ _ ho, .of_isNs (PySem.W.isNs_of_in X q5), PySem.W.nsMap_none_of_in X q5 (eq_of_beq q6), PySem.W.tail_of_in X q4⟩

def xOk (K : PySem.W.Frag) (C OE : Addr) : Bool :=
  PySem.W.excIn K C bmVE "ValueError.__new__" && (PySem.W.findIn K (.ref C) "__getattribute__" == some (some (.builtin "BaseException.__getattribute__")) && (PySem.W.findIn K (.ref C) "__getattr__" == some none &&
    (PySem.W.findIn K (.ref C) "__class__" == some (some (.builtin "object.__class__")) && (PySem.W.mroIn K C (.type "object") == some true && (PySem.W.mroIn K C (.type "BaseException") == some true && ((PySem.W.clsIn K C).isSome &&
      (PySem.W.exmOne K (.ref C) (.ref OE) == some true && PySem.W.kitOne K (.ref C) (.type "ValueError") == some true)))))))
structure XCls (K : PySem.W.Frag) (mg : Str → Option Value) (x : Str) (C OE : Addr) : Prop where
  g : mg x = some (.ref C)
  own : ∀ h : Heap, K.In h → OwnCls x C bmVE "ValueError.__new__" mg h
  k : ExcK K C
  ex : PySem.W.exmOne K (.ref C) (.ref OE) = some true
  ve : PySem.W.kitOne K (.ref C) (.type "ValueError") = some true
  me : PySem.W.kitOne K (.ref C) (.ref C) = some true
theorem xcls_mk {K : PySem.W.Frag} {mg : Str → Option Value} {x : Str} {C OE : Addr} (g : mg x = some (.ref C)) (q : xOk K C OE = true) : XCls K mg x C OE := by
  unfold xOk at q
  rw [Bool.and_eq_true, Bool.and_eq_true, Bool.and_eq_true, Bool.and_eq_true, Bool.and_eq_true, Bool.and_eq_true, Bool.and_eq_true, Bool.and_eq_true] at q
  obtain ⟨a, b, c, d, e, f, i, j, k⟩ := q
  exact ⟨g, fun h X => own_mk X g a, ⟨eq_of_beq b, eq_of_beq c, eq_of_beq d, eq_of_beq e, eq_of_beq f, i⟩, eq_of_beq j, eq_of_beq k, by unfold PySem.W.kitOne; rw [if_pos (beq_self_eq_true _)]⟩
end Oh

namespace Oh
open PySem PySem.Spec PyProof.Rows L2
theorem thr_no {X : Cx} : Thr X (fun _ _ _ => False) := fun _ _ _ _ _ _ _ _ _ _ _ h => h.elim
/-- ways that meet -/
def tJoin (t : TS) : TS := fun D σ H => ∃ M : St → Hp → Prop, t { D with nx := M } σ H ∧ ∀ σ' H', M σ' H' → D.nx σ' H'
theorem ps_join {X : Cx} {st : Stmt} {t : TS} (h : PS X st t) : PS X st (tJoin t) := fun pins s σ H D I ⟨M, hw, hm⟩ => by
  refine thn (h pins s σ H { D with nx := M } I hw) fun f s' q => ?_
  cases f with
  | next => obtain ⟨σ', H', J, z⟩ := q; exact ⟨σ', H', J, hm _ _ z⟩
  | brk => exact q
  | cont => exact q
  | ret u => exact q
/-! ### one house lends -/
end Oh

namespace Oh
open PySem PySem.Spec PyProof.Rows L2

/-! ### set(a list of whole numbers), its len -/
section
variable {X : Cx}
/-! ### a tuple that is known to its object; its count of a pair -/
theorem call_tuple_frz : CallR X (.type "tuple") (fun xs H Q => ∃ p ys, xs = [.ref p] ∧ SqL X.K H p ys ∧ ∀ l o, H l = none → o.dict = none → Q (.ref l) (upd H l (.frz o (.tup ys)))) := by
  intro pins s σ H xs us Q I r h
  obtain ⟨p, ys, rfl, hq, q⟩ := h
  obtain ⟨u, rfl, rx⟩ := vals1 r
  cases rx
  obtain ⟨its, r', pl, hz⟩ := I.list hq
  have hlen := r'.length
  refine call_tuple_list pl.isList (fun h' kp => ?_) (by simp only [List.size_toArray] <;> omega)
  have I1 : Inv X pins σ H { s with heap := h' } := I.kept (t' := s.toks) kp
  have I2 : Inv X pins σ (upd H h'.objs.size (.frz { cls := .type "tuple", data := .seq its.toArray } (.tup ys))) { s with heap := h'.push { cls := .type "tuple", data := .seq its.toArray } } :=
    I1.laid (t' := s.toks) (fun b o e => Heap.get?_push_of_some _ e) (Nat.le_refl _) (show ObjOk X.prog X.w _ _ _ (.frz _ (.tup ys)) from ⟨Heap.get?_push_size _ rfl, hz, its, r', IsTup.new _ _⟩)
  exact ⟨.ref h'.objs.size, _, I2, rfl, q _ _ (I1.hok.fresh (Nat.le_refl _)) rfl⟩
noncomputable def cntE (H : Hp) (t : Int × Int) : Value → Bool := fun y => @decide (∃ q, y = .ref q ∧ H q = some (.tup [.int t.1, .int t.2])) (Classical.propDecidable _)
theorem cntE_pair {H : Hp} {t u : Int × Int} {v : V} {y : Value} (p : isPair H v u) (r : RelV v y) : cntE H t y = decide (u = t) := by
  obtain ⟨q, rfl, hq⟩ := p
  cases (show y = Value.ref q from r)
  unfold cntE
  by_cases e : u = t
  · subst e
    rw [decide_eq_true rfl]
    exact @decide_eq_true _ (Classical.propDecidable _) ⟨q, rfl, hq⟩
  · rw [decide_eq_false e]
    refine @decide_eq_false _ (Classical.propDecidable _) ?_
    rintro ⟨q', e', h'⟩
    cases e'
    rw [hq] at h'
    injection h' with h'
    injection h' with h'
    injection h' with h1 h2
    injection h2 with h2 _
    exact e (Prod.ext (V.int.inj h1) (V.int.inj h2))
theorem cnt_all {H : Hp} {t : Int × Int} : ∀ {zs : List V} {T : List (Int × Int)} {its : List Value}, Pairs H zs T → Vals zs its → its.countP (cntE H t) = T.countP (fun u => decide (u = t))
  | _, _, _, .nil, .nil => rfl
  | _, _, _, .cons p ps, .cons r rs => by
    rw [List.countP_cons, List.countP_cons, cnt_all ps rs, cntE_pair p r]
def rCntT (K : PySem.W.Frag) : V → List V → Hp → VK → Prop := fun x vs H Q => ∃ p zs T r t, x = .ref p ∧ vs = [.ref r] ∧ SqT K H p zs ∧ Pairs H zs T ∧ H r = some (.tup [.int (Prod.fst t), .int (Prod.snd t)]) ∧ Q (.int (T.countP fun u => decide (u = t) : Nat)) H
theorem mt_countT (hu : X.A.units + 4 < cLine) : MtR X "tuple.count" (rCntT X.K) := by
  intro pins s σ H x vs v us Q I rx rv h
  obtain ⟨p, zs, T, r, t, rfl, rfl, hq, hP, hr, q⟩ := h
  cases rx
  obtain ⟨u, rfl, ru⟩ := vals1 rv
  cases ru
  obtain ⟨its, r', pl, hz⟩ := I.tuple hq
  obtain ⟨_, jts, rj, pj⟩ := (show ObjOk X.prog X.w H s.heap r (.tup [.int t.1, .int t.2]) from I.hok r _ hr)
  obtain ⟨⟨c0, d0, dt, sl⟩, ho, hcl, n, hd⟩ := id pl
  dsimp only at hcl hd
  subst hcl hd
  refine call_meets F.slot_tuple_count ⟨_, ho, rfl⟩ F.entry_tuple_count (F.args_tuple_count_2 _ _) (SeqAt.tuple_countAt p its.toArray n d0 sl (.ref r) (cntE H t)) ⟨ho, fun y hy => ?_, ?_⟩
  · have hy' : y ∈ its := by simpa using hy
    obtain ⟨i, hi, e⟩ := List.getElem_of_mem hy'
    have hzi : i < zs.length := by rw [r'.length]; exact hi
    obtain ⟨y', ey, ry⟩ := r'.get (i := i) (x := zs[i]) (List.getElem?_eq_getElem hzi)
    rw [List.getElem?_eq_getElem hi, e] at ey
    cases ey
    obtain ⟨u, hu', pu⟩ := hP.get (List.getElem?_eq_getElem hzi)
    rw [cntE_pair pu ry]
    obtain ⟨b, eb, hb⟩ := id pu
    rw [eb] at ry
    cases (show y = Value.ref b from ry)
    by_cases hbr : b = r
    · subst hbr
      rw [hr] at hb
      injection hb with hb
      injection hb with hb
      injection hb with h1 h2
      injection h2 with h2 _
      rw [decide_eq_true (show u = t from Prod.ext (V.int.inj h1).symm (V.int.inj h2).symm)]
      exact SeqAt.EqAt.same _
    · obtain ⟨_, kts, rk, pk⟩ := (show ObjOk X.prog X.w H s.heap b (.tup [.int u.1, .int u.2]) from I.hok b _ hb)
      obtain ⟨k1, k2, rfl, ⟨a1, rfl⟩, ⟨a2, rfl⟩⟩ := vals2 rk
      obtain ⟨j1, j2, rfl, ⟨b1, rfl⟩, ⟨b2, rfl⟩⟩ := vals2 rj
      have := SeqAt.RcAt.tuples (A := X.A.in1) (s := s) (e := fun j => if j = 0 then u.1 == t.1 else u.2 == t.2) pk pj (by show X.A.units + 1 < cLine; omega) (fun j h1 h2 => by
        have hj : j < 2 := by simpa using h1
        match j, hj with
        | 0, _ => exact SeqAt.EqAt.int_int _ _ _ _
        | 1, _ => exact SeqAt.EqAt.int_int _ _ _ _)
      have e2 : ((List.range (min 2 2)).all (fun j => if j = 0 then u.1 == t.1 else u.2 == t.2) && (2 : Nat) == 2) = decide (u = t) := by
        show ((List.range 2).all _ && true) = _
        rw [Bool.and_true]
        show ((u.1 == t.1) && ((u.2 == t.2) && true)) = _
        rw [Bool.and_true]
        by_cases e : u = t
        · subst e; simp
        · rw [decide_eq_false e]
          by_cases e1 : u.1 = t.1
          · have : ¬ u.2 = t.2 := fun z => e (Prod.ext e1 z)
            simp [this]
          · simp [e1]
      rw [← e2]
      exact SeqAt.EqAt.of_refs hbr this
  · refine ⟨.int _, H, I.tok _, ⟨_, rfl⟩, ?_⟩
    rw [List.toList_toArray, cnt_all hP r']
    exact q
def tBMT (r : V → List V → Hp → VK → Prop) (to : TE) (t : TA) : TE := fun σ H Q => to σ H fun x H1 => (∃ p ob ys, x = .ref p ∧ H1 p = some (.frz ob (.tup ys)) ∧ ob.dict = none) ∧ t σ H1 fun xs H2 => r x xs H2 Q
variable {o e : Expr} {es : List Expr} {to : TE} {t : TA} {name : Str} {apos cpos : Pos} {id : String} {r : V → List V → Hp → VK → Prop}
theorem pe_bmT (slot : Slot "tuple" name id) (hty : typeOf (.builtin id) = pure (.type "method_descriptor")) (hm : MtR X id r) (ho : PE X o to) (ha : PA X (e :: es) t)
    (hbase : attributeBase o name X.env (eval o X.env) = eval o X.env := by rfl)
    (hfew : ((backTo cpos (starEach (e :: es) X.env)).all (fun x => !x.1) && (backToKw cpos (keywordEach [] X.env)).all (fun x => x.1.isSome)
      && decide ((e :: es).length + ([] : List Keyword).length + (if ([] : List Keyword).isEmpty then 0 else 1) < 30)) = true := by rfl)
    (hline : (apos.endLine == cpos.line) = true := by rfl) (hs : starEach (e :: es) X.env = (false, eval e X.env) :: starEach es X.env := by rfl) (hplain : (backTo cpos (starEach es X.env)).any (·.1) = false := by rfl) :
    PE X (.Call (.Attribute o name apos) (e :: es) [] cpos) (tBMT r to t) := by
  intro pins s σ H Q I h
  refine wpAny_Call_method_late hbase hfew hline rfl (thn (ho pins s σ H _ I h) fun v s1 ⟨x, H1, I1, r1, ty, q1⟩ => ?_)
  obtain ⟨p, ob, ys, rfl, hp, hdn⟩ := ty
  cases (show v = Value.ref p from r1)
  obtain ⟨hob, _, its, _, ⟨o2, ho2, hc2, _⟩⟩ := (show ObjOk X.prog X.w H1 s1.heap p (.frz ob (.tup ys)) from I1.hok p _ hp)
  have h1 : s1.TypeIs (.ref p) "tuple" := ⟨o2, ho2, hc2⟩
  have h2 : ∀ a, Value.ref p = .ref a → ∃ ob, s1.heap.get? a = some ob ∧ ob.dict = none := fun a e => by cases e; exact ⟨ob, hob, hdn⟩
  refine ⟨"tuple", id, PySem.F.plainAttrs_tuple, slot, hty, h1, h2, ?_⟩
  have hA := ha cpos pins s1 σ H1 _ I1 q1
  rw [hs] at hA ⊢
  refine Calls.callWith_builtin (by show (false || (backTo cpos (starEach es X.env)).any (·.1)) = false; rw [hplain] <;> rfl) (Calls.evalArgs_plain ?_)
  exact thn hA fun us s2 ⟨vs, H2, I2, r2, q2⟩ => hm pins s2 σ H2 (.ref p) vs (.ref p) us Q I2 rfl r2 q2
end
end Oh

namespace Oh
open PySem PySem.Spec PyProof.Rows L2

/-! ### != of two lists of whole numbers, whatever is in them -/
section
variable {X : Cx}
theorem all_getD : ∀ {ns ms : List Int}, ns.length = ms.length → (List.range ns.length).all (fun j => ns.getD j 0 == ms.getD j 0) = decide (ns = ms) := by
  intro ns ms hl
  rw [Bool.eq_iff_iff, List.all_eq_true, decide_eq_true_iff]
  constructor
  · intro h
    refine ext_getD hl fun i => ?_
    by_cases hi : i < ns.length
    · exact eq_of_beq (h i (List.mem_range.mpr hi))
    · rw [List.getD_eq_getElem?_getD, List.getD_eq_getElem?_getD, List.getElem?_eq_none (by omega), List.getElem?_eq_none (by omega)]
  · rintro rfl j _
    exact beq_self_eq_true _
theorem ints_eqAt {A : Around} {s : Shared} {ns ms : List Int} {us vs : List Value} (ru : Vals (ns.map V.int) us) (rv : Vals (ms.map V.int) vs) (j : Nat) (h1 : j < us.toArray.size) (h2 : j < vs.toArray.size) :
    SeqAt.EqAt A s us.toArray[j] vs.toArray[j] (ns.getD j 0 == ms.getD j 0) := by
  have l1 := ru.length
  have l2 := rv.length
  rw [List.length_map] at l1 l2
  have h1' : j < us.length := by simpa using h1
  have h2' : j < vs.length := by simpa using h2
  have e1 : (ns.map V.int)[j]? = some (.int (ns.getD j 0)) := by
    rw [List.getElem?_map, List.getD_eq_getElem?_getD, List.getElem?_eq_getElem (show j < ns.length by omega)]; rfl
  have e2 : (ms.map V.int)[j]? = some (.int (ms.getD j 0)) := by
    rw [List.getElem?_map, List.getD_eq_getElem?_getD, List.getElem?_eq_getElem (show j < ms.length by omega)]; rfl
  obtain ⟨u, eu, qu⟩ := ru.get e1
  obtain ⟨v, ev, qv⟩ := rv.get e2
  obtain ⟨t, rfl⟩ := qu
  obtain ⟨t', rfl⟩ := qv
  have eu' : us.toArray[j] = .int (ns.getD j 0) t := by
    rw [List.getElem_toArray]
    exact Option.some.inj ((List.getElem?_eq_getElem h1').symm.trans eu)
  have ev' : vs.toArray[j] = .int (ms.getD j 0) t' := by
    rw [List.getElem_toArray]
    exact Option.some.inj ((List.getElem?_eq_getElem h2').symm.trans ev)
  rw [eu', ev']
  exact SeqAt.EqAt.int_int _ t _ t'
theorem op_neLI (hu : X.A.units + 1 < cLine) : OpR X (compareOp .NotEq) (fun x y H Q => ∃ (a b : Addr) (ns ms : List Int), x = .ref a ∧ y = .ref b ∧ SqL X.K H a (ns.map V.int) ∧ SqL X.K H b (ms.map V.int) ∧ Q (.bl (!decide (ns = ms))) H) := by
  intro pins s σ H x y v u Q I rx ry h
  obtain ⟨a, b, ns, ms, rfl, rfl, h1, h2, q⟩ := h
  cases rx
  cases ry
  obtain ⟨us, r1, p1, _⟩ := I.list h1
  obtain ⟨vs, r2, p2, _⟩ := I.list h2
  have l1 := r1.length
  have l2 := r2.length
  rw [List.length_map] at l1 l2
  by_cases hl : ns.length = ms.length
  · have z := SeqAt.RcNeAt.lists (A := X.A) (s := s) (e := fun j => ns.getD j 0 == ms.getD j 0) p1.isList p2.isList (by rw [List.size_toArray, List.size_toArray]; omega) (by omega) (ints_eqAt r1 r2)
    rw [List.size_toArray, ← l1, all_getD hl] at z
    exact z X.prog X.w X.xe _ ⟨.bl _, H, I, rfl, q⟩
  · have z := SeqAt.RcNeAt.lists_lengths (A := X.A) (s := s) p1.isList p2.isList (by rw [List.size_toArray, List.size_toArray, bne_iff_ne]; omega) (by omega)
    rw [decide_eq_false (fun e => hl (by rw [e]))] at q
    exact z X.prog X.w X.xe _ ⟨.bl true, H, I, rfl, q⟩
end

/-! ### all(..), any(..) of a list of truths -/
section
variable {X : Cx}
end
/-! ### the first whole numbers -/
theorem hs_get {n i : Nat} (h : i < n) : (hs n)[i]? = some (i : Int) := by
  unfold hs
  rw [List.getElem?_map, List.getElem?_range h]
  rfl
theorem at_hs {α : Type} {n : Nat} {g : Int → α} {x : Int} (h0 : 0 ≤ x) (h1 : x < (n : Int)) : atI ((hs n).map g) x = some (g x) := by
  obtain ⟨i, rfl⟩ := Int.eq_ofNat_of_zero_le h0
  refine atI_nat ?_
  rw [List.getElem?_map, hs_get (by omega)]
  rfl
theorem set_hs {α : Type} {n : Nat} {g : Int → α} {x : Int} {v : α} (h0 : 0 ≤ x) (h1 : x < (n : Int)) : ((hs n).map g).set x.toNat v = (hs n).map fun y => if y = x then v else g y := by
  refine List.ext_getElem? fun i => ?_
  rw [List.getElem?_set, List.length_map, hs_length]
  by_cases hi : i < n
  · have r : ((hs n).map fun y => if y = x then v else g y)[i]? = some (if (i : Int) = x then v else g i) := by rw [List.getElem?_map, hs_get hi]; rfl
    rw [r]
    by_cases e : x.toNat = i
    · rw [if_pos e, if_pos (by omega), if_pos (by omega)]
    · rw [if_neg e, List.getElem?_map, hs_get hi, if_neg (by omega)]
      rfl
  · rw [if_neg (by omega), List.getElem?_eq_none (by rw [List.length_map, hs_length]; omega), List.getElem?_eq_none (by rw [List.length_map, hs_length]; omega)]
theorem hs_congr {α : Type} {n : Nat} {f g : Int → α} (h : ∀ x, 0 ≤ x → x < (n : Int) → f x = g x) : (hs n).map f = (hs n).map g :=
  List.map_congr_left fun x hx => h x (mem_hs.mp hx).1 (mem_hs.mp hx).2
/-! ### a square table as a list of lists -/
/-! ### queues -/
def bt (T : List (Int × Int)) (x y : Int) : Int := ((T.countP fun u => decide (u = nrm (x, y)) : Nat) : Int)
def tt' (T : List (Int × Int)) (x : Int) (ms : List Int) : Int := (ms.map fun y => bt T x y).sum
/-- a row of houses that a queue may begin with -/
structure Row (n : Nat) (ms : List Int) : Prop where
  nd : ms.Nodup
  rng : ∀ x ∈ ms, 0 ≤ x ∧ x < (n : Int)
theorem Row.le {n : Nat} {ms : List Int} (m : Row n ms) : ms.length ≤ n := by
  have := nodup_le m.nd (m := hs n) fun x hx => mem_hs.mpr (m.rng x hx)
  rwa [hs_length] at this
theorem Row.more {n : Nat} {ms : List Int} (m : Row n ms) {y : Int} (h : 0 ≤ y ∧ y < (n : Int)) (hy : y ∉ ms) : Row n (ms ++ [y]) where
  nd := by
    rw [List.nodup_append]
    refine ⟨m.nd, by simp, fun a ha b hb' => ?_⟩
    have e : b = y := by simpa using hb'
    intro z
    exact hy (by rw [← e, ← z]; exact ha)
  rng := fun z hz => by
    rcases List.mem_append.mp hz with q | q
    · exact m.rng z q
    · rw [List.mem_singleton.mp q]; exact h
end Oh

namespace Oh
open PySem PySem.Spec PyProof.Rows L2

/-! ### great numbers -/
section
variable {X : Cx}
/-- a list == [] -/
theorem op_eqE (hu : X.A.units + 1 < cLine) : OpR X (compareOp .Eq) (fun x y H Q => ∃ (a b : Addr) (xs : List V), x = .ref a ∧ y = .ref b ∧ SqL X.K H a xs ∧ SqL X.K H b [] ∧ Q (.bl xs.isEmpty) H) := by
  intro pins s σ H x y v u Q I rx ry h
  obtain ⟨a, b, xs, rfl, rfl, h1, h2, q⟩ := h
  cases rx
  cases ry
  obtain ⟨us, r1, p1, _⟩ := I.list h1
  obtain ⟨vs, r2, p2, _⟩ := I.list h2
  have l1 := r1.length
  have l2 := r2.length
  cases xs with
  | nil =>
    refine SeqAt.eq_listAt (e := fun _ => true) p1.isList p2.isList (by rw [List.size_toArray, List.size_toArray, ← l1, ← l2]) (by omega) (fun j hj _ => ?_) ?_
    · rw [List.size_toArray, ← l1] at hj
      exact absurd hj (Nat.not_lt_zero _)
    · rw [all_true]
      exact ⟨.bl true, H, I, rfl, q⟩
  | cons x xs =>
    refine SeqAt.eq_list_lengthsAt p1.isList p2.isList (by rw [List.size_toArray, List.size_toArray, bne_iff_ne, ← l1, ← l2]; exact Nat.succ_ne_zero _) (by omega) ?_
    exact ⟨.bl false, H, I, rfl, q⟩
end
/-! ### a list without one of its own -/
theorem Paired.mapMem {α β : Type} {R S : α → β → Prop} : ∀ {l : List α} {m : List β}, Paired R l m → (∀ a b, a ∈ l → R a b → S a b) → Paired S l m
  | _, _, .nil, _ => .nil
  | _, _, .cons r rs, h => .cons (h _ _ List.mem_cons_self r) (Paired.mapMem rs fun a b ha => h a b (List.mem_cons_of_mem _ ha))
theorem Paired.snoc {α β : Type} {R : α → β → Prop} : ∀ {l : List α} {m : List β} {a : α} {b : β}, Paired R l m → R a b → Paired R (l ++ [a]) (m ++ [b])
  | _, _, _, _, .nil, h => .cons h .nil
  | _, _, _, _, .cons r rs, h => .cons r (Paired.snoc rs h)
end Oh

namespace Oh
/-! ### determinants -/
section
variable {α : Type}
/-! ### what the step of the reckoning makes of a row -/
/-! ### too few columns -/
/-! ### how great it may be -/
end
end Oh

namespace Oh
section
variable {α : Type}
/-! ### a lower table times an upper one -/
end
end Oh

namespace Oh
section
variable {α : Type}
end
/-! ### tables as lists -/
end Oh

namespace Oh
open PySem PySem.Spec PyProof.Rows L2
/-! ### tables that grow -/
def rListOf (K : PySem.W.Frag) : List V → Hp → VK → Prop := fun xs H Q => ∃ p ys, xs = [.ref p] ∧ (SqL K H p ys ∨ SqT K H p ys) ∧ ∀ l, H l = none → Q (.ref l) (upd H l (.lst ys))
end Oh

namespace Oh
open PySem PySem.Spec PyProof.Rows L2

/-! ### comprehensions whose own name is used by one inside -/
section
variable {X : Cx} {pins : List (Addr × Obj)} {σ : St} {H : Hp} {s : Shared} {N' : List Str} {mp : List (Option Nat)} {scope : Scope} {C D : Addr} {fp : List Addr}
end

section
variable {X : Cx} {elt target iter : Expr} {ifs : List Expr} {scope : Scope} {pos : Pos} {N' : List Str} {mp : List (Option Nat)} {wi : TI} {g : TG} {tt : TT} {te : TE}
end
end Oh

namespace Oh
/-! ### the adjoint -/
section
variable {α β : Type}
end
end Oh

namespace Oh
open PySem PySem.Spec PyProof.Rows L2
end Oh

namespace Oh
/-! ### a table whose rows outweigh: above nought -/
section
variable {α : Type}
end
end Oh

namespace Oh
def inr (n : Nat) (x : Int) : Prop := 0 ≤ x ∧ x < (n : Int)
instance (n : Nat) (x : Int) : Decidable (inr n x) := by unfold inr; exact inferInstance
/-! ### the numbers from 1 on -/
/-! ### the small table -/
/-! ### what ties do to the sums of a row -/
theorem sum_add {α : Type} (f g : α → Int) : ∀ l : List α, (l.map fun x => f x + g x).sum = (l.map f).sum + (l.map g).sum
  | [] => rfl
  | a :: l => by rw [List.map_cons, List.map_cons, List.map_cons, List.sum_cons, List.sum_cons, List.sum_cons, sum_add f g l]; omega
theorem sum_congr {α : Type} {f g : α → Int} {l : List α} (h : ∀ x ∈ l, f x = g x) : (l.map f).sum = (l.map g).sum := by rw [List.map_congr_left h]
end Oh

namespace Oh
/-! ### told papers -/
end Oh

namespace Oh
open PySem PySem.Spec PyProof.Rows L2
/-! ### for x, y in zip(two lists) -/
end Oh

namespace Oh
/-! ### what the paper of two standings is -/
end Oh

namespace Oh
open PySem PySem.Spec PyProof.Rows L2
section
variable {X : Cx}
end
end Oh

namespace Oh
open PySem PySem.Spec PyProof.Rows L2
section
variable {X : Cx}
end
end Oh

namespace Oh
/-! ### a weighing and a script are never both -/
end Oh

namespace Oh
open PySem PySem.Spec PyProof.Rows L2
section
variable {X : Cx}
end
end Oh

namespace Oh
open PySem PySem.Spec PyProof.Rows L2
/-! ### [.. for i, x in enumerate(a list)] -/
/-! ### list(range(..)) -/
theorem vals_of : ∀ {xs : List V} {us : List Value}, xs.length = us.length → (∀ (j : Nat) (x : V) (u : Value), xs[j]? = some x → us[j]? = some u → RelV x u) → Vals xs us
  | [], [], _, _ => .nil
  | x :: xs, u :: us, h, r => .cons (r 0 x u rfl rfl) (vals_of (by simpa using h) fun j x u h1 h2 => r (j + 1) x u (by simpa using h1) (by simpa using h2))
  | [], _ :: _, h, _ => by simp at h
  | _ :: _, [], h, _ => by simp at h
def rngL (i : Int) (n : Nat) : List Int := (List.range n).map fun k : Nat => i + (k : Int)
section
variable {X : Cx}
theorem list_rng (hc : X.calm = true) {pins : List (Addr × Obj)} {σ : St} {H : Hp} {s : Shared} {Q : VK} {lo hi : Int} {t u v : Tok} {tk : Nat} (I : Inv X pins σ H s) (h1 : -(2 ^ 62) ≤ lo) (h2 : lo < 2 ^ 62) (h3 : -(2 ^ 62) ≤ hi) (h4 : hi < 2 ^ 62) (hz : (hi - lo).toNat ≤ 1000)
    (q : ∀ l, H l = none → Q (.ref l) (upd H l (.lst ((rngL lo (hi - lo).toNat).map V.int)))) : wpAny (model X.prog X.w) X.A (call (.type "list") [.ref s.heap.objs.size]) (EP X pins σ Q) X.xe { s with heap := s.heap.push { cls := .type "range", data := .fields #[.int lo t, .int hi u, .int 1 v] }, toks := tk } := by
  have I1 : Inv X pins σ H { s with heap := s.heap.push { cls := .type "range", data := .fields #[.int lo t, .int hi u, .int 1 v] }, toks := tk } := I.kept fun b o e => Heap.get?_push_of_some _ e
  refine call_list_range (I1.ok.hd hc) (IsRange.new ..) (small_one h1 h2 h3 h4) (n := (hi - lo).toNat) (by rw [rangeSize_one]; split <;> omega) (by omega) fun h' tk' acc' c' kp e hacc => ?_
  have hv : Vals ((rngL lo (hi - lo).toNat).map V.int) acc'.toList := vals_of (by unfold rngL; simp [hacc.1]) fun j x w hx hw => by
    have hw' : acc'[j]? = some w := by simpa using hw
    obtain ⟨tk, rfl⟩ := hacc.2 j w hw'
    unfold rngL at hx
    rw [List.getElem?_map, List.getElem?_map] at hx
    have hj : j < (hi - lo).toNat := by
      have := (Array.getElem?_eq_some_iff.mp hw').1
      rw [hacc.1] at this; exact this
    rw [List.getElem?_range hj] at hx
    cases hx
    exact ⟨tk, by rw [Int.mul_one]⟩
  exact ⟨.ref _, _, I1.laid (t' := tk') kp (Nat.le_refl _) (show ObjOk X.prog X.w _ h' _ (.lst ((rngL lo (hi - lo).toNat).map V.int)) from ⟨Nat.le_of_lt (small1000 (by unfold rngL; simp; omega)), acc'.toList, c', hv, by simpa using e⟩), rfl, q _ (I1.hok.fresh (Nat.le_refl _))⟩
def tLR1 (ta : TA) : TE := fun σ H Q => ta σ H fun vs H1 => ∃ j : Int, vs = [.int j] ∧ 0 ≤ j ∧ j ≤ 1000 ∧ ∀ l, H1 l = none → Q (.ref l) (upd H1 l (.lst ((rngL 0 j.toNat).map V.int)))
theorem pe_listRng1 {a : Expr} {ta : TA} {p p2 pos pos2 : Pos} (hc : X.calm = true) (hgl : Gl X "list") (hml : X.mg "list" = none) (hg : Gl X "range") (hm : X.mg "range" = none) (ha : PA X [a] ta) (hs : starEach [a] X.env = [(false, eval a X.env)] := by rfl)
    (he : starEach [.Call (.Name "range" p2) [a] [] pos2] X.env = (false, eval (.Call (.Name "range" p2) [a] [] pos2) X.env) :: starEach [] X.env := by rfl) :
    PE X (.Call (.Name "list" p) [.Call (.Name "range" p2) [a] [] pos2] [] pos) (tLR1 ta) := by
  intro pins s σ H Q I h
  refine wpAny_Call_Name_kw (ld_blt I hgl hml boot_list ?_ (by decide) (by decide))
  refine PyProof.Rows.callWith_type1 ?_ he rfl
  rw [he]
  show wpAny _ _ (spliced ((false, eval (.Call (.Name "range" p2) [a] [] pos2) X.env) :: backTo pos (starEach [] X.env))) _ _ s
  refine Calls.spliced_cons ?_
  refine Call_ (ld_blt I hg hm boot_range (PyProof.Rows.callWith_type1 (thn (ha pos2 pins s σ H _ I h) fun us s1 ⟨vs, H1, I1, r1, q1⟩ => ?_) hs rfl))
  obtain ⟨j, e, q1, q2, q⟩ := q1
  subst e
  cases r1 with
  | cons r rr =>
    cases rr
    obtain ⟨t, rfl⟩ := r
    refine call_range_1 (Calls.spliced_nil ?_)
    exact list_rng hc I1 (by omega) (by omega) (by omega) (by omega) (by omega) (by simpa using q)
end
end Oh

namespace Oh
/-! ### what a script brings, by the ties between -/
theorem nrm_swap (x y : Int) : nrm (x, y) = nrm (y, x) := by
  rcases nrm_or (x, y) with ⟨e1, l1⟩ | ⟨e1, l1⟩ <;> rcases nrm_or (y, x) with ⟨e2, l2⟩ | ⟨e2, l2⟩ <;> rw [e1, e2] <;> dsimp only at l1 l2 ⊢ <;> rw [Prod.mk.injEq] <;> omega
theorem bt_comm (T : List (Int × Int)) (x y : Int) : bt T x y = bt T y x := by unfold bt; rw [nrm_swap]
theorem bt_cons (t : Int × Int) (T : List (Int × Int)) (x y : Int) : bt (t :: T) x y = (if t = nrm (x, y) then 1 else 0) + bt T x y := by
  unfold bt
  rw [List.countP_cons]
  by_cases h : t = nrm (x, y)
  · rw [if_pos h, if_pos (decide_eq_true h)]; omega
  · rw [if_neg h, if_neg (by rw [decide_eq_true_iff]; exact h)]; omega
theorem bt_self {T : List (Int × Int)} (hN : ∀ t ∈ T, t.1 < t.2) (x : Int) : bt T x x = 0 := by
  unfold bt
  have : T.countP (fun u => decide (u = nrm (x, x))) = 0 := by
    rw [List.countP_eq_zero]
    intro t ht
    have h := hN t ht
    rw [decide_eq_true_iff]
    intro z
    rcases nrm_or (x, x) with ⟨e1, _⟩ | ⟨e1, _⟩ <;> rw [e1] at z <;> rw [z] at h <;> dsimp only at h <;> omega
  omega
theorem sum_pickI {k : Int} {g : Int → Int} : ∀ {F : List Int}, F.Nodup → (F.map fun j => if j = k then g j else 0).sum = if k ∈ F then g k else 0
  | [], _ => by simp
  | a :: F, h => by
    obtain ⟨h1, h2⟩ := List.nodup_cons.mp h
    rw [List.map_cons, List.sum_cons, sum_pickI h2]
    by_cases e : a = k
    · subst e
      rw [if_pos rfl, if_neg h1, if_pos List.mem_cons_self]; omega
    · rw [if_neg e]
      by_cases m : k ∈ F
      · rw [if_pos m, if_pos (List.mem_cons_of_mem _ m)]; omega
      · rw [if_neg m, if_neg (fun z => (List.mem_cons.mp z).elim (fun z => e z.symm) m)]; omega
/-! ### the table among all but one -/
end Oh

namespace Oh
end Oh

namespace Oh
def gf (l : List Int) (x : Int) : Int := l.getD x.toNat 0
/-! ### a group lends once -/
end Oh

namespace Oh
/-! ### orders: the first of a kind, and what a script takes of it -/
/-- an order of all houses -/
structure Ord (n : Nat) (ms : List Int) : Prop where
  row : Row n ms
  len : ms.length = n
theorem Ord.all {n : Nat} {ms : List Int} (h : Ord n ms) {x : Int} (hx : inr n x) : x ∈ ms := Classical.byContradiction fun z => by
  have := (h.row.more hx z).le
  rw [List.length_append, List.length_singleton, h.len] at this
  omega
/-! ### the script out of debt as a list -/
/-! ### sizes -/
end Oh

namespace Oh
end Oh

namespace Oh
/-! ### orders -/
theorem Ord.of {n : Nat} {o : List Int} (h : o.Perm (hs n)) : Ord n o :=
  ⟨⟨h.nodup_iff.mpr (hs_nodup n), fun x hx => mem_hs.mp (h.mem_iff.mp hx)⟩, by rw [h.length_eq, hs_length]⟩
/-- who is ahead -/
def ahd (o : List Int) (x : Int) : List Int := o.takeWhile fun y => decide (y ≠ x)
theorem ahd_at {x : Int} : ∀ {o : List Int} {i : Nat}, o.Nodup → o[i]? = some x → ahd o x = o.take i
  | [], i, _, h => by simp at h
  | a :: o, 0, _, h => by
    have e : a = x := by simpa using h
    subst e
    unfold ahd
    rw [List.takeWhile_cons_of_neg (by simp)]; rfl
  | a :: o, i + 1, hn, h => by
    obtain ⟨h1, h2⟩ := List.nodup_cons.mp hn
    have h' : o[i]? = some x := by simpa using h
    have hne : a ≠ x := fun z => h1 (z ▸ List.mem_of_getElem? h')
    have ih := ahd_at h2 h'
    unfold ahd at ih ⊢
    rw [List.takeWhile_cons_of_pos (by simpa using hne), ih]; rfl
/-- the most that a house has in an order -/
def bo (T : List (Int × Int)) (o : List Int) (x : Int) : Int := tt' T x (ahd o x) - 1
theorem bo_at {T : List (Int × Int)} {o : List Int} {i : Nat} {x : Int} (hn : o.Nodup) (h : o[i]? = some x) : bo T o x = tt' T x (o.take i) - 1 := by unfold bo; rw [ahd_at hn h]
def boL (n : Nat) (T : List (Int × Int)) (o : List Int) : List Int := (hs n).map (bo T o)
end Oh

namespace Oh
open PySem PySem.Spec PyProof.Rows L2
/-! ### for i in range(lo, hi, step) -/
section
variable {X : Cx} {tg : Expr}
end
section
variable {X : Cx}
end
end Oh

namespace Oh
/-! ### the sum of a bound -/
/-! ### cleared or held -/
end Oh

namespace Oh
open PySem PySem.Spec PyProof.Rows L2
section
variable {prog : Program} {w : World} {A : Around} {E : Value → Shared → Prop} {s : Shared}
end
/-! ### list(reversed(a list of whole numbers)) -/
section
variable {X : Cx}
end
end Oh

namespace Oh
/-! ### a bound counted tie by tie -/
def lat (f : Int → Int) (t : Int × Int) : Int := if f t.1 < f t.2 then t.2 else t.1
def bdf (f : Int → Int) (T : List (Int × Int)) (x : Int) : Int := ((T.countP fun t => decide (lat f t = x) : Nat) : Int) - 1
theorem nrm_eq_iff {t : Int × Int} (hl : t.1 < t.2) {x y : Int} : t = nrm (x, y) ↔ ((x = t.2 ∧ y = t.1) ∨ (x = t.1 ∧ y = t.2)) := by
  obtain ⟨t1, t2⟩ := t
  dsimp only at hl ⊢
  rcases nrm_or (x, y) with ⟨e1, l1⟩ | ⟨e1, l1⟩ <;> rw [e1] <;> dsimp only at l1 ⊢ <;> rw [Prod.mk.injEq] <;> omega
theorem sum_pick1 {ms : List Int} (hn : ms.Nodup) (k : Int) : (ms.map fun y => if y = k then (1 : Int) else 0).sum = if k ∈ ms then 1 else 0 :=
  sum_pickI (g := fun _ => (1 : Int)) hn
structure Plc1 (n : Nat) (o : List Int) (f : Int → Int) : Prop where
  ord : Ord n o
  at_ : ∀ (i : Nat) (x : Int), o[i]? = some x → f x = (i : Int)
theorem Plc1.inj {n : Nat} {o : List Int} {f : Int → Int} (h : Plc1 n o f) {x y : Int} (hx : inr n x) (hy : inr n y) (e : f x = f y) : x = y := by
  obtain ⟨i, hi, ei⟩ := List.getElem_of_mem (h.ord.all hx)
  obtain ⟨j, hj, ej⟩ := List.getElem_of_mem (h.ord.all hy)
  have a := h.at_ i x (by rw [List.getElem?_eq_getElem hi, ei])
  have b := h.at_ j y (by rw [List.getElem?_eq_getElem hj, ej])
  have : i = j := by omega
  subst this
  rw [← ei, ← ej]
theorem Plc1.ahd {n : Nat} {o : List Int} {f : Int → Int} (h : Plc1 n o f) {x y : Int} (hx : inr n x) (hy : inr n y) : y ∈ ahd o x ↔ f y < f x := by
  obtain ⟨i, hi, ei⟩ := List.getElem_of_mem (h.ord.all hx)
  obtain ⟨j, hj, ej⟩ := List.getElem_of_mem (h.ord.all hy)
  have hi' : o[i]? = some x := by rw [List.getElem?_eq_getElem hi, ei]
  have hj' : o[j]? = some y := by rw [List.getElem?_eq_getElem hj, ej]
  have a := h.at_ i x hi'
  have b := h.at_ j y hj'
  rw [ahd_at h.ord.row.nd hi', a, b]
  constructor
  · intro hm
    obtain ⟨k, hk, ek⟩ := List.getElem_of_mem hm
    rw [List.length_take] at hk
    rw [List.getElem_take] at ek
    have := h.at_ k y (by rw [List.getElem?_eq_getElem (by omega), ek])
    omega
  · intro hl
    have : j < i := by omega
    rw [← ej]
    exact List.mem_take_iff_getElem.mpr ⟨j, by omega, rfl⟩
theorem Plc1.nd {n : Nat} {o : List Int} {f : Int → Int} (h : Plc1 n o f) {x : Int} : (Oh.ahd o x).Nodup := by
  unfold Oh.ahd
  exact h.ord.row.nd.sublist (List.takeWhile_sublist _)
theorem tie_late {n : Nat} {o : List Int} {f : Int → Int} (h : Plc1 n o f) {t : Int × Int} (hb : inb n t) (hl : t.1 < t.2) {x : Int} (hx : inr n x) : ((ahd o x).map fun y => if t = nrm (x, y) then (1 : Int) else 0).sum = if lat f t = x then 1 else 0 := by
  obtain ⟨a0, a1, b0, b1, _⟩ := hb
  have i1 : inr n t.1 := ⟨a0, a1⟩
  have i2 : inr n t.2 := ⟨b0, b1⟩
  unfold lat
  by_cases c1 : x = t.1
  · have e : ((ahd o x).map fun y => if t = nrm (x, y) then (1 : Int) else 0) = (ahd o x).map fun y => if y = t.2 then (1 : Int) else 0 := List.map_congr_left fun y _ => by
      by_cases c : y = t.2
      · rw [if_pos c, if_pos ((nrm_eq_iff hl).mpr (.inr ⟨c1, c⟩))]
      · rw [if_neg c, if_neg fun w => by rcases (nrm_eq_iff hl).mp w with w | w <;> omega]
    rw [e, sum_pick1 h.nd]
    by_cases c : f t.1 < f t.2
    · rw [if_pos c, if_neg (show ¬ t.2 = x by omega), if_neg fun w => by have := (h.ahd hx i2).mp w; rw [c1] at this; omega]
    · have : f t.1 ≠ f t.2 := fun w => by have := h.inj i1 i2 w; omega
      rw [if_neg c, if_pos c1.symm, if_pos ((h.ahd hx i2).mpr (by rw [c1]; omega))]
  · by_cases c2 : x = t.2
    · have e : ((ahd o x).map fun y => if t = nrm (x, y) then (1 : Int) else 0) = (ahd o x).map fun y => if y = t.1 then (1 : Int) else 0 := List.map_congr_left fun y _ => by
        by_cases c : y = t.1
        · rw [if_pos c, if_pos ((nrm_eq_iff hl).mpr (.inl ⟨c2, c⟩))]
        · rw [if_neg c, if_neg fun w => by rcases (nrm_eq_iff hl).mp w with w | w <;> omega]
      rw [e, sum_pick1 h.nd]
      by_cases c : f t.1 < f t.2
      · rw [if_pos c, if_pos c2.symm, if_pos ((h.ahd hx i1).mpr (by rw [c2]; exact c))]
      · rw [if_neg c, if_neg (show ¬ t.1 = x by omega), if_neg fun w => by have := (h.ahd hx i1).mp w; rw [c2] at this; omega]
    · have e : ((ahd o x).map fun y => if t = nrm (x, y) then (1 : Int) else 0) = (ahd o x).map fun y => if y = x then (0 : Int) else 0 := List.map_congr_left fun y _ => by
        rw [if_neg fun w => by rcases (nrm_eq_iff hl).mp w with w | w <;> omega]
        split <;> rfl
      have e2 : (if (if f t.1 < f t.2 then t.2 else t.1) = x then (1 : Int) else 0) = 0 := if_neg (by split <;> omega)
      rw [e, sum_pickI (g := fun _ => (0 : Int)) h.nd, e2]
      split <;> rfl
theorem late_tt {n : Nat} {o : List Int} {f : Int → Int} (h : Plc1 n o f) {x : Int} (hx : inr n x) : ∀ {T : List (Int × Int)}, (∀ t ∈ T, inb n t) → (∀ t ∈ T, t.1 < t.2) → ((T.countP fun t => decide (lat f t = x) : Nat) : Int) = tt' T x (ahd o x)
  | [], _, _ => by
    unfold tt'
    have e : ((ahd o x).map fun y => bt [] x y) = (ahd o x).map fun y => if y = x then (0 : Int) else 0 := List.map_congr_left fun y _ => by
      unfold bt
      split <;> rfl
    rw [e, sum_pickI (g := fun _ => (0 : Int)) h.nd]
    split <;> rfl
  | t :: T, hb, hl => by
    have ih := late_tt h hx (T := T) (fun u hu => hb u (List.mem_cons_of_mem _ hu)) fun u hu => hl u (List.mem_cons_of_mem _ hu)
    have h1 := tie_late h (hb t List.mem_cons_self) (hl t List.mem_cons_self) hx
    have e : tt' (t :: T) x (ahd o x) = ((ahd o x).map fun y => if t = nrm (x, y) then (1 : Int) else 0).sum + tt' T x (ahd o x) := by
      unfold tt'
      rw [← sum_add (fun y => if t = nrm (x, y) then (1 : Int) else 0) (fun y => bt T x y)]
      exact sum_congr fun y _ => bt_cons t T x y
    rw [e, h1, ← ih, List.countP_cons]
    by_cases c : lat f t = x
    · rw [if_pos c, if_pos (decide_eq_true c)]; omega
    · rw [if_neg c, if_neg (by rw [decide_eq_false c]; decide)]; omega
theorem late_nrm {n : Nat} {o : List Int} {f : Int → Int} (h : Plc1 n o f) {t : Int × Int} (hb : inb n t) : lat f (nrm t) = lat f t := by
  obtain ⟨a0, a1, b0, b1, ne⟩ := hb
  rcases nrm_or t with ⟨e, _⟩ | ⟨e, _⟩ <;> rw [e]
  have : f t.1 ≠ f t.2 := fun w => ne (h.inj ⟨a0, a1⟩ ⟨b0, b1⟩ w)
  unfold lat
  dsimp only
  by_cases c : f t.1 < f t.2
  · rw [if_pos c, if_neg (by omega)]
  · rw [if_neg c, if_pos (by omega)]
theorem bdf_bo {n : Nat} {T T' : List (Int × Int)} (hT : ∀ t ∈ T, inb n t) (hT' : ∀ t ∈ T', inb n t) (hN : ∀ t ∈ T', t.1 < t.2) (hp : T'.Perm (T.map nrm)) {o : List Int} {f : Int → Int} (h : Plc1 n o f) {x : Int} (hx : inr n x) : bdf f T x = bo T' o x := by
  unfold bdf bo
  rw [← late_tt h hx hT' hN, hp.countP_eq, List.countP_map]
  congr 2
  refine List.countP_congr fun t ht => ?_
  show decide (lat f t = x) = true ↔ decide (lat f (nrm t) = x) = true
  rw [late_nrm h (hT t ht)]
end Oh

namespace Oh
/-! ### all orders, and how a bound is known again -/
theorem rise_eq {α : Type} {f : α → Int} : ∀ {a b : List α}, (a.map f).Pairwise (· < ·) → (b.map f).Pairwise (· < ·) → (∀ k, k ∈ a ↔ k ∈ b) → a = b
  | [], [], _, _, _ => rfl
  | [], y :: b, _, _, h => nomatch (h y).mpr List.mem_cons_self
  | x :: a, [], _, _, h => nomatch (h x).mp List.mem_cons_self
  | x :: a, y :: b, h1, h2, h => by
    rw [List.map_cons, List.pairwise_cons] at h1 h2
    have u1 : ∀ k ∈ a, f x < f k := fun k hk => h1.1 _ (List.mem_map_of_mem hk)
    have u2 : ∀ k ∈ b, f y < f k := fun k hk => h2.1 _ (List.mem_map_of_mem hk)
    have e : x = y := by
      rcases List.mem_cons.mp ((h x).mp List.mem_cons_self) with z | z
      · exact z
      · rcases List.mem_cons.mp ((h y).mpr List.mem_cons_self) with z2 | z2
        · exact z2.symm
        · have := u1 _ z2; have := u2 _ z; omega
    subst e
    rw [rise_eq h1.2 h2.2 fun k => ⟨fun hk => ?_, fun hk => ?_⟩]
    · rcases List.mem_cons.mp ((h k).mp (List.mem_cons_of_mem _ hk)) with z | z
      · have := u1 _ hk; rw [z] at this; omega
      · exact z
    · rcases List.mem_cons.mp ((h k).mpr (List.mem_cons_of_mem _ hk)) with z | z
      · have := u2 _ hk; rw [z] at this; omega
      · exact z
/-- the orders of the houses from 0 on -/
def insA (h : Int) (o : List Int) (p : Nat) : List Int := o.take p ++ h :: o.drop p
def insO (h : Int) (o : List Int) : List (List Int) := (List.range (o.length + 1)).map (insA h o)
def wiO (h : Int) (os : List (List Int)) : List (List Int) := os.flatMap (insO h)
def ords : Nat → List (List Int)
  | 0 => [[]]
  | k + 1 => wiO (k : Int) (ords k)
theorem mem_ords : ∀ {n : Nat} {o : List Int}, o ∈ ords n ↔ o.Perm (hs n)
  | 0, o => by
    show o ∈ [[]] ↔ o.Perm []
    rw [List.mem_singleton, List.perm_nil]
  | n + 1, o => by
    show o ∈ (ords n).flatMap (insO (n : Int)) ↔ _
    rw [List.mem_flatMap]
    constructor
    · rintro ⟨o', ho', h⟩
      obtain ⟨p, hp, rfl⟩ := List.mem_map.mp h
      have a := mem_ords.mp ho'
      rw [hs_succ]
      exact ((ins_perm _ _ _).trans (a.cons _)).trans (List.perm_append_singleton (n : Int) (hs n)).symm
    · intro h
      have hm : (n : Int) ∈ o := h.mem_iff.mpr (by rw [hs_succ]; exact List.mem_append_right _ List.mem_cons_self)
      obtain ⟨l, r, rfl⟩ := List.append_of_mem hm
      have h2 : (l ++ r).Perm (hs n) := by
        rw [hs_succ] at h
        exact ((List.perm_middle.symm.trans h).trans (List.perm_append_singleton (n : Int) (hs n))).cons_inv
      refine ⟨l ++ r, mem_ords.mpr h2, List.mem_map.mpr ⟨l.length, List.mem_range.mpr (by rw [List.length_append]; omega), ?_⟩⟩
      unfold insA
      rw [List.take_left, List.drop_left]
theorem ords_len {n : Nat} {o : List Int} (h : o ∈ ords n) : o.length = n := by rw [(mem_ords.mp h).length_eq, hs_length]
theorem ords_few : ∀ {n : Nat}, n ≤ 5 → (ords n).length ≤ 120
  | 0, _ => by decide
  | 1, _ => by decide
  | 2, _ => by decide
  | 3, _ => by decide
  | 4, _ => by decide +kernel
  | 5, _ => by decide +kernel
  | n + 6, h => by omega
/-! ### ties to some of the houses, counted -/
def tch (x : Int) (g : List Int) (t : Int × Int) : Bool := (decide (t.1 = x) && decide (t.2 ∈ g)) || (decide (t.2 = x) && decide (t.1 ∈ g))
theorem nrm_nrm {t : Int × Int} {x y : Int} : nrm t = nrm (x, y) ↔ ((x = t.2 ∧ y = t.1) ∨ (x = t.1 ∧ y = t.2)) := by
  obtain ⟨t1, t2⟩ := t
  rcases nrm_or (t1, t2) with ⟨e1, l1⟩ | ⟨e1, l1⟩ <;> rcases nrm_or (x, y) with ⟨e2, l2⟩ | ⟨e2, l2⟩ <;> rw [e1, e2] <;> dsimp only at l1 l2 ⊢ <;> rw [Prod.mk.injEq] <;> omega
theorem tch_one {n : Nat} {t : Int × Int} (hb : inb n t) {x : Int} {g : List Int} (hg : g.Nodup) : (g.map fun y => if nrm t = nrm (x, y) then (1 : Int) else 0).sum = if tch x g t = true then 1 else 0 := by
  obtain ⟨a0, a1, b0, b1, ne⟩ := hb
  have key : tch x g t = true ↔ (t.1 = x ∧ t.2 ∈ g) ∨ (t.2 = x ∧ t.1 ∈ g) := by unfold tch; simp
  by_cases c1 : x = t.1
  · have e : (g.map fun y => if nrm t = nrm (x, y) then (1 : Int) else 0) = g.map fun y => if y = t.2 then (1 : Int) else 0 := List.map_congr_left fun y _ => by
      by_cases c : y = t.2
      · rw [if_pos c, if_pos (nrm_nrm.mpr (.inr ⟨c1, c⟩))]
      · rw [if_neg c, if_neg fun w => by rcases nrm_nrm.mp w with w | w <;> omega]
    rw [e, sum_pick1 hg]
    by_cases c : t.2 ∈ g
    · rw [if_pos c, if_pos (key.mpr (.inl ⟨c1.symm, c⟩))]
    · rw [if_neg c, if_neg fun w => by rcases key.mp w with w | w; exact c w.2; exact ne (c1.symm.trans w.1.symm)]
  · by_cases c2 : x = t.2
    · have e : (g.map fun y => if nrm t = nrm (x, y) then (1 : Int) else 0) = g.map fun y => if y = t.1 then (1 : Int) else 0 := List.map_congr_left fun y _ => by
        by_cases c : y = t.1
        · rw [if_pos c, if_pos (nrm_nrm.mpr (.inl ⟨c2, c⟩))]
        · rw [if_neg c, if_neg fun w => by rcases nrm_nrm.mp w with w | w <;> omega]
      rw [e, sum_pick1 hg]
      by_cases c : t.1 ∈ g
      · rw [if_pos c, if_pos (key.mpr (.inr ⟨c2.symm, c⟩))]
      · rw [if_neg c, if_neg fun w => by rcases key.mp w with w | w; exact c1 w.1.symm; exact c w.2]
    · have e : (g.map fun y => if nrm t = nrm (x, y) then (1 : Int) else 0) = g.map fun y => if y = x then (0 : Int) else 0 := List.map_congr_left fun y _ => by
        rw [if_neg fun w => by rcases nrm_nrm.mp w with w | w <;> omega]
        split <;> rfl
      rw [e, sum_pickI (g := fun _ => (0 : Int)) hg, if_neg (c := tch x g t = true) fun w => by rcases key.mp w with w | w; exact c1 w.1.symm; exact c2 w.1.symm]
      split <;> rfl
theorem tch_all {n : Nat} {x : Int} {g : List Int} (hg : g.Nodup) : ∀ {T : List (Int × Int)}, (∀ t ∈ T, inb n t) → ((T.countP (tch x g) : Nat) : Int) = tt' (T.map nrm) x g
  | [], _ => by
    unfold tt'
    have e : (g.map fun y => bt (([] : List (Int × Int)).map nrm) x y) = g.map fun y => if y = x then (0 : Int) else 0 := List.map_congr_left fun y _ => by
      unfold bt
      split <;> rfl
    rw [e, sum_pickI (g := fun _ => (0 : Int)) hg]
    split <;> rfl
  | t :: T, hb => by
    have ih := tch_all hg (x := x) (T := T) fun u hu => hb u (List.mem_cons_of_mem _ hu)
    have h1 := tch_one (hb t List.mem_cons_self) hg (x := x)
    have e : tt' ((t :: T).map nrm) x g = (g.map fun y => if nrm t = nrm (x, y) then (1 : Int) else 0).sum + tt' (T.map nrm) x g := by
      unfold tt'
      rw [← sum_add (fun y => if nrm t = nrm (x, y) then (1 : Int) else 0) (fun y => bt (T.map nrm) x y)]
      exact sum_congr fun y _ => bt_cons _ _ x y
    rw [e, h1, ← ih, List.countP_cons]
    by_cases c : tch x g t = true
    · rw [if_pos c, if_pos c]; omega
    · rw [if_neg c, if_neg c]; omega
theorem tt_permT {T T' : List (Int × Int)} (h : T'.Perm T) (x : Int) (g : List Int) : tt' T' x g = tt' T x g := by
  unfold tt'
  refine sum_congr fun y _ => ?_
  unfold bt
  rw [h.countP_eq]
theorem tt_perm {T : List (Int × Int)} {x : Int} {g g' : List Int} (h : g.Perm g') : tt' T x g = tt' T x g' := by
  unfold tt'
  exact sum_perm (h.map _)
theorem tch_tt {n : Nat} {T T' : List (Int × Int)} (hT : ∀ t ∈ T, inb n t) (hp : T'.Perm (T.map nrm)) {x : Int} {g : List Int} (hg : g.Nodup) : ((T.countP (tch x g) : Nat) : Int) = tt' T' x g := by
  rw [tch_all hg hT, tt_permT hp]
theorem tt_cons (T : List (Int × Int)) (x y : Int) (g : List Int) : tt' T x (y :: g) = bt T x y + tt' T x g := by unfold tt'; rw [List.map_cons, List.sum_cons]
theorem bt_pos (T : List (Int × Int)) (x y : Int) : 0 ≤ bt T x y := by unfold bt; omega
/-! ### an order, its last house first -/
def GoR (T : List (Int × Int)) (f : Int → Int) : List Int → Prop
  | [] => True
  | z :: r => f z = tt' T z r - 1 ∧ GoR T f r
theorem GoR.le {T : List (Int × Int)} {f : Int → Int} {x : Int} : ∀ {r : List Int}, GoR T f r → x ∈ r → f x ≤ tt' T x r - 1
  | z :: r, h, hx => by
    rw [tt_cons]
    have := bt_pos T x z
    rcases List.mem_cons.mp hx with e | e
    · subst e; have := h.1; omega
    · have := GoR.le h.2 e; omega
theorem GoR.less {T : List (Int × Int)} {f : Int → Int} {x : Int} : ∀ {r : List Int}, GoR T f r → x ∈ r → f x = tt' T x r - 1 → GoR T f (r.erase x)
  | z :: r, h, hx, e => by
    by_cases c : z = x
    · subst c
      rw [List.erase_cons_head]
      exact h.2
    · have hx' : x ∈ r := (List.mem_cons.mp hx).resolve_left fun w => c w.symm
      rw [List.erase_cons_tail (by simpa using c)]
      rw [tt_cons] at e
      have l := GoR.le h.2 hx'
      have b := bt_pos T x z
      refine ⟨?_, GoR.less h.2 hx' (by omega)⟩
      have p : tt' T z r = tt' T z (x :: r.erase x) := tt_perm (List.perm_cons_erase hx')
      rw [tt_cons, bt_comm T z x] at p
      have := h.1
      omega
theorem GoR.congr {T : List (Int × Int)} {f g : Int → Int} : ∀ {r : List Int}, (∀ x ∈ r, f x = g x) → GoR T f r → GoR T g r
  | [], _, _ => trivial
  | z :: r, e, h => ⟨by rw [← e z List.mem_cons_self]; exact h.1, GoR.congr (fun x hx => e x (List.mem_cons_of_mem _ hx)) h.2⟩
theorem GoR.of {T : List (Int × Int)} {f : Int → Int} : ∀ {r : List Int}, (∀ l x m, r = l ++ x :: m → f x = tt' T x m - 1) → GoR T f r
  | [], _ => trivial
  | z :: r, h => ⟨h [] z r rfl, GoR.of fun l x m e => h (z :: l) x m (by rw [e]; rfl)⟩
theorem GoR.bound {T : List (Int × Int)} {o : List Int} (nd : o.Nodup) : GoR T (bo T o) o.reverse := by
  refine GoR.of fun l x m e => ?_
  have e2 : o = m.reverse ++ x :: l.reverse := by
    have := congrArg List.reverse e
    rw [List.reverse_reverse] at this
    rw [this]
    simp
  have at1 : o[m.reverse.length]? = some x := by rw [e2]; simp
  rw [bo_at nd at1, e2, List.take_left, tt_perm (List.reverse_perm m)]
/-- the houses that are left: some order of them has these numbers -/
def Lft (T : List (Int × Int)) (f : Int → Int) (left : List Int) : Prop := ∃ r : List Int, r.Perm left ∧ GoR T f r
theorem Lft.some {T : List (Int × Int)} (hN : ∀ t ∈ T, t.1 < t.2) {f : Int → Int} {left : List Int} (h : Lft T f left) (hne : left ≠ []) : ∃ z ∈ left, f z = tt' T z left - 1 := by
  obtain ⟨r, hp, g⟩ := h
  cases r with
  | nil => exact absurd (List.nil_perm.mp hp) hne
  | cons z r =>
    refine ⟨z, hp.mem_iff.mp List.mem_cons_self, ?_⟩
    rw [← tt_perm hp, tt_cons, bt_self hN]
    have := g.1
    omega
theorem Lft.step {T : List (Int × Int)} {f : Int → Int} {left : List Int} (h : Lft T f left) {x : Int} (hx : x ∈ left) (e : f x = tt' T x left - 1) : Lft T f (left.erase x) := by
  obtain ⟨r, hp, g⟩ := h
  exact ⟨r.erase x, hp.erase x, g.less (hp.mem_iff.mpr hx) (by rw [tt_perm hp]; exact e)⟩
theorem gf_boL {n : Nat} {T : List (Int × Int)} {o : List Int} {x : Int} (hx : inr n x) : gf (boL n T o) x = bo T o x := by
  obtain ⟨h0, h1⟩ := hx
  unfold gf boL
  rw [List.getD_eq_getElem?_getD, List.getElem?_map, hs_get (by omega)]
  show bo T o ((x.toNat : Nat) : Int) = _
  rw [Int.toNat_of_nonneg h0]
theorem Lft.bound {n : Nat} {T : List (Int × Int)} {o : List Int} (h : o.Perm (hs n)) : Lft T (gf (boL n T o)) (hs n) :=
  ⟨o.reverse, (List.reverse_perm o).trans h, (GoR.bound (h.nodup_iff.mpr (hs_nodup n))).congr fun x hx => (gf_boL (mem_hs.mp (h.mem_iff.mp (List.mem_reverse.mp hx)))).symm⟩
theorem bo_rng {n : Nat} {T : List (Int × Int)} (hT : ∀ t ∈ T, inb n t) (hN : ∀ t ∈ T, t.1 < t.2) {o : List Int} (nd : o.Nodup) (x : Int) : -1 ≤ bo T o x ∧ bo T o x ≤ (T.length : Int) - 1 := by
  have e : T.map nrm = T := by
    conv => rhs; rw [← List.map_id T]
    refine List.map_congr_left fun t ht => ?_
    rcases nrm_or t with ⟨e, _⟩ | ⟨_, l⟩
    · exact e
    · have := hN t ht; omega
  have h := tch_tt hT (T' := T) (by rw [e]) (x := x) (g := ahd o x) (nd.sublist (List.takeWhile_sublist _))
  have := List.countP_le_length (p := tch x (ahd o x)) (l := T)
  unfold bo
  omega
theorem boL_rng {n : Nat} {T : List (Int × Int)} (hT : ∀ t ∈ T, inb n t) (hN : ∀ t ∈ T, t.1 < t.2) (hl : T.length ≤ 100) {o : List Int} (nd : o.Nodup) : ∀ x ∈ boL n T o, -499 ≤ x ∧ x ≤ 499 := by
  intro x hx
  obtain ⟨y, _, rfl⟩ := List.mem_map.mp hx
  have := bo_rng hT hN nd y
  omega
theorem boL_len {n : Nat} {T : List (Int × Int)} {o : List Int} : (boL n T o).length = n := by unfold boL; rw [List.length_map, hs_length]
end Oh

/-! ### sorting as many as there are: keys that are all unlike, told apart by a number c -/
namespace Oh
open PySem PyProof.Rows
def kv (c : Keyed → Int) (xs : Array Keyed) (i : Nat) : Int := match xs[i]? with
  | some p => c p
  | none => 0
theorem kv_congr {c : Keyed → Int} {xs ys : Array Keyed} {i j : Nat} (h : xs[i]? = ys[j]?) : kv c xs i = kv c ys j := by unfold kv; rw [h]
theorem kv_at {c : Keyed → Int} {xs : Array Keyed} {i : Nat} {p : Keyed} (h : xs[i]? = some p) : kv c xs i = c p := by unfold kv; rw [h]
/-- ascending from lo to hi -/
def Sg (c : Keyed → Int) (xs : Array Keyed) (lo hi : Nat) : Prop := ∀ i j, lo ≤ i → i < j → j < hi → kv c xs i < kv c xs j
theorem Sg.snoc {c : Keyed → Int} {xs : Array Keyed} {lo hi : Nat} (h : Sg c xs lo hi) (hl : lo < hi) (hs : kv c xs (hi - 1) < kv c xs hi) : Sg c xs lo (hi + 1) := fun i j a b d => by
  by_cases e : j = hi
  · subst e
    by_cases f : i = j - 1
    · rw [f]; exact hs
    · exact Int.lt_trans (h i (j - 1) a (by omega) (by omega)) hs
  · exact h i j a b (by omega)
theorem Sg.congr {c : Keyed → Int} {xs ys : Array Keyed} {lo hi : Nat} (h : Sg c xs lo hi) (e : ∀ i, lo ≤ i → i < hi → ys[i]? = xs[i]?) : Sg c ys lo hi := fun i j a b d => by
  rw [kv_congr (e i a (by omega)), kv_congr (e j (by omega) d)]; exact h i j a b d
/-- descending -/
def Dg (c : Keyed → Int) (xs : Array Keyed) (lo hi : Nat) : Prop := ∀ i j, lo ≤ i → i < j → j < hi → kv c xs j < kv c xs i
theorem Dg.snoc {c : Keyed → Int} {xs : Array Keyed} {lo hi : Nat} (h : Dg c xs lo hi) (hl : lo < hi) (hs : kv c xs hi < kv c xs (hi - 1)) : Dg c xs lo (hi + 1) := fun i j a b d => by
  by_cases e : j = hi
  · subst e
    by_cases f : i = j - 1
    · rw [f]; exact hs
    · exact Int.lt_trans hs (h i (j - 1) a (by omega) (by omega))
  · exact h i j a b (by omega)
/-- the two are alike outside lo to hi -/
def Out (xs ys : Array Keyed) (lo hi : Nat) : Prop := ∀ i, i < lo ∨ hi ≤ i → ys[i]? = xs[i]?
theorem Out.refl (xs : Array Keyed) (lo hi : Nat) : Out xs xs lo hi := fun _ _ => rfl
theorem Out.trans {xs ys zs : Array Keyed} {lo hi : Nat} (a : Out xs ys lo hi) (b : Out ys zs lo hi) : Out xs zs lo hi := fun i h => (b i h).trans (a i h)
theorem Out.wide {xs ys : Array Keyed} {lo hi lo' hi' : Nat} (a : Out xs ys lo hi) (h1 : lo' ≤ lo) (h2 : hi ≤ hi') : Out xs ys lo' hi' := fun i h => a i (by omega)
theorem out_mirror {xs : Array Keyed} {i j : Nat} (hj : j ≤ xs.size) : Out xs (mirror xs i j ((j - i) / 2)) i j := fun k h => by
  rw [getElem?_mirror_all hj, if_neg (by omega)]
theorem sg_mirror {c : Keyed → Int} {xs : Array Keyed} {i j : Nat} (hj : j ≤ xs.size) (h : Dg c xs i j) : Sg c (mirror xs i j ((j - i) / 2)) i j := fun a b h1 h2 h3 => by
  have e1 : kv c (mirror xs i j ((j - i) / 2)) a = kv c xs (i + j - 1 - a) := kv_congr (by rw [getElem?_mirror_all hj, if_pos (by omega)])
  have e2 : kv c (mirror xs i j ((j - i) / 2)) b = kv c xs (i + j - 1 - b) := kv_congr (by rw [getElem?_mirror_all hj, if_pos (by omega)])
  rw [e1, e2]
  exact h _ _ (by omega) (by omega) (by omega)

structure SB (κ : SortKind) (a₀ : Array Keyed) (st : SortSt) : Prop where
  perm : (arrOf st).Perm a₀
  kind : kindOf st = κ
  ok : failedOf st = none
section
variable {κ : SortKind} {a₀ : Array Keyed} {st : SortSt}
theorem SB.size (h : SB κ a₀ st) : (arrOf st).size = a₀.size := h.perm.size_eq
theorem SB.arr (h : SB κ a₀ st) {xs : Array Keyed} (hp : xs.Perm (arrOf st)) : SB κ a₀ (setArr st xs) := ⟨hp.trans h.perm, h.kind, h.ok⟩
theorem SB.mem (h : SB κ a₀ st) {i : Nat} {p : Keyed} (e : (arrOf st)[i]? = some p) : p ∈ a₀.toList := by
  refine (Array.perm_iff_toList_perm.mp h.perm).mem_iff.mp ?_
  rw [← Array.getElem?_toList] at e
  exact List.mem_of_getElem? e
theorem SB.at (h : SB κ a₀ st) {i : Nat} (hi : i < a₀.size) : ∃ p, (arrOf st)[i]? = some p := ⟨_, getElem?_pos (arrOf st) i (by rw [h.size]; exact hi)⟩
end
/-- unlike keys stay unlike -/
theorem nd_ne {c : Keyed → Int} {a₀ xs : Array Keyed} (hp : xs.Perm a₀) (hn : (a₀.toList.map c).Nodup) {i j : Nat} (hi : i < xs.size) (hj : j < xs.size) (hij : i ≠ j) : kv c xs i ≠ kv c xs j := by
  have h1 : (xs.toList.map c).Nodup := ((Array.perm_iff_toList_perm.mp hp).map c).nodup_iff.mpr hn
  have e1 : (xs.toList.map c)[i]? = some (kv c xs i) := by
    rw [List.getElem?_map, Array.getElem?_toList]
    unfold kv
    rw [getElem?_pos xs i hi]; rfl
  have e2 : (xs.toList.map c)[j]? = some (kv c xs j) := by
    rw [List.getElem?_map, Array.getElem?_toList]
    unfold kv
    rw [getElem?_pos xs j hj]; rfl
  intro e
  rw [e] at e1
  exact hij ((List.getElem?_inj (by simpa using hi) h1).mp (e1.trans e2.symm))

def Asks (prog : Program) (w : World) (A : Around) (s : Shared) (κ : SortKind) (c : Keyed → Int) (a₀ : Array Keyed) : Prop :=
  ∀ x ∈ a₀.toList, ∀ y ∈ a₀.toList, ∀ (E : Value → Shared → Prop) (Q : Bool → Shared → Prop), Q (decide (c x < c y)) s → wpAny (model prog w) A (keyLt' κ x.1 y.1) Q E s

section
variable {prog : Program} {w : World} {A : Around} {E : Value → Shared → Prop} {s : Shared} {κ : SortKind} {c : Keyed → Int} {a₀ : Array Keyed}
theorem lt_ok (hA : Asks prog w A s κ c a₀) {st : SortSt} {x y : Keyed} {Q : Option Bool → SortSt → Prop} (hk : kindOf st = κ) (hx : x ∈ a₀.toList) (hy : y ∈ a₀.toList) (h : Q (some (decide (c x < c y))) st) : wpS (model prog w) A E s (lt' x y) Q st := by
  rw [lt'_eq]
  refine wpS_bind (wpS_get ?_)
  rw [hk]
  exact wpS_bind (wpS_lift (wpAny_attempt (hA x hx y hy _ _ ⟨rfl, wpS_pure h⟩)))
theorem elem_ok {arr : Array Keyed} {i : Nat} {p : Keyed} {Q : Keyed → SortSt → Prop} {st : SortSt} (e : arr[i]? = some p) (h : Q p st) : wpS (model prog w) A E s (elem' arr i) Q st := by
  rw [elem'_eq, e]; exact wpS_pure h
theorem ltAt_ok (hA : Asks prog w A s κ c a₀) {st : SortSt} {i j : Nat} {Q : Option Bool → SortSt → Prop} (hB : SB κ a₀ st) (hi : i < a₀.size) (hj : j < a₀.size) (h : Q (some (decide (kv c (arrOf st) i < kv c (arrOf st) j))) st) : wpS (model prog w) A E s (ltAt' i j) Q st := by
  obtain ⟨p, ep⟩ := hB.at hi
  obtain ⟨q, eq⟩ := hB.at hj
  rw [kv_at ep, kv_at eq] at h
  rw [ltAt'_eq]
  refine wpS_bind (wpS_get ?_)
  exact wpS_bind (elem_ok ep (wpS_bind (elem_ok eq (lt_ok hA hB.kind (hB.mem ep) (hB.mem eq) h))))

/-- what a run leaves behind it -/
def RunQ (κ : SortKind) (c : Keyed → Int) (a₀ : Array Keyed) (st : SortSt) (lo nrem m : Nat) (st' : SortSt) : Prop :=
  SB κ a₀ st' ∧ Out (arrOf st) (arrOf st') lo (lo + nrem) ∧ pendingOf st' = pendingOf st ∧ 1 ≤ m ∧ m ≤ nrem ∧ Sg c (arrOf st') lo (lo + m)
theorem run_ok (hA : Asks prog w A s κ c a₀) (hn : (a₀.toList.map c).Nodup) {st : SortSt} {lo nrem : Nat} {Q : Option Nat → SortSt → Prop} (hB : SB κ a₀ st) (h1 : 1 ≤ nrem) (hz : lo + nrem ≤ a₀.size)
    (h : ∀ m st', RunQ κ c a₀ st lo nrem m st' → Q (some m) st') : wpS (model prog w) A E s (countRun' lo nrem) Q st := by
  have asc : ∀ (st1 : SortSt) (a : Nat), SB κ a₀ st1 → 1 ≤ a → a ≤ nrem → Sg c (arrOf st1) lo (lo + a) → ∀ R : Option (Option Nat) × Nat → SortSt → Prop,
      (∀ n, a ≤ n → n ≤ nrem → Sg c (arrOf st1) lo (lo + n) → (n = nrem ∨ kv c (arrOf st1) (lo + n) < kv c (arrOf st1) (lo + n - 1)) → R (none, n) st1) →
      wpS (model prog w) A E s (forIn [a:nrem] ((none, a) : Option (Option Nat) × Nat) fun _ r => do
        let x ← ltAt' (lo + r.snd) (lo + r.snd - 1)
        match x with
        | some smaller => if smaller = true then pure (ForInStep.done (none, r.snd)) else pure (ForInStep.yield (none, r.snd + 1))
        | _ => pure (ForInStep.done (some none, r.snd))) R st1 := by
    intro st1 a hB1 ha han hs R hR
    refine wpS_forRange (I := fun x r st' => st' = st1 ∧ r = (none, x) ∧ Sg c (arrOf st1) lo (lo + x)) ?_ ?_ ⟨rfl, rfl, hs⟩
    · rintro x r st' hx1 hx2 ⟨rfl, rfl, hs'⟩
      dsimp only
      refine wpS_bind (ltAt_ok hA hB1 (by omega) (by omega) ?_)
      dsimp only
      by_cases hl : kv c (arrOf st') (lo + x) < kv c (arrOf st') (lo + x - 1)
      · rw [if_pos (decide_eq_true hl)]
        exact wpS_pure (hR x hx1 (by omega) hs' (.inr hl))
      · rw [if_neg (by simpa using hl)]
        have hne := nd_ne hB1.perm hn (i := lo + x) (j := lo + x - 1) (by rw [hB1.size]; omega) (by rw [hB1.size]; omega) (by omega)
        exact wpS_pure ⟨rfl, rfl, hs'.snoc (by omega) (by omega)⟩
    · rintro r st' ⟨rfl, rfl, hs'⟩
      rw [show max a nrem = nrem by omega] at hs' ⊢
      exact hR nrem han (Nat.le_refl _) hs' (.inl rfl)
  rw [countRun'_eq]
  refine wpS_bind (asc st 1 hB (Nat.le_refl _) h1 (fun i j a b d => by omega) _ fun n n1 n2 hs hor => ?_)
  dsimp only
  by_cases hnn : n = nrem
  · rw [if_pos (by simpa using hnn)]
    exact wpS_pure (h n st ⟨hB, Out.refl _ _ _, rfl, n1, n2, hs⟩)
  rw [if_neg (by simpa using hnn)]
  have hlt := hor.resolve_left hnn
  by_cases hgt : n > 1
  · rw [if_pos hgt]
    refine wpS_bind (ltAt_ok hA hB (by omega) (by omega) ?_)
    dsimp only
    rw [if_pos (decide_eq_true (hs lo (lo + n - 1) (Nat.le_refl _) (by omega) (by omega)))]
    exact wpS_pure (h n st ⟨hB, Out.refl _ _ _, rfl, n1, n2, hs⟩)
  rw [if_neg hgt]
  have en : n = 1 := by omega
  subst en
  refine wpS_bind (wpS_lift (wpAny_rule ⟨rfl, ?_⟩))
  refine wpS_bind (wpS_mono (wpS_forRange (I := fun x r st' => st' = st ∧ r = (none, x, 0) ∧ Dg c (arrOf st) lo (lo + x)) (Q := fun r st' => st' = st ∧ ∃ m, r = (none, m, 0) ∧ 2 ≤ m ∧ m ≤ nrem ∧ Dg c (arrOf st) lo (lo + m)) ?_ ?_ ⟨rfl, rfl, ?_⟩) ?_)
  · rintro x r st' hx1 hx2 ⟨rfl, rfl, hd⟩
    dsimp only
    refine wpS_bind (ltAt_ok hA hB (by omega) (by omega) ?_)
    dsimp only
    by_cases hl : kv c (arrOf st') (lo + x) < kv c (arrOf st') (lo + x - 1)
    · rw [if_pos (decide_eq_true hl), if_neg (by omega)]
      exact wpS_pure ⟨rfl, rfl, hd.snoc (by omega) hl⟩
    · rw [if_neg (by simpa using hl)]
      have hne := nd_ne hB.perm hn (i := lo + x) (j := lo + x - 1) (by rw [hB.size]; omega) (by rw [hB.size]; omega) (by omega)
      refine wpS_bind (ltAt_ok hA hB (by omega) (by omega) ?_)
      dsimp only
      rw [if_pos (decide_eq_true (by omega))]
      exact wpS_pure ⟨rfl, x, rfl, by omega, by omega, hd⟩
  · rintro r st' ⟨rfl, rfl, hd⟩
    rw [show max (1 + 1) nrem = nrem by omega] at hd ⊢
    exact ⟨rfl, nrem, rfl, by omega, Nat.le_refl _, hd⟩
  · intro i j a b d
    have ei : i = lo := by omega
    have ej : j = lo + 1 := by omega
    subst ei ej
    rwa [show i + 1 - 1 = i by omega] at hlt
  · rintro r st' ⟨rfl, m, rfl, m2, mn, hd⟩
    dsimp only
    rw [if_neg (by omega)]
    have hsz : lo + m ≤ (arrOf st').size := by rw [hB.size]; omega
    refine wpS_bind (wpS_reverse ?_)
    have hB2 := hB.arr (mirror_perm (arrOf st') lo (lo + m) ((lo + m - lo) / 2))
    refine wpS_bind (asc _ m hB2 (by omega) mn (sg_mirror hsz hd) _ fun n' a1 a2 hs' _ => ?_)
    exact wpS_pure (h n' _ ⟨hB2, (out_mirror hsz).wide (Nat.le_refl _) (by omega), rfl, by omega, a2, hs'⟩)
end
end Oh

namespace Oh
open PySem PyProof.Rows
theorem kv_bub {c : Keyed → Int} {xs : Array Keyed} {src d : Nat} (hs : src < xs.size) (hd : d ≤ src) (k : Nat) :
    kv c (bubble xs src d) k = if k = src - d then kv c xs src else if src - d < k ∧ k ≤ src then kv c xs (k - 1) else kv c xs k := by
  have e := getElem?_bubble hs d hd k
  split
  · next h1 => rw [if_pos h1] at e; exact kv_congr e
  · next h1 =>
    rw [if_neg h1] at e
    split
    · next h2 => rw [if_pos h2] at e; exact kv_congr e
    · next h2 => rw [if_neg h2] at e; exact kv_congr e
section
variable {prog : Program} {w : World} {A : Around} {E : Value → Shared → Prop} {s : Shared} {κ : SortKind} {c : Keyed → Int} {a₀ : Array Keyed}
theorem sbin_ok (hA : Asks prog w A s κ c a₀) (hn : (a₀.toList.map c).Nodup) {st : SortSt} {lo n ok : Nat} {Q : Bool → SortSt → Prop} (hB : SB κ a₀ st) (h1 : 1 ≤ ok) (hok : ok ≤ n) (hz : lo + n ≤ a₀.size) (hs : Sg c (arrOf st) lo (lo + ok))
    (h : ∀ st', SB κ a₀ st' → Out (arrOf st) (arrOf st') lo (lo + n) → pendingOf st' = pendingOf st → Sg c (arrOf st') lo (lo + n) → Q true st') : wpS (model prog w) A E s (binarySort' lo n ok) Q st := by
  rw [binarySort'_eq]
  refine wpS_bind (wpS_mono (wpS_forRange (I := fun k r st' => r = (none, ()) ∧ SB κ a₀ st' ∧ Out (arrOf st) (arrOf st') lo (lo + n) ∧ pendingOf st' = pendingOf st ∧ Sg c (arrOf st') lo (lo + k))
    (Q := fun r st' => r = (none, ()) ∧ SB κ a₀ st' ∧ Out (arrOf st) (arrOf st') lo (lo + n) ∧ pendingOf st' = pendingOf st ∧ Sg c (arrOf st') lo (lo + n)) ?_ ?_ ?_) ?_)
  · rintro k r st' hk1 hk2 ⟨rfl, hB', ho, hp, hs'⟩
    have hk : lo + k < a₀.size := by omega
    refine wpS_bind (wpS_mono (wpS_forRange (I := fun x r st'' => st'' = st' ∧ ∃ a b, r = (none, a, b) ∧ a ≤ b ∧ b ≤ k ∧ b - a ≤ k - x ∧
        (∀ i, i < a → kv c (arrOf st') (lo + i) < kv c (arrOf st') (lo + k)) ∧ (∀ i, b ≤ i → i < k → kv c (arrOf st') (lo + k) < kv c (arrOf st') (lo + i)))
      (Q := fun r st'' => st'' = st' ∧ ∃ a b, r = (none, a, b) ∧ a ≤ k ∧
        (∀ i, i < a → kv c (arrOf st') (lo + i) < kv c (arrOf st') (lo + k)) ∧ (∀ i, a ≤ i → i < k → kv c (arrOf st') (lo + k) < kv c (arrOf st') (lo + i))) ?_ ?_ ?_) ?_)
    · rintro x r st'' _ hxk ⟨rfl, a, b, rfl, hab, hbk, hm, hlo, hhi⟩
      dsimp only
      by_cases hge : a ≥ b
      · rw [if_pos hge]
        have e : a = b := by omega
        subst e
        exact wpS_pure ⟨rfl, a, a, rfl, hbk, hlo, hhi⟩
      · rw [if_neg hge]
        refine wpS_bind (ltAt_ok hA hB' hk (by omega) ?_)
        dsimp only
        have hne := nd_ne hB'.perm hn (i := lo + k) (j := lo + (a + b) / 2) (by rw [hB'.size]; omega) (by rw [hB'.size]; omega) (by omega)
        by_cases hl : kv c (arrOf st'') (lo + k) < kv c (arrOf st'') (lo + (a + b) / 2)
        · rw [if_pos (decide_eq_true hl)]
          refine wpS_pure ⟨rfl, a, (a + b) / 2, rfl, by omega, by omega, by omega, hlo, fun i i1 i2 => ?_⟩
          by_cases z : i = (a + b) / 2
          · rw [z]; exact hl
          · exact Int.lt_trans hl (hs' _ _ (by omega) (by omega) (by omega))
        · rw [if_neg (by simpa using hl)]
          refine wpS_pure ⟨rfl, (a + b) / 2 + 1, b, rfl, by omega, by omega, by omega, fun i i1 => ?_, hhi⟩
          by_cases z : i = (a + b) / 2
          · rw [z]; omega
          · exact Int.lt_trans (hs' (lo + i) (lo + (a + b) / 2) (by omega) (by omega) (by omega)) (by omega)
    · rintro r st'' ⟨rfl, a, b, rfl, hab, hbk, hm, hlo, hhi⟩
      have e : a = b := by omega
      subst e
      exact ⟨rfl, a, a, rfl, hbk, hlo, hhi⟩
    · exact ⟨rfl, 0, k, rfl, by omega, by omega, by omega, fun i hi => by omega, fun i i1 i2 => by omega⟩
    · rintro r st'' ⟨rfl, a, b, rfl, hak, hlo, hhi⟩
      show wpS _ _ _ _ (do moveDown' (lo + k) (lo + a); pure (ForInStep.yield (none, ()))) _ _
      rw [moveDown'_eq]
      have hks : lo + k < (arrOf st'').size := by rw [hB'.size]; exact hk
      refine wpS_bind (wpS_modify (wpS_pure ⟨rfl, hB'.arr (bubble_perm _ _ _), ho.trans fun i hi => ?_, hp, ?_⟩))
      · show (bubble (arrOf st'') (lo + k) (lo + k - (lo + a)))[i]? = _
        rw [getElem?_bubble hks _ (by omega), if_neg (by omega), if_neg (by omega)]
      · intro i j i1 i2 i3
        show kv c (bubble (arrOf st'') (lo + k) (lo + k - (lo + a))) i < kv c (bubble (arrOf st'') (lo + k) (lo + k - (lo + a))) j
        have lw : ∀ i, lo ≤ i → i < lo + a → kv c (arrOf st'') i < kv c (arrOf st'') (lo + k) := fun i u v => by
          have := hlo (i - lo) (by omega)
          rwa [show lo + (i - lo) = i by omega] at this
        have hw : ∀ i, lo + a ≤ i → i < lo + k → kv c (arrOf st'') (lo + k) < kv c (arrOf st'') i := fun i u v => by
          have := hhi (i - lo) (by omega) (by omega)
          rwa [show lo + (i - lo) = i by omega] at this
        rw [kv_bub hks (by omega), kv_bub hks (by omega), show lo + k - (lo + k - (lo + a)) = lo + a by omega]
        repeat' split
        all_goals first
          | (exfalso; omega)
          | exact lw _ (by omega) (by omega)
          | exact hw _ (by omega) (by omega)
          | exact hs' _ _ (by omega) (by omega) (by omega)
  · rintro r st' ⟨hr, hB', ho, hp, hs'⟩
    refine ⟨hr, hB', ho, hp, ?_⟩
    rwa [show max (max ok 1) n = n by omega] at hs'
  · exact ⟨rfl, hB, Out.refl _ _ _, rfl, by rwa [show max ok 1 = ok by omega]⟩
  · rintro r st' ⟨rfl, hB', ho, hp, hs'⟩
    exact wpS_pure (h st' hB' ho hp hs')

/-! ### galloping -/
def gallop' : Bool → Keyed → Array Keyed → Nat → Nat → Nat → StateT SortSt Sem (Option Nat) := sortPriv% PySem.Builtin.gallop
theorem gallop'_eq (left : Bool) (key : Keyed) (arr : Array Keyed) (base n hint : Nat) : gallop' left key arr base n hint = (do
  let beyond (i : Nat) : StateT SortSt Sem (Option Bool) := do
    let x ← elem' arr (base + i)
    if left then lt' x key else return (← lt' key x).map (!·)
  let mut lastofs := 0
  let mut ofs := 1
  let mut lo := 0
  let mut hi := 0
  let some right ← beyond hint | return none
  if right then
    let maxofs := n - hint
    for _ in [0:n] do
      if ofs ≥ maxofs then break
      let some more ← beyond (hint + ofs) | return none
      if !more then break
      lastofs := ofs
      ofs := 2 * ofs + 1
    lo := hint + lastofs + 1
    hi := hint + min ofs maxofs
  else
    let maxofs := hint + 1
    for _ in [0:n] do
      if ofs ≥ maxofs then break
      let some found ← beyond (hint - ofs) | return none
      if found then break
      lastofs := ofs
      ofs := 2 * ofs + 1
    lo := hint + 1 - min ofs maxofs
    hi := hint - lastofs
  for _ in [0:n] do
    if lo ≥ hi then break
    let m := lo + (hi - lo) / 2
    let some more ← beyond m | return none
    if more then lo := m + 1 else hi := m
  return some hi) := rfl
/-- a key's place among things that ascend -/
theorem gal_ok (hA : Asks prog w A s κ c a₀) {st : SortSt} {left : Bool} {key : Keyed} {arr : Array Keyed} {base n hint : Nat} {Q : Option Nat → SortSt → Prop} (hk : kindOf st = κ) (hkey : key ∈ a₀.toList) (hel : ∀ i, i < n → ∃ p, arr[base + i]? = some p ∧ p ∈ a₀.toList)
    (hs : Sg c arr base (base + n)) (hne : ∀ i, i < n → kv c arr (base + i) ≠ c key) (hh : hint < n)
    (h : ∀ k, k ≤ n → (∀ i, i < k → kv c arr (base + i) < c key) → (∀ i, k ≤ i → i < n → c key < kv c arr (base + i)) → Q (some k) st) : wpS (model prog w) A E s (gallop' left key arr base n hint) Q st := by
  have by' : ∀ i, i < n → ∀ R : Option Bool → SortSt → Prop, R (some (decide (kv c arr (base + i) < c key))) st → wpS (model prog w) A E s (do
      let x ← elem' arr (base + i)
      if left = true then lt' x key else do
        let r ← lt' key x
        pure (Option.map (fun x => !x) r)) R st := by
    intro i hi R hR
    obtain ⟨p, ep, hp⟩ := hel i hi
    have hn' := hne i hi
    rw [kv_at ep] at hR hn'
    refine wpS_bind (elem_ok ep ?_)
    cases left with
    | true =>
      rw [if_pos rfl]
      exact lt_ok hA hk hp hkey hR
    | false =>
      rw [if_neg (by simp)]
      refine wpS_bind (lt_ok hA hk hkey hp ?_)
      refine wpS_pure ?_
      have e : Option.map (fun x => !x) (some (decide (c key < c p))) = some (decide (c p < c key)) := by
        show some (!decide (c key < c p)) = _
        by_cases z : c key < c p
        · rw [decide_eq_true z, decide_eq_false (by omega)]; rfl
        · rw [decide_eq_false z, decide_eq_true (by omega)]; rfl
      rw [e]
      exact hR
  have mono : ∀ i j, i ≤ j → j < n → kv c arr (base + j) < c key → kv c arr (base + i) < c key := fun i j a b d => by
    by_cases z : i = j
    · rw [z]; exact d
    · exact Int.lt_trans (hs _ _ (by omega) (by omega) (by omega)) d
  have fin : ∀ lo hi, lo ≤ hi → hi ≤ n → (∀ i, i < lo → kv c arr (base + i) < c key) → (∀ i, hi ≤ i → i < n → ¬ kv c arr (base + i) < c key) → ∀ R : Option (Option Nat) × Nat × Nat → SortSt → Prop,
      (∀ lo', R (none, lo', lo') st ∨ ¬ (lo' ≤ n ∧ (∀ i, i < lo' → kv c arr (base + i) < c key) ∧ ∀ i, lo' ≤ i → i < n → ¬ kv c arr (base + i) < c key)) →
      wpS (model prog w) A E s (forIn [0:n] ((none, lo, hi) : Option (Option Nat) × Nat × Nat) fun _ r => if r.snd.fst ≥ r.snd.snd then pure (ForInStep.done (none, r.snd.fst, r.snd.snd)) else do
        let x ← (do
          let x ← elem' arr (base + (r.snd.fst + (r.snd.snd - r.snd.fst) / 2))
          if left = true then lt' x key else do
            let r ← lt' key x
            pure (Option.map (fun x => !x) r))
        match x with
        | some more => if more = true then pure (ForInStep.yield (none, r.snd.fst + (r.snd.snd - r.snd.fst) / 2 + 1, r.snd.snd)) else pure (ForInStep.yield (none, r.snd.fst, r.snd.fst + (r.snd.snd - r.snd.fst) / 2))
        | _ => pure (ForInStep.done (some none, r.snd.fst, r.snd.snd))) R st := by
    intro lo hi hlh hhn hlo hhi R hR
    refine wpS_forRange (I := fun x r st' => st' = st ∧ ∃ a b, r = (none, a, b) ∧ a ≤ b ∧ b ≤ n ∧ b - a ≤ n - x ∧ (∀ i, i < a → kv c arr (base + i) < c key) ∧ ∀ i, b ≤ i → i < n → ¬ kv c arr (base + i) < c key) ?_ ?_ ⟨rfl, lo, hi, rfl, hlh, hhn, by omega, hlo, hhi⟩
    · rintro x r st' _ hx ⟨rfl, a, b, rfl, hab, hbn, hm, ha, hb⟩
      dsimp only
      by_cases hge : a ≥ b
      · rw [if_pos hge]
        have e : a = b := by omega
        subst e
        exact wpS_pure ((hR a).resolve_right fun w => w ⟨hbn, ha, hb⟩)
      · rw [if_neg hge]
        refine wpS_bind (by' _ (by omega) _ ?_)
        dsimp only
        by_cases hl : kv c arr (base + (a + (b - a) / 2)) < c key
        · rw [if_pos (decide_eq_true hl)]
          exact wpS_pure ⟨rfl, _, b, rfl, by omega, hbn, by omega, (fun i hi => mono i _ (by omega) (by omega) hl), hb⟩
        · rw [if_neg (by simpa using hl)]
          exact wpS_pure ⟨rfl, a, _, rfl, by omega, by omega, by omega, ha, fun i i1 i2 w => hl (mono _ i i1 i2 w)⟩
    · rintro r st' ⟨rfl, a, b, rfl, hab, hbn, hm, ha, hb⟩
      have e : a = b := by omega
      subst e
      exact (hR a).resolve_right fun w => w ⟨hbn, ha, hb⟩
  have out : ∀ k, k ≤ n → (∀ i, i < k → kv c arr (base + i) < c key) → (∀ i, k ≤ i → i < n → ¬ kv c arr (base + i) < c key) → Q (some k) st := fun k a b d => h k a b fun i i1 i2 => by
    have := d i i1 i2
    have := hne i i2
    omega
  rw [gallop'_eq]
  refine wpS_bind (by' hint hh _ ?_)
  dsimp only
  by_cases hr : kv c arr (base + hint) < c key
  · rw [if_pos (decide_eq_true hr)]
    refine wpS_bind (wpS_mono (wpS_forRange (I := fun x r st' => st' = st ∧ ∃ a b, r = (none, a, b) ∧ a < b ∧ x + 1 ≤ b ∧ hint + a < n ∧ kv c arr (base + (hint + a)) < c key)
      (Q := fun r st' => st' = st ∧ ∃ a b, r = (none, a, b) ∧ a < b ∧ hint + a < n ∧ kv c arr (base + (hint + a)) < c key ∧ (n - hint ≤ b ∨ ¬ kv c arr (base + (hint + b)) < c key)) ?_ ?_ ?_) ?_)
    · rintro x r st' _ hx ⟨rfl, a, b, rfl, hab, hxb, han, ha⟩
      dsimp only
      by_cases hge : b ≥ n - hint
      · rw [if_pos hge]
        exact wpS_pure ⟨rfl, a, b, rfl, hab, han, ha, .inl hge⟩
      · rw [if_neg hge]
        refine wpS_bind (by' _ (by omega) _ ?_)
        dsimp only
        by_cases hl : kv c arr (base + (hint + b)) < c key
        · rw [if_neg (by simpa using hl)]
          exact wpS_pure ⟨rfl, b, _, rfl, by omega, by omega, by omega, hl⟩
        · rw [if_pos (by simpa using hl)]
          exact wpS_pure ⟨rfl, a, b, rfl, hab, han, ha, .inr hl⟩
    · rintro r st' ⟨rfl, a, b, rfl, hab, hxb, han, ha⟩
      exact ⟨rfl, a, b, rfl, hab, han, ha, .inl (by omega)⟩
    · exact ⟨rfl, 0, 1, rfl, by omega, by omega, hh, hr⟩
    · rintro r st' ⟨rfl, a, b, rfl, hab, han, ha, hor⟩
      dsimp only
      refine wpS_bind (fin (hint + a + 1) (hint + min b (n - hint)) (by omega) (by omega) (fun i hi => mono i _ (by omega) han ha) (fun i i1 i2 w => ?_) _ fun lo' => ?_)
      · rcases hor with z | z
        · omega
        · exact z (mono _ i (by omega) i2 w)
      · by_cases z : lo' ≤ n ∧ (∀ i, i < lo' → kv c arr (base + i) < c key) ∧ ∀ i, lo' ≤ i → i < n → ¬ kv c arr (base + i) < c key
        · exact .inl (wpS_pure (out lo' z.1 z.2.1 z.2.2))
        · exact .inr z
  · rw [if_neg (by simpa using hr)]
    refine wpS_bind (wpS_mono (wpS_forRange (I := fun x r st' => st' = st ∧ ∃ a b, r = (none, a, b) ∧ a < b ∧ x + 1 ≤ b ∧ a ≤ hint ∧ ¬ kv c arr (base + (hint - a)) < c key)
      (Q := fun r st' => st' = st ∧ ∃ a b, r = (none, a, b) ∧ a < b ∧ a ≤ hint ∧ ¬ kv c arr (base + (hint - a)) < c key ∧ (hint + 1 ≤ b ∨ kv c arr (base + (hint - b)) < c key)) ?_ ?_ ?_) ?_)
    · rintro x r st' _ hx ⟨rfl, a, b, rfl, hab, hxb, han, ha⟩
      dsimp only
      by_cases hge : b ≥ hint + 1
      · rw [if_pos hge]
        exact wpS_pure ⟨rfl, a, b, rfl, hab, han, ha, .inl hge⟩
      · rw [if_neg hge]
        refine wpS_bind (by' _ (by omega) _ ?_)
        dsimp only
        by_cases hl : kv c arr (base + (hint - b)) < c key
        · rw [if_pos (decide_eq_true hl)]
          exact wpS_pure ⟨rfl, a, b, rfl, hab, han, ha, .inr hl⟩
        · rw [if_neg (by simpa using hl)]
          exact wpS_pure ⟨rfl, b, _, rfl, by omega, by omega, by omega, hl⟩
    · rintro r st' ⟨rfl, a, b, rfl, hab, hxb, han, ha⟩
      exact ⟨rfl, a, b, rfl, hab, han, ha, .inl (by omega)⟩
    · exact ⟨rfl, 0, 1, rfl, by omega, by omega, by omega, hr⟩
    · rintro r st' ⟨rfl, a, b, rfl, hab, han, ha, hor⟩
      dsimp only
      refine wpS_bind (fin (hint + 1 - min b (hint + 1)) (hint - a) (by omega) (by omega) (fun i hi => ?_) (fun i i1 i2 w => ha (mono _ i i1 i2 w)) _ fun lo' => ?_)
      · rcases hor with z | z
        · omega
        · exact mono i _ (by omega) (by omega) z
      · by_cases z : lo' ≤ n ∧ (∀ i, i < lo' → kv c arr (base + i) < c key) ∧ ∀ i, lo' ≤ i → i < n → ¬ kv c arr (base + i) < c key
        · exact .inl (wpS_pure (out lo' z.1 z.2.1 z.2.2))
        · exact .inr z
end
end Oh

namespace Oh
open PySem PyProof.Rows
def setMinGallop' : Nat → StateT SortSt Sem Unit := sortPriv% PySem.Builtin.setMinGallop
theorem setMinGallop'_eq (g : Nat) : setMinGallop' g = modify fun st => SortSt.mk' (kindOf st) (arrOf st) (pendingOf st) g (failedOf st) := rfl
def mergeLo' : Array Keyed → Array Keyed → StateT SortSt Sem (Array Keyed) := sortPriv% PySem.Builtin.mergeLo
theorem mergeLo'_eq (a b : Array Keyed) : mergeLo' a b = (do
  rule "list.sort.merge-lo"
  let total := a.size + b.size
  let done (out : Array Keyed) (ia ib : Nat) := out ++ a.extract ia a.size ++ b.extract ib b.size
  let lastOfA (out : Array Keyed) (ia ib : Nat) := out ++ b.extract ib b.size ++ a.extract ia a.size
  let mut out : Array Keyed := #[← elem' b 0]
  let mut ia := 0
  let mut ib := 1
  if ib == b.size then return done out ia ib
  if ia + 1 == a.size then return lastOfA out ia ib
  let mut minGallop := gallopOf (← get)
  for _ in [0:total] do
    let mut acount := 0
    let mut bcount := 0
    for _ in [0:total] do
      let some bWins ← lt' (← elem' b ib) (← elem' a ia) | return done out ia ib
      if bWins then
        out := out.push (← elem' b ib); ib := ib + 1; bcount := bcount + 1; acount := 0
        if ib == b.size then return done out ia ib
        if bcount ≥ minGallop then break
      else
        out := out.push (← elem' a ia); ia := ia + 1; acount := acount + 1; bcount := 0
        if ia + 1 == a.size then return lastOfA out ia ib
        if acount ≥ minGallop then break
    rule "list.sort.gallop"
    minGallop := minGallop + 1
    for _ in [0:total] do
      if minGallop > 1 then minGallop := minGallop - 1
      setMinGallop' minGallop
      let some k ← gallop' false (← elem' b ib) a ia (a.size - ia) 0 | return done out ia ib
      acount := k
      if k > 0 then
        out := out ++ a.extract ia (ia + k); ia := ia + k
        if ia + 1 == a.size then return lastOfA out ia ib
        if ia == a.size then return done out ia ib
      out := out.push (← elem' b ib); ib := ib + 1
      if ib == b.size then return done out ia ib
      let some k ← gallop' true (← elem' a ia) b ib (b.size - ib) 0 | return done out ia ib
      bcount := k
      if k > 0 then
        out := out ++ b.extract ib (ib + k); ib := ib + k
        if ib == b.size then return done out ia ib
      out := out.push (← elem' a ia); ia := ia + 1
      if ia + 1 == a.size then return lastOfA out ia ib
      if acount < 7 && bcount < 7 then break
    minGallop := minGallop + 1
    setMinGallop' minGallop
  unsupported "internal:list.sort.merge-bound") := rfl
section
variable {prog : Program} {w : World} {A : Around} {E : Value → Shared → Prop} {s : Shared} {κ : SortKind} {c : Keyed → Int} {a₀ : Array Keyed}
/-- only the gallop's least may be other -/
structure SG (st st' : SortSt) : Prop where
  kind : kindOf st' = kindOf st
  arr : arrOf st' = arrOf st
  pend : pendingOf st' = pendingOf st
  ok : failedOf st' = failedOf st



theorem SG.refl (st : SortSt) : SG st st := ⟨rfl, rfl, rfl, rfl⟩
theorem SG.trans {x y z : SortSt} (a : SG x y) (b : SG y z) : SG x z := ⟨b.kind.trans a.kind, b.arr.trans a.arr, b.pend.trans a.pend, b.ok.trans a.ok⟩
theorem gmin_ok {g : Nat} {st st0 : SortSt} {Q : Unit → SortSt → Prop} (hs : SG st0 st) (h : ∀ st', SG st0 st' → Q () st') : wpS (model prog w) A E s (setMinGallop' g) Q st := by
  rw [setMinGallop'_eq]
  exact wpS_modify (h _ (hs.trans ⟨rfl, rfl, rfl, rfl⟩))
abbrev Asc (c : Keyed → Int) (l : List Keyed) : Prop := l.Pairwise fun x y => c x < c y
/-- both runs, merged -/
def MR (c : Keyed → Int) (a b out : Array Keyed) : Prop := out.toList.Perm (a.toList ++ b.toList) ∧ Asc c out.toList
/-- the runs merged so far, and what is left of them -/
structure J (c : Keyed → Int) (a b out : Array Keyed) (ia ib : Nat) : Prop where
  perm : (out.toList ++ (a.toList.drop ia ++ b.toList.drop ib)).Perm (a.toList ++ b.toList)
  asc : Asc c out.toList
  lta : ∀ x ∈ out.toList, ∀ y ∈ a.toList.drop ia, c x < c y
  ltb : ∀ x ∈ out.toList, ∀ y ∈ b.toList.drop ib, c x < c y
theorem drop_at {l : Array Keyed} {i : Nat} {p : Keyed} (h : l[i]? = some p) : l.toList.drop i = p :: l.toList.drop (i + 1) := by
  rw [← Array.getElem?_toList] at h
  obtain ⟨hi, rfl⟩ := List.getElem?_eq_some_iff.mp h
  exact List.drop_eq_getElem_cons hi
theorem drop_end {l : Array Keyed} {i : Nat} (h : l.size ≤ i) : l.toList.drop i = [] := List.drop_eq_nil_of_le (by simpa using h)
theorem asc_drop {c : Keyed → Int} {l : List Keyed} (h : Asc c l) (i : Nat) : Asc c (l.drop i) := h.sublist (List.drop_sublist i l)
theorem asc_snoc {c : Keyed → Int} {l : List Keyed} {p : Keyed} (h : Asc c l) (hp : ∀ x ∈ l, c x < c p) : Asc c (l ++ [p]) := List.pairwise_append.mpr ⟨h, List.pairwise_singleton _ _, fun x hx y hy => by rw [List.mem_singleton.mp hy]; exact hp x hx⟩
theorem ext_list (l : Array Keyed) (i j : Nat) : (l.extract i j).toList = (l.toList.drop i).take (j - i) := by rw [Array.toList_extract]
theorem ext_all (l : Array Keyed) (i : Nat) : (l.extract i l.size).toList = l.toList.drop i := by
  rw [ext_list]
  exact List.take_of_length_le (by rw [List.length_drop]; simp)
section
variable {a b out : Array Keyed} {ia ib : Nat} {p : Keyed}
theorem J.pushB (h : J c a b out ia ib) (hb : Asc c b.toList) (ep : b[ib]? = some p) (hlt : ∀ y ∈ a.toList.drop ia, c p < c y) : J c a b (out.push p) ia (ib + 1) := by
  have hd := drop_at ep
  have hab := asc_drop hb ib
  rw [hd] at hab
  have h2 := h.ltb
  rw [hd] at h2
  refine ⟨?_, ?_, fun x hx y hy => ?_, fun x hx y hy => ?_⟩
  · rw [Array.toList_push]
    refine List.Perm.trans ?_ h.perm
    rw [hd, List.append_assoc]
    refine List.Perm.append_left _ ?_
    exact (List.perm_middle (a := p) (l₁ := a.toList.drop ia) (l₂ := b.toList.drop (ib + 1))).symm
  · rw [Array.toList_push]
    exact asc_snoc h.asc fun x hx => h2 x hx p List.mem_cons_self
  · rw [Array.toList_push] at hx
    rcases List.mem_append.mp hx with z | z
    · exact h.lta x z y hy
    · rw [List.mem_singleton.mp z]; exact hlt y hy
  · rw [Array.toList_push] at hx
    rcases List.mem_append.mp hx with z | z
    · exact h2 x z y (List.mem_cons_of_mem _ hy)
    · rw [List.mem_singleton.mp z]; exact (List.pairwise_cons.mp hab).1 y hy
theorem J.pushA (h : J c a b out ia ib) (ha : Asc c a.toList) (ep : a[ia]? = some p) (hlt : ∀ y ∈ b.toList.drop ib, c p < c y) : J c a b (out.push p) (ia + 1) ib := by
  have hd := drop_at ep
  have hab := asc_drop ha ia
  rw [hd] at hab
  have h2 := h.lta
  rw [hd] at h2
  refine ⟨?_, ?_, fun x hx y hy => ?_, fun x hx y hy => ?_⟩
  · rw [Array.toList_push]
    refine List.Perm.trans ?_ h.perm
    rw [hd, List.append_assoc]
    exact List.Perm.refl _
  · rw [Array.toList_push]
    exact asc_snoc h.asc fun x hx => h2 x hx p List.mem_cons_self
  · rw [Array.toList_push] at hx
    rcases List.mem_append.mp hx with z | z
    · exact h2 x z y (List.mem_cons_of_mem _ hy)
    · rw [List.mem_singleton.mp z]; exact (List.pairwise_cons.mp hab).1 y hy
  · rw [Array.toList_push] at hx
    rcases List.mem_append.mp hx with z | z
    · exact h.ltb x z y hy
    · rw [List.mem_singleton.mp z]; exact hlt y hy
theorem J.chunkA (h : J c a b out ia ib) (ha : Asc c a.toList) (k : Nat) (hlt : ∀ x ∈ (a.toList.drop ia).take k, ∀ y ∈ b.toList.drop ib, c x < c y) : J c a b (out ++ a.extract ia (ia + k)) (ia + k) ib := by
  have e : (out ++ a.extract ia (ia + k)).toList = out.toList ++ (a.toList.drop ia).take k := by rw [Array.toList_append, ext_list, show ia + k - ia = k by omega]
  have ed : a.toList.drop ia = (a.toList.drop ia).take k ++ a.toList.drop (ia + k) := by
    rw [show a.toList.drop (ia + k) = (a.toList.drop ia).drop k from (List.drop_drop ..).symm, List.take_append_drop]
  have hab := asc_drop ha ia
  rw [ed] at hab
  obtain ⟨p1, p2, p3⟩ := List.pairwise_append.mp hab
  have mem : ∀ y ∈ a.toList.drop (ia + k), y ∈ a.toList.drop ia := fun y hy => by rw [ed]; exact List.mem_append_right _ hy
  refine ⟨?_, ?_, fun x hx y hy => ?_, fun x hx y hy => ?_⟩
  · rw [e]
    refine List.Perm.trans ?_ h.perm
    rw [List.append_assoc, ← List.append_assoc _ (a.toList.drop (ia + k)), ← ed]
  · rw [e]
    exact List.pairwise_append.mpr ⟨h.asc, p1, fun x hx y hy => h.lta x hx y (List.mem_of_mem_take hy)⟩
  · rw [e] at hx
    rcases List.mem_append.mp hx with z | z
    · exact h.lta x z y (mem y hy)
    · exact p3 x z y hy
  · rw [e] at hx
    rcases List.mem_append.mp hx with z | z
    · exact h.ltb x z y hy
    · exact hlt x z y hy
theorem J.chunkB (h : J c a b out ia ib) (hb : Asc c b.toList) (k : Nat) (hlt : ∀ x ∈ (b.toList.drop ib).take k, ∀ y ∈ a.toList.drop ia, c x < c y) : J c a b (out ++ b.extract ib (ib + k)) ia (ib + k) := by
  have e : (out ++ b.extract ib (ib + k)).toList = out.toList ++ (b.toList.drop ib).take k := by rw [Array.toList_append, ext_list, show ib + k - ib = k by omega]
  have ed : b.toList.drop ib = (b.toList.drop ib).take k ++ b.toList.drop (ib + k) := by
    rw [show b.toList.drop (ib + k) = (b.toList.drop ib).drop k from (List.drop_drop ..).symm, List.take_append_drop]
  have hab := asc_drop hb ib
  rw [ed] at hab
  obtain ⟨p1, p2, p3⟩ := List.pairwise_append.mp hab
  have mem : ∀ y ∈ b.toList.drop (ib + k), y ∈ b.toList.drop ib := fun y hy => by rw [ed]; exact List.mem_append_right _ hy
  refine ⟨?_, ?_, fun x hx y hy => ?_, fun x hx y hy => ?_⟩
  · rw [e]
    refine List.Perm.trans ?_ h.perm
    have h1 : (a.toList.drop ia ++ b.toList.drop ib).Perm ((b.toList.drop ib).take k ++ (a.toList.drop ia ++ b.toList.drop (ib + k))) := by
      conv => lhs; rw [ed]
      rw [← List.append_assoc, ← List.append_assoc]
      exact List.Perm.append_right _ List.perm_append_comm
    rw [List.append_assoc]
    exact List.Perm.append_left _ h1.symm
  · rw [e]
    exact List.pairwise_append.mpr ⟨h.asc, p1, fun x hx y hy => h.ltb x hx y (List.mem_of_mem_take hy)⟩
  · rw [e] at hx
    rcases List.mem_append.mp hx with z | z
    · exact h.lta x z y hy
    · exact hlt x z y hy
  · rw [e] at hx
    rcases List.mem_append.mp hx with z | z
    · exact h.ltb x z y (mem y hy)
    · exact p3 x z y hy
theorem J.doneB (h : J c a b out ia ib) (ha : Asc c a.toList) (hib : b.size ≤ ib) : MR c a b (out ++ a.extract ia a.size ++ b.extract ib b.size) := by
  have e : (out ++ a.extract ia a.size ++ b.extract ib b.size).toList = out.toList ++ (a.toList.drop ia ++ b.toList.drop ib) := by rw [Array.toList_append, Array.toList_append, ext_all, ext_all, List.append_assoc]
  refine ⟨by rw [e]; exact h.perm, ?_⟩
  rw [e, drop_end hib, List.append_nil]
  exact List.pairwise_append.mpr ⟨h.asc, asc_drop ha ia, h.lta⟩
theorem J.doneA (h : J c a b out ia ib) (hb : Asc c b.toList) (hia : a.size ≤ ia) : MR c a b (out ++ a.extract ia a.size ++ b.extract ib b.size) := by
  have e : (out ++ a.extract ia a.size ++ b.extract ib b.size).toList = out.toList ++ (a.toList.drop ia ++ b.toList.drop ib) := by rw [Array.toList_append, Array.toList_append, ext_all, ext_all, List.append_assoc]
  refine ⟨by rw [e]; exact h.perm, ?_⟩
  rw [e, drop_end hia, List.nil_append]
  exact List.pairwise_append.mpr ⟨h.asc, asc_drop hb ib, h.ltb⟩
theorem J.last (h : J c a b out ia ib) (hb : Asc c b.toList) {z : Keyed} (ez : a[ia]? = some z) (hz : ia + 1 = a.size) (hlt : ∀ y ∈ b.toList, c y < c z) : MR c a b (out ++ b.extract ib b.size ++ a.extract ia a.size) := by
  have e : (out ++ b.extract ib b.size ++ a.extract ia a.size).toList = out.toList ++ (b.toList.drop ib ++ a.toList.drop ia) := by rw [Array.toList_append, Array.toList_append, ext_all, ext_all, List.append_assoc]
  have hd := drop_at ez
  rw [drop_end (show a.size ≤ ia + 1 by omega)] at hd
  have h2 := h.lta
  rw [hd] at h2
  refine ⟨?_, ?_⟩
  · rw [e]
    exact (List.Perm.append_left _ List.perm_append_comm).trans h.perm
  · rw [e, hd]
    refine List.pairwise_append.mpr ⟨h.asc, List.pairwise_append.mpr ⟨asc_drop hb ib, List.pairwise_singleton _ _, fun x hx y hy => ?_⟩, fun x hx y hy => ?_⟩
    · rw [List.mem_singleton.mp hy]; exact hlt x (List.mem_of_mem_drop hx)
    · rcases List.mem_append.mp hy with w | w
      · exact h.ltb x hx y w
      · rw [List.mem_singleton.mp w]; exact h2 x hx z List.mem_cons_self
end
/-- what merging wants of its runs -/
structure Runs (c : Keyed → Int) (a₀ a b : Array Keyed) : Prop where
  aa : Asc c a.toList
  bb : Asc c b.toList
  ma : ∀ x ∈ a.toList, x ∈ a₀.toList
  mb : ∀ x ∈ b.toList, x ∈ a₀.toList
  ne : ∀ x ∈ a.toList, ∀ y ∈ b.toList, c x ≠ c y
  a1 : 1 ≤ a.size
  b1 : 1 ≤ b.size
  first : ∀ p q, b[0]? = some p → a[0]? = some q → c p < c q
  last : ∀ y ∈ b.toList, ∀ z, a[a.size - 1]? = some z → c y < c z
theorem at_mem {l : Array Keyed} {i : Nat} {p : Keyed} (h : l[i]? = some p) : p ∈ l.toList := by
  rw [← Array.getElem?_toList] at h
  exact List.mem_of_getElem? h
theorem at_in {l : Array Keyed} {i : Nat} (h : i < l.size) : ∃ p, l[i]? = some p := ⟨_, getElem?_pos l i h⟩
theorem drop_mem {l : Array Keyed} {i : Nat} {y : Keyed} (h : y ∈ l.toList.drop i) : ∃ j, i ≤ j ∧ l[j]? = some y := by
  obtain ⟨k, hk, rfl⟩ := List.getElem_of_mem h
  rw [List.length_drop] at hk
  refine ⟨i + k, by omega, ?_⟩
  rw [List.getElem_drop, ← Array.getElem?_toList, List.getElem?_eq_getElem]
theorem take_mem {l : Array Keyed} {i k : Nat} {y : Keyed} (h : y ∈ (l.toList.drop i).take k) : ∃ j, j < k ∧ l[i + j]? = some y := by
  obtain ⟨m, hm, rfl⟩ := List.getElem_of_mem h
  rw [List.length_take, List.length_drop] at hm
  refine ⟨m, by omega, ?_⟩
  rw [List.getElem_take, List.getElem_drop, ← Array.getElem?_toList, List.getElem?_eq_getElem]
theorem asc_sg {c : Keyed → Int} {l : Array Keyed} (h : Asc c l.toList) (i n : Nat) (hn : i + n ≤ l.size) : Sg c l i (i + n) := fun x y h1 h2 h3 => by
  obtain ⟨p, ep⟩ := at_in (l := l) (i := x) (by omega)
  obtain ⟨q, eq⟩ := at_in (l := l) (i := y) (by omega)
  rw [kv_at ep, kv_at eq]
  rw [← Array.getElem?_toList] at ep eq
  obtain ⟨a1, rfl⟩ := List.getElem?_eq_some_iff.mp ep
  obtain ⟨a2, rfl⟩ := List.getElem?_eq_some_iff.mp eq
  exact List.pairwise_iff_getElem.mp h x y a1 a2 h2
theorem asc_lt {c : Keyed → Int} {l : Array Keyed} (h : Asc c l.toList) {x y : Nat} {p q : Keyed} (ep : l[x]? = some p) (eq : l[y]? = some q) (hxy : x < y) : c p < c q := by
  rw [← Array.getElem?_toList] at ep eq
  obtain ⟨a1, rfl⟩ := List.getElem?_eq_some_iff.mp ep
  obtain ⟨a2, rfl⟩ := List.getElem?_eq_some_iff.mp eq
  exact List.pairwise_iff_getElem.mp h x y a1 a2 hxy

theorem lo_ok (hA : Asks prog w A s κ c a₀) {st : SortSt} {a b : Array Keyed} {Q : Array Keyed → SortSt → Prop} (hk : kindOf st = κ) (hR : Runs c a₀ a b) (h : ∀ out st', SG st st' → MR c a b out → Q out st') : wpS (model prog w) A E s (mergeLo' a b) Q st := by
  have a1 := hR.a1
  have b1 := hR.b1
  rw [mergeLo'_eq]
  refine wpS_bind (wpS_lift (wpAny_rule ⟨rfl, ?_⟩))
  obtain ⟨p0, ep0⟩ := at_in (l := b) (i := 0) (by omega)
  obtain ⟨q0, eq0⟩ := at_in (l := a) (i := 0) (by omega)
  refine wpS_bind (elem_ok ep0 ?_)
  dsimp only
  have J0 : J c a b #[p0] 0 1 := by
    have hpq := hR.first p0 q0 ep0 eq0
    have h0 : J c a b #[] 0 0 := ⟨by simp, List.Pairwise.nil, fun x hx => (nomatch hx), fun x hx => (nomatch hx)⟩
    exact h0.pushB hR.bb ep0 fun y hy => by
      obtain ⟨j, _, ej⟩ := drop_mem hy
      by_cases z : j = 0
      · rw [z, eq0] at ej
        rw [← Option.some.inj ej]; exact hpq
      · exact Int.lt_trans hpq (asc_lt hR.aa eq0 ej (by omega))
  by_cases c1 : 1 = b.size
  · rw [if_pos (by simpa using c1)]
    exact wpS_pure (h _ _ (SG.refl _) (J0.doneB hR.aa (by omega)))
  rw [if_neg (by simpa using c1)]
  by_cases c2 : 0 + 1 = a.size
  · rw [if_pos (by simpa using c2)]
    exact wpS_pure (h _ _ (SG.refl _) (J0.last hR.bb eq0 c2 fun y hy => hR.last y hy q0 (by rw [← c2]; exact eq0)))
  rw [if_neg (by simpa using c2)]
  refine wpS_bind (wpS_get ?_)
  refine wpS_bind (wpS_mono (wpS_forRange (I := fun x r st' => ∃ out ia ib mg, r = (none, out, ia, ib, mg) ∧ SG st st' ∧ J c a b out ia ib ∧ ia + 1 < a.size ∧ ib < b.size ∧ x + 1 ≤ ia + ib)
    (Q := fun r st' => ∃ o rest, r = (some o, rest) ∧ SG st st' ∧ MR c a b o) ?_ ?_ ?_) ?_)
  · rintro x r st1 _ hx ⟨out, ia, ib, mg, rfl, hSG, hJ, h1, h2, h3⟩
    dsimp only
    refine wpS_bind (wpS_mono (wpS_forRange (I := fun y r st' => ∃ out ia ib ac bc, r = (none, out, ia, ib, ac, bc) ∧ SG st st' ∧ J c a b out ia ib ∧ ia + 1 < a.size ∧ ib < b.size ∧ x + 1 ≤ ia + ib)
      (Q := fun r st' => (∃ out ia ib ac bc, r = (none, out, ia, ib, ac, bc) ∧ SG st st' ∧ J c a b out ia ib ∧ ia + 1 < a.size ∧ ib < b.size ∧ x + 1 ≤ ia + ib) ∨ ∃ o rest, r = (some o, rest) ∧ SG st st' ∧ MR c a b o) ?_ ?_ ?_) ?_)
    · clear hJ h1 h2 h3 hSG
      rintro y r st2 _ hy ⟨out, ia, ib, ac, bc, rfl, hSG, hJ, h1, h2, h3⟩
      dsimp only
      obtain ⟨p, ep⟩ := at_in (l := b) (i := ib) h2
      obtain ⟨q, eq⟩ := at_in (l := a) (i := ia) (by omega)
      refine wpS_bind (elem_ok ep (wpS_bind (elem_ok eq (wpS_bind (lt_ok hA (hSG.kind.trans hk) (hR.mb p (at_mem ep)) (hR.ma q (at_mem eq)) ?_)))))
      dsimp only
      by_cases hl : c p < c q
      · rw [if_pos (decide_eq_true hl)]
        refine wpS_bind (elem_ok ep ?_)
        have J2 := hJ.pushB hR.bb ep fun y hy => by
          obtain ⟨j, j1, ej⟩ := drop_mem hy
          by_cases z : j = ia
          · rw [z, eq] at ej
            rw [← Option.some.inj ej]; exact hl
          · exact Int.lt_trans hl (asc_lt hR.aa eq ej (by omega))
        by_cases e1 : ib + 1 = b.size
        · rw [if_pos (by simpa using e1)]
          exact wpS_pure (.inr ⟨_, _, rfl, hSG, J2.doneB hR.aa (by omega)⟩)
        rw [if_neg (by simpa using e1)]
        split
        · exact wpS_pure (.inl ⟨_, _, _, _, _, rfl, hSG, J2, h1, by omega, by omega⟩)
        · exact wpS_pure ⟨_, _, _, _, _, rfl, hSG, J2, h1, by omega, by omega⟩
      · rw [if_neg (by simpa using hl)]
        have hl' : c q < c p := by
          have := hR.ne q (at_mem eq) p (at_mem ep)
          omega
        refine wpS_bind (elem_ok eq ?_)
        have J2 := hJ.pushA hR.aa eq fun y hy => by
          obtain ⟨j, j1, ej⟩ := drop_mem hy
          by_cases z : j = ib
          · rw [z, ep] at ej
            rw [← Option.some.inj ej]; exact hl'
          · exact Int.lt_trans hl' (asc_lt hR.bb ep ej (by omega))
        by_cases e1 : ia + 1 + 1 = a.size
        · rw [if_pos (by simpa using e1)]
          obtain ⟨z, ez⟩ := at_in (l := a) (i := ia + 1) (by omega)
          exact wpS_pure (.inr ⟨_, _, rfl, hSG, J2.last hR.bb ez (by omega) fun y hy => hR.last y hy z (by rw [← e1]; exact ez)⟩)
        rw [if_neg (by simpa using e1)]
        split
        · exact wpS_pure (.inl ⟨_, _, _, _, _, rfl, hSG, J2, by omega, h2, by omega⟩)
        · exact wpS_pure ⟨_, _, _, _, _, rfl, hSG, J2, by omega, h2, by omega⟩
    · rintro r st2 hI
      exact .inl hI
    · exact ⟨out, ia, ib, 0, 0, rfl, hSG, hJ, h1, h2, h3⟩
    · clear hJ h1 h2 h3 hSG
      rintro r st2 (⟨out, ia, ib, ac, bc, rfl, hSG, hJ, h1, h2, h3⟩ | ⟨o, rest, rfl, hSG, hM⟩)
      · dsimp only
        refine wpS_bind (wpS_lift (wpAny_rule ⟨rfl, ?_⟩))
        refine wpS_bind (wpS_mono (wpS_forRange (I := fun y r st' => ∃ out ia ib mg ac bc, r = (none, out, ia, ib, mg, ac, bc) ∧ SG st st' ∧ J c a b out ia ib ∧ ia + 1 < a.size ∧ ib < b.size ∧ x + 1 + y ≤ ia + ib)
          (Q := fun r st' => (∃ out ia ib mg ac bc, r = (none, out, ia, ib, mg, ac, bc) ∧ SG st st' ∧ J c a b out ia ib ∧ ia + 1 < a.size ∧ ib < b.size ∧ x + 2 ≤ ia + ib) ∨ ∃ o rest, r = (some o, rest) ∧ SG st st' ∧ MR c a b o) ?_ ?_ ?_) ?_)
        · clear hJ h1 h2 h3 hSG
          rintro y r st3 _ hy ⟨out, ia, ib, mg, ac, bc, rfl, hSG, hJ, h1, h2, h3⟩
          dsimp only
          obtain ⟨p, ep⟩ := at_in (l := b) (i := ib) h2
          by_cases mg1 : mg > 1
          case' pos => rw [if_pos mg1]
          case' neg => rw [if_neg mg1]
          all_goals
            refine wpS_bind (gmin_ok hSG fun st4 hSG2 => ?_)
            refine wpS_bind (elem_ok ep ?_)
            refine wpS_bind (gal_ok hA (hSG2.kind.trans hk) (hR.mb p (at_mem ep)) (fun i hi => (at_in (l := a) (i := ia + i) (by omega)).imp fun q eq => ⟨eq, hR.ma q (at_mem eq)⟩) (asc_sg hR.aa _ _ (by omega)) (fun i hi => ?_) (by omega) fun k hk' lt1 gt1 => ?_)
            · obtain ⟨q, eq⟩ := at_in (l := a) (i := ia + i) (by omega)
              rw [kv_at eq]
              exact hR.ne q (at_mem eq) p (at_mem ep)
            dsimp only
            by_cases k0 : k > 0
            · rw [if_pos k0]
              have lp : ∀ y ∈ a.toList.drop (ia + k), c p < c y := fun y hy => by
                obtain ⟨j, j1, ej⟩ := drop_mem hy
                have jl : j < a.size := (Array.getElem?_eq_some_iff.mp ej).1
                have := gt1 (j - ia) (by omega) (by omega)
                rwa [show ia + (j - ia) = j by omega, kv_at ej] at this
              have J1 := hJ.chunkA hR.aa k fun x hx y hy => by
                obtain ⟨j, j1, ej⟩ := take_mem hx
                have h1 := lt1 j j1
                rw [kv_at ej] at h1
                obtain ⟨m, m1, em⟩ := drop_mem hy
                by_cases z : m = ib
                · rw [z, ep] at em
                  rw [← Option.some.inj em]; exact h1
                · exact Int.lt_trans h1 (asc_lt hR.bb ep em (by omega))
              by_cases e1 : ia + k + 1 = a.size
              · rw [if_pos (by simpa using e1)]
                obtain ⟨z, ez⟩ := at_in (l := a) (i := ia + k) (by omega)
                exact wpS_pure (.inr ⟨_, _, rfl, hSG2, J1.last hR.bb ez e1 fun y hy => hR.last y hy z (by rw [← e1]; exact ez)⟩)
              rw [if_neg (by simpa using e1)]
              by_cases e2 : ia + k = a.size
              · rw [if_pos (by simpa using e2)]
                exact wpS_pure (.inr ⟨_, _, rfl, hSG2, J1.doneA hR.bb (by omega)⟩)
              rw [if_neg (by simpa using e2)]
              refine wpS_bind (elem_ok ep ?_)
              have J2 := (J1).pushB hR.bb ep lp
              by_cases e3 : ib + 1 = b.size
              · rw [if_pos (by simpa using e3)]
                exact wpS_pure (.inr ⟨_, _, rfl, hSG2, J2.doneB hR.aa (by omega)⟩)
              rw [if_neg (by simpa using e3)]
              obtain ⟨q, eq⟩ := at_in (l := a) (i := ia + k) (by omega)
              refine wpS_bind (elem_ok eq ?_)
              refine wpS_bind (gal_ok hA (hSG2.kind.trans hk) (hR.ma q (at_mem eq)) (fun i hi => (at_in (l := b) (i := ib + 1 + i) (by omega)).imp fun p ep => ⟨ep, hR.mb p (at_mem ep)⟩) (asc_sg hR.bb _ _ (by omega)) (fun i hi => ?_) (by omega) fun k2 hk2 lt2 gt2 => ?_)
              · obtain ⟨y, ey⟩ := at_in (l := b) (i := ib + 1 + i) (by omega)
                rw [kv_at ey]
                exact fun w => hR.ne q (at_mem eq) y (at_mem ey) w.symm
              dsimp only
              by_cases k20 : k2 > 0
              · rw [if_pos k20]
                have lq : ∀ y ∈ b.toList.drop (ib + 1 + k2), c q < c y := fun y hy => by
                  obtain ⟨j, j1, ej⟩ := drop_mem hy
                  have jl : j < b.size := (Array.getElem?_eq_some_iff.mp ej).1
                  have := gt2 (j - (ib + 1)) (by omega) (by omega)
                  rwa [show ib + 1 + (j - (ib + 1)) = j by omega, kv_at ej] at this
                have J3 := J2.chunkB hR.bb k2 fun x hx y hy => by
                  obtain ⟨j, j1, ej⟩ := take_mem hx
                  have h1 := lt2 j j1
                  rw [kv_at ej] at h1
                  obtain ⟨m, m1, em⟩ := drop_mem hy
                  by_cases z : m = ia + k
                  · rw [z, eq] at em
                    rw [← Option.some.inj em]; exact h1
                  · exact Int.lt_trans h1 (asc_lt hR.aa eq em (by omega))
                by_cases e4 : ib + 1 + k2 = b.size
                · rw [if_pos (by simpa using e4)]
                  exact wpS_pure (.inr ⟨_, _, rfl, hSG2, J3.doneB hR.aa (by omega)⟩)
                rw [if_neg (by simpa using e4)]
                refine wpS_bind (elem_ok eq ?_)
                have J4 := (J3).pushA hR.aa eq lq
                by_cases e5 : ia + k + 1 + 1 = a.size
                · rw [if_pos (by simpa using e5)]
                  obtain ⟨z, ez⟩ := at_in (l := a) (i := ia + k + 1) (by omega)
                  exact wpS_pure (.inr ⟨_, _, rfl, hSG2, J4.last hR.bb ez (by omega) fun y hy => hR.last y hy z (by rw [← e5]; exact ez)⟩)
                rw [if_neg (by simpa using e5)]
                split
                · exact wpS_pure (.inl ⟨_, _, _, _, _, _, rfl, hSG2, J4, by omega, by omega, by omega⟩)
                · exact wpS_pure ⟨_, _, _, _, _, _, rfl, hSG2, J4, by omega, by omega, by omega⟩
              · rw [if_neg k20]
                have lq : ∀ y ∈ b.toList.drop (ib + 1), c q < c y := fun y hy => by
                  obtain ⟨j, j1, ej⟩ := drop_mem hy
                  have jl : j < b.size := (Array.getElem?_eq_some_iff.mp ej).1
                  have := gt2 (j - (ib + 1)) (by omega) (by omega)
                  rwa [show ib + 1 + (j - (ib + 1)) = j by omega, kv_at ej] at this
                refine wpS_bind (elem_ok eq ?_)
                have J4 := (J2).pushA hR.aa eq lq
                by_cases e5 : ia + k + 1 + 1 = a.size
                · rw [if_pos (by simpa using e5)]
                  obtain ⟨z, ez⟩ := at_in (l := a) (i := ia + k + 1) (by omega)
                  exact wpS_pure (.inr ⟨_, _, rfl, hSG2, J4.last hR.bb ez (by omega) fun y hy => hR.last y hy z (by rw [← e5]; exact ez)⟩)
                rw [if_neg (by simpa using e5)]
                split
                · exact wpS_pure (.inl ⟨_, _, _, _, _, _, rfl, hSG2, J4, by omega, by omega, by omega⟩)
                · exact wpS_pure ⟨_, _, _, _, _, _, rfl, hSG2, J4, by omega, by omega, by omega⟩
            · rw [if_neg k0]
              have lp : ∀ y ∈ a.toList.drop ia, c p < c y := fun y hy => by
                obtain ⟨j, j1, ej⟩ := drop_mem hy
                have jl : j < a.size := (Array.getElem?_eq_some_iff.mp ej).1
                have := gt1 (j - ia) (by omega) (by omega)
                rwa [show ia + (j - ia) = j by omega, kv_at ej] at this
              refine wpS_bind (elem_ok ep ?_)
              have J2 := (hJ).pushB hR.bb ep lp
              by_cases e3 : ib + 1 = b.size
              · rw [if_pos (by simpa using e3)]
                exact wpS_pure (.inr ⟨_, _, rfl, hSG2, J2.doneB hR.aa (by omega)⟩)
              rw [if_neg (by simpa using e3)]
              obtain ⟨q, eq⟩ := at_in (l := a) (i := ia) (by omega)
              refine wpS_bind (elem_ok eq ?_)
              refine wpS_bind (gal_ok hA (hSG2.kind.trans hk) (hR.ma q (at_mem eq)) (fun i hi => (at_in (l := b) (i := ib + 1 + i) (by omega)).imp fun p ep => ⟨ep, hR.mb p (at_mem ep)⟩) (asc_sg hR.bb _ _ (by omega)) (fun i hi => ?_) (by omega) fun k2 hk2 lt2 gt2 => ?_)
              · obtain ⟨y, ey⟩ := at_in (l := b) (i := ib + 1 + i) (by omega)
                rw [kv_at ey]
                exact fun w => hR.ne q (at_mem eq) y (at_mem ey) w.symm
              dsimp only
              by_cases k20 : k2 > 0
              · rw [if_pos k20]
                have lq : ∀ y ∈ b.toList.drop (ib + 1 + k2), c q < c y := fun y hy => by
                  obtain ⟨j, j1, ej⟩ := drop_mem hy
                  have jl : j < b.size := (Array.getElem?_eq_some_iff.mp ej).1
                  have := gt2 (j - (ib + 1)) (by omega) (by omega)
                  rwa [show ib + 1 + (j - (ib + 1)) = j by omega, kv_at ej] at this
                have J3 := J2.chunkB hR.bb k2 fun x hx y hy => by
                  obtain ⟨j, j1, ej⟩ := take_mem hx
                  have h1 := lt2 j j1
                  rw [kv_at ej] at h1
                  obtain ⟨m, m1, em⟩ := drop_mem hy
                  by_cases z : m = ia
                  · rw [z, eq] at em
                    rw [← Option.some.inj em]; exact h1
                  · exact Int.lt_trans h1 (asc_lt hR.aa eq em (by omega))
                by_cases e4 : ib + 1 + k2 = b.size
                · rw [if_pos (by simpa using e4)]
                  exact wpS_pure (.inr ⟨_, _, rfl, hSG2, J3.doneB hR.aa (by omega)⟩)
                rw [if_neg (by simpa using e4)]
                refine wpS_bind (elem_ok eq ?_)
                have J4 := (J3).pushA hR.aa eq lq
                by_cases e5 : ia + 1 + 1 = a.size
                · rw [if_pos (by simpa using e5)]
                  obtain ⟨z, ez⟩ := at_in (l := a) (i := ia + 1) (by omega)
                  exact wpS_pure (.inr ⟨_, _, rfl, hSG2, J4.last hR.bb ez (by omega) fun y hy => hR.last y hy z (by rw [← e5]; exact ez)⟩)
                rw [if_neg (by simpa using e5)]
                split
                · exact wpS_pure (.inl ⟨_, _, _, _, _, _, rfl, hSG2, J4, by omega, by omega, by omega⟩)
                · exact wpS_pure ⟨_, _, _, _, _, _, rfl, hSG2, J4, by omega, by omega, by omega⟩
              · rw [if_neg k20]
                have lq : ∀ y ∈ b.toList.drop (ib + 1), c q < c y := fun y hy => by
                  obtain ⟨j, j1, ej⟩ := drop_mem hy
                  have jl : j < b.size := (Array.getElem?_eq_some_iff.mp ej).1
                  have := gt2 (j - (ib + 1)) (by omega) (by omega)
                  rwa [show ib + 1 + (j - (ib + 1)) = j by omega, kv_at ej] at this
                refine wpS_bind (elem_ok eq ?_)
                have J4 := (J2).pushA hR.aa eq lq
                by_cases e5 : ia + 1 + 1 = a.size
                · rw [if_pos (by simpa using e5)]
                  obtain ⟨z, ez⟩ := at_in (l := a) (i := ia + 1) (by omega)
                  exact wpS_pure (.inr ⟨_, _, rfl, hSG2, J4.last hR.bb ez (by omega) fun y hy => hR.last y hy z (by rw [← e5]; exact ez)⟩)
                rw [if_neg (by simpa using e5)]
                split
                · exact wpS_pure (.inl ⟨_, _, _, _, _, _, rfl, hSG2, J4, by omega, by omega, by omega⟩)
                · exact wpS_pure ⟨_, _, _, _, _, _, rfl, hSG2, J4, by omega, by omega, by omega⟩
        · rintro r st3 ⟨out, ia, ib, mg, ac, bc, rfl, hSG, hJ, h1, h2, h3⟩
          exact .inl ⟨_, _, _, _, _, _, rfl, hSG, hJ, h1, h2, by omega⟩
        · exact ⟨_, _, _, _, _, _, rfl, hSG, hJ, h1, h2, by omega⟩
        · clear hJ h1 h2 h3 hSG
          rintro r st3 (⟨out, ia, ib, mg, ac, bc, rfl, hSG, hJ, h1, h2, h3⟩ | ⟨o, rest, rfl, hSG, hM⟩)
          · dsimp only
            refine wpS_bind (gmin_ok hSG fun st4 hSG2 => ?_)
            exact wpS_pure ⟨_, _, _, _, rfl, hSG2, hJ, h1, h2, by omega⟩
          · exact wpS_pure ⟨_, _, rfl, hSG, hM⟩
      · exact wpS_pure ⟨_, _, rfl, hSG, hM⟩
  · rintro r st1 ⟨out, ia, ib, mg, rfl, hSG, hJ, h1, h2, h3⟩
    exfalso
    omega
  · exact ⟨_, _, _, _, rfl, SG.refl _, J0, by omega, by omega, by omega⟩
  · rintro r st1 ⟨o, rest, rfl, hSG, hM⟩
    exact wpS_pure (h o st1 hSG hM)

end
end Oh

namespace Oh
open PySem PyProof.Rows
def mergeHi' : Array Keyed → Array Keyed → StateT SortSt Sem (Array Keyed) := sortPriv% PySem.Builtin.mergeHi
theorem mergeHi'_eq (a b : Array Keyed) : mergeHi' a b = (do
  rule "list.sort.merge-hi"
  let total := a.size + b.size
  let done (out : Array Keyed) (na nb : Nat) := a.extract 0 na ++ b.extract 0 nb ++ out.reverse
  let firstOfB (out : Array Keyed) (na nb : Nat) := b.extract 0 nb ++ a.extract 0 na ++ out.reverse
  let mut na := a.size - 1
  let mut nb := b.size
  let mut out : Array Keyed := #[← elem' a na]
  if na == 0 then return done out na nb
  if nb == 1 then return firstOfB out na nb
  let mut minGallop := gallopOf (← get)
  for _ in [0:total] do
    let mut acount := 0
    let mut bcount := 0
    for _ in [0:total] do
      let some aWins ← lt' (← elem' b (nb - 1)) (← elem' a (na - 1)) | return done out na nb
      if aWins then
        na := na - 1; out := out.push (← elem' a na); acount := acount + 1; bcount := 0
        if na == 0 then return done out na nb
        if acount ≥ minGallop then break
      else
        nb := nb - 1; out := out.push (← elem' b nb); bcount := bcount + 1; acount := 0
        if nb == 1 then return firstOfB out na nb
        if bcount ≥ minGallop then break
    rule "list.sort.gallop"
    minGallop := minGallop + 1
    for _ in [0:total] do
      if minGallop > 1 then minGallop := minGallop - 1
      setMinGallop' minGallop
      let some at_ ← gallop' false (← elem' b (nb - 1)) a 0 na (na - 1) | return done out na nb
      let k := na - at_
      acount := k
      if k > 0 then
        out := out ++ (a.extract at_ na).reverse; na := at_
        if na == 0 then return done out na nb
      nb := nb - 1; out := out.push (← elem' b nb)
      if nb == 1 then return firstOfB out na nb
      let some at_ ← gallop' true (← elem' a (na - 1)) b 0 nb (nb - 1) | return done out na nb
      let k := nb - at_
      bcount := k
      if k > 0 then
        out := out ++ (b.extract at_ nb).reverse; nb := at_
        if nb == 1 then return firstOfB out na nb
        if nb == 0 then return done out na nb
      na := na - 1; out := out.push (← elem' a na)
      if na == 0 then return done out na nb
      if acount < 7 && bcount < 7 then break
    minGallop := minGallop + 1
    setMinGallop' minGallop
  unsupported "internal:list.sort.merge-bound") := rfl
section
variable {prog : Program} {w : World} {A : Around} {E : Value → Shared → Prop} {s : Shared} {κ : SortKind} {c : Keyed → Int} {a₀ : Array Keyed}
/-- the same from the upper end -/
structure JH (c : Keyed → Int) (a b out : Array Keyed) (na nb : Nat) : Prop where
  perm : (a.toList.take na ++ (b.toList.take nb ++ out.toList.reverse)).Perm (a.toList ++ b.toList)
  asc : Asc c out.toList.reverse
  lta : ∀ x ∈ a.toList.take na, ∀ y ∈ out.toList.reverse, c x < c y
  ltb : ∀ x ∈ b.toList.take nb, ∀ y ∈ out.toList.reverse, c x < c y
theorem take_at {l : Array Keyed} {i : Nat} {p : Keyed} (h : l[i]? = some p) : l.toList.take (i + 1) = l.toList.take i ++ [p] := by
  rw [← Array.getElem?_toList] at h
  obtain ⟨hi, rfl⟩ := List.getElem?_eq_some_iff.mp h
  exact (List.take_append_getElem hi).symm
theorem asc_take {c : Keyed → Int} {l : List Keyed} (h : Asc c l) (i : Nat) : Asc c (l.take i) := h.sublist (List.take_sublist i l)
theorem rev_push (out : Array Keyed) (p : Keyed) : (out.push p).toList.reverse = p :: out.toList.reverse := by rw [Array.toList_push, List.reverse_append]; rfl
theorem ext_low (l : Array Keyed) (n : Nat) : (l.extract 0 n).toList = l.toList.take n := by rw [ext_list]; rfl
section
variable {a b out : Array Keyed} {na nb : Nat} {p : Keyed}
theorem asc_cons {l : List Keyed} (h : Asc c l) (hp : ∀ y ∈ l, c p < c y) : Asc c (p :: l) := List.pairwise_cons.mpr ⟨hp, h⟩
theorem JH.pushA (h : JH c a b out (na + 1) nb) (ha : Asc c a.toList) (ep : a[na]? = some p) (hlt : ∀ x ∈ b.toList.take nb, c x < c p) : JH c a b (out.push p) na nb := by
  have hd := take_at ep
  have hab := asc_take ha (na + 1)
  rw [hd] at hab
  have h2 := h.lta
  rw [hd] at h2
  have hp : ∀ x ∈ a.toList.take na, c x < c p := fun x hx => (List.pairwise_append.mp hab).2.2 x hx p List.mem_cons_self
  refine ⟨?_, ?_, fun x hx y hy => ?_, fun x hx y hy => ?_⟩
  · rw [rev_push]
    refine List.Perm.trans ?_ h.perm
    rw [hd, List.append_assoc]
    refine List.Perm.append_left _ ?_
    exact List.perm_middle
  · rw [rev_push]
    exact asc_cons h.asc fun y hy => h2 p (List.mem_append_right _ List.mem_cons_self) y hy
  · rw [rev_push] at hy
    rcases List.mem_cons.mp hy with z | z
    · rw [z]; exact hp x hx
    · exact h2 x (List.mem_append_left _ hx) y z
  · rw [rev_push] at hy
    rcases List.mem_cons.mp hy with z | z
    · rw [z]; exact hlt x hx
    · exact h.ltb x hx y z
theorem JH.pushB (h : JH c a b out na (nb + 1)) (hb : Asc c b.toList) (ep : b[nb]? = some p) (hlt : ∀ x ∈ a.toList.take na, c x < c p) : JH c a b (out.push p) na nb := by
  have hd := take_at ep
  have hab := asc_take hb (nb + 1)
  rw [hd] at hab
  have h2 := h.ltb
  rw [hd] at h2
  have hp : ∀ x ∈ b.toList.take nb, c x < c p := fun x hx => (List.pairwise_append.mp hab).2.2 x hx p List.mem_cons_self
  refine ⟨?_, ?_, fun x hx y hy => ?_, fun x hx y hy => ?_⟩
  · rw [rev_push]
    refine List.Perm.trans ?_ h.perm
    rw [hd, List.append_assoc]
    exact List.Perm.refl _
  · rw [rev_push]
    exact asc_cons h.asc fun y hy => h2 p (List.mem_append_right _ List.mem_cons_self) y hy
  · rw [rev_push] at hy
    rcases List.mem_cons.mp hy with z | z
    · rw [z]; exact hlt x hx
    · exact h.lta x hx y z
  · rw [rev_push] at hy
    rcases List.mem_cons.mp hy with z | z
    · rw [z]; exact hp x hx
    · exact h2 x (List.mem_append_left _ hx) y z
theorem rev_app (out l : Array Keyed) : (out ++ l.reverse).toList.reverse = l.toList ++ out.toList.reverse := by rw [Array.toList_append, List.reverse_append, Array.toList_reverse, List.reverse_reverse]
theorem take_split (l : List Keyed) {i j : Nat} (h : i ≤ j) : l.take j = l.take i ++ (l.drop i).take (j - i) := by
  have e := List.take_append_drop i (l.take j)
  rw [List.take_take, Nat.min_eq_left h, List.drop_take] at e
  exact e.symm
theorem JH.chunkA (h : JH c a b out na nb) (ha : Asc c a.toList) {k : Nat} (hk : k ≤ na) (hlt : ∀ x ∈ b.toList.take nb, ∀ y ∈ (a.toList.drop k).take (na - k), c x < c y) : JH c a b (out ++ (a.extract k na).reverse) k nb := by
  have e := rev_app out (a.extract k na)
  rw [ext_list] at e
  have ed := take_split a.toList hk
  have hab := asc_take ha na
  rw [ed] at hab
  obtain ⟨p1, p2, p3⟩ := List.pairwise_append.mp hab
  have h2 := h.lta
  rw [ed] at h2
  refine ⟨?_, ?_, fun x hx y hy => ?_, fun x hx y hy => ?_⟩
  · rw [e]
    refine List.Perm.trans ?_ h.perm
    rw [ed, List.append_assoc]
    refine List.Perm.append_left _ ?_
    rw [← List.append_assoc, ← List.append_assoc]
    exact List.Perm.append_right _ List.perm_append_comm
  · rw [e]
    exact List.pairwise_append.mpr ⟨p2, h.asc, fun x hx y hy => h2 x (List.mem_append_right _ hx) y hy⟩
  · rw [e] at hy
    rcases List.mem_append.mp hy with z | z
    · exact p3 x hx y z
    · exact h2 x (List.mem_append_left _ hx) y z
  · rw [e] at hy
    rcases List.mem_append.mp hy with z | z
    · exact hlt x hx y z
    · exact h.ltb x hx y z
theorem JH.chunkB (h : JH c a b out na nb) (hb : Asc c b.toList) {k : Nat} (hk : k ≤ nb) (hlt : ∀ x ∈ a.toList.take na, ∀ y ∈ (b.toList.drop k).take (nb - k), c x < c y) : JH c a b (out ++ (b.extract k nb).reverse) na k := by
  have e := rev_app out (b.extract k nb)
  rw [ext_list] at e
  have ed := take_split b.toList hk
  have hab := asc_take hb nb
  rw [ed] at hab
  obtain ⟨p1, p2, p3⟩ := List.pairwise_append.mp hab
  have h2 := h.ltb
  rw [ed] at h2
  refine ⟨?_, ?_, fun x hx y hy => ?_, fun x hx y hy => ?_⟩
  · rw [e]
    refine List.Perm.trans ?_ h.perm
    rw [ed, List.append_assoc]
  · rw [e]
    exact List.pairwise_append.mpr ⟨p2, h.asc, fun x hx y hy => h2 x (List.mem_append_right _ hx) y hy⟩
  · rw [e] at hy
    rcases List.mem_append.mp hy with z | z
    · exact hlt x hx y z
    · exact h.lta x hx y z
  · rw [e] at hy
    rcases List.mem_append.mp hy with z | z
    · exact p3 x hx y z
    · exact h2 x (List.mem_append_left _ hx) y z
theorem JH.done0 (h : JH c a b out na nb) : (a.extract 0 na ++ b.extract 0 nb ++ out.reverse).toList = a.toList.take na ++ (b.toList.take nb ++ out.toList.reverse) := by rw [Array.toList_append, Array.toList_append, ext_low, ext_low, Array.toList_reverse, List.append_assoc]
theorem JH.doneA (h : JH c a b out 0 nb) (hb : Asc c b.toList) : MR c a b (a.extract 0 0 ++ b.extract 0 nb ++ out.reverse) := by
  refine ⟨by rw [h.done0]; exact h.perm, ?_⟩
  rw [h.done0, List.take_zero, List.nil_append]
  exact List.pairwise_append.mpr ⟨asc_take hb nb, h.asc, h.ltb⟩
theorem JH.doneB (h : JH c a b out na 0) (ha : Asc c a.toList) : MR c a b (a.extract 0 na ++ b.extract 0 0 ++ out.reverse) := by
  refine ⟨by rw [h.done0]; exact h.perm, ?_⟩
  rw [h.done0, List.take_zero, List.nil_append]
  exact List.pairwise_append.mpr ⟨asc_take ha na, h.asc, h.lta⟩
theorem JH.pushA' (h : JH c a b out na nb) (ha : Asc c a.toList) (h1 : 1 ≤ na) (ep : a[na - 1]? = some p) (hlt : ∀ x ∈ b.toList.take nb, c x < c p) : JH c a b (out.push p) (na - 1) nb := by
  obtain ⟨m, rfl⟩ : ∃ m, na = m + 1 := ⟨na - 1, by omega⟩
  exact JH.pushA h ha ep hlt
theorem JH.doneA' (h : JH c a b out na nb) (hb : Asc c b.toList) (h0 : na = 0) : MR c a b (a.extract 0 na ++ b.extract 0 nb ++ out.reverse) := by
  subst h0
  exact h.doneA hb
theorem JH.first (h : JH c a b out na 1) (ha : Asc c a.toList) (ep : b[0]? = some p) (hlt : ∀ y ∈ a.toList, c p < c y) : MR c a b (b.extract 0 1 ++ a.extract 0 na ++ out.reverse) := by
  have e : (b.extract 0 1 ++ a.extract 0 na ++ out.reverse).toList = b.toList.take 1 ++ (a.toList.take na ++ out.toList.reverse) := by rw [Array.toList_append, Array.toList_append, ext_low, ext_low, Array.toList_reverse, List.append_assoc]
  have hd := take_at ep
  rw [List.take_zero, List.nil_append] at hd
  have h2 := h.ltb
  rw [hd] at h2
  refine ⟨?_, ?_⟩
  · rw [e]
    refine List.Perm.trans ?_ h.perm
    rw [← List.append_assoc, ← List.append_assoc]
    exact List.Perm.append_right _ List.perm_append_comm
  · rw [e, hd]
    show Asc c (p :: (a.toList.take na ++ out.toList.reverse))
    refine asc_cons (List.pairwise_append.mpr ⟨asc_take ha na, h.asc, h.lta⟩) fun y hy => ?_
    rcases List.mem_append.mp hy with w | w
    · exact hlt y (List.mem_of_mem_take w)
    · exact h2 p List.mem_cons_self y w
end
theorem tk_mem {l : Array Keyed} {n : Nat} {y : Keyed} (h : y ∈ l.toList.take n) : ∃ j, j < n ∧ l[j]? = some y := by
  obtain ⟨m, hm, rfl⟩ := List.getElem_of_mem h
  rw [List.length_take] at hm
  refine ⟨m, by omega, ?_⟩
  rw [List.getElem_take, ← Array.getElem?_toList, List.getElem?_eq_getElem]
theorem Runs.low {a b : Array Keyed} (hR : Runs c a₀ a b) {p : Keyed} (ep : b[0]? = some p) : ∀ y ∈ a.toList, c p < c y := fun y hy => by
  obtain ⟨j, hj, rfl⟩ := List.getElem_of_mem hy
  have ej : a[j]? = some a.toList[j] := by rw [← Array.getElem?_toList, List.getElem?_eq_getElem]
  obtain ⟨q, eq⟩ := at_in (l := a) (i := 0) (by have := hR.a1; omega)
  have h1 := hR.first p q ep eq
  by_cases z : j = 0
  · subst z
    rw [ej] at eq
    rw [Option.some.inj eq]; exact h1
  · exact Int.lt_trans h1 (asc_lt hR.aa eq ej (by omega))

set_option maxHeartbeats 2000000 in
theorem hi_ok (hA : Asks prog w A s κ c a₀) {st : SortSt} {a b : Array Keyed} {Q : Array Keyed → SortSt → Prop} (hk : kindOf st = κ) (hR : Runs c a₀ a b) (h : ∀ out st', SG st st' → MR c a b out → Q out st') : wpS (model prog w) A E s (mergeHi' a b) Q st := by
  have a1 := hR.a1
  have b1 := hR.b1
  obtain ⟨pb0, eb0⟩ := at_in (l := b) (i := 0) (by omega)
  rw [mergeHi'_eq]
  refine wpS_bind (wpS_lift (wpAny_rule ⟨rfl, ?_⟩))
  obtain ⟨p0, ep0⟩ := at_in (l := a) (i := a.size - 1) (by omega)
  refine wpS_bind (elem_ok ep0 ?_)
  dsimp only
  have J0 : JH c a b #[p0] (a.size - 1) b.size := by
    have h0 : JH c a b #[] (a.size - 1 + 1) b.size := by
      refine ⟨?_, List.Pairwise.nil, fun x _ y hy => (nomatch hy), fun x _ y hy => (nomatch hy)⟩
      have e1 : a.toList.take (a.size - 1 + 1) = a.toList := List.take_of_length_le (by simp; omega)
      have e2 : b.toList.take b.size = b.toList := List.take_of_length_le (by simp)
      rw [e1, e2]
      simp
    exact h0.pushA hR.aa ep0 fun x hx => hR.last x (List.mem_of_mem_take hx) p0 ep0
  by_cases c1 : a.size - 1 = 0
  · rw [if_pos (by simpa using c1)]
    rw [c1] at J0 ⊢
    exact wpS_pure (h _ _ (SG.refl _) (J0.doneA hR.bb))
  rw [if_neg (by simpa using c1)]
  by_cases c2 : b.size = 1
  · rw [if_pos (by simpa using c2)]
    rw [c2] at J0 ⊢
    exact wpS_pure (h _ _ (SG.refl _) (J0.first hR.aa eb0 (hR.low eb0)))
  rw [if_neg (by simpa using c2)]
  refine wpS_bind (wpS_get ?_)
  refine wpS_bind (wpS_mono (wpS_forRange (I := fun x r st' => ∃ na nb out mg, r = (none, na, nb, out, mg) ∧ SG st st' ∧ JH c a b out na nb ∧ 1 ≤ na ∧ 2 ≤ nb ∧ na < a.size ∧ nb ≤ b.size ∧ na + nb + x + 1 ≤ a.size + b.size)
    (Q := fun r st' => ∃ o rest, r = (some o, rest) ∧ SG st st' ∧ MR c a b o) ?_ ?_ ?_) ?_)
  · rintro x r st1 _ hx ⟨na, nb, out, mg, rfl, hSG, hJ, h1, h2, h3, h4, h5⟩
    dsimp only
    refine wpS_bind (wpS_mono (wpS_forRange (I := fun y r st' => ∃ na nb out ac bc, r = (none, na, nb, out, ac, bc) ∧ SG st st' ∧ JH c a b out na nb ∧ 1 ≤ na ∧ 2 ≤ nb ∧ na < a.size ∧ nb ≤ b.size ∧ na + nb + x + 1 ≤ a.size + b.size)
      (Q := fun r st' => (∃ na nb out ac bc, r = (none, na, nb, out, ac, bc) ∧ SG st st' ∧ JH c a b out na nb ∧ 1 ≤ na ∧ 2 ≤ nb ∧ na < a.size ∧ nb ≤ b.size ∧ na + nb + x + 1 ≤ a.size + b.size) ∨ ∃ o rest, r = (some o, rest) ∧ SG st st' ∧ MR c a b o) ?_ ?_ ?_) ?_)
    · clear hJ h1 h2 h3 h4 h5 hSG
      rintro y r st2 _ hy ⟨na, nb, out, ac, bc, rfl, hSG, hJ, h1, h2, h3, h4, h5⟩
      obtain ⟨na1, rfl⟩ : ∃ m, na = m + 1 := ⟨na - 1, by omega⟩
      obtain ⟨nb1, rfl⟩ : ∃ m, nb = m + 1 := ⟨nb - 1, by omega⟩
      dsimp only
      rw [show na1 + 1 - 1 = na1 by omega, show nb1 + 1 - 1 = nb1 by omega]
      obtain ⟨p, ep⟩ := at_in (l := b) (i := nb1) (by omega)
      obtain ⟨q, eq⟩ := at_in (l := a) (i := na1) (by omega)
      refine wpS_bind (elem_ok ep (wpS_bind (elem_ok eq (wpS_bind (lt_ok hA (hSG.kind.trans hk) (hR.mb p (at_mem ep)) (hR.ma q (at_mem eq)) ?_)))))
      dsimp only
      by_cases hl : c p < c q
      · rw [if_pos (decide_eq_true hl)]
        refine wpS_bind (elem_ok eq ?_)
        have J2 := hJ.pushA hR.aa eq fun x hx => by
          obtain ⟨j, j1, ej⟩ := tk_mem hx
          by_cases z : j = nb1
          · rw [z, ep] at ej
            rw [← Option.some.inj ej]; exact hl
          · exact Int.lt_trans (asc_lt hR.bb ej ep (by omega)) hl
        by_cases e1 : na1 = 0
        · rw [if_pos (by simpa using e1)]
          subst e1
          exact wpS_pure (.inr ⟨_, _, rfl, hSG, J2.doneA hR.bb⟩)
        rw [if_neg (by simpa using e1)]
        split
        · exact wpS_pure (.inl ⟨_, _, _, _, _, rfl, hSG, J2, by omega, h2, by omega, h4, by omega⟩)
        · exact wpS_pure ⟨_, _, _, _, _, rfl, hSG, J2, by omega, h2, by omega, h4, by omega⟩
      · rw [if_neg (by simpa using hl)]
        have hl' : c q < c p := by
          have := hR.ne q (at_mem eq) p (at_mem ep)
          omega
        refine wpS_bind (elem_ok ep ?_)
        have J2 := hJ.pushB hR.bb ep fun x hx => by
          obtain ⟨j, j1, ej⟩ := tk_mem hx
          by_cases z : j = na1
          · rw [z, eq] at ej
            rw [← Option.some.inj ej]; exact hl'
          · exact Int.lt_trans (asc_lt hR.aa ej eq (by omega)) hl'
        by_cases e1 : nb1 = 1
        · rw [if_pos (by simpa using e1)]
          subst e1
          exact wpS_pure (.inr ⟨_, _, rfl, hSG, J2.first hR.aa eb0 (hR.low eb0)⟩)
        rw [if_neg (by simpa using e1)]
        split
        · exact wpS_pure (.inl ⟨_, _, _, _, _, rfl, hSG, J2, h1, by omega, h3, by omega, by omega⟩)
        · exact wpS_pure ⟨_, _, _, _, _, rfl, hSG, J2, h1, by omega, h3, by omega, by omega⟩
    · rintro r st2 hI
      exact .inl hI
    · exact ⟨_, _, _, 0, 0, rfl, hSG, hJ, h1, h2, h3, h4, h5⟩
    · clear hJ h1 h2 h3 h4 h5 hSG
      rintro r st2 (⟨na, nb, out, ac, bc, rfl, hSG, hJ, h1, h2, h3, h4, h5⟩ | ⟨o, rest, rfl, hSG, hM⟩)
      · dsimp only
        refine wpS_bind (wpS_lift (wpAny_rule ⟨rfl, ?_⟩))
        refine wpS_bind (wpS_mono (wpS_forRange (I := fun y r st' => ∃ na nb out mg ac bc, r = (none, na, nb, out, mg, ac, bc) ∧ SG st st' ∧ JH c a b out na nb ∧ 1 ≤ na ∧ 2 ≤ nb ∧ na < a.size ∧ nb ≤ b.size ∧ na + nb + x + 1 + y ≤ a.size + b.size)
          (Q := fun r st' => (∃ na nb out mg ac bc, r = (none, na, nb, out, mg, ac, bc) ∧ SG st st' ∧ JH c a b out na nb ∧ 1 ≤ na ∧ 2 ≤ nb ∧ na < a.size ∧ nb ≤ b.size ∧ na + nb + x + 2 ≤ a.size + b.size) ∨ ∃ o rest, r = (some o, rest) ∧ SG st st' ∧ MR c a b o) ?_ ?_ ?_) ?_)
        · clear hJ h1 h2 h3 h4 h5 hSG
          rintro y r st3 _ hy ⟨na, nb, out, mg, ac, bc, rfl, hSG, hJ, h1, h2, h3, h4, h5⟩
          obtain ⟨nb1, rfl⟩ : ∃ m, nb = m + 1 := ⟨nb - 1, by omega⟩
          dsimp only
          rw [show nb1 + 1 - 1 = nb1 by omega]
          obtain ⟨p, ep⟩ := at_in (l := b) (i := nb1) (by omega)
          by_cases mg1 : mg > 1
          case' pos => rw [if_pos mg1]
          case' neg => rw [if_neg mg1]
          all_goals
            refine wpS_bind (gmin_ok hSG fun st4 hSG2 => ?_)
            refine wpS_bind (elem_ok ep ?_)
            refine wpS_bind (gal_ok hA (hSG2.kind.trans hk) (hR.mb p (at_mem ep)) (fun i hi => (at_in (l := a) (i := 0 + i) (by omega)).imp fun q eq => ⟨eq, hR.ma q (at_mem eq)⟩) (asc_sg hR.aa _ _ (by omega)) (fun i hi => ?_) (by omega) fun k hk' lt1 gt1 => ?_)
            · obtain ⟨q, eq⟩ := at_in (l := a) (i := 0 + i) (by omega)
              rw [kv_at eq]
              exact hR.ne q (at_mem eq) p (at_mem ep)
            dsimp only
            by_cases k0 : na - k > 0
            · rw [if_pos k0]
              have lp : ∀ x ∈ a.toList.take k, c x < c p := fun x hx => by
                obtain ⟨j, j1, ej⟩ := tk_mem hx
                have := lt1 j j1
                rwa [Nat.zero_add, kv_at ej] at this
              have J1 := hJ.chunkA hR.aa (k := k) (by omega) fun x hx y hy => by
                obtain ⟨j, j1, ej⟩ := take_mem hy
                have h1 := gt1 (k + j) (by omega) (by omega)
                rw [Nat.zero_add, kv_at ej] at h1
                obtain ⟨m, m1, em⟩ := tk_mem hx
                by_cases z : m = nb1
                · rw [z, ep] at em
                  rw [← Option.some.inj em]; exact h1
                · exact Int.lt_trans (asc_lt hR.bb em ep (by omega)) h1
              by_cases e1 : k = 0
              · rw [if_pos (by simpa using e1)]
                subst e1
                exact wpS_pure (.inr ⟨_, _, rfl, hSG2, J1.doneA hR.bb⟩)
              rw [if_neg (by simpa using e1)]
              have J2 := (J1).pushB hR.bb ep lp
              refine wpS_bind (elem_ok ep ?_)
              by_cases e3 : nb1 = 1
              · rw [if_pos (by simpa using e3)]
                subst e3
                exact wpS_pure (.inr ⟨_, _, rfl, hSG2, J2.first hR.aa eb0 (hR.low eb0)⟩)
              rw [if_neg (by simpa using e3)]
              obtain ⟨q, eq⟩ := at_in (l := a) (i := k - 1) (by omega)
              refine wpS_bind (elem_ok eq ?_)
              refine wpS_bind (gal_ok hA (hSG2.kind.trans hk) (hR.ma q (at_mem eq)) (fun i hi => (at_in (l := b) (i := 0 + i) (by omega)).imp fun p ep => ⟨ep, hR.mb p (at_mem ep)⟩) (asc_sg hR.bb _ _ (by omega)) (fun i hi => ?_) (by omega) fun k2 hk2 lt2 gt2 => ?_)
              · obtain ⟨y, ey⟩ := at_in (l := b) (i := 0 + i) (by omega)
                rw [kv_at ey]
                exact fun w => hR.ne q (at_mem eq) y (at_mem ey) w.symm
              dsimp only
              by_cases k20 : nb1 - k2 > 0
              · rw [if_pos k20]
                have lq : ∀ x ∈ b.toList.take k2, c x < c q := fun x hx => by
                  obtain ⟨j, j1, ej⟩ := tk_mem hx
                  have := lt2 j j1
                  rwa [Nat.zero_add, kv_at ej] at this
                have J3 := J2.chunkB hR.bb (k := k2) (by omega) fun x hx y hy => by
                  obtain ⟨j, j1, ej⟩ := take_mem hy
                  have h1 := gt2 (k2 + j) (by omega) (by omega)
                  rw [Nat.zero_add, kv_at ej] at h1
                  obtain ⟨m, m1, em⟩ := tk_mem hx
                  by_cases z : m = k - 1
                  · rw [z, eq] at em
                    rw [← Option.some.inj em]; exact h1
                  · exact Int.lt_trans (asc_lt hR.aa em eq (by omega)) h1
                by_cases e4 : k2 = 1
                · rw [if_pos (by simpa using e4)]
                  subst e4
                  exact wpS_pure (.inr ⟨_, _, rfl, hSG2, J3.first hR.aa eb0 (hR.low eb0)⟩)
                rw [if_neg (by simpa using e4)]
                by_cases e6 : k2 = 0
                · rw [if_pos (by simpa using e6)]
                  subst e6
                  exact wpS_pure (.inr ⟨_, _, rfl, hSG2, J3.doneB hR.aa⟩)
                rw [if_neg (by simpa using e6)]
                have J4 := (J3).pushA' hR.aa (by omega) eq lq
                refine wpS_bind (elem_ok eq ?_)
                by_cases e5 : k - 1 = 0
                · rw [if_pos (beq_iff_eq.mpr e5)]
                  exact wpS_pure (.inr ⟨_, _, rfl, hSG2, J4.doneA' hR.bb e5⟩)
                rw [if_neg (fun w => e5 (beq_iff_eq.mp w))]
                split
                · exact wpS_pure (.inl ⟨_, _, _, _, _, _, rfl, hSG2, J4, by omega, by omega, by omega, by omega, by omega⟩)
                · exact wpS_pure ⟨_, _, _, _, _, _, rfl, hSG2, J4, by omega, by omega, by omega, by omega, by omega⟩
              · rw [if_neg k20]
                have lq : ∀ x ∈ b.toList.take nb1, c x < c q := fun x hx => by
                  obtain ⟨j, j1, ej⟩ := tk_mem hx
                  have := lt2 j (by omega)
                  rwa [Nat.zero_add, kv_at ej] at this
                have J4 := (J2).pushA' hR.aa (by omega) eq lq
                refine wpS_bind (elem_ok eq ?_)
                by_cases e5 : k - 1 = 0
                · rw [if_pos (beq_iff_eq.mpr e5)]
                  exact wpS_pure (.inr ⟨_, _, rfl, hSG2, J4.doneA' hR.bb e5⟩)
                rw [if_neg (fun w => e5 (beq_iff_eq.mp w))]
                split
                · exact wpS_pure (.inl ⟨_, _, _, _, _, _, rfl, hSG2, J4, by omega, by omega, by omega, by omega, by omega⟩)
                · exact wpS_pure ⟨_, _, _, _, _, _, rfl, hSG2, J4, by omega, by omega, by omega, by omega, by omega⟩
            · rw [if_neg k0]
              have lp : ∀ x ∈ a.toList.take na, c x < c p := fun x hx => by
                obtain ⟨j, j1, ej⟩ := tk_mem hx
                have := lt1 j (by omega)
                rwa [Nat.zero_add, kv_at ej] at this
              have J2 := (hJ).pushB hR.bb ep lp
              refine wpS_bind (elem_ok ep ?_)
              by_cases e3 : nb1 = 1
              · rw [if_pos (by simpa using e3)]
                subst e3
                exact wpS_pure (.inr ⟨_, _, rfl, hSG2, J2.first hR.aa eb0 (hR.low eb0)⟩)
              rw [if_neg (by simpa using e3)]
              obtain ⟨q, eq⟩ := at_in (l := a) (i := na - 1) (by omega)
              refine wpS_bind (elem_ok eq ?_)
              refine wpS_bind (gal_ok hA (hSG2.kind.trans hk) (hR.ma q (at_mem eq)) (fun i hi => (at_in (l := b) (i := 0 + i) (by omega)).imp fun p ep => ⟨ep, hR.mb p (at_mem ep)⟩) (asc_sg hR.bb _ _ (by omega)) (fun i hi => ?_) (by omega) fun k2 hk2 lt2 gt2 => ?_)
              · obtain ⟨y, ey⟩ := at_in (l := b) (i := 0 + i) (by omega)
                rw [kv_at ey]
                exact fun w => hR.ne q (at_mem eq) y (at_mem ey) w.symm
              dsimp only
              by_cases k20 : nb1 - k2 > 0
              · rw [if_pos k20]
                have lq : ∀ x ∈ b.toList.take k2, c x < c q := fun x hx => by
                  obtain ⟨j, j1, ej⟩ := tk_mem hx
                  have := lt2 j j1
                  rwa [Nat.zero_add, kv_at ej] at this
                have J3 := J2.chunkB hR.bb (k := k2) (by omega) fun x hx y hy => by
                  obtain ⟨j, j1, ej⟩ := take_mem hy
                  have h1 := gt2 (k2 + j) (by omega) (by omega)
                  rw [Nat.zero_add, kv_at ej] at h1
                  obtain ⟨m, m1, em⟩ := tk_mem hx
                  by_cases z : m = na - 1
                  · rw [z, eq] at em
                    rw [← Option.some.inj em]; exact h1
                  · exact Int.lt_trans (asc_lt hR.aa em eq (by omega)) h1
                by_cases e4 : k2 = 1
                · rw [if_pos (by simpa using e4)]
                  subst e4
                  exact wpS_pure (.inr ⟨_, _, rfl, hSG2, J3.first hR.aa eb0 (hR.low eb0)⟩)
                rw [if_neg (by simpa using e4)]
                by_cases e6 : k2 = 0
                · rw [if_pos (by simpa using e6)]
                  subst e6
                  exact wpS_pure (.inr ⟨_, _, rfl, hSG2, J3.doneB hR.aa⟩)
                rw [if_neg (by simpa using e6)]
                have J4 := (J3).pushA' hR.aa (by omega) eq lq
                refine wpS_bind (elem_ok eq ?_)
                by_cases e5 : na - 1 = 0
                · rw [if_pos (beq_iff_eq.mpr e5)]
                  exact wpS_pure (.inr ⟨_, _, rfl, hSG2, J4.doneA' hR.bb e5⟩)
                rw [if_neg (fun w => e5 (beq_iff_eq.mp w))]
                split
                · exact wpS_pure (.inl ⟨_, _, _, _, _, _, rfl, hSG2, J4, by omega, by omega, by omega, by omega, by omega⟩)
                · exact wpS_pure ⟨_, _, _, _, _, _, rfl, hSG2, J4, by omega, by omega, by omega, by omega, by omega⟩
              · rw [if_neg k20]
                have lq : ∀ x ∈ b.toList.take nb1, c x < c q := fun x hx => by
                  obtain ⟨j, j1, ej⟩ := tk_mem hx
                  have := lt2 j (by omega)
                  rwa [Nat.zero_add, kv_at ej] at this
                have J4 := (J2).pushA' hR.aa (by omega) eq lq
                refine wpS_bind (elem_ok eq ?_)
                by_cases e5 : na - 1 = 0
                · rw [if_pos (beq_iff_eq.mpr e5)]
                  exact wpS_pure (.inr ⟨_, _, rfl, hSG2, J4.doneA' hR.bb e5⟩)
                rw [if_neg (fun w => e5 (beq_iff_eq.mp w))]
                split
                · exact wpS_pure (.inl ⟨_, _, _, _, _, _, rfl, hSG2, J4, by omega, by omega, by omega, by omega, by omega⟩)
                · exact wpS_pure ⟨_, _, _, _, _, _, rfl, hSG2, J4, by omega, by omega, by omega, by omega, by omega⟩
        · rintro r st3 ⟨na, nb, out, mg, ac, bc, rfl, hSG, hJ, h1, h2, h3, h4, h5⟩
          exact .inl ⟨_, _, _, _, _, _, rfl, hSG, hJ, h1, h2, h3, h4, by omega⟩
        · exact ⟨_, _, _, _, _, _, rfl, hSG, hJ, h1, h2, h3, h4, by omega⟩
        · clear hJ h1 h2 h3 h4 h5 hSG
          rintro r st3 (⟨na, nb, out, mg, ac, bc, rfl, hSG, hJ, h1, h2, h3, h4, h5⟩ | ⟨o, rest, rfl, hSG, hM⟩)
          · dsimp only
            refine wpS_bind (gmin_ok hSG fun st4 hSG2 => ?_)
            exact wpS_pure ⟨_, _, _, _, rfl, hSG2, hJ, h1, h2, h3, h4, by omega⟩
          · exact wpS_pure ⟨_, _, rfl, hSG, hM⟩
      · exact wpS_pure ⟨_, _, rfl, hSG, hM⟩
  · rintro r st1 ⟨na, nb, out, mg, rfl, hSG, hJ, h1, h2, h3, h4, h5⟩
    exfalso
    omega
  · exact ⟨_, _, _, _, rfl, SG.refl _, J0, by omega, by omega, by omega, by omega, by omega⟩
  · rintro r st1 ⟨o, rest, rfl, hSG, hM⟩
    exact wpS_pure (h o st1 hSG hM)

end
end Oh

namespace Oh
open PySem PyProof.Rows
theorem mergeAt'_eq (i : Nat) : mergeAt' i = (do
  let st ← get
  let (some (sa, na, power), some (sb, nb, _)) := ((pendingOf st)[i]?, (pendingOf st)[i + 1]?) | unsupported "internal:list.sort.pending"
  set (setPending st (((pendingOf st).setIfInBounds i (sa, na + nb, power)).eraseIdxIfInBounds (i + 1)))
  let some k ← gallop' false (← elem' (arrOf st) sb) (arrOf st) sa na 0 | return false
  let (sa, na) := (sa + k, na - k)
  if na == 0 then return true
  let some nb ← gallop' true (← elem' (arrOf st) (sa + na - 1)) (arrOf st) sb nb (nb - 1) | return false
  if nb == 0 then return true
  let x := (arrOf st).extract sa sb
  let y := (arrOf st).extract sb (sb + nb)
  let merged ← if na ≤ nb then mergeLo' x y else mergeHi' x y
  modify fun st => setArr st (merged.toList.zipIdx.foldl (fun a (p, j) => a.setIfInBounds (sa + j) p) (arrOf st))
  return (failedOf (← get)).isNone) := rfl
/-- things put one behind the other into an array -/
theorem put_at : ∀ (l : List Keyed) (o k : Nat) (xs : Array Keyed), o + k + l.length ≤ xs.size → ∀ i, ((l.zipIdx k).foldl (fun a (p : Keyed × Nat) => a.setIfInBounds (o + p.2) p.1) xs)[i]? = if o + k ≤ i ∧ i < o + k + l.length then l[i - (o + k)]? else xs[i]?
  | [], o, k, xs, h, i => by
    rw [if_neg (by simp)]; rfl
  | p :: l, o, k, xs, h, i => by
    rw [List.length_cons] at h
    show ((l.zipIdx (k + 1)).foldl _ (xs.setIfInBounds (o + k) p))[i]? = _
    rw [put_at l o (k + 1) _ (by rw [Array.size_setIfInBounds]; omega) i, List.length_cons]
    by_cases c1 : o + (k + 1) ≤ i ∧ i < o + (k + 1) + l.length
    · rw [if_pos c1, if_pos (by omega), show i - (o + k) = i - (o + (k + 1)) + 1 by omega, List.getElem?_cons_succ]
    · rw [if_neg c1]
      by_cases c2 : i = o + k
      · rw [if_pos (by omega), c2, Nat.sub_self, List.getElem?_cons_zero, Array.getElem?_setIfInBounds_self_of_lt (by omega)]
      · rw [if_neg (by omega), Array.getElem?_setIfInBounds_ne (by omega)]
theorem put_list (l : List Keyed) (o : Nat) (xs : Array Keyed) (h : o + l.length ≤ xs.size) : (l.zipIdx.foldl (fun a (p : Keyed × Nat) => a.setIfInBounds (o + p.2) p.1) xs).toList = xs.toList.take o ++ (l ++ xs.toList.drop (o + l.length)) := by
  refine List.ext_getElem? fun i => ?_
  have hl : (xs.toList.take o).length = o := by rw [List.length_take]; simp; omega
  rw [Array.getElem?_toList, put_at l o 0 xs (by omega) i, Nat.add_zero]
  by_cases c1 : i < o
  · rw [if_neg (by omega), List.getElem?_append_left (by omega), List.getElem?_take, if_pos c1, Array.getElem?_toList]
  · rw [List.getElem?_append_right (by omega), hl]
    by_cases c2 : i < o + l.length
    · rw [if_pos (by omega), List.getElem?_append_left (by omega)]
    · rw [if_neg (by omega), List.getElem?_append_right (by omega), List.getElem?_drop, Array.getElem?_toList]
      congr 1
      omega
theorem sg_asc {c : Keyed → Int} {xs : Array Keyed} {i j : Nat} (h : Sg c xs i j) (hj : j ≤ xs.size) : Asc c (xs.extract i j).toList := by
  rw [ext_list]
  refine List.pairwise_iff_getElem.mpr fun x y hx hy hxy => ?_
  rw [List.length_take, List.length_drop] at hx hy
  rw [List.getElem_take, List.getElem_take, List.getElem_drop, List.getElem_drop]
  have e1 : xs[i + x]? = some (xs.toList[i + x]'(by omega)) := by rw [← Array.getElem?_toList, List.getElem?_eq_getElem]
  have e2 : xs[i + y]? = some (xs.toList[i + y]'(by omega)) := by rw [← Array.getElem?_toList, List.getElem?_eq_getElem]
  have := h (i + x) (i + y) (by omega) (by omega) (by omega)
  rwa [kv_at e1, kv_at e2] at this
theorem ext_at {xs : Array Keyed} {i j k : Nat} (h : i + k < j) : (xs.extract i j)[k]? = xs[i + k]? := by
  rw [← Array.getElem?_toList, ext_list, List.getElem?_take, if_pos (by omega), List.getElem?_drop, Array.getElem?_toList]
theorem ext_mem {xs : Array Keyed} {i j : Nat} {p : Keyed} (h : p ∈ (xs.extract i j).toList) : ∃ k, i ≤ k ∧ k < j ∧ xs[k]? = some p := by
  rw [ext_list] at h
  obtain ⟨m, hm, e⟩ := take_mem h
  exact ⟨i + m, by omega, by omega, e⟩
theorem ext_size {xs : Array Keyed} {i j : Nat} (hj : j ≤ xs.size) : (xs.extract i j).size = j - i := by rw [Array.size_extract, Nat.min_eq_left hj]
section
variable {prog : Program} {w : World} {A : Around} {E : Value → Shared → Prop} {s : Shared} {κ : SortKind} {c : Keyed → Int} {a₀ : Array Keyed}
set_option maxHeartbeats 1000000 in
theorem mg_ok (hA : Asks prog w A s κ c a₀) (hn : (a₀.toList.map c).Nodup) {st : SortSt} {i sa na pw sb nb pw2 : Nat} {P1 P2 : List (Nat × Nat × Nat)} {Q : Bool → SortSt → Prop} (hB : SB κ a₀ st) (hp : (pendingOf st).toList = P1 ++ (sa, na, pw) :: (sb, nb, pw2) :: P2) (hi : P1.length = i)
    (hsb : sb = sa + na) (h1 : 1 ≤ na) (h2 : 1 ≤ nb) (hz : sb + nb ≤ a₀.size) (s1 : Sg c (arrOf st) sa sb) (s2 : Sg c (arrOf st) sb (sb + nb))
    (h : ∀ st', SB κ a₀ st' → Out (arrOf st) (arrOf st') sa (sb + nb) → (pendingOf st').toList = P1 ++ (sa, na + nb, pw) :: P2 → Sg c (arrOf st') sa (sb + nb) → Q true st') : wpS (model prog w) A E s (mergeAt' i) Q st := by
  have hsz := hB.size
  have g1 : (pendingOf st)[i]? = some (sa, na, pw) := by rw [← Array.getElem?_toList, hp, List.getElem?_append_right (by omega), hi, Nat.sub_self]; rfl
  have g2 : (pendingOf st)[i + 1]? = some (sb, nb, pw2) := by rw [← Array.getElem?_toList, hp, List.getElem?_append_right (by omega), hi, show i + 1 - i = 1 by omega]; rfl
  have hpl : (((pendingOf st).setIfInBounds i (sa, na + nb, pw)).eraseIdxIfInBounds (i + 1)).toList = P1 ++ (sa, na + nb, pw) :: P2 := by
    rw [Array.toList_eraseIdxIfInBounds, Array.toList_setIfInBounds, hp, List.set_append_right _ _ (by omega), hi, Nat.sub_self, List.set_cons_zero, List.eraseIdx_append_of_length_le (by omega), hi, show i + 1 - i = 1 by omega]
    rfl
  rw [mergeAt'_eq]
  refine wpS_bind (wpS_get ?_)
  dsimp only
  rw [g1, g2]
  dsimp only
  refine wpS_bind ?_
  have st_set : ∀ {st' : SortSt} {R : PUnit → SortSt → Prop}, R ⟨⟩ st' → wpS (model prog w) A E s (set st' : StateT SortSt Sem PUnit) R st := fun {st' R} hR => by
    unfold wpS
    rw [StateT.run_set]
    exact wpAny_pure ⟨rfl, hR⟩
  refine st_set ?_
  have hB1 : SB κ a₀ (setPending st (((pendingOf st).setIfInBounds i (sa, na + nb, pw)).eraseIdxIfInBounds (i + 1))) := ⟨hB.perm, hB.kind, hB.ok⟩
  have hp1 : (pendingOf (setPending st (((pendingOf st).setIfInBounds i (sa, na + nb, pw)).eraseIdxIfInBounds (i + 1)))).toList = P1 ++ (sa, na + nb, pw) :: P2 := hpl
  have ha1 : arrOf (setPending st (((pendingOf st).setIfInBounds i (sa, na + nb, pw)).eraseIdxIfInBounds (i + 1))) = arrOf st := rfl
  generalize setPending st (((pendingOf st).setIfInBounds i (sa, na + nb, pw)).eraseIdxIfInBounds (i + 1)) = st1 at hB1 hp1 ha1 ⊢
  have mem : ∀ {j : Nat} {p : Keyed}, (arrOf st)[j]? = some p → p ∈ a₀.toList := fun e => hB.mem e
  obtain ⟨pb, epb⟩ := hB.at (i := sb) (by omega)
  refine wpS_bind (elem_ok epb ?_)
  refine wpS_bind (gal_ok hA hB1.kind (mem epb) (fun j hj => (hB.at (i := sa + j) (by omega)).imp fun p ep => ⟨ep, mem ep⟩) (by rw [← hsb]; exact s1) (fun j hj => ?_) (by omega) fun k hk lt1 gt1 => ?_)
  · rw [← kv_at (c := c) epb]
    exact nd_ne hB.perm hn (by rw [hsz]; omega) (by rw [hsz]; omega) (by omega)
  dsimp only
  rw [← kv_at (c := c) epb] at lt1 gt1
  by_cases z1 : na - k = 0
  · rw [if_pos (beq_iff_eq.mpr z1)]
    refine wpS_pure (h st1 hB1 (by rw [ha1]; exact Out.refl _ _ _) hp1 ?_)
    rw [ha1]
    intro x y hx hxy hy
    by_cases c1 : y < sb
    · exact s1 x y hx hxy c1
    · by_cases c2 : x < sb
      · have hl := lt1 (x - sa) (by omega)
        rw [show sa + (x - sa) = x by omega] at hl
        by_cases c3 : y = sb
        · rw [c3]; exact hl
        · exact Int.lt_trans hl (s2 sb y (Nat.le_refl _) (by omega) hy)
      · exact s2 x y (by omega) hxy hy
  rw [if_neg (fun w => z1 (beq_iff_eq.mp w))]
  have esb : sa + k + (na - k) - 1 = sb - 1 := by omega
  rw [esb]
  obtain ⟨pa, epa⟩ := hB.at (i := sb - 1) (by omega)
  refine wpS_bind (elem_ok epa ?_)
  refine wpS_bind (gal_ok hA hB1.kind (mem epa) (fun j hj => (hB.at (i := sb + j) (by omega)).imp fun p ep => ⟨ep, mem ep⟩) s2 (fun j hj => ?_) (by omega) fun m hm lt2 gt2 => ?_)
  · rw [← kv_at (c := c) epa]
    exact nd_ne hB.perm hn (by rw [hsz]; omega) (by rw [hsz]; omega) (by omega)
  dsimp only
  rw [← kv_at (c := c) epa] at lt2 gt2
  have hk0 := gt1 k (Nat.le_refl _) (by omega)
  have hkl : kv c (arrOf st) (sa + k) ≤ kv c (arrOf st) (sb - 1) := by
    by_cases z : sa + k = sb - 1
    · rw [z]; exact Int.le_refl _
    · exact Int.le_of_lt (s1 _ _ (by omega) (by omega) (by omega))
  have z2 : m ≠ 0 := fun w => by
    have := gt2 0 (by omega) (by omega)
    rw [Nat.add_zero] at this
    omega
  rw [if_neg (fun w => z2 (beq_iff_eq.mp w))]
  have xs1 : ((arrOf st).extract (sa + k) sb).size = sb - (sa + k) := ext_size (by omega)
  have ys1 : ((arrOf st).extract sb (sb + m)).size = sb + m - sb := ext_size (by omega)
  have hR : Runs c a₀ ((arrOf st).extract (sa + k) sb) ((arrOf st).extract sb (sb + m)) := by
    refine ⟨sg_asc (fun x y u v t => s1 x y (by omega) v t) (by omega), sg_asc (fun x y u v t => s2 x y u v (by omega)) (by omega), fun x hx => ?_, fun x hx => ?_, fun x hx y hy => ?_, by omega, by omega, fun p q ep eq => ?_, fun y hy z ez => ?_⟩
    · obtain ⟨j, _, _, e⟩ := ext_mem hx; exact mem e
    · obtain ⟨j, _, _, e⟩ := ext_mem hx; exact mem e
    · obtain ⟨j, j1, j2, ej⟩ := ext_mem hx
      obtain ⟨l, l1, l2, el⟩ := ext_mem hy
      rw [← kv_at (c := c) ej, ← kv_at (c := c) el]
      exact nd_ne hB.perm hn (by rw [hsz]; omega) (by rw [hsz]; omega) (by omega)
    · rw [ext_at (by omega), Nat.add_zero] at ep eq
      rw [← kv_at (c := c) ep, ← kv_at (c := c) eq]
      exact hk0
    · obtain ⟨l, l1, l2, el⟩ := ext_mem hy
      rw [xs1, ext_at (by omega), show sa + k + (sb - (sa + k) - 1) = sb - 1 by omega] at ez
      rw [← kv_at (c := c) el, ← kv_at (c := c) ez]
      have := lt2 (l - sb) (by omega)
      rwa [show sb + (l - sb) = l by omega] at this
  have fin : ∀ (mr : Array Keyed) (st2 : SortSt), SG st1 st2 → MR c ((arrOf st).extract (sa + k) sb) ((arrOf st).extract sb (sb + m)) mr → wpS (model prog w) A E s (do
      modify fun st => setArr st (mr.toList.zipIdx.foldl (fun a (x : Keyed × Nat) => match x with | (p, j) => a.setIfInBounds (sa + k + j) p) (arrOf st))
      let r ← get
      pure (failedOf r).isNone) Q st2 := by
    intro mr st2 hSG hM
    have e2 : arrOf st2 = arrOf st := hSG.arr.trans ha1
    have el : mr.toList.length = sb + m - (sa + k) := by
      rw [hM.1.length_eq, List.length_append]
      simp only [Array.length_toList]
      rw [xs1, ys1]; omega
    have hput := put_list mr.toList (sa + k) (arrOf st) (by rw [el, hsz]; omega)
    have hat := put_at mr.toList (sa + k) 0 (arrOf st) (by rw [el, hsz]; omega)
    rw [el, Nat.add_zero] at hat
    rw [el] at hput
    have hperm : (mr.toList.zipIdx.foldl (fun a (p : Keyed × Nat) => a.setIfInBounds (sa + k + p.2) p.1) (arrOf st)).Perm (arrOf st) := by
      refine Array.perm_iff_toList_perm.mpr ?_
      rw [hput]
      have e3 : (arrOf st).toList = (arrOf st).toList.take (sa + k) ++ ((((arrOf st).extract (sa + k) sb).toList ++ ((arrOf st).extract sb (sb + m)).toList) ++ (arrOf st).toList.drop (sa + k + (sb + m - (sa + k)))) := by
        rw [ext_list, ext_list]
        have q1 := List.take_append_drop (sa + k) (arrOf st).toList
        have q2 := List.take_append_drop (sb - (sa + k)) ((arrOf st).toList.drop (sa + k))
        have q3 := List.take_append_drop (sb + m - sb) ((arrOf st).toList.drop sb)
        rw [List.drop_drop, show sa + k + (sb - (sa + k)) = sb by omega] at q2
        rw [List.drop_drop] at q3
        rw [show sa + k + (sb + m - (sa + k)) = sb + (sb + m - sb) by omega, List.append_assoc, q3, q2, q1]
      conv => rhs; rw [e3]
      exact List.Perm.append_left _ (List.Perm.append_right _ hM.1)
    refine wpS_bind (wpS_modify ?_)
    have hB3 : SB κ a₀ (setArr st2 (mr.toList.zipIdx.foldl (fun a (p : Keyed × Nat) => a.setIfInBounds (sa + k + p.2) p.1) (arrOf st))) := ⟨hperm.trans hB.perm, hSG.kind.trans hB1.kind, hSG.ok.trans hB1.ok⟩
    rw [e2]
    refine wpS_bind (wpS_get ?_)
    have hf : (failedOf (setArr st2 (mr.toList.zipIdx.foldl (fun a (p : Keyed × Nat) => a.setIfInBounds (sa + k + p.2) p.1) (arrOf st)))).isNone = true := by rw [hB3.ok]; rfl
    refine wpS_pure ?_
    show Q (failedOf (setArr st2 (mr.toList.zipIdx.foldl (fun a (p : Keyed × Nat) => a.setIfInBounds (sa + k + p.2) p.1) (arrOf st)))).isNone _
    rw [hf]
    have hmk : ∀ j, sa + k ≤ j → j < sb + m → ∃ l, sa + k ≤ l ∧ l < sb + m ∧ kv c (mr.toList.zipIdx.foldl (fun a (p : Keyed × Nat) => a.setIfInBounds (sa + k + p.2) p.1) (arrOf st)) j = kv c (arrOf st) l := fun j j1 j2 => by
      have e := hat j
      rw [if_pos (by omega)] at e
      have hlt : j - (sa + k) < mr.toList.length := by omega
      rw [List.getElem?_eq_getElem hlt] at e
      have hm' := hM.1.mem_iff.mp (List.getElem_mem hlt)
      rcases List.mem_append.mp hm' with u | u
      · obtain ⟨l, l1, l2, el'⟩ := ext_mem u
        exact ⟨l, l1, by omega, by rw [kv_at e, kv_at el']⟩
      · obtain ⟨l, l1, l2, el'⟩ := ext_mem u
        exact ⟨l, by omega, l2, by rw [kv_at e, kv_at el']⟩
    have hms : ∀ x y, sa + k ≤ x → x < y → y < sb + m → kv c (mr.toList.zipIdx.foldl (fun a (p : Keyed × Nat) => a.setIfInBounds (sa + k + p.2) p.1) (arrOf st)) x < kv c (mr.toList.zipIdx.foldl (fun a (p : Keyed × Nat) => a.setIfInBounds (sa + k + p.2) p.1) (arrOf st)) y := fun x y x1 xy y1 => by
      have e := hat x
      have f := hat y
      rw [if_pos (by omega), List.getElem?_eq_getElem (by omega)] at e f
      rw [kv_at e, kv_at f]
      exact List.pairwise_iff_getElem.mp hM.2 _ _ _ _ (by omega)
    have hko : ∀ j, j < sa + k ∨ sb + m ≤ j → kv c (mr.toList.zipIdx.foldl (fun a (p : Keyed × Nat) => a.setIfInBounds (sa + k + p.2) p.1) (arrOf st)) j = kv c (arrOf st) j := fun j hj => kv_congr (by rw [hat j, if_neg (by omega)])
    refine h _ hB3 (fun j hj => ?_) (by rw [← hp1]; exact congrArg Array.toList hSG.pend) ?_
    · show (mr.toList.zipIdx.foldl (fun a (p : Keyed × Nat) => a.setIfInBounds (sa + k + p.2) p.1) (arrOf st))[j]? = _
      rw [hat j, if_neg (by omega)]
    · show Sg c (mr.toList.zipIdx.foldl (fun a (p : Keyed × Nat) => a.setIfInBounds (sa + k + p.2) p.1) (arrOf st)) sa (sb + nb)
      generalize mr.toList.zipIdx.foldl (fun a (p : Keyed × Nat) => a.setIfInBounds (sa + k + p.2) p.1) (arrOf st) = ar at hmk hms hko
      have low : ∀ x l, sa ≤ x → x < sa + k → sa + k ≤ l → l < sb + nb → kv c (arrOf st) x < kv c (arrOf st) l := fun x l x1 x2 l1 l2 => by
        by_cases u : l < sb
        · exact s1 x l x1 (by omega) u
        · have q1 := lt1 (x - sa) (by omega)
          rw [show sa + (x - sa) = x by omega] at q1
          by_cases v : l = sb
          · rw [v]; exact q1
          · exact Int.lt_trans q1 (s2 sb l (Nat.le_refl _) (by omega) l2)
      have high : ∀ l y, sa + k ≤ l → l < sb + m → sb + m ≤ y → y < sb + nb → kv c (arrOf st) l < kv c (arrOf st) y := fun l y l1 l2 y1 y2 => by
        by_cases u : sb ≤ l
        · exact s2 l y u (by omega) y2
        · have q1 := gt2 (y - sb) (by omega) (by omega)
          rw [show sb + (y - sb) = y by omega] at q1
          by_cases v : l = sb - 1
          · rw [v]; exact q1
          · exact Int.lt_trans (s1 l (sb - 1) (by omega) (by omega) (by omega)) q1
      intro x y hx hxy hy
      by_cases c1 : x < sa + k
      · rw [hko x (.inl c1)]
        by_cases c2 : y < sa + k
        · rw [hko y (.inl c2)]
          exact s1 x y hx hxy (by omega)
        · by_cases c3 : y < sb + m
          · obtain ⟨l, l1, l2, e⟩ := hmk y (by omega) c3
            rw [e]
            exact low x l hx c1 l1 (by omega)
          · rw [hko y (.inr (by omega))]
            exact low x y hx c1 (by omega) hy
      · by_cases c3 : x < sb + m
        · by_cases c4 : y < sb + m
          · exact hms x y (by omega) hxy c4
          · obtain ⟨l, l1, l2, e⟩ := hmk x (by omega) c3
            rw [e, hko y (.inr (by omega))]
            exact high l y l1 l2 (by omega) hy
        · rw [hko x (.inr (by omega)), hko y (.inr (by omega))]
          exact s2 x y (by omega) hxy hy
  by_cases hle : na - k ≤ m
  · rw [if_pos hle]
    exact wpS_bind (lo_ok hA hB1.kind hR fin)
  · rw [if_neg hle]
    exact wpS_bind (hi_ok hA hB1.kind hR fin)
end
end Oh

namespace Oh
open PySem PyProof.Rows
/-- runs that stand one behind the other, from a to b -/
def Segs (c : Keyed → Int) (xs : Array Keyed) : List (Nat × Nat × Nat) → Nat → Nat → Prop
  | [], a, b => a = b
  | t :: r, a, b => t.1 = a ∧ 1 ≤ t.2.1 ∧ Sg c xs a (a + t.2.1) ∧ Segs c xs r (a + t.2.1) b
section
variable {c : Keyed → Int} {xs ys : Array Keyed}
theorem Segs.le : ∀ {P : List (Nat × Nat × Nat)} {a b : Nat}, Segs c xs P a b → a + P.length ≤ b
  | [], a, b, h => by have e : a = b := h; simp; omega
  | t :: r, a, b, h => by
    have := Segs.le h.2.2.2
    have := h.2.1
    rw [List.length_cons]; omega
theorem Segs.app : ∀ {P R : List (Nat × Nat × Nat)} {a b : Nat}, Segs c xs (P ++ R) a b ↔ ∃ m, Segs c xs P a m ∧ Segs c xs R m b
  | [], R, a, b => ⟨fun h => ⟨a, rfl, h⟩, fun ⟨m, e, h⟩ => by have e' : a = m := e; rw [e']; exact h⟩
  | t :: P, R, a, b => by
    constructor
    · rintro ⟨h1, h2, h3, h4⟩
      obtain ⟨m, u, v⟩ := Segs.app.mp h4
      exact ⟨m, ⟨h1, h2, h3, u⟩, v⟩
    · rintro ⟨m, ⟨h1, h2, h3, u⟩, v⟩
      exact ⟨h1, h2, h3, Segs.app.mpr ⟨m, u, v⟩⟩
theorem Segs.congr : ∀ {P : List (Nat × Nat × Nat)} {a b : Nat}, Segs c xs P a b → (∀ i, a ≤ i → i < b → ys[i]? = xs[i]?) → Segs c ys P a b
  | [], _, _, h, _ => h
  | t :: r, a, b, h, e => by
    have hl := Segs.le h.2.2.2
    exact ⟨h.1, h.2.1, h.2.2.1.congr fun i i1 i2 => e i i1 (by omega), Segs.congr h.2.2.2 fun i i1 i2 => e i (by omega) i2⟩
theorem Segs.pw {pw : Nat} : ∀ {P : List (Nat × Nat × Nat)} {a b : Nat} (k : Nat), Segs c xs P a b → Segs c xs (P.modify k fun x => (x.1, x.2.1, pw)) a b
  | [], a, b, k, h => by rw [List.modify_nil]; exact h
  | t :: r, a, b, 0, h => by rw [List.modify_zero_cons]; exact h
  | t :: r, a, b, k + 1, h => by rw [List.modify_succ_cons]; exact ⟨h.1, h.2.1, h.2.2.1, Segs.pw k h.2.2.2⟩
end
section
variable {prog : Program} {w : World} {A : Around} {E : Value → Shared → Prop} {s : Shared} {κ : SortKind} {c : Keyed → Int} {a₀ : Array Keyed}
theorem mstep (hA : Asks prog w A s κ c a₀) (hn : (a₀.toList.map c).Nodup) {st : SortSt} {i lo : Nat} {Q : Bool → SortSt → Prop} (hB : SB κ a₀ st) (hS : Segs c (arrOf st) (pendingOf st).toList 0 lo) (hlo : lo ≤ a₀.size) (hi : i + 1 < (pendingOf st).size)
    (h : ∀ st', SB κ a₀ st' → Segs c (arrOf st') (pendingOf st').toList 0 lo → (pendingOf st').size + 1 = (pendingOf st).size → Out (arrOf st) (arrOf st') 0 lo → Q true st') : wpS (model prog w) A E s (mergeAt' i) Q st := by
  have hL : i + 1 < (pendingOf st).toList.length := by simpa using hi
  have e1 : (pendingOf st).toList = (pendingOf st).toList.take i ++ (pendingOf st).toList[i] :: (pendingOf st).toList[i + 1] :: (pendingOf st).toList.drop (i + 1 + 1) := by
    rw [← List.drop_eq_getElem_cons hL, ← List.drop_eq_getElem_cons (by omega), List.take_append_drop]
  have hl : ((pendingOf st).toList.take i).length = i := by rw [List.length_take]; omega
  have hsz : (pendingOf st).size = (pendingOf st).toList.length := by simp
  rw [e1] at hS
  have hlen := congrArg List.length e1
  generalize (pendingOf st).toList.take i = P1 at e1 hS hl hlen
  generalize (pendingOf st).toList.drop (i + 1 + 1) = P2 at e1 hS hlen
  obtain ⟨⟨sa, na, pw⟩, ht⟩ : ∃ t, t = (pendingOf st).toList[i] := ⟨_, rfl⟩
  obtain ⟨⟨sb, nb, pw2⟩, hu⟩ : ∃ t, t = (pendingOf st).toList[i + 1] := ⟨_, rfl⟩
  rw [← ht, ← hu] at e1 hS hlen
  obtain ⟨m, g1, g2, g3, g4, g5, g6, g7, g8⟩ := Segs.app.mp hS
  have q1 : sa = m := g2
  have q2 : 1 ≤ na := g3
  have q3 : sb = m + na := g5
  have q4 : 1 ≤ nb := g6
  have q5 : Sg c (arrOf st) m (m + na) := g4
  have q6 : Sg c (arrOf st) (m + na) (m + na + nb) := g7
  have q7 : Segs c (arrOf st) P2 (m + na + nb) lo := g8
  subst q1 q3
  have hle := Segs.le q7
  refine mg_ok hA hn hB e1 hl rfl q2 q4 (by omega) q5 q6 fun st' hB' ho hp' hs' => ?_
  refine h st' hB' ?_ ?_ (ho.wide (Nat.zero_le _) (by omega))
  · rw [hp']
    have hle1 := Segs.le g1
    refine Segs.app.mpr ⟨sa, g1.congr fun j j1 j2 => ho j (.inl j2), rfl, by show 1 ≤ na + nb; omega, ?_, ?_⟩
    · show Sg c (arrOf st') sa (sa + (na + nb))
      rw [← Nat.add_assoc]; exact hs'
    · show Segs c (arrOf st') P2 (sa + (na + nb)) lo
      rw [← Nat.add_assoc]
      exact q7.congr fun j j1 j2 => ho j (.inr j1)
  · have e2 : (pendingOf st').size = (pendingOf st').toList.length := by simp
    rw [e2, hp', hsz, hlen]
    simp only [List.length_append, List.length_cons]
    omega
theorem sort_ok (hA : Asks prog w A s κ c a₀) (hn : (a₀.toList.map c).Nodup) {st : SortSt} {Q : Unit → SortSt → Prop} (hB : SB κ a₀ st) (hp : pendingOf st = #[])
    (h : ∀ st', SB κ a₀ st' → Sg c (arrOf st') 0 a₀.size → Q () st') : wpS (model prog w) A E s sortRuns' Q st := by
  rw [sortRuns'_eq]
  refine wpS_bind (wpS_get ?_)
  dsimp only
  rw [hB.size]
  refine wpS_bind (wpS_mono (wpS_forRange (I := fun x r st' => ∃ lo, r = (none, lo) ∧ SB κ a₀ st' ∧ Segs c (arrOf st') (pendingOf st').toList 0 lo ∧ lo ≤ a₀.size ∧ x ≤ lo)
    (Q := fun r st' => ∃ lo, r = (none, lo) ∧ SB κ a₀ st' ∧ Segs c (arrOf st') (pendingOf st').toList 0 lo ∧ lo = a₀.size) ?_ ?_ ?_) ?_)
  · rintro x r st1 _ hx ⟨lo, rfl, hB1, hS1, h1, h2⟩
    dsimp only
    by_cases hge : lo ≥ a₀.size
    · rw [if_pos hge]
      exact wpS_pure ⟨lo, rfl, hB1, hS1, by omega⟩
    rw [if_neg hge]
    refine wpS_bind (run_ok hA hn hB1 (by omega) (by omega) fun n st2 hq => ?_)
    dsimp only
    obtain ⟨g1, g2, g3, g4, g5, g6⟩ := hq
    have hS2 : Segs c (arrOf st2) (pendingOf st2).toList 0 lo := by
      rw [g3]
      exact hS1.congr fun i _ i2 => g2 i (.inl i2)
    by_cases hm : n < minRun' a₀.size a₀.size 0
    case' pos =>
      rw [if_pos hm]
      refine wpS_bind (wpS_lift (wpAny_rule ⟨rfl, ?_⟩))
      refine wpS_bind (sbin_ok hA hn g1 g4 (by omega) (by omega) g6 fun st3 hB3 k2 k3 hs3 => ?_)
      rw [if_neg (by simp)]
      have hS3 : Segs c (arrOf st3) (pendingOf st3).toList 0 lo := by
        rw [k3]
        exact hS2.congr fun i _ i2 => k2 i (.inl i2)
      have hN1 : 1 ≤ min (a₀.size - lo) (minRun' a₀.size a₀.size 0) := by omega
      have hN2 : lo + min (a₀.size - lo) (minRun' a₀.size a₀.size 0) ≤ a₀.size := by omega
      clear k2 k3
      generalize min (a₀.size - lo) (minRun' a₀.size a₀.size 0) = N at hN1 hN2 hs3 ⊢
    case' neg =>
      rw [if_neg hm]
      have hN1 := g4
      have hN2 : lo + n ≤ a₀.size := by omega
      have hB3 := g1
      have hS3 := hS2
      have hs3 := g6
      clear hm g1 g2 g3 g4 g5 g6 hS2
      generalize st2 = st3 at hB3 hS3 hs3 ⊢
      generalize n = N at hN1 hN2 hs3 ⊢
    all_goals
      have push : ∀ st4 : SortSt, SB κ a₀ st4 → Segs c (arrOf st4) (pendingOf st4).toList 0 lo → Sg c (arrOf st4) lo (lo + N) → ∃ lo', ((none, lo + N) : Option Unit × Nat) = (none, lo') ∧ SB κ a₀ (setPending st4 ((pendingOf st4).push (lo, N, 0))) ∧ Segs c (arrOf (setPending st4 ((pendingOf st4).push (lo, N, 0)))) (pendingOf (setPending st4 ((pendingOf st4).push (lo, N, 0)))).toList 0 lo' ∧ lo' ≤ a₀.size ∧ x + 1 ≤ lo' := fun st4 u1 u2 u3 => by
        refine ⟨lo + N, rfl, ⟨u1.perm, u1.kind, u1.ok⟩, ?_, hN2, by omega⟩
        show Segs c (arrOf st4) ((pendingOf st4).push (lo, N, 0)).toList 0 (lo + N)
        rw [Array.toList_push]
        exact Segs.app.mpr ⟨lo, u2, rfl, hN1, u3, rfl⟩
      refine wpS_bind (wpS_get ?_)
      cases hbk : (pendingOf st3).back? with
      | none =>
        dsimp only
        exact wpS_bind (wpS_modify (wpS_pure (push st3 hB3 hS3 hs3)))
      | some t =>
        obtain ⟨s1, n1, p1⟩ := t
        dsimp only
        refine wpS_bind (wpS_mono (wpS_forRange (I := fun y r st' => r = (none, ()) ∧ SB κ a₀ st' ∧ Segs c (arrOf st') (pendingOf st').toList 0 lo ∧ Sg c (arrOf st') lo (lo + N))
          (Q := fun r st' => r = (none, ()) ∧ SB κ a₀ st' ∧ Segs c (arrOf st') (pendingOf st').toList 0 lo ∧ Sg c (arrOf st') lo (lo + N)) ?_ ?_ ?_) ?_)
        · rintro y r st4 _ hy ⟨rfl, v1, v2, v3⟩
          refine wpS_bind (wpS_get ?_)
          by_cases hz : (pendingOf st4).size > 1
          · rw [if_pos hz, getElem?_pos (pendingOf st4) ((pendingOf st4).size - 2) (by omega)]
            dsimp only
            split
            · exact wpS_pure ⟨rfl, v1, v2, v3⟩
            · refine wpS_bind (mstep hA hn v1 v2 h1 (by omega) fun st5 w1 w2 w3 w4 => ?_)
              rw [if_neg (by simp)]
              exact wpS_pure ⟨rfl, w1, w2, v3.congr fun i i1 i2 => w4 i (.inr i1)⟩
          · rw [if_neg hz]
            exact wpS_pure ⟨rfl, v1, v2, v3⟩
        · rintro r st4 hI
          exact hI
        · exact ⟨rfl, hB3, hS3, hs3⟩
        · rintro r st4 ⟨rfl, v1, v2, v3⟩
          dsimp only
          refine wpS_bind (wpS_modify (wpS_bind (wpS_modify (wpS_pure ?_))))
          refine push _ ⟨v1.perm, v1.kind, v1.ok⟩ ?_ v3
          show Segs c (arrOf st4) ((pendingOf st4).modify _ _).toList 0 lo
          rw [Array.toList_modify]
          exact Segs.pw _ v2
  · rintro r st1 ⟨lo, rfl, hB1, hS1, h1, h2⟩
    exact ⟨lo, rfl, hB1, hS1, by omega⟩
  · exact ⟨0, rfl, hB, by rw [hp]; rfl, Nat.zero_le _, Nat.le_refl _⟩
  · rintro r st1 ⟨lo, rfl, hB1, hS1, rfl⟩
    dsimp only
    have hlen := Segs.le hS1
    refine wpS_bind (wpS_mono (wpS_forRange (I := fun y r st' => r = (none, ()) ∧ SB κ a₀ st' ∧ Segs c (arrOf st') (pendingOf st').toList 0 a₀.size ∧ (pendingOf st').size ≤ max 1 (a₀.size - y))
      (Q := fun r st' => r = (none, ()) ∧ SB κ a₀ st' ∧ Segs c (arrOf st') (pendingOf st').toList 0 a₀.size ∧ (pendingOf st').size ≤ 1) ?_ ?_ ?_) ?_)
    · rintro y r st4 _ hy ⟨rfl, v1, v2, v3⟩
      refine wpS_bind (wpS_get ?_)
      by_cases hz : (pendingOf st4).size ≤ 1
      · rw [if_pos hz]
        exact wpS_pure ⟨rfl, v1, v2, hz⟩
      · rw [if_neg hz]
        have hix : ∀ (p : Prop) [Decidable p], (if p then (pendingOf st4).size - 2 - 1 else (pendingOf st4).size - 2) + 1 < (pendingOf st4).size := fun p _ => by split <;> omega
        refine wpS_bind (mstep hA hn v1 v2 (Nat.le_refl _) (hix _) fun st5 w1 w2 w3 w4 => ?_)
        rw [if_neg (by simp)]
        exact wpS_pure ⟨rfl, w1, w2, by omega⟩
    · rintro r st4 ⟨rfl, v1, v2, v3⟩
      exact ⟨rfl, v1, v2, by omega⟩
    · exact ⟨rfl, hB1, hS1, by simp at hlen; omega⟩
    · rintro r st4 ⟨rfl, v1, v2, v3⟩
      dsimp only
      refine wpS_pure (h st4 v1 ?_)
      have hl : (pendingOf st4).toList.length ≤ 1 := by simpa using v3
      generalize (pendingOf st4).toList = P at v2 hl
      match P, v2, hl with
      | [], v2, _ =>
        have e : 0 = a₀.size := v2
        intro i j _ i2 i3
        omega
      | [t], ⟨_, _, u3, u4⟩, _ =>
        have e : 0 + t.2.1 = a₀.size := u4
        rwa [e] at u3
      | _ :: _ :: _, _, hl => simp at hl
end
end Oh

namespace Oh
open PySem PySem.SetTable

/-! ### a rising row of places, and the search in it -/
def Rise (xs : Array Nat) : Prop := ∀ i j a b : Nat, i < j → xs[i]? = some a → xs[j]? = some b → a < b
structure Cut (xs : Array Nat) (j r : Nat) : Prop where
  le : r ≤ xs.size
  lo : ∀ i a : Nat, i < r → xs[i]? = some a → a < j
  hi : ∀ i a : Nat, r ≤ i → xs[i]? = some a → j ≤ a
theorem below_go {xs : Array Nat} {j : Nat} (hr : Rise xs) : ∀ (fuel lo hi : Nat), hi - lo ≤ fuel → lo ≤ hi → hi ≤ xs.size →
    (∀ i a : Nat, i < lo → xs[i]? = some a → a < j) → (∀ i a : Nat, hi ≤ i → xs[i]? = some a → j ≤ a) → Cut xs j (below.go xs j fuel lo hi)
  | 0, lo, hi, hf, hl, hs, h1, h2 => by
    have : lo = hi := by omega
    subst this
    exact ⟨hs, h1, h2⟩
  | fuel + 1, lo, hi, hf, hl, hs, h1, h2 => by
    unfold below.go
    by_cases h : lo < hi
    · rw [if_pos h]
      have hm : (lo + hi) / 2 < xs.size := by omega
      have em : xs[(lo + hi) / 2]? = some xs[(lo + hi) / 2] := Array.getElem?_eq_getElem hm
      have ed : xs.getD ((lo + hi) / 2) j = xs[(lo + hi) / 2] := by simp [Array.getD, hm]
      dsimp only
      rw [ed]
      by_cases hx : xs[(lo + hi) / 2] < j
      · rw [if_pos hx]
        refine below_go hr fuel _ _ (by omega) (by omega) hs (fun i a hi' ea => ?_) h2
        by_cases z : i = (lo + hi) / 2
        · subst z; rw [em] at ea; cases ea; exact hx
        · exact Nat.lt_trans (hr i _ a _ (by omega) ea em) hx
      · rw [if_neg hx]
        refine below_go hr fuel _ _ (by omega) (by omega) (by omega) h1 (fun i a hi' ea => ?_)
        by_cases z : i = (lo + hi) / 2
        · subst z; rw [em] at ea; cases ea; omega
        · have := hr _ i _ a (by omega) em ea; omega
    · rw [if_neg h]
      have : lo = hi := by omega
      subst this
      exact ⟨hs, h1, h2⟩
theorem below_cut {xs : Array Nat} {j : Nat} (hr : Rise xs) : Cut xs j (below xs j) :=
  below_go hr _ _ _ (by omega) (Nat.zero_le _) (Nat.le_refl _) (fun i a h => absurd h (Nat.not_lt_zero _)) (fun i a h e => by
    have := (Array.getElem?_eq_some_iff.mp e).1; omega)
theorem below_at {xs : Array Nat} {j i : Nat} (hr : Rise xs) (h : xs[i]? = some j) : below xs j = i := by
  have c := below_cut (j := j) hr
  rcases Nat.lt_trichotomy (below xs j) i with z | z | z
  · have hs := (Array.getElem?_eq_some_iff.mp h).1
    have e : xs[below xs j]? = some xs[below xs j] := Array.getElem?_eq_getElem (by omega)
    have := c.hi _ _ (Nat.le_refl _) e
    have := hr _ _ _ _ z e h
    omega
  · exact z
  · have := c.lo i j z h; omega
def Occ (xs : Array Nat) (j : Nat) : Prop := ∃ i : Nat, xs[i]? = some j
theorem slot_live {t : SetTable} {j i : Nat} (hr : Rise t.place) (h : t.place[i]? = some j) : t.slot j = .live i := by
  unfold SetTable.slot
  dsimp only
  rw [below_at hr h, h]
  simp
theorem slot_empty {t : SetTable} {j : Nat} (hd : t.dummies = #[]) (h : ¬ Occ t.place j) : t.slot j = .empty := by
  unfold SetTable.slot has
  dsimp only
  rw [hd]
  have : (t.place[below t.place j]? == some j) = false := by
    cases e : t.place[below t.place j]? with
    | none => rfl
    | some a =>
      by_cases z : a = j
      · subst z; exact absurd ⟨_, e⟩ h
      · simpa using z
  rw [this]
  simp

/-! ### the way of a search -/
def adv (mask : Nat) (p : Probe) : Probe :=
  if p.more > 0 then { p with j := p.j + 1, more := p.more - 1 } else
  let (i, perturb) := leap mask p.i p.perturb
  { p with j := i, more := runEnd mask i - i, i, perturb }
def advN (mask : Nat) : Nat → Probe → Probe
  | 0, p => p
  | n + 1, p => advN mask n (adv mask p)
theorem advN_add (mask : Nat) : ∀ (m n : Nat) (p : Probe), advN mask (m + n) p = advN mask n (advN mask m p)
  | 0, n, p => by rw [Nat.zero_add]; rfl
  | m + 1, n, p => by rw [Nat.succ_add]; exact advN_add mask m n _
theorem advN_succ (mask n : Nat) (p : Probe) : advN mask (n + 1) p = adv mask (advN mask n p) := by
  rw [advN_add]; rfl
def startP (mask : Nat) (h : Int) : Probe := { j := bits h % (mask + 1), more := runEnd mask (bits h % (mask + 1)) - bits h % (mask + 1), i := bits h % (mask + 1), perturb := bits h, dummy := none }
def runP (mask i q : Nat) : Probe := { j := i, more := runEnd mask i - i, i, perturb := q, dummy := none }
theorem runEnd_le (mask i : Nat) : runEnd mask i - i ≤ 9 := by unfold runEnd; split <;> omega
theorem advN_run (mask : Nat) : ∀ (k : Nat) (p : Probe), k ≤ p.more → advN mask k p = { p with j := p.j + k, more := p.more - k }
  | 0, p, _ => rfl
  | k + 1, p, h => by
    show advN mask k (adv mask p) = _
    have e : adv mask p = { p with j := p.j + 1, more := p.more - 1 } := by
      unfold adv; rw [if_pos (by omega)]
    rw [e, advN_run mask k _ (by show k ≤ p.more - 1; omega)]
    have e1 : p.j + 1 + k = p.j + (k + 1) := by omega
    have e2 : p.more - 1 - k = p.more - (k + 1) := by omega
    simp only [e1, e2]
theorem advN_leap (mask : Nat) (p : Probe) (hd : p.dummy = none) : advN mask (p.more + 1) p = runP mask (leap mask p.i p.perturb).1 (leap mask p.i p.perturb).2 := by
  rw [advN_succ, advN_run mask _ p (Nat.le_refl _)]
  unfold adv
  rw [if_neg (by show ¬ p.more - p.more > 0; omega)]
  unfold runP
  simp only [hd]
/-- the k-th leap from (i, q) -/
def lp (mask : Nat) : Nat → Nat → Nat → Nat × Nat
  | 0, i, q => (i, q)
  | k + 1, i, q => lp mask k (leap mask i q).1 (leap mask i q).2
theorem lp_add (mask : Nat) : ∀ (m n i q : Nat), lp mask (m + n) i q = lp mask n (lp mask m i q).1 (lp mask m i q).2
  | 0, n, i, q => by rw [Nat.zero_add]; rfl
  | m + 1, n, i, q => by rw [Nat.succ_add]; exact lp_add mask m n _ _
theorem advN_lp (mask : Nat) : ∀ (k i q : Nat), ∃ n, n ≤ 10 * k ∧ advN mask n (runP mask i q) = runP mask (lp mask k i q).1 (lp mask k i q).2
  | 0, i, q => ⟨0, Nat.le_refl _, rfl⟩
  | k + 1, i, q => by
    obtain ⟨n, hn, e⟩ := advN_lp mask k (leap mask i q).1 (leap mask i q).2
    refine ⟨(runP mask i q).more + 1 + n, ?_, ?_⟩
    · have : (runP mask i q).more ≤ 9 := runEnd_le mask i
      omega
    · rw [advN_add, advN_leap mask _ rfl]
      exact e
theorem lp_q (mask : Nat) : ∀ (k i q : Nat), (lp mask k i q).2 = q / 32 ^ k
  | 0, i, q => by simp [lp]
  | k + 1, i, q => by
    show (lp mask k (leap mask i q).1 (leap mask i q).2).2 = _
    rw [lp_q mask k]
    show q / 32 / 32 ^ k = _
    rw [Nat.div_div_eq_div_mul, Nat.pow_succ, Nat.mul_comm]
/-! one round of 5 x + 1 -/
def fiv (M x : Nat) : Nat := (x * 5 + 1) % M
def fivN (M : Nat) : Nat → Nat → Nat
  | 0, x => x
  | k + 1, x => fivN M k (fiv M x)
theorem fivN_add (M : Nat) : ∀ (m n x : Nat), fivN M (m + n) x = fivN M n (fivN M m x)
  | 0, n, x => by rw [Nat.zero_add]; rfl
  | m + 1, n, x => by rw [Nat.succ_add]; exact fivN_add M m n _
theorem lp_zero (mask : Nat) : ∀ (k i : Nat), lp mask k i 0 = (fivN (mask + 1) k i, 0)
  | 0, i => rfl
  | k + 1, i => by
    show lp mask k ((i * 5 + 1 + 0 / 32) % (mask + 1)) (0 / 32) = _
    rw [Nat.zero_div, Nat.add_zero, lp_zero mask k]; rfl
def orb (M : Nat) : Nat → Nat → List Nat
  | 0, _ => []
  | k + 1, x => x :: orb M k (fiv M x)
theorem orb_mem (M : Nat) : ∀ (k x j : Nat), j ∈ orb M k x → ∃ n, n < k ∧ fivN M n x = j
  | 0, x, j, h => by simp [orb] at h
  | k + 1, x, j, h => by
    rcases List.mem_cons.mp h with e | h
    · exact ⟨0, by omega, e.symm⟩
    · obtain ⟨n, hn, e⟩ := orb_mem M k _ _ h
      exact ⟨n + 1, by omega, e⟩
def okM (M : Nat) : Bool := (List.range M).all (fun j => (orb M M 0).contains j) && fivN M M 0 == 0
theorem round {M : Nat} (h : okM M = true) {i j : Nat} (hi : i < M) (hj : j < M) : ∃ k, k < M ∧ fivN M k i = j := by
  unfold okM at h
  rw [Bool.and_eq_true, List.all_eq_true] at h
  obtain ⟨h1, h2⟩ := h
  have h2 : fivN M M 0 = 0 := by simpa using h2
  have mem : ∀ j, j < M → ∃ n, n < M ∧ fivN M n 0 = j := fun j hj => orb_mem M M 0 j (by
    have := h1 j (List.mem_range.mpr hj); simpa using this)
  obtain ⟨a, ha, ea⟩ := mem i hi
  obtain ⟨b, hb, eb⟩ := mem j hj
  by_cases z : a ≤ b
  · refine ⟨b - a, by omega, ?_⟩
    rw [← ea, ← fivN_add, show a + (b - a) = b from by omega]; exact eb
  · refine ⟨M - a + b, by omega, ?_⟩
    rw [← ea, ← fivN_add, show a + (M - a + b) = M + b from by omega, fivN_add, h2]; exact eb
def MaskOk (mask : Nat) : Prop := mask = 7 ∨ mask = 31 ∨ mask = 127 ∨ mask = 511
theorem ok8 : okM 8 = true := by decide +kernel
theorem ok32 : okM 32 = true := by decide +kernel
theorem ok128 : okM 128 = true := by decide +kernel
theorem ok512 : okM 512 = true := by decide +kernel
theorem MaskOk.ok {mask : Nat} (h : MaskOk mask) : okM (mask + 1) = true := by
  rcases h with rfl | rfl | rfl | rfl
  · exact ok8
  · exact ok32
  · exact ok128
  · exact ok512
theorem lp_cover {mask i q j : Nat} (hm : MaskOk mask) (hq : q < 2 ^ 64) (hj : j ≤ mask) : ∃ k, k < mask + 15 ∧ (lp mask k i q).1 = j := by
  have h13 : (lp mask 13 i q).2 = 0 := by
    rw [lp_q]
    exact Nat.div_eq_of_lt (Nat.lt_of_lt_of_le hq (by decide))
  have hi : (lp mask 13 i q).1 < mask + 1 := by
    rw [show (13 : Nat) = 12 + 1 from rfl, lp_add]
    exact Nat.mod_lt _ (Nat.succ_pos _)
  obtain ⟨k, hk, e⟩ := round hm.ok hi (show j < mask + 1 by omega)
  refine ⟨13 + k, by omega, ?_⟩
  rw [lp_add, h13, lp_zero]
  exact e
theorem bits_lt (h : Int) : bits h < 2 ^ 64 := by
  unfold bits
  have h1 := Int.emod_nonneg h (b := (2 ^ 64 : Int)) (by decide)
  have h2 := Int.emod_lt_of_pos h (b := (2 ^ 64 : Int)) (by decide)
  have e : ((2 ^ 64 : Nat) : Int) = (2 ^ 64 : Int) := by decide
  omega
/-- a stand that lies on a way -/
structure OnWay (p : Probe) : Prop where
  more : p.more ≤ 9
  pert : p.perturb < 2 ^ 64
  dum : p.dummy = none
theorem onway_start (mask : Nat) (h : Int) : OnWay (startP mask h) := ⟨runEnd_le _ _, bits_lt h, rfl⟩
theorem onway_adv {mask : Nat} {p : Probe} (o : OnWay p) : OnWay (adv mask p) := by
  unfold adv
  split
  · exact ⟨by show p.more - 1 ≤ 9; have := o.more; omega, o.pert, o.dum⟩
  · exact ⟨runEnd_le _ _, Nat.lt_of_le_of_lt (Nat.div_le_self _ _) o.pert, o.dum⟩
theorem onway_advN {mask : Nat} : ∀ (n : Nat) {p : Probe}, OnWay p → OnWay (advN mask n p)
  | 0, _, o => o
  | n + 1, _, o => onway_advN n (onway_adv o)
/-- from any stand each place is come to -/
theorem cover {mask : Nat} {p : Probe} {j : Nat} (hm : MaskOk mask) (o : OnWay p) (hj : j ≤ mask) : ∃ n, n < 10 * turns mask ∧ (advN mask n p).j = j := by
  have e := advN_leap mask p o.dum
  have h13 : (lp mask 13 p.i p.perturb).2 = 0 := by
    rw [lp_q]; exact Nat.div_eq_of_lt (Nat.lt_of_lt_of_le o.pert (by decide))
  have hi : (lp mask 13 p.i p.perturb).1 < mask + 1 := by
    rw [show (13 : Nat) = 12 + 1 from rfl, lp_add]
    exact Nat.mod_lt _ (Nat.succ_pos _)
  obtain ⟨k, hk, ek⟩ := round hm.ok hi (show j < mask + 1 by omega)
  obtain ⟨n, hn, en⟩ := advN_lp mask (12 + k) (leap mask p.i p.perturb).1 (leap mask p.i p.perturb).2
  refine ⟨p.more + 1 + n, ?_, ?_⟩
  · have := o.more
    unfold turns
    omega
  · rw [advN_add, e, en]
    have q : lp mask (12 + k) (leap mask p.i p.perturb).1 (leap mask p.i p.perturb).2 = lp mask (13 + k) p.i p.perturb := by
      rw [show 13 + k = (12 + k) + 1 from by omega]; rfl
    rw [q, lp_add, h13, lp_zero]
    exact ek
end Oh

namespace Oh
open PySem PySem.SetTable

theorem nodup_leN : ∀ {l m : List Nat}, l.Nodup → (∀ x ∈ l, x ∈ m) → l.length ≤ m.length
  | [], _, _, _ => Nat.zero_le _
  | a :: l, m, nd, sub => by
    obtain ⟨na, nd'⟩ := List.nodup_cons.mp nd
    have ha : a ∈ m := sub a List.mem_cons_self
    have := nodup_leN (l := l) (m := m.erase a) nd' fun x hx => (List.mem_erase_of_ne (fun (e : x = a) => na (e ▸ hx))).mpr (sub x (List.mem_cons_of_mem _ hx))
    rw [List.length_erase_of_mem ha] at this
    have hp := List.length_pos_of_mem ha
    rw [List.length_cons]
    omega
/-- where the way of h stands after n steps -/
def wayAt (mask : Nat) (h : Int) (n : Nat) : Nat := (advN mask n (startP mask h)).j
theorem run_fit {mask i : Nat} (hi : i ≤ mask) : i + (runEnd mask i - i) ≤ mask := by unfold runEnd; split <;> omega
theorem adv_fit {mask : Nat} {p : Probe} (h : p.j + p.more ≤ mask) : (adv mask p).j + (adv mask p).more ≤ mask := by
  unfold adv
  split
  · show p.j + 1 + (p.more - 1) ≤ mask; omega
  · exact run_fit (Nat.le_of_lt_succ (Nat.mod_lt _ (Nat.succ_pos _)))
theorem advN_fit {mask : Nat} : ∀ (n : Nat) {p : Probe}, p.j + p.more ≤ mask → (advN mask n p).j + (advN mask n p).more ≤ mask
  | 0, _, h => h
  | n + 1, _, h => advN_fit n (adv_fit h)
theorem wayAt_le (mask : Nat) (h : Int) (n : Nat) : wayAt mask h n ≤ mask := by
  have := advN_fit (mask := mask) n (p := startP mask h) (run_fit (Nat.le_of_lt_succ (Nat.mod_lt _ (Nat.succ_pos _))))
  unfold wayAt; omega
theorem way_cover {mask : Nat} {h : Int} {j n0 : Nat} (hm : MaskOk mask) (hj : j ≤ mask) : ∃ n, n < 10 * turns mask ∧ wayAt mask h (n0 + n) = j := by
  obtain ⟨n, hn, e⟩ := cover hm (onway_advN n0 (onway_start mask h)) hj
  exact ⟨n, hn, by unfold wayAt; rw [advN_add]; exact e⟩
/-- the table is sound for these hashes -/
structure TOK (t : SetTable) (hs : Array Int) : Prop where
  mask : MaskOk t.mask
  rise : Rise t.place
  le : ∀ i j : Nat, t.place[i]? = some j → j ≤ t.mask
  sz : t.place.size = hs.size
  dum : t.dummies = #[]
  room : t.place.size ≤ t.mask
  reach : ∀ (i : Nat) (h : Int), hs[i]? = some h → ∃ n, t.place[i]? = some (wayAt t.mask h n) ∧ ∀ m, m < n → Occ t.place (wayAt t.mask h m)
theorem free_place {xs : Array Nat} {mask : Nat} (h : xs.size ≤ mask) : ∃ j, j ≤ mask ∧ ¬ Occ xs j := by
  refine Classical.byContradiction fun z => ?_
  have z' : ∀ j, j ≤ mask → Occ xs j := fun j hj => Classical.byContradiction fun q => z ⟨j, hj, q⟩
  have := nodup_leN (l := List.range (mask + 1)) (m := xs.toList) List.nodup_range fun x hx => by
    obtain ⟨i, e⟩ := z' x (by have := List.mem_range.mp hx; omega)
    rw [← Array.getElem?_toList] at e
    exact List.mem_of_getElem? e
  rw [List.length_range, Array.length_toList] at this
  omega
theorem probe_go {t : SetTable} {hashAt : Nat → Int} {h : Int} (hr : Rise t.place) (hd : t.dummies = #[]) : ∀ (fuel : Nat) (p : Probe), (∃ n, n < fuel ∧ ¬ Occ t.place (advN t.mask n p).j) →
    ∃ n, n < fuel ∧ (∀ m, m < n → ∃ i, t.place[i]? = some (advN t.mask m p).j ∧ hashAt i ≠ h) ∧
      ((¬ Occ t.place (advN t.mask n p).j ∧ probe.go t hashAt h fuel p = some (.empty (advN t.mask n p).j (advN t.mask n p).dummy)) ∨
       (∃ i, t.place[i]? = some (advN t.mask n p).j ∧ hashAt i = h ∧ probe.go t hashAt h fuel p = some (.candidate (advN t.mask n p).j i (advN t.mask (n + 1) p))))
  | 0, p, ⟨n, hn, _⟩ => absurd hn (Nat.not_lt_zero _)
  | fuel + 1, p, ⟨n, hn, he⟩ => by
    by_cases z : Occ t.place p.j
    · obtain ⟨i, ei⟩ := z
      have es := slot_live hr ei
      by_cases q : hashAt i = h
      · refine ⟨0, Nat.succ_pos _, fun m hm => absurd hm (Nat.not_lt_zero _), Or.inr ⟨i, ei, q, ?_⟩⟩
        unfold probe.go
        rw [es]
        simp only [q, beq_self_eq_true, if_true]
        rfl
      · have hq : (hashAt i == h) = false := by simpa using q
        have hn0 : n ≠ 0 := by rintro rfl; exact he ⟨i, ei⟩
        obtain ⟨n', rfl⟩ : ∃ n', n = n' + 1 := ⟨n - 1, by omega⟩
        obtain ⟨m, hm, h1, h2⟩ := probe_go hr hd fuel (adv t.mask p) ⟨n', by omega, he⟩
        have eg : probe.go t hashAt h (fuel + 1) p = probe.go t hashAt h fuel (adv t.mask p) := by
          conv => lhs; unfold probe.go
          rw [es]
          simp only [hq, Bool.false_eq_true, if_false]
          rfl
        refine ⟨m + 1, by omega, fun m' hm' => ?_, ?_⟩
        · cases m' with
          | zero => exact ⟨i, ei, q⟩
          | succ m' => exact h1 m' (by omega)
        · rw [eg]; exact h2
    · refine ⟨0, Nat.succ_pos _, fun m hm => absurd hm (Nat.not_lt_zero _), Or.inl ⟨z, ?_⟩⟩
      unfold probe.go
      rw [slot_empty hd z]
      rfl
theorem way_dum (mask : Nat) (h : Int) (n : Nat) : (advN mask n (startP mask h)).dummy = none := (onway_advN n (onway_start mask h)).dum
/-- one search along the way -/
theorem probe_ok {t : SetTable} {hs : Array Int} (T : TOK t hs) (hashAt : Nat → Int) (h : Int) (n0 : Nat) :
    ∃ n, n0 ≤ n ∧ n < n0 + 10 * turns t.mask ∧ (∀ m, n0 ≤ m → m < n → ∃ i, t.place[i]? = some (wayAt t.mask h m) ∧ hashAt i ≠ h) ∧
      ((¬ Occ t.place (wayAt t.mask h n) ∧ t.probe hashAt h (advN t.mask n0 (startP t.mask h)) = some (.empty (wayAt t.mask h n) none)) ∨
       (∃ i, t.place[i]? = some (wayAt t.mask h n) ∧ hashAt i = h ∧ t.probe hashAt h (advN t.mask n0 (startP t.mask h)) = some (.candidate (wayAt t.mask h n) i (advN t.mask (n + 1) (startP t.mask h))))) := by
  obtain ⟨j, hj, hne⟩ := free_place T.room
  obtain ⟨k, hk, ek⟩ := way_cover (h := h) (n0 := n0) T.mask hj
  obtain ⟨n, hn, h1, h2⟩ := probe_go (h := h) (hashAt := hashAt) T.rise T.dum (10 * turns t.mask) (advN t.mask n0 (startP t.mask h)) ⟨k, hk, by rw [← advN_add]; unfold wayAt at ek; rw [ek]; exact hne⟩
  refine ⟨n0 + n, by omega, by omega, fun m m1 m2 => ?_, ?_⟩
  · obtain ⟨i, e, q⟩ := h1 (m - n0) (by omega)
    rw [← advN_add, show n0 + (m - n0) = m from by omega] at e
    exact ⟨i, e, q⟩
  · rw [← advN_add, ← advN_add, way_dum] at h2
    rcases h2 with ⟨a, b⟩ | ⟨i, a, b, c⟩
    · exact Or.inl ⟨a, b⟩
    · exact Or.inr ⟨i, a, b, c⟩
/-! ### one more -/
theorem insAt_get {α : Type} {xs : Array α} {p : Nat} {x : α} (hp : p ≤ xs.size) (i : Nat) : (insertAt xs p x)[i]? = if i < p then xs[i]? else if i = p then some x else xs[i - 1]? := by
  rw [← Array.getElem?_toList, SetTable.toList_insertAt]
  have hl : (xs.toList.take p).length = p := by rw [List.length_take, Array.length_toList]; omega
  by_cases h1 : i < p
  · rw [if_pos h1, List.getElem?_append_left (by rw [hl]; exact h1), List.getElem?_take_of_lt h1, Array.getElem?_toList]
  · rw [if_neg h1, List.getElem?_append_right (by rw [hl]; omega), hl]
    by_cases h2 : i = p
    · subst h2; rw [if_pos rfl, Nat.sub_self]; rfl
    · rw [if_neg h2]
      obtain ⟨k, rfl⟩ : ∃ k, i = p + k + 1 := ⟨i - p - 1, by omega⟩
      rw [show p + k + 1 - p = k + 1 from by omega, List.getElem?_cons_succ, List.getElem?_drop, Array.getElem?_toList, show p + k + 1 - 1 = p + k from by omega]
theorem insAt_size {α : Type} {xs : Array α} {p : Nat} {x : α} : (insertAt xs p x).size = xs.size + 1 := by
  have := (SetTable.insertAt_perm xs p x).length_eq
  simpa using this
theorem put_eq {t : SetTable} {j : Nat} (hd : t.dummies = #[]) : t.put j = ({ t with place := insertAt t.place (below t.place j) j }, below t.place j) := by
  unfold put has
  dsimp only
  rw [hd]
  have : ((#[] : Array Nat)[below #[] j]? == some j) = false := by simp
  rw [this]
  simp only [Bool.false_eq_true, if_false]
theorem occ_ins {xs : Array Nat} {p j k : Nat} (hp : p ≤ xs.size) (h : Occ xs k) : Occ (insertAt xs p j) k := by
  obtain ⟨i, e⟩ := h
  by_cases z : i < p
  · exact ⟨i, by rw [insAt_get hp, if_pos z]; exact e⟩
  · exact ⟨i + 1, by rw [insAt_get hp, if_neg (by omega), if_neg (by omega)]; exact e⟩
theorem TOK.put {t : SetTable} {hs : Array Int} (T : TOK t hs) {h : Int} {n : Nat} (he : ¬ Occ t.place (wayAt t.mask h n)) (hb : ∀ m, m < n → Occ t.place (wayAt t.mask h m)) (hr : t.place.size + 1 ≤ t.mask) {b : Bool} :
    TOK { t with place := insertAt t.place (below t.place (wayAt t.mask h n)) (wayAt t.mask h n), plain := b } (insertAt hs (below t.place (wayAt t.mask h n)) h) := by
  have c := below_cut (j := wayAt t.mask h n) T.rise
  have hp := c.le
  generalize hj : wayAt t.mask h n = j at *
  generalize hpp : below t.place j = p at *
  have hp2 : p ≤ hs.size := by rw [← T.sz]; exact hp
  have hi' : ∀ i a : Nat, p ≤ i → t.place[i]? = some a → j < a := fun i a h1 h2 => by
    have := c.hi i a h1 h2
    have : j ≠ a := fun z => he ⟨i, by rw [h2, z]⟩
    omega
  constructor
  · exact T.mask
  · intro i k a b hik ea eb
    have ea : (insertAt t.place p j)[i]? = some a := ea
    have eb : (insertAt t.place p j)[k]? = some b := eb
    rw [insAt_get hp] at ea eb
    by_cases i1 : i < p
    · rw [if_pos i1] at ea
      have := c.lo i a i1 ea
      by_cases k1 : k < p
      · rw [if_pos k1] at eb; exact T.rise i k a b hik ea eb
      · rw [if_neg k1] at eb
        by_cases k2 : k = p
        · rw [if_pos k2] at eb; cases eb; exact this
        · rw [if_neg k2] at eb
          have := hi' (k - 1) b (by omega) eb; omega
    · rw [if_neg i1] at ea
      rw [if_neg (by omega), if_neg (by omega)] at eb
      by_cases i2 : i = p
      · rw [if_pos i2] at ea; cases ea; exact hi' (k - 1) b (by omega) eb
      · rw [if_neg i2] at ea; exact T.rise (i - 1) (k - 1) a b (by omega) ea eb
  · intro i a ea
    have ea : (insertAt t.place p j)[i]? = some a := ea
    show a ≤ t.mask
    rw [insAt_get hp] at ea
    by_cases i1 : i < p
    · rw [if_pos i1] at ea; exact T.le i a ea
    · rw [if_neg i1] at ea
      by_cases i2 : i = p
      · rw [if_pos i2] at ea; cases ea; rw [← hj]; exact wayAt_le _ _ _
      · rw [if_neg i2] at ea; exact T.le _ a ea
  · show (insertAt t.place p j).size = _
    rw [insAt_size, insAt_size, T.sz]
  · exact T.dum
  · show (insertAt t.place p j).size ≤ t.mask
    rw [insAt_size]; exact hr
  · intro i h' e
    rw [insAt_get hp2] at e
    show ∃ n, (insertAt t.place p j)[i]? = some (wayAt t.mask h' n) ∧ ∀ m, m < n → Occ (insertAt t.place p j) (wayAt t.mask h' m)
    rw [insAt_get hp]
    by_cases i1 : i < p
    · rw [if_pos i1] at e ⊢
      obtain ⟨m, e1, e2⟩ := T.reach i h' e
      exact ⟨m, e1, fun k hk => occ_ins hp (e2 k hk)⟩
    · rw [if_neg i1] at e ⊢
      by_cases i2 : i = p
      · rw [if_pos i2] at e ⊢
        cases e
        exact ⟨n, by rw [hj], fun k hk => occ_ins hp (hb k hk)⟩
      · rw [if_neg i2] at e ⊢
        obtain ⟨m, e1, e2⟩ := T.reach (i - 1) h' e
        exact ⟨m, e1, fun k hk => occ_ins hp (e2 k hk)⟩
end Oh

namespace Oh
open PySem PySem.SetTable

/-! ### all laid anew -/
def Full (owner : Array (Option Nat)) (j : Nat) : Prop := ∃ i, owner[j]? = some (some i)
theorem isNone_full {owner : Array (Option Nat)} {j : Nat} (hj : j < owner.size) : (owner.getD j (some 0)).isNone = true ↔ ¬ Full owner j := by
  have e : owner[j]? = some owner[j] := Array.getElem?_eq_getElem hj
  have ed : owner.getD j (some 0) = owner[j] := by simp [Array.getD, hj]
  rw [ed]
  unfold Full
  rw [e]
  cases owner[j] <;> simp
theorem free_ok {mask : Nat} {owner : Array (Option Nat)} (hs : owner.size = mask + 1) : ∀ (fuel i q : Nat), i ≤ mask → (∃ k, k < fuel ∧ ¬ Full owner (lp mask k i q).1) →
    ∃ n, layClean.free mask owner fuel i q = some (advN mask n (runP mask i q)).j ∧ ¬ Full owner (advN mask n (runP mask i q)).j ∧ ∀ m, m < n → Full owner (advN mask m (runP mask i q)).j
  | 0, i, q, _, ⟨k, hk, _⟩ => absurd hk (Nat.not_lt_zero _)
  | fuel + 1, i, q, hi, ⟨k, hk, he⟩ => by
    unfold layClean.free
    have hfit := run_fit hi
    have hrl : runEnd mask i + 1 - i = (runEnd mask i - i) + 1 := by unfold runEnd; split <;> omega
    have hrun : ∀ m, m ≤ runEnd mask i - i → (advN mask m (runP mask i q)).j = i + m := fun m hm => by
      rw [advN_run mask m _ hm]; rfl
    cases hf : (List.range (runEnd mask i + 1 - i)).find? fun k => (owner.getD (i + k) (some 0)).isNone with
    | some k' =>
      dsimp only
      have hk1 := List.mem_of_find?_eq_some hf
      rw [List.mem_range, hrl] at hk1
      have hk2 := List.find?_some hf
      refine ⟨k', by rw [hrun k' (by omega)], ?_, fun m hm => ?_⟩
      · rw [hrun k' (by omega)]
        exact (isNone_full (by omega)).mp hk2
      · rw [hrun m (by omega)]
        rw [List.find?_range_eq_some] at hf
        have h1 := hf.2.2 m hm
        refine Classical.byContradiction fun z => ?_
        have h2 := (isNone_full (by omega)).mpr z
        rw [h2] at h1
        exact absurd h1 (by decide)
    | none =>
      dsimp only
      rw [List.find?_range_eq_none] at hf
      have hfull : ∀ m, m ≤ runEnd mask i - i → Full owner (i + m) := fun m hm => by
        have h1 := hf m (by rw [hrl]; omega)
        refine Classical.byContradiction fun z => ?_
        have h2 := (isNone_full (by omega)).mpr z
        rw [h2] at h1
        exact absurd h1 (by decide)
      have hk0 : k ≠ 0 := by
        rintro rfl
        exact he (by have := hfull 0 (Nat.zero_le _); rwa [Nat.add_zero] at this)
      obtain ⟨k', rfl⟩ : ∃ k', k = k' + 1 := ⟨k - 1, by omega⟩
      have hle : (leap mask i q).1 ≤ mask := Nat.le_of_lt_succ (Nat.mod_lt _ (Nat.succ_pos _))
      obtain ⟨n, e1, e2, e3⟩ := free_ok hs fuel (leap mask i q).1 (leap mask i q).2 hle ⟨k', by omega, he⟩
      have hl := advN_leap mask (runP mask i q) rfl
      have hl' : advN mask (runEnd mask i - i + 1) (runP mask i q) = runP mask (leap mask i q).1 (leap mask i q).2 := hl
      refine ⟨(runEnd mask i - i + 1) + n, ?_, ?_, fun m hm => ?_⟩
      · rw [advN_add, hl']; exact e1
      · rw [advN_add, hl']; exact e2
      · by_cases z : m ≤ runEnd mask i - i
        · rw [hrun m z]; exact hfull m z
        · have := e3 (m - (runEnd mask i - i + 1)) (by omega)
          rw [← hl', ← advN_add, show runEnd mask i - i + 1 + (m - (runEnd mask i - i + 1)) = m from by omega] at this
          exact this
structure Own (mask : Nat) (hs : List Int) (owner : Array (Option Nat)) (k : Nat) : Prop where
  sz : owner.size = mask + 1
  lt : ∀ j i : Nat, owner[j]? = some (some i) → i < k
  all : ∀ i : Nat, i < k → ∃ j : Nat, owner[j]? = some (some i)
  inj : ∀ j j' i : Nat, owner[j]? = some (some i) → owner[j']? = some (some i) → j = j'
  reach : ∀ (j i : Nat) (h : Int), owner[j]? = some (some i) → hs[i]? = some h → ∃ n, wayAt mask h n = j ∧ ∀ m, m < n → Full owner (wayAt mask h m)
theorem Own.free {mask : Nat} {hs : List Int} {owner : Array (Option Nat)} {k : Nat} (O : Own mask hs owner k) (hk : k ≤ mask) : ∃ j, j ≤ mask ∧ ¬ Full owner j := by
  refine Classical.byContradiction fun z => ?_
  have z' : ∀ j, j ≤ mask → Full owner j := fun j hj => Classical.byContradiction fun q => z ⟨j, hj, q⟩
  have hnd : ((List.range (mask + 1)).map fun j => (owner.getD j none).getD 0).Nodup := by
    rw [List.Nodup, List.pairwise_map]
    refine (List.nodup_range (n := mask + 1)).imp_of_mem fun {a b} ha hb hne heq => ?_
    have ha := List.mem_range.mp ha
    have hb := List.mem_range.mp hb
    obtain ⟨i, ei⟩ := z' a (by omega)
    obtain ⟨i', ei'⟩ := z' b (by omega)
    have q1 : (owner.getD a none).getD 0 = i := by rw [Array.getD_eq_getD_getElem?, ei]; rfl
    have q2 : (owner.getD b none).getD 0 = i' := by rw [Array.getD_eq_getD_getElem?, ei']; rfl
    rw [q1, q2] at heq
    subst heq
    exact hne (O.inj a b i ei ei')
  have := nodup_leN (m := List.range k) hnd fun x hx => by
    obtain ⟨a, ha, rfl⟩ := List.mem_map.mp hx
    have ha := List.mem_range.mp ha
    obtain ⟨i, ei⟩ := z' a (by omega)
    have q1 : (owner.getD a none).getD 0 = i := by rw [Array.getD_eq_getD_getElem?, ei]; rfl
    rw [q1]
    exact List.mem_range.mpr (O.lt a i ei)
  rw [List.length_map, List.length_range, List.length_range] at this
  omega
theorem Own.step {mask : Nat} {hs : List Int} {owner : Array (Option Nat)} {k : Nat} {h : Int} (hm : MaskOk mask) (O : Own mask hs owner k) (hk : k ≤ mask) (hh : hs[k]? = some h) :
    ∃ j, layClean.free mask owner (turns mask) (bits h % (mask + 1)) (bits h) = some j ∧ Own mask hs (owner.setIfInBounds j (some k)) (k + 1) := by
  obtain ⟨j0, hj0, hn0⟩ := O.free hk
  obtain ⟨kk, hkk, ekk⟩ := lp_cover (i := bits h % (mask + 1)) hm (bits_lt h) hj0
  obtain ⟨n, e1, e2, e3⟩ := free_ok O.sz (turns mask) (bits h % (mask + 1)) (bits h) (Nat.le_of_lt_succ (Nat.mod_lt _ (Nat.succ_pos _))) ⟨kk, hkk, by rw [ekk]; exact hn0⟩
  have e2' : ¬ Full owner (wayAt mask h n) := e2
  have e3' : ∀ m, m < n → Full owner (wayAt mask h m) := e3
  refine ⟨wayAt mask h n, e1, ?_⟩
  have hjl : wayAt mask h n < owner.size := by have := wayAt_le mask h n; rw [O.sz]; omega
  generalize hj : wayAt mask h n = j at *
  have get : ∀ x : Nat, (owner.setIfInBounds j (some k))[x]? = if x = j then some (some k) else owner[x]? := fun x => by
    rw [Array.getElem?_setIfInBounds]
    by_cases z : j = x
    · subst z; simp [hjl]
    · rw [if_neg z, if_neg (fun q => z q.symm)]
  have full : ∀ x, Full owner x → Full (owner.setIfInBounds j (some k)) x := fun x hx => by
    obtain ⟨i, ei⟩ := hx
    by_cases z : x = j
    · exact ⟨k, by rw [get, if_pos z]⟩
    · exact ⟨i, by rw [get, if_neg z]; exact ei⟩
  constructor
  · rw [Array.size_setIfInBounds]; exact O.sz
  · intro x i e
    rw [get] at e
    by_cases z : x = j
    · rw [if_pos z] at e; cases e; omega
    · rw [if_neg z] at e; have := O.lt x i e; omega
  · intro i hi
    by_cases z : i = k
    · subst z; exact ⟨j, by rw [get, if_pos rfl]⟩
    · obtain ⟨x, ex⟩ := O.all i (by omega)
      refine ⟨x, ?_⟩
      rw [get, if_neg (fun q => e2' ⟨i, by rw [← q]; exact ex⟩)]; exact ex
  · intro x x' i ex ex'
    rw [get] at ex ex'
    by_cases z : x = j
    · rw [if_pos z] at ex
      cases ex
      by_cases z' : x' = j
      · rw [z, z']
      · rw [if_neg z'] at ex'; have := O.lt _ _ ex'; omega
    · rw [if_neg z] at ex
      by_cases z' : x' = j
      · rw [if_pos z'] at ex'; cases ex'; have := O.lt _ _ ex; omega
      · rw [if_neg z'] at ex'; exact O.inj _ _ _ ex ex'
  · intro x i h' ex eh
    rw [get] at ex
    by_cases z : x = j
    · rw [if_pos z] at ex
      cases ex
      rw [hh] at eh
      cases eh
      exact ⟨n, by rw [hj, z], fun m hm => full _ (e3' m hm)⟩
    · rw [if_neg z] at ex
      obtain ⟨m, em, fm⟩ := O.reach x i h' ex eh
      exact ⟨m, em, fun m' hm' => full _ (fm m' hm')⟩
theorem clean_fold {mask : Nat} {hs : List Int} (hm : MaskOk mask) (hl : hs.length ≤ mask + 1) : ∀ (rest pre : List Int) (owner : Array (Option Nat)), hs = pre ++ rest → Own mask hs owner pre.length →
    ∃ owner', rest.foldl (fun acc h => do
      let (owner, k) ← acc
      let j ← layClean.free mask owner (turns mask) (bits h % (mask + 1)) (bits h)
      pure (owner.setIfInBounds j (some k), k + 1)) (some (owner, pre.length)) = some (owner', hs.length) ∧ Own mask hs owner' hs.length
  | [], pre, owner, e, O => by
    rw [List.append_nil] at e
    subst e
    exact ⟨owner, rfl, O⟩
  | h :: rest, pre, owner, e, O => by
    have hpl : pre.length + (rest.length + 1) = hs.length := by rw [e]; simp
    have hh : hs[pre.length]? = some h := by rw [e]; simp
    obtain ⟨j, e1, O1⟩ := O.step hm (by omega) hh
    have e2 : hs = (pre ++ [h]) ++ rest := by rw [e]; simp
    have hl2 : (pre ++ [h]).length = pre.length + 1 := by simp
    obtain ⟨owner', e3, O3⟩ := clean_fold hm hl rest (pre ++ [h]) _ e2 (by rw [hl2]; exact O1)
    refine ⟨owner', ?_, O3⟩
    rw [List.foldl_cons]
    rw [hl2] at e3
    rw [← e3]
    congr 1
    show (layClean.free mask owner (turns mask) (bits h % (mask + 1)) (bits h) >>= fun j => pure (owner.setIfInBounds j (some pre.length), pre.length + 1)) = _
    rw [e1]
    rfl
theorem clean_ok {mask : Nat} {hs : Array Int} (hm : MaskOk mask) (hl : hs.size ≤ mask + 1) : ∃ owner, layClean mask hs = some owner ∧ Own mask hs.toList owner hs.size := by
  have O : Own mask hs.toList (Array.replicate (mask + 1) none) 0 := by
    have hn : ∀ j i : Nat, (Array.replicate (mask + 1) (none : Option Nat))[j]? ≠ some (some i) := fun j i h => by
      rw [Array.getElem?_replicate] at h
      split at h <;> simp at h
    exact ⟨by simp, fun j i h => absurd h (hn j i), fun i hi => absurd hi (Nat.not_lt_zero _), fun j j' i h => absurd h (hn j i), fun j i h e => absurd e (hn j i)⟩
  obtain ⟨owner, e, O'⟩ := clean_fold hm (hs := hs.toList) (by simpa using hl) hs.toList [] _ rfl O
  refine ⟨owner, ?_, by simpa using O'⟩
  unfold layClean
  rw [← Array.foldl_toList]
  have e' := congrArg (Option.map (·.1)) e
  exact e'
end Oh

namespace Oh
open PySem PySem.SetTable

def liveOf (mask : Nat) (owner : Array (Option Nat)) : List (Nat × Nat) := (List.range (mask + 1)).filterMap fun j => (owner.getD j none).map (j, ·)
theorem mem_live {mask : Nat} {owner : Array (Option Nat)} (hs : owner.size = mask + 1) {j i : Nat} : (j, i) ∈ liveOf mask owner ↔ owner[j]? = some (some i) := by
  unfold liveOf
  rw [List.mem_filterMap]
  constructor
  · rintro ⟨a, ha, e⟩
    have ha := List.mem_range.mp ha
    have hb : a < owner.size := by omega
    rw [show owner.getD a none = owner[a] from by simp [Array.getD, hb]] at e
    rw [Option.map_eq_some_iff] at e
    obtain ⟨x, e1, e2⟩ := e
    cases e2
    rw [Array.getElem?_eq_getElem hb, e1]
  · intro e
    have hb := (Array.getElem?_eq_some_iff.mp e).1
    refine ⟨j, List.mem_range.mpr (by omega), ?_⟩
    rw [Array.getD_eq_getD_getElem?, e]
    rfl
theorem live_rise {mask : Nat} {owner : Array (Option Nat)} : (liveOf mask owner).Pairwise fun a b => a.1 < b.1 := by
  unfold liveOf
  rw [List.pairwise_filterMap]
  refine (List.pairwise_lt_range (n := mask + 1)).imp fun {a b} h x ex y ey => ?_
  rw [Option.map_eq_some_iff] at ex ey
  obtain ⟨_, _, rfl⟩ := ex
  obtain ⟨_, _, rfl⟩ := ey
  exact h
theorem live_perm {mask : Nat} {hs : List Int} {owner : Array (Option Nat)} {k : Nat} (O : Own mask hs owner k) : ((liveOf mask owner).map (·.2)).Perm (List.range k) := by
  refine (List.perm_ext_iff_of_nodup ?_ List.nodup_range).mpr fun a => ?_
  · rw [List.Nodup, List.pairwise_map]
    refine live_rise.imp_of_mem fun {a b} ha hb h e => ?_
    have h1 := (mem_live O.sz (j := a.1) (i := a.2)).mp ha
    have h2 := (mem_live O.sz (j := b.1) (i := b.2)).mp hb
    rw [← e] at h2
    have := O.inj _ _ _ h1 h2
    omega
  · rw [List.mem_range, List.mem_map]
    constructor
    · rintro ⟨x, hx, rfl⟩
      exact O.lt x.1 x.2 ((mem_live O.sz).mp hx)
    · intro h
      obtain ⟨j, e⟩ := O.all a h
      exact ⟨(j, a), (mem_live O.sz).mpr e, rfl⟩
/-- laid anew: the table is sound, the order is a change of places -/
theorem laid_ok {mask finger moves : Nat} {led plain : Bool} {hs : Array Int} (hm : MaskOk mask) (hl : hs.size ≤ mask) :
    ∃ t order, laid mask finger moves led plain hs = some (t, order) ∧ order.toList.Perm (List.range hs.size) ∧ TOK t (order.filterMap (hs[·]?)) ∧ t.mask = mask ∧ t.led = led ∧ t.plain = plain ∧ t.place.size = hs.size := by
  obtain ⟨owner, eo, O⟩ := clean_ok hm (hs := hs) (by omega)
  have hp := live_perm O
  have hlen : (liveOf mask owner).length = hs.size := by
    have := hp.length_eq
    simpa using this
  refine ⟨{ mask, place := ((liveOf mask owner).map (·.1)).toArray, dummies := #[], finger, led, moves, plain }, ((liveOf mask owner).map (·.2)).toArray, ?_, hp, ?_, rfl, rfl, rfl, ?_⟩
  · unfold laid
    rw [eo]
    rfl
  · have hget : ∀ (i : Nat), ((((liveOf mask owner).map (·.2)).toArray).filterMap (hs[·]?))[i]? = ((liveOf mask owner)[i]?).bind fun x => hs[x.2]? := by
      intro i
      rw [← Array.getElem?_toList, Array.toList_filterMap]
      show (List.filterMap _ ((liveOf mask owner).map (·.2)))[i]? = _
      rw [List.filterMap_map]
      have key : ∀ l : List (Nat × Nat), (∀ x ∈ l, x.2 < hs.size) → ∀ i : Nat, (List.filterMap ((fun x => hs[x]?) ∘ fun x => x.2) l)[i]? = (l[i]?).bind fun x => hs[x.2]? := by
        intro l
        induction l with
        | nil => intro _ i; rfl
        | cons a l ih =>
          intro h i
          have ha := h a List.mem_cons_self
          rw [List.filterMap_cons_some (b := hs[a.2]) (by show hs[a.2]? = _; exact Array.getElem?_eq_getElem ha)]
          cases i with
          | zero => simp [Array.getElem?_eq_getElem ha]
          | succ i => rw [List.getElem?_cons_succ, List.getElem?_cons_succ]; exact ih (fun x hx => h x (List.mem_cons_of_mem _ hx)) i
      exact key _ (fun x hx => O.lt x.1 x.2 ((mem_live O.sz).mp hx)) i
    have occ : ∀ j, Full owner j → Occ ((liveOf mask owner).map (·.1)).toArray j := fun j ⟨i, e⟩ => by
      obtain ⟨n, hn⟩ := List.getElem?_of_mem ((mem_live O.sz).mpr e)
      exact ⟨n, by rw [List.getElem?_toArray, List.getElem?_map, hn]; rfl⟩
    constructor
    · exact hm
    · intro i j a b hij ea eb
      have ea : ((liveOf mask owner).map (·.1)).toArray[i]? = some a := ea
      have eb : ((liveOf mask owner).map (·.1)).toArray[j]? = some b := eb
      rw [List.getElem?_toArray] at ea eb
      have h := (List.pairwise_map (f := fun x : Nat × Nat => x.1) (R := (· < ·))).mpr (live_rise (mask := mask) (owner := owner))
      rw [List.pairwise_iff_getElem] at h
      obtain ⟨hi, ei⟩ := List.getElem?_eq_some_iff.mp ea
      obtain ⟨hj, ej⟩ := List.getElem?_eq_some_iff.mp eb
      have := h i j hi hj hij
      rw [ei, ej] at this
      exact this
    · intro i j e
      have e : ((liveOf mask owner).map (·.1)).toArray[i]? = some j := e
      rw [List.getElem?_toArray] at e
      have := List.mem_of_getElem? e
      obtain ⟨x, hx, rfl⟩ := List.mem_map.mp this
      have := (mem_live O.sz (j := x.1) (i := x.2)).mp hx
      have := (Array.getElem?_eq_some_iff.mp this).1
      have := O.sz
      show x.1 ≤ mask
      omega
    · show ((liveOf mask owner).map (·.1)).toArray.size = (((liveOf mask owner).map (·.2)).toArray.filterMap (hs[·]?)).size
      have q1 : ((liveOf mask owner).map (·.1)).toArray.size = hs.size := by simpa using hlen
      have q2 : ((((liveOf mask owner).map (·.2)).toArray.filterMap (hs[·]?)).toList).length = hs.size := by
        rw [Array.toList_filterMap]
        have := ((hp.filterMap (fun i => hs[i]?)).trans (by rw [filterMap_getElem?_range])).length_eq
        simpa using this
      rw [q1, ← q2, Array.length_toList]
    · rfl
    · show ((liveOf mask owner).map (·.1)).toArray.size ≤ mask
      have q1 : ((liveOf mask owner).map (·.1)).toArray.size = hs.size := by simpa using hlen
      omega
    · intro i h e
      rw [hget] at e
      rw [Option.bind_eq_some_iff] at e
      obtain ⟨x, ex, eh⟩ := e
      have hx := (mem_live O.sz (j := x.1) (i := x.2)).mp (List.mem_of_getElem? ex)
      obtain ⟨n, e1, e2⟩ := O.reach x.1 x.2 h hx (by rw [Array.getElem?_toList]; exact eh)
      refine ⟨n, ?_, fun m hm => occ _ (e2 m hm)⟩
      show ((liveOf mask owner).map (·.1)).toArray[i]? = some (wayAt mask h n)
      rw [List.getElem?_toArray, List.getElem?_map, ex, e1]
      rfl
  · show ((liveOf mask owner).map (·.1)).toArray.size = hs.size
    simpa using hlen
end Oh

namespace Oh
open PySem PySem.SetTable PySem.Spec

section
variable {prog : Program} {w : World} {A : Around} {E : Value → Shared → Prop} {s : Shared}
theorem items_int {ks : List Int} {vs : List Value} (h : ItemsAre (intKind prog w) ks vs) : ∀ v ∈ vs, ∃ n t, v = .int n t := by
  induction h with
  | nil => intro v hv; simp at hv
  | @cons k v' ks vs h1 _ ih =>
    intro v hv
    rcases List.mem_cons.mp hv with rfl | hv
    · have h1 : Value.isInt k v = true := h1
      cases v <;> first | exact ⟨_, _, rfl⟩ | exact absurd h1 (by simp [Value.isInt])
    · exact ih v hv
theorem hashByValue_tup {ks : List Int} {b : Addr} {Q : Bool → Shared → Prop} (hk : IsTupleKey (intKind prog w) s.heap ks b) (h : Q true s) : wpAny (model prog w) A (hashByValue 8 (.ref b)) Q E s := by
  have hT := hk.typeIs
  obtain ⟨o, items, n, ho, _, hd, hi⟩ := hk
  unfold hashByValue
  refine wpAny_bind (wpAny_specialOf hT F.slot_tuple_hash.lookup ?_)
  dsimp only
  refine wpAny_bind (wpAny_seqItems ho hd ?_)
  refine wpAny_bind ?_
  show wpAny _ _ (forIn items _ _) _ _ s
  rw [← Array.forIn_toList]
  refine wpAny_forIn_list _ (fun rest r s' => r.1 = none ∧ s' = s ∧ ∀ v ∈ rest, ∃ n t, v = Value.int n t) _ ?_ ?_ _ _ ⟨rfl, rfl, items_int hi⟩
  · rintro v rest r s' ⟨hr, rfl, hall⟩
    obtain ⟨n, t, rfl⟩ := hall v List.mem_cons_self
    unfold hashByValue
    refine wpAny_bind (wpAny_pure ?_)
    simp only [Bool.not_true, Bool.false_eq_true, if_false]
    exact wpAny_pure ⟨rfl, rfl, fun u hu' => hall u (List.mem_cons_of_mem _ hu')⟩
  · rintro ⟨r1, r2⟩ s' ⟨hr, rfl, _⟩
    simp only at hr
    subst hr
    exact wpAny_pure h
theorem ofAClass_tup {ks : List Int} {b : Addr} {Q : Bool → Shared → Prop} (hk : IsTupleKey (intKind prog w) s.heap ks b) (h : Q false s) : wpAny (model prog w) A (ofAClassStatement 8 (.ref b)) Q E s := by
  have hT := hk.typeIs
  obtain ⟨o, items, n, ho, _, hd, hi⟩ := hk
  unfold ofAClassStatement
  refine wpAny_bind (wpAny_typeOf hT ?_)
  dsimp only
  have et : ("tuple" == "tuple") = true := rfl
  simp only [et, if_true]
  refine wpAny_bind (wpAny_pure ?_)
  simp only [Bool.not_true, Bool.false_eq_true, if_false]
  refine wpAny_bind (wpAny_seqItems ho hd ?_)
  dsimp only
  refine wpAny_bind ?_
  rw [← Array.forIn_toList]
  refine wpAny_forIn_list _ (fun rest r s' => r.1 = none ∧ s' = s ∧ ∀ v ∈ rest, ∃ n t, v = Value.int n t) _ ?_ ?_ _ _ ⟨rfl, rfl, items_int hi⟩
  · rintro v rest r s' ⟨hr, rfl, hall⟩
    obtain ⟨n, t, rfl⟩ := hall v List.mem_cons_self
    unfold ofAClassStatement
    refine wpAny_bind (wpAny_pure ?_)
    simp only [Bool.false_eq_true, if_false]
    exact wpAny_pure ⟨rfl, rfl, fun u hu' => hall u (List.mem_cons_of_mem _ hu')⟩
  · rintro ⟨r1, r2⟩ s' ⟨hr, rfl, _⟩
    simp only at hr
    subst hr
    exact wpAny_pure h
theorem unseen_tup {ks : List Int} {b : Addr} {ys : List Value} {Q : Bool → Shared → Prop} (hk : IsTupleKey (intKind prog w) s.heap ks b) (hy : ∀ y ∈ ys, ∃ ks' b', y = .ref b' ∧ IsTupleKey (intKind prog w) s.heap ks' b') (h : Q false s) :
    wpAny (model prog w) A (searchCouldBeSeen (.ref b) ys) Q E s := by
  unfold searchCouldBeSeen
  refine wpAny_bind ?_
  refine wpAny_forIn_list _ (fun rest r s' => r.1 = none ∧ s' = s ∧ ∀ y ∈ rest, ∃ ks' b', y = .ref b' ∧ IsTupleKey (intKind prog w) s.heap ks' b') _ ?_ ?_ _ _ ⟨rfl, rfl, hy⟩
  · rintro v rest r s' ⟨hr, rfl, hall⟩
    obtain ⟨ks', b', rfl, hk'⟩ := hall v List.mem_cons_self
    have nxt : ∀ y ∈ rest, ∃ ks' b', y = .ref b' ∧ IsTupleKey (intKind prog w) s'.heap ks' b' := fun u hu' => hall u (List.mem_cons_of_mem _ hu')
    dsimp only
    by_cases hv : ((b == b') || (carriedByValue (.ref b) && carriedByValue (.ref b'))) = true
    · rw [if_pos hv]
      exact wpAny_pure ⟨rfl, rfl, nxt⟩
    · rw [if_neg hv]
      refine wpAny_bind (wpAny_eqIsQuiet_tuple hk ?_)
      simp only [Bool.not_true, Bool.false_eq_true, if_false]
      refine wpAny_bind (wpAny_eqIsQuiet_tuple hk' ?_)
      simp only [Bool.not_true, Bool.false_eq_true, if_false]
      refine wpAny_bind (ofAClass_tup hk ?_)
      simp only [Bool.false_eq_true, if_false]
      refine wpAny_bind (ofAClass_tup hk' ?_)
      simp only [Bool.false_eq_true, if_false]
      exact wpAny_pure ⟨rfl, rfl, nxt⟩
  · rintro ⟨r1, r2⟩ s' ⟨hr, rfl, _⟩
    simp only at hr
    subst hr
    exact wpAny_pure h
end
end Oh

namespace Oh
open PySem PySem.SetTable PySem.Spec

section
variable (prog : Program) (w : World)
def hT (k : List Int) : Int := tupleKeyHash (intKind prog w) k
def entT (x : List Int × Addr) : Int × Value := (hT prog w x.1, .ref x.2)
/-- a set of tuples, its table sound -/
structure SetT (h : Heap) (a : Addr) (xs : List (List Int × Addr)) (o : Obj) (ep : Nat) (t : SetTable) : Prop where
  at_ : h.get? a = some o
  ex : o.ExactSet
  dat : o.data = .set (xs.map (entT prog w)).toArray ep t
  tok : TOK t (xs.map fun x => hT prog w x.1).toArray
  keys : ∀ x ∈ xs, IsTupleKey (intKind prog w) h x.1 x.2
  nd : (xs.map (·.1)).Nodup
  thin : t.place.size * 5 < t.mask * 3
  plain : t.plain = true
  led : t.led = !(w.params.followText "set-order")
end
section
variable {prog : Program} {w : World} {A : Around} {E : Value → Shared → Prop} {s : Shared} {a : Addr} {xs : List (List Int × Addr)} {o : Obj} {ep : Nat} {t : SetTable}
theorem TOK.fits {hs : Array Int} (T : TOK t hs) : t.fits hs.size = true := by
  unfold SetTable.fits fill
  rw [T.dum, T.sz]
  have := T.room
  rw [T.sz] at this
  simp [this]
theorem SetT.fits (S : SetT prog w s.heap a xs o ep t) : t.fits (xs.map (entT prog w)).toArray.size = true := by
  have := S.tok.fits
  simpa using this
theorem SetT.odd {hs : Array Int} (T : TOK t hs) : t.gaveWay = false := by
  unfold SetTable.gaveWay
  rcases T.mask with e | e | e | e <;> rw [e] <;> rfl
theorem rise_inj {pl : Array Nat} (hr : Rise pl) {i i' j : Nat} (h : pl[i]? = some j) (h' : pl[i']? = some j) : i = i' := by
  rw [← below_at hr h, below_at hr h']
theorem search_from (S : SetT prog w s.heap a xs o ep t) {k : List Int} {b : Addr} (hk : IsTupleKey (intKind prog w) s.heap k b) (hu : A.units < cLine) {N : Nat} (hN : ¬ Occ t.place (wayAt t.mask (hT prog w k) N)) {Q : SetFound → Shared → Prop}
    (hin : k ∈ xs.map (·.1) → Q (.there none) s)
    (hout : k ∉ xs.map (·.1) → ∀ n, ¬ Occ t.place (wayAt t.mask (hT prog w k) n) → (∀ m, m < n → Occ t.place (wayAt t.mask (hT prog w k) m)) → Q (.free (wayAt t.mask (hT prog w k) n) false) s) :
    ∀ (fuel n0 : Nat) (stand : Option Probe), N - n0 < fuel → stand.getD (t.probeStart (hT prog w k)) = advN t.mask n0 (startP t.mask (hT prog w k)) →
      (∀ m, m < n0 → ∃ (i : Nat) (x : List Int × Addr), t.place[i]? = some (wayAt t.mask (hT prog w k) m) ∧ xs[i]? = some x ∧ x.1 ≠ k) →
      wpAny (model prog w) A (setSearchFrom a (.ref b) (hT prog w k) true fuel stand) Q E s
  | 0, n0, stand, hf, _, _ => absurd hf (Nat.not_lt_zero _)
  | fuel + 1, n0, stand, hf, hst, hb => by
    have hn0 : n0 ≤ N := by
      refine Nat.le_of_not_lt fun z => ?_
      obtain ⟨i, x, e, _⟩ := hb N z
      exact hN ⟨i, e⟩
    have hlen : t.place.size = xs.length := by rw [S.tok.sz]; simp
    unfold setSearchFrom
    refine wpAny_bind (wpAny_setState_of S.at_ S.dat S.fits ?_)
    dsimp only
    rw [SetT.odd S.tok]
    simp only [Bool.false_eq_true, if_false]
    obtain ⟨n, n1, n2, h1, h2⟩ := probe_ok S.tok (fun i => (((xs.map (entT prog w)).toArray[i]?).map (·.1)).getD 0) (hT prog w k) n0
    have hash_at : ∀ (i : Nat) (x : List Int × Addr), xs[i]? = some x → (((xs.map (entT prog w)).toArray[i]?).map (·.1)).getD 0 = hT prog w x.1 := fun i x e => by
      rw [List.getElem?_toArray, List.getElem?_map, e]; rfl
    have at_i : ∀ (i j : Nat), t.place[i]? = some j → ∃ x, xs[i]? = some x := fun i j e => by
      have := (Array.getElem?_eq_some_iff.mp e).1
      exact ⟨xs[i], List.getElem?_eq_getElem (by omega)⟩
    have hb' : ∀ m, m < n → ∃ (i : Nat) (x : List Int × Addr), t.place[i]? = some (wayAt t.mask (hT prog w k) m) ∧ xs[i]? = some x ∧ x.1 ≠ k := fun m hm => by
      by_cases z : m < n0
      · exact hb m z
      · obtain ⟨i, e, q⟩ := h1 m (by omega) hm
        obtain ⟨x, ex⟩ := at_i i _ e
        refine ⟨i, x, e, ex, fun z => q ?_⟩
        rw [hash_at i x ex, z]
    rw [hst]
    rcases h2 with ⟨he, hp⟩ | ⟨i, ei, hi, hp⟩
    · have hp' : ∀ f : Nat → Int, (∀ i, f i = (((xs.map (entT prog w)).toArray[i]?).map (·.1)).getD 0) → t.probe f (hT prog w k) (advN t.mask n0 (startP t.mask (hT prog w k))) = some (.empty (wayAt t.mask (hT prog w k) n) none) := fun f hf => by
        rw [show f = _ from funext hf]; exact hp
      rw [hp']
      rotate_left
      · intro i; rfl
      dsimp only
      refine wpAny_pure (hout ?_ n he fun m hm => ?_)
      · intro hm
        obtain ⟨x, hx, rfl⟩ := List.mem_map.mp hm
        obtain ⟨i, hi⟩ := List.getElem?_of_mem hx
        obtain ⟨n', e1, e2⟩ := S.tok.reach i (hT prog w x.1) (by rw [List.getElem?_toArray, List.getElem?_map, hi]; rfl)
        rcases Nat.lt_trichotomy n' n with z | z | z
        · obtain ⟨i', x', q1, q2, q3⟩ := hb' n' z
          have := rise_inj S.tok.rise e1 q1
          subst this
          rw [hi] at q2
          cases q2
          exact q3 rfl
        · subst z; exact he ⟨i, e1⟩
        · exact he (e2 n z)
      · obtain ⟨i, x, e, _⟩ := hb' m hm
        exact ⟨i, e⟩
    · have hp' : ∀ f : Nat → Int, (∀ i, f i = (((xs.map (entT prog w)).toArray[i]?).map (·.1)).getD 0) → t.probe f (hT prog w k) (advN t.mask n0 (startP t.mask (hT prog w k))) = some (.candidate (wayAt t.mask (hT prog w k) n) i (advN t.mask (n + 1) (startP t.mask (hT prog w k)))) := fun f hf => by
        rw [show f = _ from funext hf]; exact hp
      rw [hp']
      rotate_left
      · intro i; rfl
      dsimp only
      obtain ⟨x, ex⟩ := at_i i _ ei
      have hxm := List.mem_of_getElem? ex
      have ege : (xs.map (entT prog w)).toArray[i]? = some (hT prog w x.1, .ref x.2) := by
        rw [List.getElem?_toArray, List.getElem?_map, ex]; rfl
      have hst' : ∀ y ∈ ((xs.map (entT prog w)).toArray.filter (fun x => x.fst == hT prog w k)).toList.map (fun x => x.snd), ∃ ks' b', y = .ref b' ∧ IsTupleKey (intKind prog w) s.heap ks' b' := fun y hy => by
        obtain ⟨e, he, rfl⟩ := List.mem_map.mp hy
        rw [Array.toList_filter] at he
        have he := (List.mem_filter.mp he).1
        obtain ⟨z, hz, rfl⟩ := List.mem_map.mp he
        exact ⟨z.1, z.2, rfl, S.keys z hz⟩
      have hsm : t.sameMemory t.moves t.mask = some true := by unfold sameMemory; simp
      have hnN : n < N := by
        refine Nat.lt_of_not_le fun z => ?_
        by_cases z' : N = n
        · subst z'; exact hN ⟨i, ei⟩
        · obtain ⟨i', x', e', _⟩ := hb' N (by omega)
          exact hN ⟨i', e'⟩
      cases hl : t.led
      · simp only [Bool.not_false, if_true]
        refine wpAny_bind (unseen_tup hk hst' ?_)
        simp only [Bool.false_eq_true, if_false]
        rw [ege]
        dsimp only
        refine wpAny_bind (wpAny_holding (wpAny_eqBool_tuple hu (S.keys x hxm) hk ?_))
        refine wpAny_bind (wpAny_setState_of S.at_ S.dat S.fits ?_)
        by_cases hxk : x.1 = k
        · rw [decide_eq_true hxk]
          simp only [Bool.and_self, if_true]
          exact wpAny_pure (hin (List.mem_map.mpr ⟨x, hxm, hxk⟩))
        · rw [decide_eq_false hxk]
          simp only [Bool.and_false, Bool.false_eq_true, if_false]
          rw [hsm]
          simp only [if_true]
          rw [slot_live S.tok.rise ei]
          dsimp only
          rw [ege]
          dsimp only
          refine wpAny_bind (wpAny_isSame_ref_self ?_)
          refine wpAny_bind (wpAny_pure ?_)
          simp only [if_true]
          refine search_from S hk hu hN hin hout fuel (n + 1) _ (by omega) rfl fun m hm => ?_
          by_cases z : m < n
          · exact hb' m z
          · have : m = n := by omega
            subst this
            exact ⟨i, x, ei, ex, hxk⟩
      · simp only [Bool.not_true, Bool.false_eq_true, if_false]
        rw [ege]
        dsimp only
        refine wpAny_bind (wpAny_holding (wpAny_eqBool_tuple hu (S.keys x hxm) hk ?_))
        refine wpAny_bind (wpAny_setState_of S.at_ S.dat S.fits ?_)
        by_cases hxk : x.1 = k
        · rw [decide_eq_true hxk]
          simp only [Bool.and_self, if_true]
          exact wpAny_pure (hin (List.mem_map.mpr ⟨x, hxm, hxk⟩))
        · rw [decide_eq_false hxk]
          simp only [Bool.and_false, Bool.false_eq_true, if_false]
          rw [hsm]
          simp only [if_true]
          rw [slot_live S.tok.rise ei]
          dsimp only
          rw [ege]
          dsimp only
          refine wpAny_bind (wpAny_isSame_ref_self ?_)
          refine wpAny_bind (wpAny_pure ?_)
          simp only [if_true]
          refine search_from S hk hu hN hin hout fuel (n + 1) _ (by omega) rfl fun m hm => ?_
          by_cases z : m < n
          · exact hb' m z
          · have : m = n := by omega
            subst this
            exact ⟨i, x, ei, ex, hxk⟩
theorem search_tup (S : SetT prog w s.heap a xs o ep t) {k : List Int} {b : Addr} (hk : IsTupleKey (intKind prog w) s.heap k b) (hu : A.units < cLine) {Q : SetFound → Shared → Prop}
    (hin : k ∈ xs.map (·.1) → Q (.there none) s)
    (hout : k ∉ xs.map (·.1) → ∀ n, ¬ Occ t.place (wayAt t.mask (hT prog w k) n) → (∀ m, m < n → Occ t.place (wayAt t.mask (hT prog w k) m)) → Q (.free (wayAt t.mask (hT prog w k) n) false) s) :
    wpAny (model prog w) A (setSearch a (.ref b) (hT prog w k) true) Q E s := by
  obtain ⟨j, hj, hne⟩ := free_place S.tok.room
  obtain ⟨N, hN, eN⟩ := way_cover (h := hT prog w k) (n0 := 0) S.tok.mask hj
  rw [Nat.zero_add] at eN
  unfold setSearch
  refine search_from S hk hu (N := N) (by rw [eN]; exact hne) hin hout 100000 0 none ?_ rfl fun m hm => absurd hm (Nat.not_lt_zero _)
  unfold turns at hN
  rcases S.tok.mask with e | e | e | e <;> rw [e] at hN <;> omega
end
end Oh

namespace Oh
open PySem PySem.SetTable PySem.Spec

section
variable {prog : Program} {w : World} {A : Around} {E : Value → Shared → Prop} {s : Shared} {a : Addr} {xs : List (List Int × Addr)} {o : Obj} {ep : Nat} {t : SetTable}
theorem keep_tup {h h' : Heap} {k : List Int} {b : Addr} {es : Array (Int × Value)} (x : IsTupleKey (intKind prog w) h k b) (ho : h.get? a = some o) (hd : o.data = .set es ep t) (hs : Heap.SameBut a h h') : IsTupleKey (intKind prog w) h' k b := by
  obtain ⟨o', items, n, ho', hc, hd', hi⟩ := x
  have hne : b ≠ a := by
    rintro rfl
    obtain rfl : o' = o := Option.some.inj (ho'.symm.trans ho)
    rw [hd] at hd'; exact nomatch hd'
  exact ⟨o', items, n, (hs.2 b hne).trans ho', hc, hd', hi⟩
/-- what is stored -/
theorem set_put {es : Array (Int × Value)} (ho : s.heap.get? a = some o) (hd : o.data = .set es ep t) (es' : Array (Int × Value)) (t' : SetTable) :
    (s.heap.update a (Obj.putSet es' t')).get? a = some { o with data := .set es' (ep + 1) t' } := by
  have := Heap.get?_update_self (Obj.putSet es' t') ho (by rw [putSet_of _ t' hd]; rfl)
  rw [putSet_of _ t' hd] at this
  exact this
theorem set_store {es : Array (Int × Value)} (ho : s.heap.get? a = some o) (hex : o.ExactSet) (hd : o.data = .set es ep t) {ys : List (List Int × Addr)} {t' : SetTable} (hT' : TOK t' (ys.map fun x => hT prog w x.1).toArray) (hk : ∀ x ∈ ys, IsTupleKey (intKind prog w) s.heap x.1 x.2) (hn : (ys.map (·.1)).Nodup)
    (hth : t'.place.size * 5 < t'.mask * 3) (hp : t'.plain = true) (hle : t'.led = !(w.params.followText "set-order")) :
    SetT prog w (s.heap.update a (Obj.putSet (ys.map (entT prog w)).toArray t')) a ys { o with data := .set (ys.map (entT prog w)).toArray (ep + 1) t' } (ep + 1) t' where
  at_ := set_put ho hd _ _
  ex := hex
  dat := rfl
  tok := hT'
  keys := fun x hx => keep_tup (hk x hx) ho hd (Heap.SameBut.update _ _ _)
  nd := hn
  thin := hth
  plain := hp
  led := hle
theorem fmap_get {α β : Type} (f : α → β) (xs : List α) (order : Array Nat) : order.filterMap ((xs.map f).toArray[·]?) = ((order.toList.filterMap (xs[·]?)).map f).toArray := by
  apply Array.ext'
  rw [Array.toList_filterMap, List.map_filterMap]
  show _ = List.filterMap _ _
  congr 1
  funext i
  rw [List.getElem?_toArray, List.getElem?_map]
theorem insL_map {α β : Type} (f : α → β) (xs : List α) (p : Nat) (x : α) : insertAt (xs.map f).toArray p (f x) = ((insertAt xs.toArray p x).toList.map f).toArray := by
  apply Array.ext'
  rw [SetTable.toList_insertAt]
  show _ = List.map f _
  rw [SetTable.toList_insertAt, List.map_append, List.map_cons, List.map_take, List.map_drop]
theorem new_mask {m n : Nat} (hm : MaskOk m) (h1 : n * 5 < m * 3) (h2 : (n + 1) * 5 ≥ m * 3) (hn : n ≤ 200) :
    MaskOk (sizeAbove (grown (n + 1)) - 1) ∧ n + 1 ≤ sizeAbove (grown (n + 1)) - 1 ∧ (n + 1) * 5 < (sizeAbove (grown (n + 1)) - 1) * 3 ∧ ¬ sizeAbove (grown (n + 1)) > sizeLine := by
  rw [sizeLine_eq]
  rcases hm with rfl | rfl | rfl | rfl
  · have : n = 4 := by omega
    subst this; exact ⟨Or.inr (Or.inl rfl), by decide, by decide, by decide⟩
  · have : n = 18 := by omega
    subst this; exact ⟨Or.inr (Or.inr (Or.inl rfl)), by decide, by decide, by decide⟩
  · have : n = 76 := by omega
    subst this; exact ⟨Or.inr (Or.inr (Or.inr rfl)), by decide, by decide, by decide⟩
  · omega
theorem relay_ok {ys : List (List Int × Addr)} {wanted : Nat} (ho : s.heap.get? a = some o) (hex : o.ExactSet) (hd : o.data = .set (ys.map (entT prog w)).toArray ep t) (T : TOK t (ys.map fun x => hT prog w x.1).toArray)
    (hk : ∀ x ∈ ys, IsTupleKey (intKind prog w) s.heap x.1 x.2) (hn : (ys.map (·.1)).Nodup) (hp : t.plain = true) (hle : t.led = !(w.params.followText "set-order"))
    (hm : MaskOk (sizeAbove wanted - 1)) (h1 : ys.length ≤ sizeAbove wanted - 1) (h2 : ys.length * 5 < (sizeAbove wanted - 1) * 3) (h3 : ¬ sizeAbove wanted > sizeLine) (h4 : ys.length ≤ 300) {Q : Unit → Shared → Prop}
    (h : ∀ h' zs o' ep' t', Heap.SameBut a s.heap h' → SetT prog w h' a zs o' ep' t' → zs.Perm ys → Q () { s with heap := h' }) :
    wpAny (model prog w) A (setRelay a wanted) Q E s := by
  have hf : t.fits (ys.map (entT prog w)).toArray.size = true := by
    have := T.fits
    simpa using this
  unfold setRelay
  refine wpAny_bind (wpAny_setState_of ho hd hf ?_)
  dsimp only
  rw [if_neg h3]
  have ehs : ((ys.map (entT prog w)).toArray.map fun x => x.1) = (ys.map fun x => hT prog w x.1).toArray := by
    rw [List.map_toArray, List.map_map]; rfl
  rw [ehs]
  obtain ⟨t', order, el, hperm, T', hmk, hled, hpl, hsz⟩ := laid_ok (finger := t.finger) (moves := t.movedTo (sizeAbove wanted - 1)) (led := t.led) (plain := t.plain) (hs := (ys.map fun x => hT prog w x.1).toArray) hm (by simpa using h1)
  have er : t.relaid (ys.map fun x => hT prog w x.1).toArray wanted = some (t', order) := el
  rw [er]
  have hsize : (ys.map fun x => hT prog w x.1).toArray.size = ys.length := by simp
  rw [hsize] at hperm hsz
  have hzp : (order.toList.filterMap (ys[·]?)).Perm ys := by
    refine (hperm.filterMap _).trans ?_
    rw [List.filterMap_getElem?_range_length]
  have ees := fmap_get (entT prog w) ys order
  rw [fmap_get] at T'
  have hlz : (order.toList.filterMap (ys[·]?)).length = ys.length := hzp.length_eq
  generalize hzs : order.toList.filterMap (ys[·]?) = zs at *
  refine wpAny_bind ?_
  show wpAny (model prog w) A (if ((order.filterMap ((ys.map (entT prog w)).toArray[·]?)).size != (ys.map (entT prog w)).toArray.size) = true then _ else pure (order.filterMap ((ys.map (entT prog w)).toArray[·]?), t')) _ E s
  rw [ees]
  have hne : ((zs.map (entT prog w)).toArray.size != (ys.map (entT prog w)).toArray.size) = false := by simp [hlz]
  rw [hne]
  simp only [Bool.false_eq_true, if_false]
  refine wpAny_pure ?_
  dsimp only
  refine wpAny_storeSet_of ho hd ?_ (by rw [sizeLine_eq]; simp; omega)
  refine h _ zs _ _ t' (Heap.SameBut.update _ _ _) (set_store ho hex hd T' (fun x hx => hk x (hzp.mem_iff.mp hx)) (((hzp.map (·.1)).nodup_iff).mpr hn) ?_ ?_ ?_) hzp
  · rw [hsz, hmk]; exact h2
  · rw [hpl]; exact hp
  · rw [hled]; exact hle
/-- the key's tuple is added, or was there -/
theorem add_tup (S : SetT prog w s.heap a xs o ep t) {k : List Int} {b : Addr} (hk : IsTupleKey (intKind prog w) s.heap k b) (hu : A.units < cLine) (hb : xs.length ≤ 200) {Q : Bool → Shared → Prop}
    (h : ∀ h' ys o' ep' t' r, Heap.SameBut a s.heap h' → SetT prog w h' a ys o' ep' t' → ys.Perm (if k ∈ xs.map (·.1) then xs else xs ++ [(k, b)]) → Q r { s with heap := h' }) :
    wpAny (model prog w) A (setAddHashed a (.ref b) (hT prog w k)) Q E s := by
  unfold setAddHashed setAddHashedIn
  refine wpAny_holding (wpAny_bind (wpAny_setState_of S.at_ S.dat S.fits ?_))
  dsimp only
  have hbs : byScan (.ref b) (xs.map (entT prog w)).toArray = false := by unfold byScan; rfl
  rw [hbs]
  simp only [Bool.false_eq_true, if_false]
  refine wpAny_bind (search_tup S hk hu (fun hin => ?_) fun hout n he hbf => ?_)
  · dsimp only
    refine wpAny_pure ?_
    have := h s.heap xs o ep t false (Heap.SameBut.refl _ _) S (by rw [if_pos hin])
    cases s
    exact this
  · dsimp only
    refine wpAny_bind (wpAny_setState_of S.at_ S.dat S.fits ?_)
    dsimp only
    rw [put_eq S.tok.dum]
    dsimp only
    rw [S.plain]
    simp only [if_true]
    refine wpAny_bind (hashByValue_tup hk ?_)
    simp only [if_true]
    have hlen : t.place.size = xs.length := by rw [S.tok.sz]; simp
    have hth := S.thin
    have hroom : t.place.size + 1 ≤ t.mask := by rcases S.tok.mask with e | e | e | e <;> rw [e] at hth ⊢ <;> omega
    have hT1 := S.tok.put (b := t.plain) he hbf hroom
    generalize hj : wayAt t.mask (hT prog w k) n = j at *
    generalize hpp : below t.place j = p at *
    have hpe : insertAt (xs.map (entT prog w)).toArray p (hT prog w k, .ref b) = ((insertAt xs.toArray p (k, b)).toList.map (entT prog w)).toArray := by
      exact insL_map (entT prog w) xs p (k, b)
    have hph : insertAt (xs.map fun x => hT prog w x.1).toArray p (hT prog w k) = ((insertAt xs.toArray p (k, b)).toList.map fun x => hT prog w x.1).toArray := by
      exact insL_map (fun x : List Int × Addr => hT prog w x.1) xs p (k, b)
    rw [hpe]
    rw [hph] at hT1
    have hperm : ((insertAt xs.toArray p (k, b)).toList).Perm (xs ++ [(k, b)]) := by
      have := SetTable.insertAt_perm xs.toArray p (k, b)
      simpa using this
    generalize hys : (insertAt xs.toArray p (k, b)).toList = ys at *
    have hyl : ys.length = xs.length + 1 := by rw [hperm.length_eq]; simp
    have hky : ∀ x ∈ ys, IsTupleKey (intKind prog w) s.heap x.1 x.2 := fun x hx => by
      rcases List.mem_append.mp (hperm.mem_iff.mp hx) with hx | hx
      · exact S.keys x hx
      · rw [List.mem_singleton] at hx; subst hx; exact hk
    have hnd : (ys.map (·.1)).Nodup := by
      refine ((hperm.map (·.1)).nodup_iff).mpr ?_
      rw [List.map_append, List.nodup_append]
      refine ⟨S.nd, by simp, fun x hx y hy e => ?_⟩
      have hy' : y = k := by simpa using hy
      subst hy'
      subst e
      exact hout hx
    have e1 : ({ mask := t.mask, place := insertAt t.place p j, dummies := t.dummies, finger := t.finger, led := t.led, moves := t.moves, plain := t.plain } : SetTable) = { t with place := insertAt t.place p j } := by cases t; rfl
    have hfill : ({ t with place := insertAt t.place p j } : SetTable).fill = xs.length + 1 := by
      show (insertAt t.place p j).size + t.dummies.size = _
      rw [insAt_size, S.tok.dum, hlen]; rfl
    have hz : (ys.map (entT prog w)).toArray.size ≤ sizeLine := by rw [sizeLine_eq]; simp; omega
    refine wpAny_bind (wpAny_storeSet_of S.at_ S.dat ?_ hz)
    have e2 : ({ t with place := insertAt t.place p j } : SetTable).tooFull = decide ((xs.length + 1) * 5 ≥ t.mask * 3) := by
      unfold SetTable.tooFull
      rw [hfill]
    have e3 : ({ mask := t.mask, place := insertAt t.place p j, dummies := t.dummies, finger := t.finger, led := t.led, moves := t.moves, plain := true } : SetTable) = { t with place := insertAt t.place p j } := by
      have := S.plain
      cases t
      simp only at this
      subst this
      rfl
    by_cases hfull : (xs.length + 1) * 5 ≥ t.mask * 3
    · rw [e3, e2, decide_eq_true hfull]
      simp only [Bool.not_false, Bool.and_self, if_true]
      obtain ⟨q1, q2, q3, q4⟩ := new_mask S.tok.mask (by rw [← hlen]; exact hth) hfull hb
      have hsz1 : (xs.map (entT prog w)).toArray.size + 1 = xs.length + 1 := by simp
      rw [hsz1]
      have hT2 : TOK { t with place := insertAt t.place p j } (ys.map fun x => hT prog w x.1).toArray := hT1
      refine wpAny_bind (relay_ok (s := { s with heap := s.heap.update a (Obj.putSet (ys.map (entT prog w)).toArray { t with place := insertAt t.place p j }) }) (set_put S.at_ S.dat _ _) S.ex rfl hT2
        (fun x hx => keep_tup (hky x hx) S.at_ S.dat (Heap.SameBut.update _ _ _)) hnd S.plain S.led q1 (by rw [hyl]; exact q2) (by rw [hyl]; exact q3) q4 (by omega) fun h' zs o' ep' t' hsb hS hzp => ?_)
      refine wpAny_pure ?_
      exact h h' zs o' ep' t' true ((Heap.SameBut.update s.heap a _).trans hsb) hS (by rw [if_neg hout]; exact hzp.trans hperm)
    · rw [e3, e2, decide_eq_false hfull]
      simp only [Bool.not_false, Bool.and_false, Bool.false_eq_true, if_false]
      refine wpAny_pure ?_
      refine h _ ys _ _ _ true (Heap.SameBut.update s.heap a _) (set_store S.at_ S.ex S.dat hT1 hky hnd ?_ S.plain S.led) (by rw [if_neg hout]; exact hperm)
      show (insertAt t.place p j).size * 5 < t.mask * 3
      rw [insAt_size, hlen]; omega
end
end Oh

namespace Oh
open PySem PySem.SetTable PySem.Spec PyProof.Rows

section
variable {prog : Program} {w : World}
theorem tup_at {h h' : Heap} {k : List Int} {b : Addr} (x : IsTupleKey (intKind prog w) h k b) (e : ∀ o, h.get? b = some o → h'.get? b = some o) : IsTupleKey (intKind prog w) h' k b :=
  let ⟨o, items, n, ho, r⟩ := x; ⟨o, items, n, e o ho, r⟩
theorem SetT.moved {h h' : Heap} {a : Addr} {xs : List (List Int × Addr)} {o : Obj} {ep : Nat} {t : SetTable} (S : SetT prog w h a xs o ep t) (e : ∀ o, h.get? a = some o → h'.get? a = some o) (e2 : ∀ x ∈ xs, ∀ o, h.get? x.2 = some o → h'.get? x.2 = some o) : SetT prog w h' a xs o ep t :=
  ⟨e o S.at_, S.ex, S.dat, S.tok, fun x hx => tup_at (S.keys x hx) (e2 x hx), S.nd, S.thin, S.plain, S.led⟩
end
section
variable {prog : Program} {w : World} {A : Around} {R : Result → Shared → Prop} {I : Addr} {fp wr : List Addr} {G : Array GenState → Array GenState → Prop} {n : Nat} {P : Nat → Value → Prop} {St : Nat → Shared → Prop}
theorem loop_tup (W : WalksS prog w A.in1 I fp wr G n P St) (S : Addr) (hSf : S ∉ fp) (L : List (List Int × Addr)) (hL : L.length = n)
    (hval : ∀ i v, P i v → ∃ x, L[i]? = some x ∧ v = .ref x.2) (hb : n ≤ 200) (hu : A.in1.units < cLine) (hw : ∀ x ∈ L, x.2 ∉ S :: wr) :
    ∀ (k i : Nat) (s : Shared) (ys : List (List Int × Addr)) (o : Obj) (ep : Nat) (t : SetTable), n - i = k → i ≤ n → St i s →
      SetT prog w s.heap S ys o ep t → (∀ x ∈ L, IsTupleKey (intKind prog w) s.heap x.1 x.2) → ys.length ≤ i → (∀ y ∈ ys, y ∈ L.take i) → (∀ x ∈ L.take i, x.1 ∈ ys.map (·.1)) →
      (∀ s' ys' o' ep' t', Moved (S :: wr) G s s' → SetT prog w s'.heap S ys' o' ep' t' → (∀ y ∈ ys', y ∈ L) → (∀ x ∈ L, x.1 ∈ ys'.map (·.1)) → R (.ok (.ret .none)) s') →
      codeAny (model prog w) A (.builtin "set.update.loop" ⟨[.ref S, .ref I], []⟩) R s := by
  have hSw : S ∉ wr := fun h => hSf (W.sub _ h)
  have hsub : ∀ b ∈ wr, b ∈ S :: wr := fun b hb => List.mem_cons_of_mem _ hb
  have hLw : ∀ x ∈ L, x.2 ∉ wr := fun x hx h => hw x hx (List.mem_cons_of_mem _ h)
  intro k
  induction k with
  | zero =>
    intro i s ys o ep t hk hi hst hS hK hlen hys hcov hR
    have hin : i = n := by omega
    subst hin
    rw [List.take_of_length_le (by omega)] at hys hcov
    refine codeAny_builtin F.entry_set_update_loop ?_
    rw [Around.under_plainId F.plain_set_update_loop _]
    show wpAny _ A.in1 (pyNext (.ref I) >>= _) _ _ s
    refine wpAny_bind (W.done s _ _ hst fun s' hm => ?_)
    show wpAny _ A.in1 (ret Value.none) _ _ s'
    exact wpAny_pure (hR s' ys o ep t (hm.mono hsub) (hS.moved (fun o e => hm.heap S o hSw e) fun x hx o e => hm.heap x.2 o (hLw x (hys x hx)) e) hys hcov)
  | succ k ih =>
    intro i s ys o ep t hk hi hst hS hK hlen hys hcov hR
    have hlt : i < n := by omega
    refine codeAny_builtin F.entry_set_update_loop ?_
    rw [Around.under_plainId F.plain_set_update_loop _]
    show wpAny _ A.in1 (pyNext (.ref I) >>= _) _ _ s
    refine wpAny_bind (W.item i s _ _ hlt hst fun v s' hP hst' hm => ?_)
    obtain ⟨x, ex, rfl⟩ := hval i v hP
    have hxL := List.mem_of_getElem? ex
    have hyL : ∀ y ∈ ys, y ∈ L := fun y hy => List.mem_of_mem_take (hys y hy)
    have hS' : SetT prog w s'.heap S ys o ep t := hS.moved (fun o e => hm.heap S o hSw e) fun x hx o e => hm.heap x.2 o (hLw x (hyL x hx)) e
    have hK' : ∀ x ∈ L, IsTupleKey (intKind prog w) s'.heap x.1 x.2 := fun x hx => tup_at (hK x hx) fun o e => hm.heap x.2 o (hLw x hx) e
    show wpAny _ A.in1 (holding [Value.ref x.2] (setAdd S (.ref x.2)) >>= _) _ _ s'
    refine wpAny_bind (wpAny_holding ?_)
    unfold setAdd
    refine wpAny_holding ?_
    refine wpAny_bind (wpAny_pyHash_tuple hu (hK' x hxL) ?_)
    refine add_tup (s := { s' with toks := s'.toks + (x.1.length + 1) }) hS' (hK' x hxL) hu (by omega) fun h' ys' o' ep' t' r hsb hS2 hp => ?_
    have htk : L.take (i + 1) = L.take i ++ [x] := by
      rw [List.take_add_one, ex]; rfl
    have hlen' : ys'.length ≤ i + 1 := by
      rw [hp.length_eq]
      split
      · omega
      · rw [List.length_append, List.length_singleton]; omega
    have hys' : ∀ y ∈ ys', y ∈ L.take (i + 1) := fun y hy => by
      rw [htk]
      have hy := hp.mem_iff.mp hy
      split at hy
      · exact List.mem_append_left _ (hys y hy)
      · rcases List.mem_append.mp hy with hy | hy
        · exact List.mem_append_left _ (hys y hy)
        · exact List.mem_append_right _ (by rw [List.mem_singleton] at hy ⊢; exact hy)
    have hcov' : ∀ z ∈ L.take (i + 1), z.1 ∈ ys'.map (·.1) := fun z hz => by
      refine (hp.map (·.1)).mem_iff.mpr ?_
      rw [htk] at hz
      rcases List.mem_append.mp hz with hz | hz
      · have := hcov z hz
        split
        · exact this
        · rw [List.map_append]; exact List.mem_append_left _ this
      · rw [List.mem_singleton] at hz
        subst hz
        split
        · assumption
        · rw [List.map_append]; exact List.mem_append_right _ (by simp)
    have hSx : ∀ x ∈ L, x.2 ≠ S := fun x hx z => hw x hx (by rw [z]; exact List.mem_cons_self)
    refine wpAny_pure ⟨plainId_quiet F.plain_set_update_loop _, ih (i + 1) _ ys' o' ep' t' (by omega) hlt (W.frame _ s' _ _ hst' (Nat.le_add_right _ _) fun b hb o e => ?_) hS2 (fun x hx => tup_at (hK' x hx) fun o e => ?_) hlen' hys' hcov' fun s'' zs o2 ep2 t2 hm'' hS'' => ?_⟩
    · rw [hsb.2 b (fun h : b = S => hSf (by rw [← h]; exact hb))]; exact e
    · rw [hsb.2 x.2 (hSx x hx)]; exact e
    · refine hR s'' zs o2 ep2 t2 (Moved.trans W.gtrans ((hm.mono hsub).then_heap (Nat.le_add_right _ _) fun b o hb e => ?_) hm'') hS''
      rw [hsb.2 b (fun h : b = S => hb (by rw [h]; exact List.mem_cons_self))]; exact e
end
end Oh

namespace Oh
open PySem PySem.SetTable PySem.Spec PyProof.Rows

section
variable {prog : Program} {w : World}
theorem fresh_tup (led : Bool) (hle : led = !(w.params.followText "set-order")) {h : Heap} {a : Addr} (ho : h.get? a = some { cls := .type "set", dict := none, data := .set #[] 0 (.fresh 0 0 led) }) :
    SetT prog w h a [] { cls := .type "set", dict := none, data := .set #[] 0 (.fresh 0 0 led) } 0 (.fresh 0 0 led) where
  at_ := ho
  ex := ⟨rfl, rfl, rfl⟩
  dat := rfl
  tok := ⟨Or.inl rfl, fun i j a b _ e => by have e : (#[] : Array Nat)[i]? = some a := e; simp at e, fun i j e => by have e : (#[] : Array Nat)[i]? = some j := e; simp at e, rfl, rfl, Nat.zero_le _, fun i h e => by simp at e⟩
  keys := fun x hx => absurd hx (by simp)
  nd := by simp
  thin := by show 0 * 5 < 7 * 3; decide
  plain := rfl
  led := hle
variable {A : Around} {E : Value → Shared → Prop} {s : Shared}
theorem code_new_led (a : Value) {Q₁ : Value → Shared → Prop}
    (h : ∀ led : Bool, led = !(w.params.followText "set-order") → Q₁ (.ref s.heap.objs.size) { s with heap := s.heap.push { cls := .type "set", dict := none, data := .set #[] 0 (.fresh 0 0 led) } }) :
    codeAny (model prog w) A (.call (.builtin "set.__new__") ⟨[.type "set", a], []⟩) (wants Q₁ E) s := by
  refine codeAny_of_tree ?_
  show wpAny _ A.in1 (do checkBuiltinCall "set.__new__" ⟨[.type "set", a], []⟩; again (.builtin "set.__new__" ⟨[.type "set", a], []⟩)) _ _ s
  refine wpAny_bind (wpAny_of_eq (F.newCall_set_1 a) (wpAny_pure ⟨plainId_quiet F.plain_set_new _, codeAny_builtin F.entry_set_new ?_⟩))
  rw [Around.under_plainId F.plain_set_new _]
  unfold Builtin.«set.__new__» Builtin.Frozenset.newClass
  have hsub := sub_set_self
  obtain ⟨hp, g, d, tk, os⟩ := s
  dsimp only
  wp_walk
  refine wpAny_askSetting (wpAny_pure ?_)
  dsimp only
  simp only [newObj]
  refine wpAny_bind (wpAny_alloc (wpAny_pure ?_))
  exact wpAny_pure (h _ rfl)
set_option maxHeartbeats 3200000 in
theorem call_set_tups {l : Addr} {items : Array Value} {L : List (List Int × Addr)} {Q : Value → Shared → Prop}
    (hh : A.handled = none) (hu : A.units + 10 < cLine) (hl : s.heap.IsList l items) (hi : items.toList = L.map fun x => Value.ref x.2) (hK : ∀ x ∈ L, IsTupleKey (intKind prog w) s.heap x.1 x.2) (hb : L.length ≤ 200)
    (h : ∀ (h' : Heap) (tk : Nat) ys o ep t, SetT prog w h' s.heap.objs.size ys o ep t → (∀ y ∈ ys, y ∈ L) → (∀ x ∈ L, x.1 ∈ ys.map (·.1)) →
      (∀ b o, b < s.heap.objs.size → s.heap.get? b = some o → h'.get? b = some o) → Q (.ref s.heap.objs.size) { s with heap := h', toks := tk }) :
    wpAny (model prog w) A (call (.type "set") [.ref l]) Q E s := by
  obtain ⟨c, tl, hmro⟩ := F.called_set.mro
  have hmade := F.called_set.made
  have hsub := F.called_set.sub
  refine wpAny_call (codeAny_of_tree ?_)
  show wpAny _ _ (callAny (.type "set") _) _ _ _
  refine wpAny_pure ⟨Code.quiet_builtin _ (by decide +kernel), codeAny_builtin F.entry_type_call ?_⟩
  rw [Around.under_plain (weight_type_call_type "set" [.ref l] []) rfl]
  have h1 := F.called_set.notType
  have h2 := F.called_set.canCreate
  have hct := F.typeCall_set_1 (.ref l)
  repeat (any_goals (first | assumption | wp_step))
  refine codeAny_mono (code_new_led (.ref l) (E := E) (Q₁ := fun obj s₁ => ∃ led : Bool, led = !(w.params.followText "set-order") ∧ obj = .ref s.heap.objs.size ∧ s₁ = { s with heap := s.heap.push { cls := .type "set", dict := none, data := .set #[] 0 (.fresh 0 0 led) } }) fun led hle => ⟨led, hle, rfl, rfl⟩) fun r s₁ hr => ?_
  cases r with
  | error e => exact hr
  | ok fl =>
    cases fl with
    | ret obj =>
      obtain ⟨led, hle, rfl, rfl⟩ := hr
      have hS : (s.heap.push { cls := .type "set", dict := none, data := .set #[] 0 (.fresh 0 0 led) }).get? s.heap.objs.size = some { cls := .type "set", dict := none, data := .set #[] 0 (.fresh 0 0 led) } := Heap.get?_push_size _ rfl
      have hT : Shared.TypeIs { s with heap := s.heap.push { cls := .type "set", dict := none, data := .set #[] 0 (.fresh 0 0 led) } } (.ref s.heap.objs.size) "set" := ⟨_, hS, rfl⟩
      have hli := F.called_set.init.lookup
      have hbi := F.called_set.init.bind (.ref s.heap.objs.size)
      repeat (any_goals (first | assumption | wp_step))
      refine codeAny_mono (codeAny_call_builtin (R := wants (fun r s₂ => r = .none ∧ ∃ h' tk, s₂ = { s with heap := h', toks := tk } ∧ ∃ ys o ep t, SetT prog w h' s.heap.objs.size ys o ep t ∧ (∀ y ∈ ys, y ∈ L) ∧ (∀ x ∈ L, x.1 ∈ ys.map (·.1)) ∧
          (∀ b o, b < s.heap.objs.size → s.heap.get? b = some o → h'.get? b = some o)) E) F.called_set.init.plain F.entry_set_init (check_set_init_1 hT ?_)) fun r₂ s₂ hr₂ => ?_
      · obtain ⟨ol, hol, hcl, nl, hdl⟩ := hl
        obtain ⟨ocls, odict, odata, oslots⟩ := ol
        simp only at hcl hdl
        subst hcl; subst hdl
        have hol' : (s.heap.push { cls := .type "set", dict := none, data := .set #[] 0 (.fresh 0 0 led) }).get? l = some { cls := .type "list", dict := odict, data := .seq items nl, slots := oslots } := Heap.get?_push_of_some _ hol
        have hsls := F.sub_list_set
        have hslf := F.sub_list_frozenset
        have hne : (Value.type "list" == Value.type "dict") = false := by decide
        have hl1 : (s.heap.push { cls := .type "set", dict := none, data := .set #[] 0 (.fresh 0 0 led) }).IsList l items := ⟨_, hol', rfl, nl, rfl⟩
        unfold Builtin.«set.__init__» noKeywords Builtin.Frozenset.updateFrom
        generalize hPI : pyIter = PI
        wp_walk
        subst hPI
        refine wpAny_pyIter_list hl1 ?_
        refine wpAny_bind (wpAny_runValue ?_)
        have hlS : l < s.heap.objs.size := Heap.lt_size hol
        have hh3 : A.in1.in1.in1.handled = none := by simp [hh]
        have hneI : l ≠ (s.heap.push { cls := .type "set", dict := none, data := .set #[] 0 (.fresh 0 0 led) }).objs.size := by
          rw [Heap.size_push]; exact Nat.ne_of_lt (Nat.lt_succ_of_lt hlS)
        have hSf : s.heap.objs.size ∉ [(s.heap.push { cls := .type "set", dict := none, data := .set #[] 0 (.fresh 0 0 led) }).objs.size, l] := by
          rw [Heap.size_push]; simp only [List.mem_cons, List.mem_singleton, List.not_mem_nil, or_false, not_or]
          exact ⟨Nat.ne_of_lt (Nat.lt_succ_self _), Nat.ne_of_gt hlS⟩
        have hsz : L.length = items.size := by rw [← Array.length_toList, hi, List.length_map]
        have hLlt : ∀ x ∈ L, x.2 < s.heap.objs.size := fun x hx => by obtain ⟨o, _, _, e, _⟩ := hK x hx; exact Heap.lt_size e
        have hval : ∀ (i : Nat) (v : Value), items[i]? = some v → ∃ x, L[i]? = some x ∧ v = .ref x.2 := fun i v hv => by
          rw [← Array.getElem?_toList, hi, List.getElem?_map, Option.map_eq_some_iff] at hv
          obtain ⟨x, e1, e2⟩ := hv
          exact ⟨x, e1, e2.symm⟩
        refine loop_tup ((Walks.list hh3 _ l hneI items).toS) s.heap.objs.size hSf L hsz hval (by omega) ?hU ?hW (items.size - 0) 0 _ [] _ _ _ (by omega) (Nat.zero_le _)
          ⟨⟨_, Heap.get?_push_size _ rfl, rfl, rfl⟩, (hl1.push _)⟩ (fresh_tup led hle ?hS0) ?hKK (Nat.le_refl _) (fun y hy => absurd hy (by simp)) (fun x hx => absurd hx (by simp)) ?hR
        case hU =>
          show A.units + 3 < cLine
          exact Nat.lt_of_le_of_lt (Nat.add_le_add_left (by decide) _) hu
        case hW =>
          intro x hx
          have hx1 := hLlt x hx
          rw [Heap.size_push]
          simp only [List.mem_cons, List.mem_singleton, List.not_mem_nil, or_false, not_or]
          exact ⟨Nat.ne_of_lt hx1, Nat.ne_of_lt (Nat.lt_succ_of_lt hx1)⟩
        case hS0 =>
          exact Heap.get?_push_of_some _ hS
        case hKK =>
          intro x hx
          exact tup_at (hK x hx) fun o e => Heap.get?_push_of_some _ (Heap.get?_push_of_some _ e)
        case hR =>
          intro s' ys o ep t hm hS' hy hc
          obtain ⟨h', g', d', tk', os'⟩ := s'
          have eg : g' = s.gens := hm.gens
          have ed : d' = s.drawn := hm.drawn
          have eo : os' = s.os := hm.os
          subst eg; subst ed; subst eo
          show wpAny _ _ _ _ _ _
          refine wpAny_pure ?_
          show wpAny _ _ (ret Value.none) _ _ _
          refine wpAny_pure ⟨rfl, h', tk', rfl, ys, o, ep, t, hS', hy, hc, fun b o hb e => ?_⟩
          have hb1 : b ≠ s.heap.objs.size := Nat.ne_of_lt hb
          have hb2 : b ≠ (s.heap.push { cls := .type "set", dict := none, data := .set #[] 0 (.fresh 0 0 led) }).objs.size := by
            rw [Heap.size_push]; exact Nat.ne_of_lt (Nat.lt_succ_of_lt hb)
          exact hm.heap b o (by simp only [List.mem_cons, List.mem_singleton, List.not_mem_nil, or_false, not_or]; exact ⟨hb1, hb2⟩) (Heap.get?_push_of_some _ (Heap.get?_push_of_some _ e))
      · cases r₂ with
        | error e => exact hr₂
        | ok fl₂ =>
          cases fl₂ with
          | ret r =>
            obtain ⟨rfl, h', tk, rfl, ys, o, ep, t, hS', hy, hc, hk'⟩ := hr₂
            repeat (any_goals (first | assumption | wp_step))
            exact h _ _ ys o ep t hS' hy hc hk'
          | _ => exact hr₂.elim
    | _ => exact hr.elim
end
end Oh

namespace Oh
open PySem PySem.SetTable PySem.Spec PyProof.Rows
/-! ### a set gone through -/
theorem own_setit : Manifest.owners.lookup (String.ofList ['r', 'o', 't', 'a', 'r', 'e', 't', 'i', '_', 't', 'e', 's'].reverse) = some Manifest.sig_set_iterator := by kernel_rfl
theorem slot_setit : Slot "set_iterator" "__next__" "set_iterator.__next__" :=
  .of (owner := "set_iterator") (n := "__next__") (by rw [typeLookup_type, builtinLookup_eq_fast]; kernel_rfl) (by decide +kernel) (by decide +kernel) (by decide +kernel)
    (by first | exact .inl (by decide +kernel) | exact .inr (by decide +kernel)) (by rw [isSubtype_type]; kernel_rfl)
theorem entry_setit : entryFor table "set_iterator.__next__" = some Builtin.«set_iterator.__next__» := entryFor_of_tree (by kernel_rfl)
theorem args_setit (a : Value) : argsOk "set_iterator.__next__" ⟨[a], []⟩ := by
  unfold argsOk; rw [signature?_of (id := "set_iterator.__next__") (n := ['_', '_', 't', 'x', 'e', 'n', '_', '_']) (o := ['r', 'o', 't', 'a', 'r', 'e', 't', 'i', '_', 't', 'e', 's']) (by kernel_rfl) own_setit]; kernel_rfl
theorem entry_setiter : entryFor table "set.__iter__" = some Builtin.«frozenset.__iter__» :=
  entryFor_alias (id' := "frozenset.__iter__") (by kernel_rfl) rfl (by decide +kernel) (by kernel_rfl)
theorem pickO_go {α : Type} (next : Nat → Nat) : ∀ (fuel k : Nat) (left : List α) (out : Array α), left.length ≤ fuel → (pickOrder.go next fuel k left out).toList.Perm (out.toList ++ left)
  | 0, k, left, out, h => by
    have : left = [] := List.eq_nil_of_length_eq_zero (by omega)
    subst this
    unfold pickOrder.go
    simp
  | fuel + 1, k, left, out, h => by
    unfold pickOrder.go
    by_cases hl : left.length = 0
    · have : left = [] := List.eq_nil_of_length_eq_zero hl
      subst this
      simp
    · have hi : next k % left.length < left.length := Nat.mod_lt _ (by omega)
      generalize next k % left.length = i at hi
      rw [List.getElem?_eq_getElem hi]
      dsimp only
      refine (pickO_go next fuel (k + 1) _ _ (by rw [List.length_eraseIdx_of_lt hi]; omega)).trans ?_
      rw [Array.toList_push, List.append_assoc]
      refine List.Perm.append_left _ ?_
      rw [List.eraseIdx_eq_take_drop_succ]
      have e : left = left.take i ++ left[i] :: left.drop (i + 1) := by rw [← List.drop_eq_getElem_cons hi, List.take_append_drop]
      conv => rhs; rw [e]
      exact (List.perm_middle (a := left[i]) (l₁ := left.take i) (l₂ := left.drop (i + 1))).symm
theorem pickO_perm {α : Type} (next : Nat → Nat) (xs : Array α) : (pickOrder next xs).toList.Perm xs.toList := by
  unfold pickOrder
  exact pickO_go next xs.size 0 xs.toList #[] (by simp)
section
variable (prog : Program) (w : World)
/-- in which order the set is gone through -/
def wkT (a : Addr) (ep : Nat) (xs : List (List Int × Addr)) : List Value :=
  if w.params.followText "set-order" then (pickOrder (w.params.setOrder a ep) (xs.map (entT prog w)).toArray).toList.map (·.2) else xs.map fun x => .ref x.2
def slT (t : SetTable) (i : Nat) : Nat := if w.params.followText "set-order" then 0 else if i = 0 then 0 else t.place.getD (i - 1) 0 + 1
end
theorem wkT_perm (prog : Program) (w : World) (a : Addr) (ep : Nat) (xs : List (List Int × Addr)) : (wkT prog w a ep xs).Perm (xs.map fun x => .ref x.2) := by
  unfold wkT
  split
  · refine ((pickO_perm _ _).map _).trans ?_
    show (List.map _ (xs.map (entT prog w))).Perm _
    rw [List.map_map]
    exact List.Perm.refl _
  · exact List.Perm.refl _
/-- the set alone, without what its tuples are -/
structure SetB (prog : Program) (w : World) (h : Heap) (a : Addr) (xs : List (List Int × Addr)) (o : Obj) (ep : Nat) (t : SetTable) : Prop where
  at_ : h.get? a = some o
  ex : o.ExactSet
  dat : o.data = .set (xs.map (entT prog w)).toArray ep t
  tok : TOK t (xs.map fun x => hT prog w x.1).toArray
  plain : t.plain = true
  led : t.led = !(w.params.followText "set-order")
theorem SetT.bare {prog : Program} {w : World} {h : Heap} {a : Addr} {xs : List (List Int × Addr)} {o : Obj} {ep : Nat} {t : SetTable} (S : SetT prog w h a xs o ep t) : SetB prog w h a xs o ep t := ⟨S.at_, S.ex, S.dat, S.tok, S.plain, S.led⟩
theorem SetB.fits {prog : Program} {w : World} {h : Heap} {a : Addr} {xs : List (List Int × Addr)} {o : Obj} {ep : Nat} {t : SetTable} (S : SetB prog w h a xs o ep t) : t.fits (xs.map (entT prog w)).toArray.size = true := by
  have := S.tok.fits
  simpa using this
theorem SetB.moved {prog : Program} {w : World} {h h' : Heap} {a : Addr} {xs : List (List Int × Addr)} {o : Obj} {ep : Nat} {t : SetTable} (S : SetB prog w h a xs o ep t) (e : ∀ o, h.get? a = some o → h'.get? a = some o) : SetB prog w h' a xs o ep t := ⟨e _ S.at_, S.ex, S.dat, S.tok, S.plain, S.led⟩
def IsSetIter (h : Heap) (it a : Addr) (sl i n ep : Nat) : Prop := ∃ o, h.get? it = some o ∧ o.cls = .type "set_iterator" ∧ o.data = .fields #[.int sl 0, .int i 0, .ref a, .int n 0, .int ep 0]
section
variable {prog : Program} {w : World} {A : Around} {E : Value → Shared → Prop} {s : Shared} {a : Addr} {xs : List (List Int × Addr)} {o : Obj} {ep : Nat} {t : SetTable}
theorem not_drawn (hp : t.plain = true) {es : Array (Int × Value)} : (!t.plain && decide (es.size > 1)) = false := by rw [hp]; rfl
theorem iterSet {Q : Value → Shared → Prop} (S : SetB prog w s.heap a xs o ep t)
    (hQ : Q (.ref s.heap.objs.size) { s with heap := s.heap.push { cls := .type "set_iterator", data := .fields #[.int 0 0, .int 0 0, .ref a, .int xs.length 0, .int ep 0] } }) :
    wpAny (model prog w) A (pyIter (.ref a)) Q E s := by
  have ty : s.TypeIs (.ref a) "set" := ⟨o, S.at_, S.ex.1⟩
  refine wpAny_pyIter_slot ty F.slot_set_iter ?_
  refine wpAny_call_entry F.slot_set_iter ty entry_setiter ?_ (F.args_set_iter_1 _)
  unfold Builtin.«frozenset.__iter__» Builtin.Frozenset.slot0 Builtin.Frozenset.addrOf Builtin.Frozenset.sizeOf setEntries setDrawn setsByText setEpoch
  refine wpAny_bind (wpAny_bind (wpAny_pure (wpAny_pure ?_)))
  refine wpAny_bind (wpAny_bind (wpAny_bind (wpAny_setState_of S.at_ S.dat S.fits (wpAny_pure ?_))))
  refine wpAny_pure ?_
  refine wpAny_bind (wpAny_bind (wpAny_setState_of S.at_ S.dat S.fits ?_))
  dsimp only
  refine wpAny_bind (wpAny_bind (wpAny_askSetting (wpAny_pure ?_)))
  refine wpAny_pure ?_
  split
  · rename_i hc
    exfalso
    have hc' : ((!w.params.followText "set-order") && (!t.plain && decide ((xs.map (entT prog w)).toArray.size > 1))) = true := hc
    rw [not_drawn S.plain, Bool.and_false] at hc'
    exact Bool.noConfusion hc'
  refine wpAny_bind (wpAny_pure ?_)
  refine wpAny_bind (wpAny_bind (wpAny_setState_of S.at_ S.dat S.fits (wpAny_pure ?_)))
  refine wpAny_bind (wpAny_newObj_type (wpAny_pure ⟨_, rfl, "set_iterator", _, ⟨_, Heap.get?_push_size _ rfl, rfl⟩, slot_setit.lookup, ?_⟩))
  simpa [rawInt] using hQ
/-- what the set's next thing is -/
theorem setNext_ok {i : Nat} (S : SetB prog w s.heap a xs o ep t) (hi : i ≤ xs.length) {Q : Option (Value × Nat) → Shared → Prop}
    (hQ : Q (((wkT prog w a ep xs)[i]?).map fun v => (v, slT w t (i + 1))) s) : wpAny (model prog w) A (setNext a (slT w t i) i ep) Q E s := by
  unfold setNext
  refine wpAny_bind (wpAny_setState_of S.at_ S.dat S.fits ?_)
  dsimp only
  unfold setsByText
  refine wpAny_bind (wpAny_bind (wpAny_askSetting (wpAny_pure ?_)))
  have hlen : t.place.size = xs.length := by rw [S.tok.sz]; simp
  split
  · rename_i hb
    have hb : w.params.followText "set-order" = true := hb
    simp only [bne_self_eq_false, Bool.false_eq_true, if_false]
    unfold setWalk setsByText
    refine wpAny_bind (wpAny_bind (wpAny_setState_of S.at_ S.dat S.fits ?_))
    dsimp only
    refine wpAny_bind (wpAny_bind (wpAny_askSetting (wpAny_pure ?_)))
    split
    · refine wpAny_bind (wpAny_askSetting (wpAny_pure ?_))
      refine wpAny_pure ?_
      unfold wkT slT at hQ
      rw [if_pos hb, if_pos hb, List.getElem?_map, Option.map_map, Array.getElem?_toList] at hQ
      unfold slT
      rw [if_pos hb]
      exact hQ
    · rename_i hn
      exact absurd hb hn
  · rename_i hb
    have hb : ¬ w.params.followText "set-order" = true := hb
    have hbf : w.params.followText "set-order" = false := by simpa using hb
    split
    · rename_i hc
      exfalso
      have hc' : (!t.plain && decide ((xs.map (entT prog w)).toArray.size > 1)) = true := hc
      rw [not_drawn S.plain] at hc'
      exact Bool.noConfusion hc'
    · refine wpAny_bind ?_
      have hled : t.led = true := by rw [S.led, hbf]; rfl
      show wpAny (model prog w) A (if (!t.led && !(xs.map (entT prog w)).toArray.isEmpty) = true then _ else pure ()) _ E s
      rw [hled]
      simp only [Bool.not_true, Bool.false_and, Bool.false_eq_true, if_false]
      refine wpAny_pure (wpAny_pure ?_)
      have eb : below t.place (slT w t i) = i := by
        unfold slT
        rw [if_neg hb]
        have c := below_cut (xs := t.place) (j := if i = 0 then 0 else t.place.getD (i - 1) 0 + 1) S.tok.rise
        generalize hr : below t.place (if i = 0 then 0 else t.place.getD (i - 1) 0 + 1) = r at c
        by_cases h0 : i = 0
        · rw [if_pos h0] at c
          rcases Nat.lt_or_ge 0 r with z | z
          · have := c.lo 0 _ z (Array.getElem?_eq_getElem (by have := c.le; omega)); omega
          · omega
        · rw [if_neg h0] at c
          have hp : i - 1 < t.place.size := by omega
          have ep1 : t.place[i - 1]? = some t.place[i - 1] := Array.getElem?_eq_getElem hp
          have ed : t.place.getD (i - 1) 0 = t.place[i - 1] := by simp [Array.getD, hp]
          rw [ed] at c
          rcases Nat.lt_trichotomy r i with z | z | z
          · have := c.hi (i - 1) _ (by omega) ep1; omega
          · exact z
          · have hi2 : i < t.place.size := by have := c.le; omega
            have e2 : t.place[i]? = some t.place[i] := Array.getElem?_eq_getElem hi2
            have h1 := c.lo i _ z e2
            have h2 := S.tok.rise (i - 1) i _ _ (by omega) ep1 e2
            omega
      rw [eb]
      unfold wkT at hQ
      rw [if_neg hb, List.getElem?_map] at hQ
      rw [List.getElem?_toArray, List.getElem?_map]
      by_cases hlt : i < xs.length
      · rw [List.getElem?_eq_getElem hlt] at hQ ⊢
        have hlt2 : i < t.place.size := by omega
        rw [Array.getElem?_eq_getElem hlt2]
        unfold slT at hQ
        rw [if_neg hb, if_neg (by omega), Nat.add_sub_cancel] at hQ
        have ed : t.place.getD i 0 = t.place[i] := by simp [Array.getD, hlt2]
        rw [ed] at hQ
        exact hQ
      · rw [List.getElem?_eq_none (by omega)] at hQ ⊢
        exact hQ
end
end Oh

namespace Oh
open PySem PySem.SetTable PySem.Spec PyProof.Rows
section
variable {prog : Program} {w : World} {A : Around} {E : Value → Shared → Prop} {s : Shared} {a : Addr} {xs : List (List Int × Addr)} {o : Obj} {ep : Nat} {t : SetTable}
theorem IsSetIter.typeIs {it : Addr} {sl i n : Nat} (h : IsSetIter s.heap it a sl i n ep) : s.TypeIs (.ref it) "set_iterator" := let ⟨o, ho, hc, _⟩ := h; ⟨o, ho, hc⟩
theorem wkT_len : (wkT prog w a ep xs).length = xs.length := by
  rw [(wkT_perm prog w a ep xs).length_eq, List.length_map]
theorem nextSet {it : Addr} {i : Nat} {v : Value} {Q : Option Value → Shared → Prop} (hit : IsSetIter s.heap it a (slT w t i) i xs.length ep) (S : SetB prog w s.heap a xs o ep t) (hv : (wkT prog w a ep xs)[i]? = some v)
    (hQ : ∀ h', IsSetIter h' it a (slT w t (i + 1)) (i + 1) xs.length ep → Heap.SameBut it s.heap h' → Q (some v) { s with heap := h' }) : wpAny (model prog w) A (pyNext (.ref it)) Q E s := by
  have ty := hit.typeIs
  have hlt : i < xs.length := by
    have := (List.getElem?_eq_some_iff.mp hv).1
    rwa [wkT_len] at this
  obtain ⟨oi, hi, ci, di⟩ := hit
  unfold pyNext
  refine wpAny_bind (wpAny_attempt (wpAny_callSpecial?_slot (name := Str.ofString "__next__") ty slot_setit ?_))
  refine wpAny_call_entry slot_setit ty entry_setit ?_ (args_setit _)
  unfold Builtin.«set_iterator.__next__»
  refine wpAny_bind (wpAny_pure ?_)
  refine wpAny_bind (wpAny_fieldsOf hi di ?_)
  dsimp only
  unfold setEntries
  refine wpAny_bind (wpAny_bind (wpAny_setState_of S.at_ S.dat S.fits (wpAny_pure ?_)))
  have hsz : (((xs.map (entT prog w)).toArray.size : Int) != (xs.length : Int)) = false := by simp
  rw [hsz]
  simp only [Bool.false_eq_true, if_false, Int.toNat_natCast]
  refine wpAny_bind (setNext_ok S (by omega) ?_)
  rw [hv]
  show wpAny _ _ (setField (.ref it) 0 (rawInt (slT w t (i + 1))) >>= fun _ => setField (.ref it) 1 (rawInt ((i : Int) + 1)) >>= fun _ => ret v) _ _ s
  refine wpAny_bind (wpAny_setField hi di (by simp) ?_)
  have hi1 := Heap.get?_update_self (Obj.mapFields (·.setIfInBounds 0 (rawInt (slT w t (i + 1))))) hi (Obj.isFreed_of_fields (Obj.data_mapFields di _))
  have di1 : (Obj.mapFields (·.setIfInBounds 0 (rawInt (slT w t (i + 1)))) oi).data = .fields #[.int (slT w t (i + 1)) 0, .int i 0, .ref a, .int xs.length 0, .int ep 0] := by
    rw [Obj.data_mapFields di]; simp [rawInt]
  refine wpAny_bind (wpAny_setField hi1 di1 (by simp) ?_)
  have hi2 := Heap.get?_update_self (Obj.mapFields (·.setIfInBounds 1 (rawInt ((i : Int) + 1)))) hi1 (Obj.isFreed_of_fields (Obj.data_mapFields di1 _))
  have hit' : IsSetIter ((s.heap.update it (Obj.mapFields (·.setIfInBounds 0 (rawInt (slT w t (i + 1)))))).update it (Obj.mapFields (·.setIfInBounds 1 (rawInt ((i : Int) + 1))))) it a (slT w t (i + 1)) (i + 1) xs.length ep :=
    ⟨_, hi2, (Obj.cls_mapFields ..).trans ((Obj.cls_mapFields ..).trans ci), by
      rw [Obj.data_mapFields di1]; simp [rawInt]⟩
  exact wpAny_pure ⟨_, rfl, wpAny_pure (hQ _ hit' ((Heap.SameBut.update ..).trans (Heap.SameBut.update ..)))⟩
theorem endSet {it : Addr} {Q : Option Value → Shared → Prop} (hh : A.handled = none) (hit : IsSetIter s.heap it a (slT w t xs.length) xs.length xs.length ep) (S : SetB prog w s.heap a xs o ep t)
    (hQ : ∀ h', Heap.ExtBut it s.heap h' → Q none { s with heap := h' }) : wpAny (model prog w) A (pyNext (.ref it)) Q E s := by
  have ty := hit.typeIs
  obtain ⟨oi, hi, ci, di⟩ := hit
  unfold pyNext
  refine wpAny_bind (wpAny_attempt (wpAny_callSpecial?_slot (name := Str.ofString "__next__") ty slot_setit ?_))
  refine wpAny_call_entry slot_setit ty entry_setit ?_ (args_setit _)
  unfold Builtin.«set_iterator.__next__»
  refine wpAny_bind (wpAny_pure ?_)
  refine wpAny_bind (wpAny_fieldsOf hi di ?_)
  dsimp only
  unfold setEntries
  refine wpAny_bind (wpAny_bind (wpAny_setState_of S.at_ S.dat S.fits (wpAny_pure ?_)))
  have hsz : (((xs.map (entT prog w)).toArray.size : Int) != (xs.length : Int)) = false := by simp
  rw [hsz]
  simp only [Bool.false_eq_true, if_false, Int.toNat_natCast]
  refine wpAny_bind (setNext_ok S (Nat.le_refl _) ?_)
  rw [List.getElem?_eq_none (by rw [wkT_len]; exact Nat.le_refl _)]
  show wpAny _ _ (setField (.ref it) 2 .none >>= fun _ => newExc (.type "StopIteration") [] >>= _) _ _ s
  refine wpAny_bind (wpAny_setField hi di (by simp) (wpAny_bind ?_))
  simp only [newExc, newTuple]
  refine wpAny_bind (wpAny_newObj_type (wpAny_bind (m := firstArgMember _ _) ?_) (by size_fits))
  refine wpAny_of_eq (a := Value.none) (by first | rfl | (simp only [firstArgMember]; rfl)) (wpAny_newObj_type ?_ (by size_fits))
  simp only [raiseNew]
  refine wpAny_bind (wpAny_handled ?_)
  rw [show A.in1.handled = none from hh]
  refine wpAny_bind (wpAny_pure (wpAny_throw (wpAny_bind ?_)))
  refine wpAny_isInstance (T := "StopIteration") (b := true) ⟨_, Heap.get?_push_size _ rfl, rfl⟩ isSubtype_stop ?_
  exact wpAny_pure (hQ _ (((Heap.SameBut.update ..).extBut.push _).push _))
end
end Oh

namespace Oh
open PySem PySem.SetTable PySem.Spec PyProof.Rows
theorem slot_setit_iter : Slot "set_iterator" "__iter__" "set_iterator.__iter__" :=
  .of (owner := "set_iterator") (n := "__iter__") (by rw [typeLookup_type, builtinLookup_eq_fast]; kernel_rfl) (by decide +kernel) (by decide +kernel) (by decide +kernel)
    (by first | exact .inl (by decide +kernel) | exact .inr (by decide +kernel)) (by rw [isSubtype_type]; kernel_rfl)
theorem args_setit_iter (a : Value) : argsOk "set_iterator.__iter__" ⟨[a], []⟩ := by
  unfold argsOk; rw [signature?_of (id := "set_iterator.__iter__") (n := ['_', '_', 'r', 'e', 't', 'i', '_', '_']) (o := ['r', 'o', 't', 'a', 'r', 'e', 't', 'i', '_', 't', 'e', 's']) (by kernel_rfl) own_setit]; kernel_rfl
theorem entry_setit_iter : entryFor table "set_iterator.__iter__" = some Builtin.«dict_keyiterator.__iter__» :=
  entryFor_alias (id' := "dict_keyiterator.__iter__") (by kernel_rfl) rfl (by decide +kernel) (by kernel_rfl)
section
variable {prog : Program} {w : World} {A : Around} {E : Value → Shared → Prop} {s : Shared} {a : Addr} {xs : List (List Int × Addr)} {o : Obj} {ep : Nat} {t : SetTable}
theorem selfSet {it : Addr} {sl i n : Nat} {Q : Value → Shared → Prop} (hit : IsSetIter s.heap it a sl i n ep) (h : Q (.ref it) s) : wpAny (model prog w) A (pyIter (.ref it)) Q E s := by
  refine wpAny_pyIter_slot hit.typeIs slot_setit_iter (wpAny_call_entry slot_setit_iter hit.typeIs entry_setit_iter ?_ (args_setit_iter _))
  show wpAny _ _ (ret (.ref it)) _ _ s
  exact wpAny_pure ⟨_, rfl, "set_iterator", _, hit.typeIs, slot_setit.lookup, h⟩
theorem IsSetIter.at' {h h' : Heap} {it : Addr} {sl i n : Nat} (x : IsSetIter h it a sl i n ep) (e : ∀ o, h.get? it = some o → h'.get? it = some o) : IsSetIter h' it a sl i n ep := let ⟨o, ho, r⟩ := x; ⟨o, e _ ho, r⟩
theorem walk_set (hh : A.handled = none) (I : Addr) (hne : a ≠ I) :
    Walks prog w A I [I, a] [I] xs.length (fun i v => (wkT prog w a ep xs)[i]? = some v) (fun i h => IsSetIter h I a (slT w t i) i xs.length ep ∧ SetB prog w h a xs o ep t) where
  sub := fun b hb => by rw [List.mem_singleton] at hb; subst hb; exact List.mem_cons_self
  frame := fun _ _ _ st hk => ⟨st.1.at' fun o e => hk I (by simp) o e, st.2.moved (fun o e => hk a (by simp) o e)⟩
  item := fun i s Q E hi st hQ => by
    have hi' : i < (wkT prog w a ep xs).length := by rw [wkT_len]; exact hi
    refine nextSet st.1 st.2 (List.getElem?_eq_getElem hi') fun h' hit' hs' => ?_
    exact hQ _ h' s.toks (List.getElem?_eq_getElem hi') ⟨hit', st.2.moved (fun o e => hs'.extBut a o hne e)⟩ fun b o hb e => hs'.extBut b o (fun h => hb (by simp [h])) e
  done := fun s Q E st hQ => endSet hh st.1 st.2 fun h' he' => hQ h' s.toks fun b o hb e => he' b o (fun h => hb (by simp [h])) e
  self := fun _ _ _ _ st hQ => selfSet st.1 hQ
end
end Oh

namespace Oh
open PySem PySem.SetTable PySem.Spec PyProof.Rows PySem.W
section
variable {prog : Program} {w : World} {A : Around} {E : Value → Shared → Prop} {s : Shared} {a : Addr} {xs : List (List Int × Addr)} {o : Obj} {ep : Nat} {t : SetTable}
theorem hint_set {r : Addr} {Q : Bool → Shared → Prop} (hT : s.TypeIs (.ref r) "set") (h : Q false s) : wpAny (model prog w) A (Builtin.List.listLengthHint (.ref r)) Q E s := by
  unfold Builtin.List.listLengthHint
  refine wpAny_bind (wpAny_specialOf hT PySem.F.slot_set_len.lookup ?_)
  generalize hid : ("set.__len__" : String) = id0
  wp_delta
  rw [show splitId id0 = some ("set", "__len__") from by subst hid; decide +kernel]
  subst hid
  refine wpAny_bind (wpAny_isInstance (T := "set") (b := true) hT (by rw [isSubtype_type]; kernel_rfl) ?_)
  refine wpAny_ite_split (fun hab => absurd hab (by decide)) (fun _ => ?_)
  refine wpAny_ite_split (fun _ => ?_) (fun hab => absurd (by decide +kernel) hab)
  refine wpAny_bind (wpAny_typeOf hT ?_)
  exact wpAny_pure h
theorem set_src : KdlSrc prog w "set" a a xs.length (fun i v => (wkT prog w a ep xs)[i]? = some v) (fun h => SetB prog w h a xs o ep t) where
  type := fun s ok => ⟨o, ok.at_, ok.ex.1⟩
  there := fun h ok => ⟨Heap.lt_size ok.at_, Heap.lt_size ok.at_⟩
  keep := fun h h' ok k => ok.moved fun o e => k a (Or.inl rfl) o e
  notList := by decide
  notTuple := by decide
  hint := fun A E s Q ok h => hint_set ⟨o, ok.at_, ok.ex.1⟩ h
  iter := fun A s hh ok => ⟨{ cls := .type "set_iterator", data := .fields #[.int 0 0, .int 0 0, .ref a, .int xs.length 0, .int ep 0] }, _, fun E Q h => iterSet ok h, walk_set (t := t) (o := o) hh _ (Nat.ne_of_lt (Heap.lt_size ok.at_)),
    ⟨⟨_, Heap.get?_push_size _ rfl, rfl, by
      have : slT w t 0 = 0 := by unfold slT; split <;> simp
      rw [this]; rfl⟩, ok.moved fun o e => Heap.get?_push_of_some _ e⟩⟩
end
end Oh

namespace Oh
open PySem PySem.SetTable PySem.Spec PyProof.Rows PySem.W
/-! ### tuples of small numbers in their order -/
def cdL : List Int → Int
  | [] => 0
  | a :: r => a * 1000 ^ r.length + cdL r
def smallL (l : List Int) : Prop := ∀ x ∈ l, -499 ≤ x ∧ x ≤ 499
theorem cdL_small : ∀ {l : List Int}, smallL l → -(1000 ^ l.length : Int) < 2 * cdL l ∧ 2 * cdL l < (1000 ^ l.length : Int)
  | [], _ => by decide
  | a :: r, h => by
    have ih := cdL_small (l := r) fun x hx => h x (List.mem_cons_of_mem _ hx)
    have ha := h a List.mem_cons_self
    have hB : (0 : Int) < 1000 ^ r.length := Int.pow_pos (by decide)
    show -(1000 ^ (r.length + 1) : Int) < 2 * (a * 1000 ^ r.length + cdL r) ∧ 2 * (a * 1000 ^ r.length + cdL r) < (1000 ^ (r.length + 1) : Int)
    rw [Int.pow_succ]
    generalize (1000 ^ r.length : Int) = B at *
    have h1 : a * B ≤ 499 * B := Int.mul_le_mul_of_nonneg_right ha.2 (by omega)
    have h2 : -499 * B ≤ a * B := Int.mul_le_mul_of_nonneg_right ha.1 (by omega)
    generalize a * B = z at *
    omega
theorem cdL_cons {a b : Int} {r q : List Int} (hl : r.length = q.length) (hr : smallL r) (hq : smallL q) : (cdL (a :: r) < cdL (b :: q)) ↔ (a < b ∨ (a = b ∧ cdL r < cdL q)) := by
  have h1 := cdL_small hr
  have h2 := cdL_small hq
  rw [← hl] at h2
  have hB : (0 : Int) < 1000 ^ r.length := Int.pow_pos (by decide)
  show a * 1000 ^ r.length + cdL r < b * 1000 ^ q.length + cdL q ↔ _
  rw [← hl]
  generalize (1000 ^ r.length : Int) = B at *
  rcases Int.lt_trichotomy a b with z | z | z
  · have : (a + 1) * B ≤ b * B := Int.mul_le_mul_of_nonneg_right (by omega) (by omega)
    rw [Int.add_mul, Int.one_mul] at this
    generalize a * B = x at *
    generalize b * B = y at *
    constructor
    · intro _; exact Or.inl z
    · intro _; omega
  · subst z
    constructor
    · intro h; exact Or.inr ⟨rfl, by omega⟩
    · rintro (h | ⟨_, h⟩)
      · omega
      · omega
  · have : (b + 1) * B ≤ a * B := Int.mul_le_mul_of_nonneg_right (by omega) (by omega)
    rw [Int.add_mul, Int.one_mul] at this
    generalize a * B = x at *
    generalize b * B = y at *
    constructor
    · intro _; omega
    · rintro (h | ⟨h, _⟩)
      · omega
      · omega
theorem cdL_inj : ∀ {l q : List Int}, l.length = q.length → smallL l → smallL q → cdL l = cdL q → l = q
  | [], [], _, _, _, _ => rfl
  | a :: r, b :: q, hl, h1, h2, e => by
    have hl' : r.length = q.length := by simpa using hl
    have s1 : smallL r := fun x hx => h1 x (List.mem_cons_of_mem _ hx)
    have s2 : smallL q := fun x hx => h2 x (List.mem_cons_of_mem _ hx)
    have n1 := (cdL_cons (a := a) (b := b) hl' s1 s2)
    have n2 := (cdL_cons (a := b) (b := a) hl'.symm s2 s1)
    rw [e] at n1 n2
    have k1 : ¬ (a < b ∨ (a = b ∧ cdL r < cdL q)) := fun z => absurd (n1.mpr z) (Int.lt_irrefl _)
    have k2 : ¬ (b < a ∨ (b = a ∧ cdL q < cdL r)) := fun z => absurd (n2.mpr z) (Int.lt_irrefl _)
    have eab : a = b := by
      rcases Int.lt_trichotomy a b with z | z | z
      · exact absurd (Or.inl z) k1
      · exact z
      · exact absurd (Or.inl z) k2
    subst eab
    have er : cdL r = cdL q := by
      rcases Int.lt_trichotomy (cdL r) (cdL q) with z | z | z
      · exact absurd (Or.inr ⟨rfl, z⟩) k1
      · exact z
      · exact absurd (Or.inr ⟨rfl, z⟩) k2
    rw [cdL_inj hl' s1 s2 er]
section
variable {prog : Program} {w : World} {A : Around} {E : Value → Shared → Prop} {s : Shared}
theorem lex_ints {b : Bool} {Q : Bool → Shared → Prop} : ∀ {k q : List Int} {vs us : List Value} (i : Nat), ItemsAre (intKind prog w) k vs → ItemsAre (intKind prog w) q us → k.length = q.length → smallL k → smallL q → Q (decide (cdL k < cdL q)) s →
    KatLex prog w A true false Q (vs.zip us) i s
  | _, _, _, _, i, .nil, .nil, _, _, _, h => by
    refine kat_nil ?_
    have : decide (cdL [] < cdL []) = false := by decide
    rw [this] at h
    exact h
  | x :: k, y :: q, v :: vs, u :: us, i, .cons h1 r1, .cons h2 r2, hl, s1, s2, h => by
    have hl' : k.length = q.length := by simpa using hl
    have s1' : smallL k := fun x hx => s1 x (List.mem_cons_of_mem _ hx)
    have s2' : smallL q := fun x hx => s2 x (List.mem_cons_of_mem _ hx)
    obtain ⟨t1, rfl⟩ : ∃ t1, v = .int x t1 := by
      have h1 : Value.isInt x v = true := h1
      cases v <;> first | (simp [Value.isInt] at h1; subst h1; exact ⟨_, rfl⟩) | exact absurd h1 (by simp [Value.isInt])
    obtain ⟨t2, rfl⟩ : ∃ t2, u = .int y t2 := by
      have h2 : Value.isInt y u = true := h2
      cases u <;> first | (simp [Value.isInt] at h2; subst h2; exact ⟨_, rfl⟩) | exact absurd h2 (by simp [Value.isInt])
    rw [List.zip_cons_cons]
    refine kat_cons (wpAny_eqBool_int ?_)
    have hc := cdL_cons (a := x) (b := y) hl' s1' s2'
    by_cases e : x = y
    · subst e
      rw [show (x == x) = true by simp]
      refine kat_yes (lex_ints (b := b) (i + 1) r1 r2 hl' s1' s2' ?_)
      have : decide (cdL (x :: k) < cdL (x :: q)) = decide (cdL k < cdL q) := decide_eq_decide.mpr (by rw [hc]; omega)
      rw [this] at h
      exact h
    · rw [show (x == y) = false by simpa using e]
      refine kat_no ?_
      have : decide (cdL (x :: k) < cdL (y :: q)) = decide (x < y) := decide_eq_decide.mpr (by rw [hc]; omega)
      rw [this] at h
      cases hb : (true && i == 0)
      · exact kat_one _ _ (lt_int h)
      · exact oneLt_int h
end
end Oh

namespace Oh
open PySem PySem.SetTable PySem.Spec PyProof.Rows PySem.W
section
variable {prog : Program} {w : World} {A : Around} {E : Value → Shared → Prop} {s : Shared} {L : List (List Int × Addr)} {N : Nat}
def rfT (x : List Int × Addr) : Value := .ref x.2
structure TupL (prog : Program) (w : World) (N : Nat) (h : Heap) (L : List (List Int × Addr)) : Prop where
  keys : ∀ x ∈ L, IsTupleKey (intKind prog w) h x.1 x.2
  len : ∀ x ∈ L, x.1.length = N
  small : ∀ x ∈ L, smallL x.1
  nd : (L.map (·.1)).Nodup
theorem TupL.keep {h h' : Heap} (T : TupL prog w N h L) (k : ∀ b o, o.cls = .type "tuple" → h.get? b = some o → h'.get? b = some o) : TupL prog w N h' L :=
  ⟨fun x hx => by obtain ⟨o, items, n, ho, hc, r⟩ := T.keys x hx; exact ⟨o, items, n, k _ o hc ho, hc, r⟩, T.len, T.small, T.nd⟩
theorem TupL.kf {h : Heap} (T : TupL prog w N h L) : ∃ kf : Addr → List Int, ∀ x ∈ L, kf x.2 = x.1 := by
  refine ⟨fun b => ((L.find? fun x => decide (x.2 = b)).map (·.1)).getD [], fun x hx => ?_⟩
  dsimp only
  cases hf : L.find? (fun y => decide (y.2 = x.2)) with
  | none =>
    have := List.find?_eq_none.mp hf x hx
    simp at this
  | some y =>
    have h1 := List.mem_of_find?_eq_some hf
    have h2 := List.find?_some hf
    have h3 : y.2 = x.2 := by simpa using h2
    show y.1 = x.1
    have k1 := T.keys y h1
    rw [h3] at k1
    exact k1.inj (T.keys x hx)
theorem TupL.kat (hN : 1 ≤ N) : ∀ {L : List (List Int × Addr)} {h : Heap}, (∀ x ∈ L, IsTupleKey (intKind prog w) h x.1 x.2) → (∀ x ∈ L, x.1.length = N) → ∃ fs, KatTups h (L.map rfT) fs ∧ fs.length = L.length ∧ ∀ v ∈ fs, ∃ i t, v = Value.int i t
  | [], h, _, _ => ⟨[], trivial, rfl, fun _ h => nomatch h⟩
  | x :: L, h, hk, hl => by
    obtain ⟨fs, k, l, a⟩ := TupL.kat hN (L := L) (h := h) (fun y hy => hk y (List.mem_cons_of_mem _ hy)) fun y hy => hl y (List.mem_cons_of_mem _ hy)
    obtain ⟨o, items, n, ho, hc, hd, hi⟩ := hk x List.mem_cons_self
    have hx := hl x List.mem_cons_self
    have hsz : items.toList.length = N := by rw [← hi.length]; exact hx
    have h0 : 0 < items.size := by rw [← Array.length_toList, hsz]; omega
    obtain ⟨m, t, e⟩ := items_int hi items[0] (by simp)
    refine ⟨items[0] :: fs, ⟨⟨x.2, o, items, n, rfl, ho, hc, hd, Array.getElem?_eq_getElem h0⟩, k⟩, by simp [l], fun v hv => ?_⟩
    rcases List.mem_cons.mp hv with rfl | hv
    · exact ⟨m, t, e⟩
    · exact a v hv
theorem asksT (T : TupL prog w N s.heap L) {kf : Addr → List Int} (hkf : ∀ x ∈ L, kf x.2 = x.1) : Asks prog w A s (tuples' true) (fun p => match p.1 with | .ref b => cdL (kf b) | _ => 0) ((L.map rfT).toArray.zip (L.map rfT).toArray) := by
  intro x hx y hy E Q h
  have mem : ∀ p ∈ ((L.map rfT).toArray.zip (L.map rfT).toArray).toList, ∃ z ∈ L, p = (rfT z, rfT z) := fun p hp => by
    rw [Array.toList_zip] at hp
    obtain ⟨h1, h2⟩ := mem_zip_self hp
    obtain ⟨z, hz, e⟩ := List.mem_map.mp h2
    exact ⟨z, hz, by rw [e]; exact Prod.ext (by first | exact h1 | exact h1.symm | rfl) (by first | rfl | exact h1 | exact h1.symm)⟩
  obtain ⟨z, hz, rfl⟩ := mem x hx
  obtain ⟨z', hz', rfl⟩ := mem y hy
  have h : Q (decide (cdL (kf z.2) < cdL (kf z'.2))) s := h
  rw [hkf z hz, hkf z' hz'] at h
  obtain ⟨o, items, n, ho, hc, hd, hi⟩ := T.keys z hz
  obtain ⟨o', items', n', ho', hc', hd', hi'⟩ := T.keys z' hz'
  have e1 : items.size = items'.size := by
    rw [← Array.length_toList, ← Array.length_toList, ← hi.length, ← hi'.length, T.len z hz, T.len z' hz']
  refine kat_lt ho hd ho' hd' ?_
  rw [show decide (items.size < items'.size) = false by rw [e1]; simp]
  exact lex_ints (b := true) 0 hi hi' (by rw [T.len z hz, T.len z' hz']) (T.small z hz) (T.small z' hz') h
theorem list_sort_T {a : Addr} {n : Nat} {P : PySem.Fin → Shared → Prop} (ho : s.heap.get? a = some (seqObj "list" (L.map rfT).toArray n)) (T : TupL prog w N s.heap L) (hN : 1 ≤ N) (hb : L.length ≤ 200)
    (h : ∀ M : List (List Int × Addr), M.Perm L → (M.map fun x => cdL x.1).Pairwise (· < ·) → P (.done (.ret .none)) { s with heap := sortedHeap s.heap a (L.map rfT) (M.map rfT).toArray }) :
    wpAny (model prog w) A (Builtin.«list.sort» ⟨[.ref a], []⟩) P E s := by
  rw [list_sort_plain]
  have ha : a < s.heap.objs.size := Heap.lt_size ho
  have hs16 : sizeLine = 16777216 := sizeLine_eq
  obtain ⟨kf, hkf⟩ := T.kf
  generalize hvs : L.map rfT = vs at *
  have hvl : vs.length = L.length := by rw [← hvs, List.length_map]
  refine wpAny_bind (listItems_at ho rfl ?_)
  refine wpAny_bind (listUpdate_at ho rfl ?_ (by rw [List.size_toArray]; omega) (Nat.zero_le _))
  obtain ⟨e1, ho1⟩ : ∃ e1, (s.heap.update a (Obj.mapSeq fun _ => #[])).get? a = some (seqObj "list" #[] e1) := ⟨_, get?_update_seq ho (fun _ => #[])⟩
  refine wpAny_bind (seqEpoch_at ho1 rfl ?_)
  refine wpAny_bind (wpAny_newTuple ?_ (by show vs.length ≤ _; omega))
  refine wpAny_bind (wpAny_newList ?_ (Nat.zero_le _))
  refine wpAny_holding ?_
  have ho6 : (((s.heap.update a (Obj.mapSeq fun _ => #[])).push (seqObj "tuple" vs.toArray 0)).push (seqObj "list" #[] 0)).get? a = some (seqObj "list" #[] e1) := Heap.get?_push_of_some _ (Heap.get?_push_of_some _ ho1)
  show wpAny (model prog w) A _ P E { s with heap := ((s.heap.update a (Obj.mapSeq fun _ => #[])).push (seqObj "tuple" vs.toArray 0)).push (seqObj "list" #[] 0) }
  dsimp only
  have ht6 : TupL prog w N (((s.heap.update a (Obj.mapSeq fun _ => #[])).push (seqObj "tuple" vs.toArray 0)).push (seqObj "list" #[] 0)) L := T.keep fun b o c e => by
    refine Heap.get?_push_of_some _ (Heap.get?_push_of_some _ ?_)
    refine (Heap.get?_update_other _ _ ?_).trans e
    intro z
    subst z
    rw [ho] at e
    cases e
    have c' : Value.type "list" = Value.type "tuple" := c
    injection c' with c''
    exact absurd c'' (by decide)
  have hsz : vs.toArray.size = vs.length := by simp
  by_cases h2 : vs.toArray.size < 2
  · rw [if_pos h2, if_pos h2]
    refine wpAny_bind (wpAny_pure ?_)
    rw [StateT.run_pure]
    refine wpAny_bind (wpAny_pure ?_)
    dsimp only
    refine wpAny_bind (seqEpoch_at ho6 rfl ?_)
    refine wpAny_bind (listUpdate_at ho6 rfl ?_ (hsz2 := by rw [Array.size_map]; show (pairsOf vs).size ≤ _; rw [pairsOf_size, sizeLine_eq]; omega))
    simp only [bne_self_eq_false, Bool.false_eq_true, if_false]
    have h2n : L.length < 2 := by rw [← hvl, ← hsz]; exact h2
    have q := h L (List.Perm.refl _) (by
      rcases L with _ | ⟨v, _ | ⟨v2, r⟩⟩
      · simp
      · simp
      · rw [List.length_cons, List.length_cons] at h2n; omega)
    rw [hvs] at q
    have e : vs.toArray = (vs.toArray.zip vs.toArray).map (·.2) := by
      apply Array.ext'
      rw [Array.toList_map, Array.toList_zip]
      exact (List.map_snd_zip (Nat.le_refl _)).symm
    rw [← e]
    exact wpAny_pure q
  · rw [if_neg h2, if_neg h2]
    have h2' : 2 ≤ vs.length := by omega
    obtain ⟨fs, kt, kl, ka⟩ := TupL.kat hN ht6.keys ht6.len
    rw [hvs] at kt
    refine wpAny_bind (kat_kind (T := .type "int") kt (by omega) (fun v hv => ?_) rfl ?_)
    · obtain ⟨i, t, rfl⟩ := ka v hv
      exact Looks.now
    have ek : tuples' (Value.type "int" != Value.type "tuple") = tuples' true := rfl
    rw [ek]
    have hA := asksT (A := A) (s := { s with heap := ((s.heap.update a (Obj.mapSeq fun _ => #[])).push (seqObj "tuple" vs.toArray 0)).push (seqObj "list" #[] 0) }) ht6 hkf
    rw [hvs] at hA
    have hzl : (vs.toArray.zip vs.toArray).toList = L.map fun x => (rfT x, rfT x) := by
      rw [Array.toList_zip]
      show vs.zip vs = _
      rw [← hvs, List.zip_map', ]
    have hn : ((vs.toArray.zip vs.toArray).toList.map fun p => match p.1 with | .ref b => cdL (kf b) | _ => (0 : Int)).Nodup := by
      rw [hzl, List.map_map]
      have e : (L.map ((fun p : Keyed => match p.1 with | .ref b => cdL (kf b) | _ => (0 : Int)) ∘ fun x => (rfT x, rfT x))) = L.map fun x => cdL x.1 := List.map_congr_left fun x hx => by
        show cdL (kf x.2) = cdL x.1
        rw [hkf x hx]
      rw [e]
      have := T.nd
      rw [List.Nodup, List.pairwise_map] at this ⊢
      refine this.imp_of_mem fun {x y} hx hy hne e => hne (cdL_inj (by rw [T.len x hx, T.len y hy]) (T.small x hx) (T.small y hy) e)
    have hB : SB (tuples' true) (vs.toArray.zip vs.toArray) (SortSt.mk' (tuples' true) (vs.toArray.zip vs.toArray) #[] 7 none) := ⟨Array.Perm.refl _, rfl, rfl⟩
    have run := sort_ok (E := E) hA hn hB rfl (Q := fun _ st' => ∃ M : List (List Int × Addr), M.Perm L ∧ (M.map fun x => cdL x.1).Pairwise (· < ·) ∧ (arrOf st').map (·.2) = (M.map rfT).toArray ∧ failedOf st' = none) (fun st' hS hG => by
      have hp : (arrOf st').toList.Perm (L.map fun x => (rfT x, rfT x)) := by
        rw [← hzl]; exact Array.perm_iff_toList_perm.mp hS.perm
      have hmem : ∀ p ∈ (arrOf st').toList, ∃ x ∈ L, p = (rfT x, rfT x) := fun p hp' => by
        obtain ⟨x, hx, e⟩ := List.mem_map.mp (hp.mem_iff.mp hp')
        exact ⟨x, hx, e.symm⟩
      let g : Keyed → List Int × Addr := fun p => match p.1 with | .ref b => (kf b, b) | _ => ([], 0)
      have hg : ∀ x ∈ L, g (rfT x, rfT x) = x := fun x hx => by
        show (kf x.2, x.2) = x
        rw [hkf x hx]
      refine ⟨(arrOf st').toList.map g, ?_, ?_, ?_, hS.ok⟩
      · refine (hp.map g).trans ?_
        rw [List.map_map]
        have e : L.map (g ∘ fun x => (rfT x, rfT x)) = L.map id := List.map_congr_left fun x hx => hg x hx
        rw [e, List.map_id]
      · rw [List.map_map, List.pairwise_map, List.pairwise_iff_getElem]
        intro i j hi hj hij
        have hi' : i < (arrOf st').size := by simpa using hi
        have hj' : j < (arrOf st').size := by simpa using hj
        have q := hG i j (Nat.zero_le _) hij (by rw [← hS.size]; exact hj')
        unfold kv at q
        rw [Array.getElem?_eq_getElem hi', Array.getElem?_eq_getElem hj'] at q
        obtain ⟨x, hx, ex⟩ := hmem _ (List.getElem_mem hi)
        obtain ⟨y, hy, ey⟩ := hmem _ (List.getElem_mem hj)
        have ex' : (arrOf st')[i] = (rfT x, rfT x) := by rw [← ex, Array.getElem_toList]
        have ey' : (arrOf st')[j] = (rfT y, rfT y) := by rw [← ey, Array.getElem_toList]
        rw [ex', ey'] at q
        rw [ex, ey]
        exact q
      · apply Array.ext'
        rw [Array.toList_map]
        show _ = List.map rfT _
        rw [List.map_map]
        refine List.map_congr_left fun p hp' => ?_
        obtain ⟨x, hx, rfl⟩ := hmem p hp'
        show rfT x = rfT (g (rfT x, rfT x))
        rw [hg x hx])
    refine wpAny_bind (wpAny_mono run ?_ fun _ _ e => e)
    rintro ⟨⟨⟩, st'⟩ s' ⟨rfl, M, hM, hpw, har, hf⟩
    dsimp only
    refine wpAny_bind (seqEpoch_at ho6 rfl ?_)
    have hMl : M.length = L.length := hM.length_eq
    refine wpAny_bind (listUpdate_at ho6 rfl ?_ (hsz2 := by
      show ((arrOf st').map (·.2)).size ≤ _
      rw [har, List.size_toArray, List.length_map, hMl]; omega))
    have hf' : failedOf st' = none := hf
    rw [hf']
    simp only [bne_self_eq_false, Bool.false_eq_true, if_false]
    have q := h M hM hpw
    rw [← har] at q
    exact wpAny_pure q
end
end Oh

namespace Oh
open PySem PySem.SetTable PySem.Spec PyProof.Rows PySem.W
section
variable {prog : Program} {w : World} {A : Around} {E : Value → Shared → Prop} {s : Shared} {L : List (List Int × Addr)} {N : Nat} {a : Addr} {o : Obj} {ep : Nat} {t : SetTable}
theorem perm_refs {L : List (List Int × Addr)} {vs : List Value} (h : vs.Perm (L.map rfT)) {kf : Addr → List Int} (hkf : ∀ x ∈ L, kf x.2 = x.1) : ∃ M : List (List Int × Addr), M.Perm L ∧ vs = M.map rfT := by
  let g : Value → List Int × Addr := fun v => match v with | .ref b => (kf b, b) | _ => ([], 0)
  have hg : ∀ x ∈ L, g (rfT x) = x := fun x hx => by
    show (kf x.2, x.2) = x
    rw [hkf x hx]
  refine ⟨vs.map g, ?_, ?_⟩
  · refine (h.map g).trans ?_
    rw [List.map_map]
    have e : L.map (g ∘ rfT) = L.map id := List.map_congr_left fun x hx => hg x hx
    rw [e, List.map_id]
  · rw [List.map_map]
    have e : vs.map (rfT ∘ g) = vs.map id := List.map_congr_left fun v hv => by
      obtain ⟨x, hx, rfl⟩ := List.mem_map.mp (h.mem_iff.mp hv)
      show rfT (g (rfT x)) = rfT x
      rw [hg x hx]
    rw [e, List.map_id]
theorem sorted_set {Q : Value → Shared → Prop} (hh : A.handled = none) (S : SetT prog w s.heap a L o ep t) (T : TupL prog w N s.heap L) (hN : 1 ≤ N) (hb : L.length ≤ 200)
    (h : ∀ (h1 h' : Heap) (tk n : Nat) (M : List (List Int × Addr)), M.Perm L → (M.map fun x => cdL x.1).Pairwise (· < ·) → (∀ b o, s.heap.get? b = some o → h1.get? b = some o) → h'.get? h1.objs.size = some (seqObj "list" (M.map rfT).toArray n) → (∀ b o, h1.get? b = some o → h'.get? b = some o) → Q (.ref h1.objs.size) { s with heap := h', toks := tk }) :
    wpAny (model prog w) A (call (.builtin "sorted") [.ref a]) Q E s := by
  have hs16 : sizeLine = 16777216 := sizeLine_eq
  refine Calls.call_function_entry kind_sorted plain_sorted entry_sorted (args_sorted1 _) ?_
  unfold Builtin.«sorted»
  refine wpAny_bind (m := checkCount "sorted" 1 1 _) (wpAny_pure ?_)
  refine wpAny_bind (kdu_collect (A := A.in1) (set_src (o := o) (ep := ep) (t := t) (xs := L)) hh S.bare (by omega) fun h' tk acc hk hacc => ?_)
  have hacc2 : acc.toList = wkT prog w a ep L := by
    refine List.ext_getElem? fun i => ?_
    by_cases hi : i < acc.size
    · have e := hacc.2 i acc[i] (Array.getElem?_eq_getElem hi)
      rw [Array.getElem?_toList, Array.getElem?_eq_getElem hi]
      exact e.symm
    · have hl : acc.size = L.length := hacc.1
      rw [List.getElem?_eq_none (by rw [Array.length_toList]; omega), List.getElem?_eq_none (by rw [wkT_len]; omega)]
  obtain ⟨kf, hkf⟩ := T.kf
  obtain ⟨L2, hL2, eL2⟩ := perm_refs (wkT_perm prog w a ep L) hkf
  rw [hacc2, eL2]
  have hl2 : L2.length = L.length := hL2.length_eq
  refine wpAny_bind (wpAny_newList ?_ (by rw [List.length_map]; omega))
  have T2 : TupL prog w N (h'.push (seqObj "list" (L2.map rfT).toArray 0)) L2 := by
    have T1 := T.keep (h' := h'.push (seqObj "list" (L2.map rfT).toArray 0)) fun b o _ e => Heap.get?_push_of_some _ (hk b o e)
    exact ⟨fun x hx => T1.keys x (hL2.mem_iff.mp hx), fun x hx => T1.len x (hL2.mem_iff.mp hx), fun x hx => T1.small x (hL2.mem_iff.mp hx), ((hL2.map (·.1)).nodup_iff).mpr T1.nd⟩
  have hoL : (h'.push (seqObj "list" (L2.map rfT).toArray 0)).get? h'.objs.size = some (seqObj "list" (L2.map rfT).toArray 0) := Heap.get?_push_size _ rfl
  show wpAny _ _ _ _ _ { s with heap := h'.push (seqObj "list" (L2.map rfT).toArray 0), toks := tk }
  refine wpAny_bind (wpAny_holding (wpAny_call_entry slot_list_sort ⟨_, hoL, rfl⟩ entry_list_sort (list_sort_T hoL T2 hN (by omega) fun M hM hpw => ⟨_, rfl, ?_⟩) (args_list_sort _)))
  refine wpAny_pure ⟨_, rfl, ?_⟩
  obtain ⟨e1, ho1⟩ : ∃ e1, ((h'.push (seqObj "list" (L2.map rfT).toArray 0)).update h'.objs.size (Obj.mapSeq fun _ => #[])).get? h'.objs.size = some (seqObj "list" #[] e1) := ⟨_, get?_update_seq hoL (fun _ => #[])⟩
  refine h h' _ tk _ M (hM.trans hL2) hpw hk (get?_update_seq (Heap.get?_push_of_some _ (Heap.get?_push_of_some _ ho1)) _) fun b o e => ?_
  have hb' : b ≠ h'.objs.size := Nat.ne_of_lt (Heap.lt_size e)
  unfold sortedHeap
  refine (Heap.get?_update_other _ _ (Ne.symm hb')).trans ?_
  refine Heap.get?_push_of_some _ (Heap.get?_push_of_some _ ?_)
  exact (Heap.get?_update_other _ _ (Ne.symm hb')).trans (Heap.get?_push_of_some _ e)
end
end Oh

namespace Oh
open PySem PySem.SetTable PySem.Spec PyProof.Rows PySem.W L2
/-! ### set(list of tuples), sorted(set of tuples), as rules -/
def isT (H : Hp) (v : V) (k : List Int) : Prop := ∃ r, v = .ref r ∧ H r = some (.tup (k.map V.int))
def TupVs (H : Hp) (vs : List V) (ks : List (List Int)) : Prop := Paired (isT H) vs ks
theorem items_of {P : Program} {w : World} : ∀ {ns : List Int} {us : List Value}, Vals (ns.map V.int) us → ItemsAre (intKind P w) ns us
  | [], us, r => by rw [List.map_nil] at r; cases r; exact .nil
  | n :: ns, us, r => by
    rw [List.map_cons] at r
    cases r with
    | cons h t =>
      obtain ⟨tk, rfl⟩ := h
      exact .cons (by show Value.isInt n (.int n tk) = true; simp [Value.isInt]) (items_of t)
section
variable {X : Cx} {pins : List (Addr × Obj)} {s : Shared} {σ : St} {H : Hp}
theorem tupKey_of (ok : HOk X.prog X.w H s.heap) {r : Addr} {k : List Int} (h : H r = some (.tup (k.map V.int))) : IsTupleKey (intKind X.prog X.w) s.heap k r := by
  obtain ⟨_, its, hv, o, ho, hc, n, hd⟩ := (show ObjOk X.prog X.w H s.heap r (.tup (k.map V.int)) from ok r _ h)
  exact ⟨o, its.toArray, n, ho, hc, hd, by simpa using items_of hv⟩
theorem tups_L : ∀ {vs : List V} {ks : List (List Int)} {us : List Value}, TupVs H vs ks → Vals vs us → ∃ L : List (List Int × Addr), us = L.map rfT ∧ L.map (·.1) = ks ∧ ∀ x ∈ L, H x.2 = some (.tup (x.1.map V.int))
  | _, _, _, .nil, .nil => ⟨[], rfl, rfl, fun _ h => nomatch h⟩
  | _, _, _, .cons (b := k) r rs, .cons ru rus => by
    obtain ⟨a, rfl, e⟩ := r
    cases ru
    obtain ⟨L, e1, e2, e3⟩ := tups_L rs rus
    refine ⟨(k, a) :: L, by rw [e1]; rfl, by rw [List.map_cons, e2], fun x hx => ?_⟩
    rcases List.mem_cons.mp hx with rfl | hx
    · exact e
    · exact e3 x hx
/-- a set of tuples of the layer's heap, of these keys -/
def setφ (X : Cx) (H : Hp) (l : Addr) (ks : List (List Int)) : Heap → Prop := fun h => ∃ (ys : List (List Int × Addr)) (o : Obj) (ep : Nat) (t : SetTable), SetB X.prog X.w h l ys o ep t ∧ t.place.size * 5 < t.mask * 3 ∧ (ys.map (·.1)).Nodup ∧
  (∀ y ∈ ys, H y.2 = some (.tup (y.1.map V.int))) ∧ (∀ k, k ∈ ys.map (·.1) ↔ k ∈ ks) ∧ ys.length ≤ 200
theorem nodup_lens : ∀ {l m : List (List Int)}, l.Nodup → (∀ x ∈ l, x ∈ m) → l.length ≤ m.length
  | [], _, _, _ => Nat.zero_le _
  | a :: l, m, nd, sub => by
    obtain ⟨na, nd'⟩ := List.nodup_cons.mp nd
    have ha : a ∈ m := sub a List.mem_cons_self
    have := nodup_lens (l := l) (m := m.erase a) nd' fun x hx => (List.mem_erase_of_ne (fun (e : x = a) => na (e ▸ hx))).mpr (sub x (List.mem_cons_of_mem _ hx))
    rw [List.length_erase_of_mem ha] at this
    have hp := List.length_pos_of_mem ha
    rw [List.length_cons]
    omega
theorem call_set_T (hc : X.calm = true) (hu : X.A.units + 10 < cLine) : CallR X (.type "set") (fun xs H Q => ∃ (p : Addr) (zs : List V) (ks : List (List Int)), xs = [.ref p] ∧ SqL X.K H p zs ∧ TupVs H zs ks ∧ ks.length ≤ 200 ∧
    ∀ l, H l = none → Q (.ref l) (upd H l (.ext (setφ X H l ks)))) := by
  intro pins s σ H xs us Q I r h
  obtain ⟨p, zs, ks, rfl, hq, ht, hl, q⟩ := h
  obtain ⟨u, rfl, rx⟩ := vals1 r
  cases rx
  obtain ⟨its, r', pl, hz⟩ := I.list hq
  obtain ⟨L, e1, e2, e3⟩ := tups_L ht r'
  have hLl : L.length = ks.length := by rw [← e2, List.length_map]
  refine call_set_tups (L := L) (I.ok.hd hc) hu pl.isList (by rw [List.toList_toArray, e1]; rfl) (fun x hx => tupKey_of I.hok (e3 x hx)) (by omega) fun h' tk ys o ep t hS hy hcv hk => ?_
  have hk' : ∀ b u, s.heap.get? b = some u → h'.get? b = some u := fun b u e => hk b u (Heap.lt_size e) e
  have hlen : ys.length ≤ 200 := by
    have := nodup_lens (m := ks) hS.nd fun k hk2 => by
      obtain ⟨y, hy1, rfl⟩ := List.mem_map.mp hk2
      rw [← e2]
      exact List.mem_map.mpr ⟨y, hy y hy1, rfl⟩
    rw [List.length_map] at this
    omega
  have hφ : setφ X H s.heap.objs.size ks h' := ⟨ys, o, ep, t, hS.bare, hS.thin, hS.nd, fun y hy1 => e3 y (hy y hy1), fun k => ⟨fun hk2 => by
      obtain ⟨y, hy1, rfl⟩ := List.mem_map.mp hk2
      rw [← e2]
      exact List.mem_map.mpr ⟨y, hy y hy1, rfl⟩, fun hk2 => by
      rw [← e2] at hk2
      obtain ⟨x, hx, rfl⟩ := List.mem_map.mp hk2
      exact hcv x hx⟩, hlen⟩
  refine ⟨.ref s.heap.objs.size, _, I.laid (t' := tk) (o := .ext (setφ X H s.heap.objs.size ks)) hk' (Nat.le_refl _) ⟨hφ, ⟨o, hS.at_⟩, fun h1 h2 φ1 k => ?_⟩, rfl, q _ (I.hok.fresh (Nat.le_refl _))⟩
  obtain ⟨ys, o, ep, t, b, r⟩ := φ1
  exact ⟨ys, o, ep, t, b.moved k, r⟩
theorem call_sorted_T (hc : X.calm = true) : CallR X (.builtin "sorted") (fun xs H Q => ∃ (p : Addr) (H0 : Hp) (ks : List (List Int)) (N : Nat), xs = [.ref p] ∧ H p = some (.ext (setφ X H0 p ks)) ∧ (∀ (r : Addr) (k : List Int), H0 r = some (.tup (k.map V.int)) → H r = some (.tup (k.map V.int))) ∧
      1 ≤ N ∧ (∀ k ∈ ks, k.length = N ∧ smallL k) ∧
    ∀ l vs ms, H l = none → TupVs H vs ms → (ms.map cdL).Pairwise (· < ·) → (∀ k, k ∈ ms ↔ k ∈ ks) → Q (.ref l) (upd H l (.lst vs))) := by
  intro pins s σ H xs us Q I r h
  obtain ⟨p, H0, ks, N, rfl, hp, hH, hN, hks, q⟩ := h
  obtain ⟨u, rfl, rx⟩ := vals1 r
  cases rx
  obtain ⟨⟨ys, o, ep, t, hB, hth, hnd, hy, hcv, hlen⟩, _, _⟩ := (show ObjOk X.prog X.w H s.heap p (.ext (setφ X H0 p ks)) from I.hok p _ hp)
  have hK : ∀ x ∈ ys, IsTupleKey (intKind X.prog X.w) s.heap x.1 x.2 := fun x hx => tupKey_of I.hok (hH _ _ (hy x hx))
  have hS : SetT X.prog X.w s.heap p ys o ep t := ⟨hB.at_, hB.ex, hB.dat, hB.tok, hK, hnd, hth, hB.plain, hB.led⟩
  have hin : ∀ x ∈ ys, x.1 ∈ ks := fun x hx => (hcv x.1).mp (List.mem_map.mpr ⟨x, hx, rfl⟩)
  have hs16 : sizeLine = 16777216 := sizeLine_eq
  refine sorted_set (I.ok.hd hc) hS ⟨hK, fun x hx => (hks _ (hin x hx)).1, fun x hx => (hks _ (hin x hx)).2, hnd⟩ hN hlen fun h1 h' tk n M hM hpw k1 hD k2 => ?_
  have I1 : Inv X pins σ H { s with heap := h1, toks := tk } := I.kept (t' := tk) k1
  have hMy : ∀ x ∈ M, H x.2 = some (.tup (x.1.map V.int)) := fun x hx => hH _ _ (hy x (hM.mem_iff.mp hx))
  have hfresh : H h1.objs.size = none := I1.hok.fresh (Nat.le_refl _)
  have hvals : Vals (M.map fun x => V.ref x.2) (M.map rfT) := by
    clear hD hpw hM hMy
    induction M with
    | nil => exact .nil
    | cons x M ih => exact .cons rfl ih
  have hTV : TupVs H (M.map fun x => V.ref x.2) (M.map (·.1)) := by
    clear hD hpw hM hvals
    induction M with
    | nil => exact .nil
    | cons x M ih => exact .cons ⟨x.2, rfl, hMy x List.mem_cons_self⟩ (ih fun y hy => hMy y (List.mem_cons_of_mem _ hy))
  refine ⟨.ref h1.objs.size, _, I1.laid (t' := tk) (o := .lst (M.map fun x => V.ref x.2)) k2 (Nat.le_refl _) ⟨?_, _, n, hvals, hD⟩, rfl, q _ _ (M.map (·.1)) hfresh hTV ?_ ?_⟩
  · rw [List.length_map, hM.length_eq]; omega
  · rw [List.map_map]; exact hpw
  · intro k
    rw [← hcv k]
    exact (hM.map (·.1)).mem_iff
end
end Oh

namespace Oh
open PySem PySem.Spec PyProof.Rows L2
/-! ### lists of lists of whole numbers -/
def isL (H : Hp) (v : V) (k : List Int) : Prop := ∃ r, v = .ref r ∧ H r = some (.lst (k.map V.int))
def LstVs (H : Hp) (vs : List V) (ks : List (List Int)) : Prop := Paired (isL H) vs ks
theorem isL.same {H H' : Hp} {v : V} {k : List Int} (h : isL H v k) (e : Same H H') : isL H' v k := by
  obtain ⟨r, rfl, hr⟩ := h
  exact ⟨r, rfl, e _ _ hr⟩
theorem LstVs.same {H H' : Hp} {vs : List V} {ks : List (List Int)} (h : LstVs H vs ks) (e : Same H H') : LstVs H' vs ks := Paired.mapP h fun _ _ z => z.same e
theorem LstVs.len {H : Hp} {vs : List V} {ks : List (List Int)} (h : LstVs H vs ks) : vs.length = ks.length := Paired.length h
theorem LstVs.get {H : Hp} {vs : List V} {ks : List (List Int)} (h : LstVs H vs ks) {i : Nat} {v : V} (e : vs[i]? = some v) : ∃ k, ks[i]? = some k ∧ isL H v k := by
  obtain ⟨a, b, e1, e2, q⟩ := paired_get h (List.getElem?_eq_some_iff.mp e).1
  rw [e] at e1
  cases e1
  exact ⟨b, e2, q⟩
/-- such a list that does not hold the one at pl -/
def LN (H : Hp) (pl : Addr) (vs : List V) (ks : List (List Int)) : Prop := Paired (fun v m => isL H v m ∧ v ≠ .ref pl) vs ks
theorem LN.to {H : Hp} {pl : Addr} {vs : List V} {ks : List (List Int)} (h : LN H pl vs ks) : LstVs H vs ks := Paired.mapP h fun _ _ z => z.1
theorem LN.same {H H' : Hp} {pl : Addr} {vs : List V} {ks : List (List Int)} (h : LN H pl vs ks) (e : Same H H') : LN H' pl vs ks := Paired.mapP h fun _ _ z => ⟨z.1.same e, z.2⟩
theorem LN.put {H : Hp} {pl : Addr} {vs : List V} {ks : List (List Int)} (h : LN H pl vs ks) (o : HO) : LN (upd H pl o) pl vs ks := Paired.mapP h fun v m z => by
  obtain ⟨⟨b, rfl, hb⟩, ne⟩ := z
  exact ⟨⟨b, rfl, by rw [upd_ne fun w => ne (by rw [w])]; exact hb⟩, ne⟩
theorem TupVs.same {H H' : Hp} {vs : List V} {ks : List (List Int)} (h : TupVs H vs ks) (e : Same H H') : TupVs H' vs ks := Paired.mapP h fun _ _ z => by
  obtain ⟨r, rfl, hr⟩ := z
  exact ⟨r, rfl, e _ _ hr⟩
theorem TupVs.get {H : Hp} {vs : List V} {ks : List (List Int)} (h : TupVs H vs ks) {i : Nat} {v : V} (e : vs[i]? = some v) : ∃ k, ks[i]? = some k ∧ isT H v k := by
  obtain ⟨a, b, e1, e2, q⟩ := paired_get h (List.getElem?_eq_some_iff.mp e).1
  rw [e] at e1
  cases e1
  exact ⟨b, e2, q⟩
def rTupleOf (K : PySem.W.Frag) : List V → Hp → VK → Prop := fun xs H Q => ∃ p ys, xs = [.ref p] ∧ ((SqL K H p ys ∧ ∀ l, H l = none → Q (.ref l) (upd H l (.tup ys))) ∨ (SqT K H p ys ∧ Q (.ref p) H))
/-! ### a number taken out of a list -/
theorem erase_at {k : Int} : ∀ {ns : List Int}, k ∈ ns → ∃ j : Nat, ns[j]? = some k ∧ (∀ m, m < j → ns[m]? ≠ some k) ∧ ns.erase k = ns.eraseIdx j
  | a :: ns, h => by
    by_cases c : a = k
    · exact ⟨0, by rw [c]; rfl, fun m hm => absurd hm (Nat.not_lt_zero m), by rw [c, List.erase_cons_head]; rfl⟩
    · obtain ⟨j, h1, h2, h3⟩ := erase_at ((List.mem_cons.mp h).resolve_left fun w => c w.symm)
      refine ⟨j + 1, by rw [List.getElem?_cons_succ]; exact h1, fun m hm => ?_, by rw [List.erase_cons_tail (by simpa using c), h3]; rfl⟩
      cases m with
      | zero => rw [List.getElem?_cons_zero]; exact fun w => c (Option.some.inj w)
      | succ m => rw [List.getElem?_cons_succ]; exact h2 m (by omega)
theorem map_eraseI : ∀ (ns : List Int) (j : Nat), (ns.map V.int).eraseIdx j = (ns.eraseIdx j).map V.int
  | [], _ => rfl
  | a :: ns, 0 => rfl
  | a :: ns, j + 1 => by rw [List.map_cons, List.eraseIdx_cons_succ, List.eraseIdx_cons_succ, List.map_cons, map_eraseI ns j]
theorem isInt_at {ns : List Int} {us : List Value} (r : IntsAre us ns) (k : Int) : ∀ {m : Nat} (h : m < us.length), isInt k us[m] = true ↔ ns[m]? = some k := by
  induction r with
  | nil => intro m h; exact absurd h (Nat.not_lt_zero m)
  | cons n t r ih =>
    intro m h
    cases m with
    | zero =>
      show (n == k) = true ↔ some n = some k
      rw [beq_iff_eq, Option.some.injEq]
    | succ m => exact ih (m := m) (by simpa using h)
section
variable {X : Cx}
def rRemove : V → List V → Hp → VK → Prop := fun x vs H Q => ∃ (l : Addr) (ns : List Int) (k : Int), x = .ref l ∧ vs = [.int k] ∧ H l = some (.lst (ns.map V.int)) ∧ k ∈ ns ∧ Q .non (upd H l (.lst ((ns.erase k).map V.int)))
theorem mt_remove : MtM X "list.remove" rRemove := by
  intro pins s σ H x vs v us Q I rx rv h
  obtain ⟨l, ns, k, rfl, rfl, hH, hk, q⟩ := h
  cases rx
  obtain ⟨u, rfl, ⟨t, rfl⟩⟩ := rv.one
  obtain ⟨z, its, n, r, hl, e⟩ := I.lstM hH
  have ri : IntsAre its ns := intsAre_of r
  have hil : its.length = ns.length := by rw [← hl, List.length_map]
  obtain ⟨j, h1, h2, h3⟩ := erase_at hk
  have hj : j < its.length := by rw [hil]; exact (List.getElem?_eq_some_iff.mp h1).1
  refine call_meets PySem.F.slot_list_remove ⟨_, e, rfl⟩ PySem.F.entry_list_remove (PySem.F.args_list_remove_2 _ _)
    (MeetsSeq.list_remove l its.toArray n (.int k t) (isInt k) (fun y hy => eq_isInt k t ri y (by simpa using hy)) j (by rw [List.size_toArray]; exact hj) (by rw [List.getElem_toArray]; exact (isInt_at ri k hj).mpr h1)
      (fun m hm hmj => by
        rw [List.size_toArray] at hm
        rw [List.getElem_toArray, Bool.eq_false_iff]
        exact fun w => h2 m hmj ((isInt_at ri k hm).mp w)) (by rw [List.size_toArray]; omega)) ⟨e, ?_⟩
  rw [h3] at q
  refine ⟨.non, _, I.lset (its' := its.eraseIdx j) hH e ?_ (by have w := r.eraseIdx j; rw [map_eraseI] at w; exact w) ?_, rfl, q⟩
  · show its.toArray.eraseIdxIfInBounds j = (its.eraseIdx j).toArray
    rw [List.eraseIdxIfInBounds_toArray]
  · have := len_erase ns j
    rw [List.length_map] at z ⊢
    omega
/-! ### a list of numbers that is not in a list of such -/

noncomputable def isLst (H : Hp) (ns : List Int) : Value → Bool
  | .ref a => @decide (H a = some (.lst (ns.map V.int))) (Classical.propDecidable _)
  | _ => false
theorem mapI_inj {ns ms : List Int} (h : ns.map V.int = ms.map V.int) : ns = ms := by
  induction ns generalizing ms with
  | nil => cases ms with
    | nil => rfl
    | cons b ms => cases h
  | cons a ns ih => cases ms with
    | nil => cases h
    | cons b ms =>
      rw [List.map_cons, List.map_cons] at h
      injection h with h1 h2
      injection h1 with h1
      rw [h1, ih h2]
theorem isLst_eqAt {pins : List (Addr × Obj)} {σ : St} {H : Hp} {s : Shared} (I : Inv X pins σ H s) {A : Around} (hu : A.units + 1 < cLine) {a b : Addr} {ns ms : List Int} (ha : H a = some (.lst (ns.map V.int))) (hb : H b = some (.lst (ms.map V.int))) : SeqAt.EqAt A s (.ref b) (.ref a) (isLst H ns (.ref b)) := by
  have er : isLst H ns (.ref b) = decide (ms = ns) := by
    unfold isLst
    refine decide_eq_decide.mpr ⟨fun w => ?_, fun w => by rw [hb, w]⟩
    rw [hb] at w
    injection w with w
    injection w with w
    exact mapI_inj w
  rw [er]
  by_cases hab : b = a
  · subst hab
    rw [hb] at ha
    injection ha with ha
    injection ha with ha
    rw [decide_eq_true (mapI_inj ha)]
    exact SeqAt.EqAt.same _
  · obtain ⟨us, r1, p1, _⟩ := I.list (SqL.of hb)
    obtain ⟨vs, r2, p2, _⟩ := I.list (SqL.of ha)
    have l1 := r1.length
    have l2 := r2.length
    rw [List.length_map] at l1 l2
    by_cases hl : ms.length = ns.length
    · have z := SeqAt.RcAt.lists (A := A) (s := s) (e := fun j => ms.getD j 0 == ns.getD j 0) p1.isList p2.isList (by rw [List.size_toArray, List.size_toArray]; omega) (by omega) (ints_eqAt r1 r2)
      rw [List.size_toArray, ← l1, all_getD hl] at z
      exact SeqAt.EqAt.of_refs hab z
    · have z := SeqAt.RcAt.lists_lengths (A := A) (s := s) p1.isList p2.isList (by rw [List.size_toArray, List.size_toArray, bne_iff_ne]; omega) (by omega)
      rw [decide_eq_false fun w => hl (by rw [w])]
      exact SeqAt.EqAt.of_refs hab z
theorem op_notInLL (hu : X.A.units + 2 < cLine) : OpR X (compareOp .NotIn) (fun x y H Q => ∃ (a p : Addr) (ns : List Int) (zs : List V) (ks : List (List Int)), x = .ref a ∧ y = .ref p ∧ H a = some (.lst (ns.map V.int)) ∧ SqL X.K H p zs ∧ LstVs H zs ks ∧ ns ∈ ks ∧ Q (.bl false) H) := by
  intro pins s σ H x y v u Q I rx ry h
  obtain ⟨a, p, ns, zs, ks, rfl, rfl, ha, hp, hz, hm, q⟩ := h
  cases rx
  cases ry
  obtain ⟨its, r, pl, _⟩ := I.list hp
  have hu1 : X.A.in1.units + 1 < cLine := by show X.A.units + 1 + 1 < cLine; omega
  refine SeqAt.notIn_listAt (isLst H ns) pl.isList (fun w hw => ?_) ⟨.bl false, H, I, ?_, q⟩
  · have hw' : w ∈ its := by simpa using hw
    obtain ⟨i, hi, rfl⟩ := List.getElem_of_mem hw'
    have hl := r.length
    obtain ⟨v1, k1, e1, e2, ⟨b, rfl, hb⟩⟩ := paired_get hz (i := i) (by omega)
    obtain ⟨u1, e3, ru⟩ := r.get e1
    cases ru
    rw [List.getElem?_eq_getElem hi] at e3
    rw [Option.some.inj e3]
    exact isLst_eqAt I hu1 ha hb
  · show Value.bool (!its.toArray.any (isLst H ns)) = Value.bool false
    have : its.any (isLst H ns) = true := by
      obtain ⟨i, hi, e⟩ := List.getElem_of_mem hm
      have hl := r.length
      have hzl := hz.len
      obtain ⟨v1, k1, e1, e2, ⟨b, rfl, hb⟩⟩ := paired_get hz (i := i) (by omega)
      obtain ⟨u1, e3, ru⟩ := r.get e1
      cases ru
      rw [List.getElem?_eq_getElem hi, e] at e2
      rw [← Option.some.inj e2] at hb
      exact List.any_eq_true.mpr ⟨_, List.mem_of_getElem? e3, @decide_eq_true _ (Classical.propDecidable _) hb⟩
    rw [List.any_toArray, this]
    rfl
end
end Oh

namespace Oh
open PySem PySem.Spec PyProof.Rows L2
/-! ### one list of numbers ahead of another -/
theorem lex_cdL : ∀ {ns ms : List Int}, ns.length = ms.length → smallL ns → smallL ms → HT.lexLt ns ms = decide (cdL ns < cdL ms)
  | [], [], _, _, _ => rfl
  | a :: ns, b :: ms, hl, s1, s2 => by
    have hl' : ns.length = ms.length := by simpa using hl
    have s1' : smallL ns := fun x hx => s1 x (List.mem_cons_of_mem _ hx)
    have s2' : smallL ms := fun x hx => s2 x (List.mem_cons_of_mem _ hx)
    have hc := cdL_cons (a := a) (b := b) hl' s1' s2'
    rw [HT.lexLt_cons]
    by_cases e : a = b
    · rw [if_pos e, lex_cdL hl' s1' s2']
      exact decide_eq_decide.mpr (hc.trans ⟨fun w => by rcases w with w | w; omega; exact w.2, fun w => .inr ⟨e, w⟩⟩).symm
    · rw [if_neg e]
      exact decide_eq_decide.mpr (hc.trans ⟨fun w => by rcases w with w | w; exact w; exact absurd w.1 e, fun w => .inl w⟩).symm
section
open PySem.SeqAt
open PySem.AutoSeq1 (wpAny_loadPart')
open PySem.MeetsSeq PySem.MeetsSeq2 PySem.MeetsSeq3
theorem lt_loopL {l b : Addr} {as bs : List Value} {n n2 : Nat} (hsz : as.length = bs.length) : ∀ (k i : Nat) (ns ms : List Int), IntsAre (as.drop i) ns → IntsAre (bs.drop i) ms → ns.length = k → ms.length = k →
    Meets (Builtin.«list.__eq__.loop» ⟨[.ref l, .ref b, rawInt i, rawInt 0], []⟩) (fun A R s => s.heap.get? l = some { cls := .type "list", data := .seq as.toArray n } ∧ s.heap.get? b = some { cls := .type "list", data := .seq bs.toArray n2 } ∧ R (.ok (.ret (.bool (HT.lexLt ns ms)))) s) := by
  intro k
  induction k with
  | zero =>
    intro i ns ms ra rb h1 h2 prog w A R s hh
    obtain ⟨hq, gs, ds, tq, oq⟩ := s
    obtain ⟨gl, gb, hR⟩ := hh
    have z1 : as.length - i = 0 := by have := ra.length; rw [List.length_drop] at this; omega
    have z2 : bs.length - i = 0 := by omega
    wp_walk using wpAny_loadPart' gl, wpAny_loadPart' gb
    have hi1 : as.toArray[((i : Nat) : Int).toNat]? = none := by simp; omega
    have hi2 : bs.toArray[((i : Nat) : Int).toNat]? = none := by simp; omega
    rw [hi1, hi2]
    wp_walk using wpAny_loadPart' gl, wpAny_loadPart' gb
    have en : ns = [] := List.length_eq_zero_iff.mp h1
    have em : ms = [] := List.length_eq_zero_iff.mp h2
    rw [en, em] at hR
    show R (.ok (.ret (.bool (decide (as.toArray.size < bs.toArray.size))))) _
    rw [List.size_toArray, List.size_toArray, hsz, decide_eq_false (Nat.lt_irrefl _)]
    exact hR
  | succ k ih =>
    intro i ns ms ra rb h1 h2 prog w A R s hh
    obtain ⟨hq, gs, ds, tq, oq⟩ := s
    obtain ⟨gl, gb, hR⟩ := hh
    have z1 : i < as.length := by have := ra.length; rw [List.length_drop] at this; omega
    have z2 : i < bs.length := by omega
    wp_walk using wpAny_loadPart' gl, wpAny_loadPart' gb
    rw [List.drop_eq_getElem_cons z1] at ra
    rw [List.drop_eq_getElem_cons z2] at rb
    generalize ea : as[i] = va at ra
    generalize eb : bs[i] = vb at rb
    have hi1 : as.toArray[((i : Nat) : Int).toNat]? = some va := by simp [z1, ea]
    have hi2 : bs.toArray[((i : Nat) : Int).toNat]? = some vb := by simp [z2, eb]
    have hc : ((i : Int) + 1) = ((i + 1 : Nat) : Int) := by push_cast; rfl
    rw [hi1, hi2]
    cases ra with
    | cons a t ra =>
    cases rb with
    | cons c u rb =>
    rw [HT.lexLt_cons] at hR
    rw [List.length_cons] at h1 h2
    refine wpAny_bind (EqAt.int_int a t c u prog w _ _ ?_)
    by_cases e : a = c
    · rw [if_pos e] at hR
      rw [show (a == c) = true by simpa using e]
      wp_walk
      rw [hc]
      exact ⟨plainId_quiet plain_eq_loop _, codeAny_builtin entry_eq_loop (by
        rw [Around.under_plainId plain_eq_loop _]
        exact ih (i + 1) _ _ ra rb (by omega) (by omega) prog w A R _ ⟨gl, gb, hR⟩)⟩
    · rw [if_neg e] at hR
      rw [show (a == c) = false by simpa using e]
      wp_walk using wpAny_loadPart' gl, wpAny_loadPart' gb
      rw [hi1, hi2]
      have hri := HT.rcLt_int A.in1 ⟨hq, gs, ds, tq, oq⟩ a t c u prog w
      wp_walk using hri
      exact hR
theorem list_ltI {l b : Addr} {as bs : List Value} {n n2 : Nat} {ns ms : List Int} (ra : IntsAre as ns) (rb : IntsAre bs ms) (hsz : ns.length = ms.length) :
    Meets (Builtin.«list.__lt__» ⟨[.ref l, .ref b], []⟩) (fun A R s => s.heap.get? l = some { cls := .type "list", data := .seq as.toArray n } ∧ s.heap.get? b = some { cls := .type "list", data := .seq bs.toArray n2 } ∧ R (.ok (.ret (.bool (HT.lexLt ns ms)))) s) := by
  intro prog w A R s hh
  obtain ⟨hq, gs, ds, tq, oq⟩ := s
  obtain ⟨gl, gb, hR⟩ := hh
  have f3 := AutoSeq1.sub_list_list
  have hz : as.length = bs.length := by rw [ra.length, rb.length, hsz]
  wp_walk using wpAny_loadPart' gl, wpAny_loadPart' gb
  exact ⟨plainId_quiet plain_eq_loop _, codeAny_builtin entry_eq_loop (by
    rw [Around.under_plainId plain_eq_loop _]
    exact lt_loopL hz _ 0 _ _ ra rb rfl hsz.symm prog w A R _ ⟨gl, gb, hR⟩)⟩
end
section
variable {X : Cx}
theorem op_ltLL (hu : X.A.units < cLine) : OpR X (compareOp .Lt) (fun x y H Q => ∃ (a b : Addr) (ns ms : List Int), x = .ref a ∧ y = .ref b ∧ H a = some (.lst (ns.map V.int)) ∧ H b = some (.lst (ms.map V.int)) ∧ ns.length = ms.length ∧ Q (.bl (HT.lexLt ns ms)) H) := by
  intro pins s σ H x y v u Q I rx ry h
  obtain ⟨a, b, ns, ms, rfl, rfl, ha, hb, hl, q⟩ := h
  cases rx
  cases ry
  obtain ⟨_, its, n, r1, _, e1⟩ := I.lstM ha
  obtain ⟨_, its2, n2, r2, _, e2⟩ := I.lstM hb
  exact richCompare_meets_room (op := .Lt) ⟨_, e1, rfl⟩ ⟨_, e2, rfl⟩ PySem.F.slot_list_lt PySem.F.entry_list_lt (PySem.F.args_list_lt_2 _ _) (list_ltI (n := n) (n2 := n2) (intsAre_of r1) (intsAre_of r2) hl)
    ⟨e1, e2, show Value.bool (HT.lexLt ns ms) ≠ Value.notImplemented ∧ _ from ⟨(fun x => nomatch x), ⟨.bl (HT.lexLt ns ms), H, I, rfl, q⟩⟩⟩ hu
end
end Oh

namespace Oh
open PySem PySem.Spec PyProof.Rows L2
def top (i : Nat) : Stmt := PySem.Challenge.pw_owinghall_k31_all_bounds.main.body.getD i (.Pass ⟨0, 0, 0, 0⟩)
abbrev sMa : Stmt := top 9
abbrev sNb : Stmt := top 10
abbrev sNt : Stmt := top 11
abbrev sIs : Stmt := top 12
abbrev sRe : Stmt := top 13
abbrev sNh : Stmt := top 14
abbrev sBe : Stmt := top 15
abbrev sTt : Stmt := top 17
abbrev sMo : Stmt := top 19
abbrev sBs : Stmt := top 22
abbrev sAo : Stmt := top 23
abbrev sWi : Stmt := top 24
abbrev sCe : Stmt := top 26
abbrev sWh : Stmt := top 27
abbrev sNu : Stmt := top 28
abbrev sWb : Stmt := top 29
abbrev sOr : Stmt := top 30
abbrev sLb : Stmt := top 31
abbrev sIb : Stmt := top 32
abbrev sTi : Stmt := top 33
abbrev sLw : Stmt := top 34
structure Blt (mg : Str → Option Value) : Prop where
  len : mg "len" = none
  range : mg "range" = none
  list : mg "list" = none
  tuple : mg "tuple" = none
  sorted : mg "sorted" = none
  min : mg "min" = none
  max : mg "max" = none
  sum : mg "sum" = none
  isinst : mg "isinstance" = none
  int : mg "int" = none
  bool : mg "bool" = none
section
variable {P : Program} {w : World} {K : PySem.W.Frag} {mg : Str → Option Value} {base : Heap}
theorem scIs : FnScope ["houses", "number"] ["houses", "number"] (defScope sIs) := ⟨rfl, rfl, rfl, by decide +kernel, rfl, by decide +kernel, by decide +kernel⟩
def spIs : Sp := fun vs H Q _ => ∃ h x : Int, vs = [.int h, .int x] ∧ Q (.bl (decide (0 ≤ x) && decide (x < h))) H
theorem ok_is {f : Addr} {fd : FuncData} (F : Fun K "is_house" "is_house" sIs f fd) : FnOk P w K mg base CX0 1 f fd ["houses", "number"] spIs := by
  refine F.ok scIs (fun vs H Q E h => ?_) (fun cdv A outer s H vs Q E hr h => ?_)
  · obtain ⟨h', x, rfl, _⟩ := h; rfl
  obtain ⟨h', x, rfl, q⟩ := h
  refine ⟨_, pss_one (ps_ret (pe_chain op_le op_lt pe_int (pv 1) (pv 0))), ?_⟩
  refine ⟨_, rfl, _, _, rfl, rfl, _, rfl, ?_⟩
  refine ite2 (fun c => ?_) (fun c => ?_)
  · refine ⟨_, rfl, _, _, rfl, rfl, ?_⟩
    have c' : decide (0 ≤ x) = true := c
    rw [c', Bool.true_and] at q
    exact q
  · have c' : decide (0 ≤ x) = false := Bool.eq_false_iff.mpr c
    rw [c', Bool.false_and] at q
    exact q

theorem scNb : FnScope ["houses", "ties"] ["houses", "ties"] (defScope sNb) := ⟨rfl, rfl, rfl, by decide +kernel, rfl, by decide +kernel, by decide +kernel⟩
def spNb (K : PySem.W.Frag) : Sp := fun vs H Q _ => ∃ (h : Int) (a : Addr) (ys : List V), vs = [.int h, .ref a] ∧ SqL K H a ys ∧ 1 ≤ h ∧ h ≤ 8 ∧ ys.length ≤ 16 ∧ Q .non H
theorem ok_nb {f : Addr} {fd : FuncData} {t8 t16 : Tok} (F : Fun K "need_bounds" "need_bounds" sNb f fd) (B : Blt mg) (m8 : mg "MOST_HOUSES" = some (.int 8 t8)) (m16 : mg "MOST_TIES" = some (.int 16 t16)) :
    FnOk P w K mg base CX0 1 f fd ["houses", "ties"] (spNb K) := by
  refine F.ok scNb (fun vs H Q E h => ?_) (fun cdv A outer s H vs Q E hr h => ?_)
  · obtain ⟨h', a, ys, rfl, _⟩ := h; rfl
  obtain ⟨h', a, ys, rfl, hS, h1, h8, h16, q⟩ := h
  refine ⟨_, pss_cons (ps_if (PW.pt (pw_or (pt_cmpR op_lt (pv 0) pe_int (nomark _)) (pw_or1 (pt_cmpR op_gt (pv 0) (pe_glob (v := .int 8) rfl m8 ⟨_, rfl⟩) (nomark _))))) pss_never pss_nil)
    (pss_one (ps_if (pt_cmpR op_gt (pe_callB call_len_seq rfl B.len PySem.boot_len (pa_cons (pv 1) pa_nil)) (pe_glob (v := .int 16) rfl m16 ⟨_, rfl⟩) (nomark _)) pss_never pss_nil)), ?_⟩
  refine ⟨_, rfl, _, _, rfl, rfl, _, rfl, ?_⟩
  refine iteD (by omega) ?_
  refine ⟨_, rfl, _, _, rfl, rfl, _, rfl, ?_⟩
  refine iteD (by omega) ?_
  refine ⟨_, rfl, a, _, rfl, .inl hS, _, _, rfl, rfl, _, rfl, ?_⟩
  refine iteD (by omega) ?_
  exact q

theorem scNt : FnScope ["houses", "tie"] ["houses", "tie"] (defScope sNt) := ⟨rfl, rfl, rfl, by decide +kernel, rfl, by decide +kernel, by decide +kernel⟩
def spNt : Sp := fun vs H Q _ => ∃ (h : Int) (t : Int × Int) (v : V), vs = [.int h, v] ∧ isPair H v t ∧ inb h t ∧ Q .non H
theorem ok_nt {f : Addr} {fd : FuncData} (F : Fun K "need_tie" "need_tie" sNt f fd) (cIs : Cal P w K mg base 1 "is_house" ["houses", "number"] spIs) : FnOk P w K mg base CX0 2 f fd ["houses", "tie"] spNt := by
  refine F.ok scNt (fun vs H Q E h => ?_) (fun cdv A outer s H vs Q E hr h => ?_)
  · obtain ⟨h', t, v, rfl, _⟩ := h; rfl
  obtain ⟨h', t, v, rfl, ⟨r, rfl, hp⟩, ⟨a0, a1, b0, b1, ne⟩, q⟩ := h
  refine ⟨_, pss_cons (ps_if (PW.pt (pw_or (pt_not (pt_val (pe_cal cIs hr rfl (pa_cons (pv 0) (pa_cons (pe_ix ix_tup (pv 1) pe_int (fun _ _ => rfl)) pa_nil)))))
      (pw_or1 (pt_not (pt_val (pe_cal cIs hr rfl (pa_cons (pv 0) (pa_cons (pe_ix ix_tup (pv 1) pe_int (fun _ _ => rfl)) pa_nil)))))))) pss_never pss_nil)
    (pss_one (ps_if (pt_cmpR op_eq (pe_ix ix_tup (pv 1) pe_int (fun _ _ => rfl)) (pe_ix ix_tup (pv 1) pe_int (fun _ _ => rfl)) (nomark _)) pss_never pss_nil)), ?_⟩
  refine ⟨_, rfl, _, rfl, r, _, _, _, rfl, rfl, SqT.of hp, rfl, _, _, rfl, _, rfl, ?_⟩
  refine iteB (by rw [decide_eq_true a0, decide_eq_true a1]; rfl) ?_
  refine ⟨_, rfl, _, rfl, r, _, _, _, rfl, rfl, SqT.of hp, rfl, _, _, rfl, _, rfl, ?_⟩
  refine iteB (by rw [decide_eq_true b0, decide_eq_true b1]; rfl) ?_
  refine ⟨_, rfl, r, _, _, _, rfl, rfl, SqT.of hp, rfl, _, rfl, r, _, _, _, rfl, rfl, SqT.of hp, rfl, rfl, _, rfl, ?_⟩
  refine iteD (fun z => ne (V.int.inj z)) ?_
  exact q

theorem scRe : FnScope ["ties", "met", "grown", "one", "other"] ["ties"] (defScope sRe) := ⟨rfl, rfl, rfl, by decide +kernel, rfl, by decide +kernel, by decide +kernel⟩
/-- what is come to: from nought on, each once, all of it come to, and nothing goes out of it -/
structure Met (n : Nat) (T : List (Int × Int)) (met : List Int) : Prop where
  zero : (0 : Int) ∈ met
  nd : met.Nodup
  rng : ∀ x ∈ met, 0 ≤ x ∧ x < (n : Int)
  come : ∀ S : Int → Prop, S 0 → (∀ t ∈ T, S t.1 ↔ S t.2) → ∀ x ∈ met, S x
def spRe (K : PySem.W.Frag) : Sp := fun vs H Q _ => ∃ (a : Addr) (zs : List V) (T : List (Int × Int)) (n : Nat), vs = [.ref a] ∧ SqT K H a zs ∧ Pairs H zs T ∧ (∀ t ∈ T, inb n t) ∧ 1 ≤ n ∧ n ≤ 8 ∧
  ∀ (r : Addr) (met : List Int) (H' : Hp), Same H H' → H' r = some (.lst (met.map V.int)) → Met n T met → (∀ t ∈ T, (t.1 ∈ met ↔ t.2 ∈ met)) → Q (.ref r) H'
theorem Met.le {n : Nat} {T : List (Int × Int)} {met : List Int} (m : Met n T met) : met.length ≤ n := by
  have := nodup_le m.nd (m := hs n) fun x hx => mem_hs.mpr (m.rng x hx)
  rwa [hs_length] at this
theorem Met.more {n : Nat} {T : List (Int × Int)} {met : List Int} (m : Met n T met) {t : Int × Int} (ht : t ∈ T) (hb : inb n t) {x y : Int} (hxy : (x = t.1 ∧ y = t.2) ∨ (x = t.2 ∧ y = t.1)) (hx : x ∈ met) (hy : y ∉ met) : Met n T (met ++ [y]) where
  zero := List.mem_append_left _ m.zero
  nd := by
    rw [List.nodup_append]
    refine ⟨m.nd, by simp, fun a ha b hb' => ?_⟩
    have e : b = y := by simpa using hb'
    intro z
    exact hy (by rw [← e, ← z]; exact ha)
  rng := fun z hz => by
    obtain ⟨a0, a1, b0, b1, _⟩ := hb
    rcases List.mem_append.mp hz with q | q
    · exact m.rng z q
    · have e : z = y := by simpa using q
      subst e
      rcases hxy with ⟨_, e⟩ | ⟨_, e⟩ <;> rw [e]
      · exact ⟨b0, b1⟩
      · exact ⟨a0, a1⟩
  come := fun S s0 cl z hz => by
    rcases List.mem_append.mp hz with q | q
    · exact m.come S s0 cl z q
    · have e : z = y := by simpa using q
      subst e
      have sx := m.come S s0 cl x hx
      rcases hxy with ⟨e1, e2⟩ | ⟨e1, e2⟩ <;> rw [e2] <;> rw [e1] at sx
      · exact (cl t ht).mp sx
      · exact (cl t ht).mpr sx
theorem ok_re {f : Addr} {fd : FuncData} (F : Fun K "reached" "reached" sRe f fd) : FnOk P w K mg base CX0 1 f fd ["ties"] (spRe K) := by
  refine F.ok scRe (fun vs H Q E h => ?_) (fun cdv A outer s H vs Q E hr h => ?_)
  · obtain ⟨a, zs, T, n, rfl, _⟩ := h; rfl
  obtain ⟨a, zs, T, n, rfl, hS, hP, hT, n1, n8, q⟩ := h
  refine ⟨_, pss_cons (ps_set (i := 1) scRe.nd rfl (Or.inl rfl) (pe_lst (pa_cons pe_int pa_nil))) (pss_cons (ps_set (i := 2) scRe.nd rfl (Or.inl rfl) pe_bl)
    (pss_cons (ps_while PassesOwn.never (pt_val (pv 2)) (pss_cons (ps_set (i := 2) scRe.nd rfl (Or.inl rfl) pe_bl)
      (pss_one (ps_for PassesOwn.never rfl (pi_tup (pv 0)) (pg_tup rfl (pgs_cons (pg_name (i := 3) scRe.nd rfl (Or.inl rfl)) (pgs_cons (pg_name (i := 4) scRe.nd rfl (Or.inl rfl)) pgs_nil)))
        (pss_one (ps_if (pt_cmpR op_ne (pe_cmpR op_in_seq (pv 3) (pv 1) rfl) (pe_cmpR op_in_seq (pv 4) (pv 1) rfl) (nomark _))
          (pss_cons (ps_expr (pe_bm PySem.F.plainAttrs_list PySem.F.slot_list_append PySem.F.type_list_append mt_append (pv 1) (pa_cons (pe_ifExp (pt_cmpR op_in_seq (pv 3) (pv 1) rfl) (pv 4) (pv 3)) pa_nil)))
            (pss_one (ps_set (i := 2) scRe.nd rfl (Or.inl rfl) pe_bl))) pss_nil))))))
      (pss_one (ps_ret (pv 1))))), ?_⟩
  refine ⟨by show 1 ≤ sizeLine; decide, fun pm hpm => ?_⟩
  have m0 : Met n T [0] := ⟨List.mem_cons_self, by simp, fun x hx => by
    have e : x = 0 := by simpa using hx
    subst e; omega, fun S s0 _ x hx => by
    have e : x = 0 := by simpa using hx
    rw [e]; exact s0⟩
  refine ⟨fun m σ H' => ∃ (g : Bool) (met : List Int) (o3 o4 : Option V), σ = [some (.ref a), some (.ref pm), some (.bl g), o3, o4] ∧ Same H H' ∧ H' pm = some (.lst (met.map V.int)) ∧ Met n T met ∧ (g = false → ∀ t ∈ T, (t.1 ∈ met ↔ t.2 ∈ met)) ∧
    m = (if g = true then 1 + (9 - met.length) else 0), ⟨_, true, [0], none, none, rfl, same_new hpm _, upd_same, m0, (fun z => by cases z), rfl⟩, ?_⟩
  rintro m σ H1 ⟨g, met, o3, o4, rfl, e1, hm, hM, hcl, rfl⟩
  refine ⟨_, rfl, _, rfl, ?_⟩
  have hle := hM.le
  refine ite2B (fun gt => ?_) (fun gf => ?_)
  · subst gt
    refine ⟨fun σ' H' => ∃ (g : Bool) (met' : List Int) (o3 o4 : Option V), σ' = [some (.ref a), some (.ref pm), some (.bl g), o3, o4] ∧ Same H H' ∧ H' pm = some (.lst (met'.map V.int)) ∧ Met n T met' ∧ (g = false → ∀ t ∈ T, (t.1 ∈ met' ↔ t.2 ∈ met')) ∧
      (g = true → met.length < met'.length), ?_, ?_⟩
    · rintro σ' H' ⟨g, met', o3, o4, rfl, a1, a2, a3, a4, a5⟩
      refine ⟨_, ?_, g, met', o3, o4, rfl, a1, a2, a3, a4, rfl⟩
      have hle' := a3.le
      cases g
      · rw [if_neg (by simp), if_pos rfl]; omega
      · have := a5 rfl
        rw [if_pos rfl, if_pos rfl]; omega
    refine ⟨_, rfl, a, rfl, ⟨zs, SqT_same e1 hS⟩, ?_⟩
    refine for_tup (xs := zs) (fun i σ H' => ∃ (g : Bool) (met' : List Int) (o3 o4 : Option V), σ = [some (.ref a), some (.ref pm), some (.bl g), o3, o4] ∧ Same H H' ∧ H' pm = some (.lst (met'.map V.int)) ∧ Met n T met' ∧
      (g = false → met' = met ∧ ∀ t ∈ T.take i, (t.1 ∈ met ↔ t.2 ∈ met)) ∧ (g = true → met.length < met'.length)) ?_ ?_ ?_ ?_
    · exact ⟨false, met, o3, o4, rfl, e1, hm, hM, (fun _ => ⟨rfl, fun t ht => nomatch ht⟩), fun z => by cases z⟩
    · rintro i σ H' _ ⟨g, met', o3, o4, rfl, a1, _⟩
      exact SqT_same a1 hS
    · rintro i x σ H' hx ⟨g, met', p3, p4, rfl, a1, a2, a3, a4, a5⟩
      obtain ⟨t, ht, r, rfl, hr'⟩ := (hP.same a1).get hx
      have htm : t ∈ T := List.mem_of_getElem? ht
      refine ⟨r, _, rfl, SqT.of hr', rfl, _, _, rfl, _, _, rfl, rfl, ?_⟩
      refine ⟨_, rfl, _, rfl, pm, _, rfl, .inl (SqL.of a2), rfl, flat_ints _, _, rfl, _, rfl, pm, _, rfl, .inl (SqL.of a2), rfl, flat_ints _, rfl, _, rfl, ?_⟩
      show if (!decide (V.bl (inV (.int t.1) (met'.map V.int)) = V.bl (inV (.int t.2) (met'.map V.int)))) = true then _ else _
      rw [inV_int, inV_int]
      have hle' := a3.le
      have add : ∀ {y x : Int}, ((x = t.1 ∧ y = t.2) ∨ (x = t.2 ∧ y = t.1)) → x ∈ met' → y ∉ met' → ∃ (g : Bool) (met'' : List Int) (o3 o4 : Option V), [some (.ref a), some (.ref pm), some (.bl true), some (.int t.1), some (.int t.2)] = [some (.ref a), some (.ref pm), some (.bl g), o3, o4] ∧
          Same H (upd H' pm (.lst (met'.map V.int ++ [.int y]))) ∧ upd H' pm (.lst (met'.map V.int ++ [.int y])) pm = some (.lst (met''.map V.int)) ∧ Met n T met'' ∧ (g = false → met'' = met ∧ ∀ t ∈ T.take (i + 1), (t.1 ∈ met ↔ t.2 ∈ met)) ∧ (g = true → met.length < met''.length) := by
        intro y x hxy hx hy
        refine ⟨true, met' ++ [y], _, _, rfl, same_upd hpm a1 _, ?_, a3.more htm (hT t htm) hxy hx hy, (fun z => by cases z), fun _ => ?_⟩
        · rw [upd_same, List.map_append]; rfl
        · rw [List.length_append, List.length_singleton]
          cases g
          · have := (a4 rfl).1; rw [this]; omega
          · have := a5 rfl; omega
      by_cases c1 : t.1 ∈ met'
      · rw [decide_eq_true c1]
        by_cases c2 : t.2 ∈ met'
        · rw [decide_eq_true c2]
          refine iteB rfl ?_
          refine ⟨g, met', _, _, rfl, a1, a2, a3, fun z => ?_, a5⟩
          obtain ⟨b1, b2⟩ := a4 z
          refine ⟨b1, fun u hu => ?_⟩
          rw [take_one ht] at hu
          rcases List.mem_append.mp hu with hu | hu
          · exact b2 u hu
          · have e : u = t := by simpa using hu
            rw [e, ← b1]
            exact ⟨fun _ => c2, fun _ => c1⟩
        · rw [decide_eq_false c2]
          refine iteBT rfl ?_
          refine ⟨_, rfl, .inl ⟨rfl, _, SqL.of a2⟩, _, rfl, _, rfl, pm, _, rfl, .inl (SqL.of a2), rfl, flat_ints _, _, rfl, ?_⟩
          show if inV (.int t.1) (met'.map V.int) = true then _ else _
          rw [inV_int]
          refine iteDT c1 ?_
          refine ⟨_, rfl, pm, _, _, rfl, rfl, a2, by rw [List.length_map]; exact small1000 (by omega), ?_⟩
          exact add (.inl ⟨rfl, rfl⟩) c1 c2
      · rw [decide_eq_false c1]
        by_cases c2 : t.2 ∈ met'
        · rw [decide_eq_true c2]
          refine iteBT rfl ?_
          refine ⟨_, rfl, .inl ⟨rfl, _, SqL.of a2⟩, _, rfl, _, rfl, pm, _, rfl, .inl (SqL.of a2), rfl, flat_ints _, _, rfl, ?_⟩
          show if inV (.int t.1) (met'.map V.int) = true then _ else _
          rw [inV_int]
          refine iteD c1 ?_
          refine ⟨_, rfl, pm, _, _, rfl, rfl, a2, by rw [List.length_map]; exact small1000 (by omega), ?_⟩
          exact add (.inr ⟨rfl, rfl⟩) c2 c1
        · rw [decide_eq_false c2]
          refine iteB rfl ?_
          refine ⟨g, met', _, _, rfl, a1, a2, a3, fun z => ?_, a5⟩
          obtain ⟨b1, b2⟩ := a4 z
          refine ⟨b1, fun u hu => ?_⟩
          rw [take_one ht] at hu
          rcases List.mem_append.mp hu with hu | hu
          · exact b2 u hu
          · have e : u = t := by simpa using hu
            rw [e, ← b1]
            exact ⟨fun z => absurd z c1, fun z => absurd z c2⟩
    · rintro σ H' ⟨g, met', p3, p4, rfl, a1, a2, a3, a4, a5⟩
      refine ⟨g, met', p3, p4, rfl, a1, a2, a3, fun z => ?_, a5⟩
      obtain ⟨b1, b2⟩ := a4 z
      rw [hP.length, List.take_length] at b2
      rw [b1]; exact b2
  · subst gf
    refine ⟨_, rfl, ?_⟩
    exact q pm met H1 e1 hm hM (hcl rfl)

theorem scCe : FnScope ["script", "k"] ["script", "k"] (defScope sCe) := ⟨rfl, rfl, rfl, by decide +kernel, rfl, by decide +kernel, by decide +kernel⟩
def spCe (K : PySem.W.Frag) : Sp := fun vs H Q _ => ∃ (a : Addr) (ns : List Int) (k : Int), vs = [.ref a, .int k] ∧ SqL K H a (ns.map V.int) ∧ 0 ≤ k ∧ Q (.int (ns.getD k.toNat 0)) H
theorem ok_ce {f : Addr} {fd : FuncData} (F : Fun K "_law_cell_at" "_law_cell_at" sCe f fd) (B : Blt mg) : FnOk P w K mg base CX0 1 f fd ["script", "k"] (spCe K) := by
  refine F.ok scCe (fun vs H Q E h => ?_) (fun cdv A outer s H vs Q E hr h => ?_)
  · obtain ⟨a, ns, k, rfl, _⟩ := h; rfl
  obtain ⟨a, ns, k, rfl, hS, h0, q⟩ := h
  refine ⟨_, pss_cons (ps_if (pt_cmpR op_lt (pv 1) (pe_callB call_len_seq rfl B.len PySem.boot_len (pa_cons (pv 0) pa_nil)) (nomark _)) (pss_one (ps_ret (pe_ix ix_list (pv 0) (pv 1) (fun _ _ => rfl)))) pss_nil) (pss_one (ps_ret pe_int)), ?_⟩
  refine ⟨_, rfl, _, rfl, a, _, rfl, .inl hS, _, _, rfl, rfl, _, rfl, ?_⟩
  refine ite2 (fun c => ?_) (fun c => ?_)
  · have c' : k < (((ns.map V.int).length : Nat) : Int) := of_decide_eq_true c
    rw [List.length_map] at c'
    exact ⟨_, rfl, _, rfl, a, _, _, _, rfl, rfl, hS, atI_ints h0 c', q⟩
  · have c' : ¬ k < (((ns.map V.int).length : Nat) : Int) := of_decide_eq_false (Bool.eq_false_iff.mpr c)
    rw [List.length_map] at c'
    have e : ns.getD k.toNat 0 = 0 := by rw [List.getD_eq_getElem?_getD, List.getElem?_eq_none (by omega)]; rfl
    rw [e] at q
    exact q


/-! ### helpers -/
structure WebF (H : Hp) (wv : Addr) (n : Nat) (T : List (Int × Int)) : Prop where
  ex : ∃ (p : Addr) (ob : Obj) (zs : List V), H wv = some (.tup [.int n, .ref p]) ∧ H p = some (.frz ob (.tup zs)) ∧ ob.dict = none ∧ Pairs H zs T
  len : T.length ≤ 16
theorem WebF.same {H H' : Hp} {wv : Addr} {n : Nat} {T : List (Int × Int)} (h : WebF H wv n T) (e : Same H H') : WebF H' wv n T := by
  obtain ⟨p, ob, zs, a, b, c, d⟩ := h.ex
  exact ⟨⟨p, ob, zs, e _ _ a, e _ _ b, c, d.same e⟩, h.len⟩
theorem WebF.top {H : Hp} {wv : Addr} {n : Nat} {T : List (Int × Int)} (h : WebF H wv n T) : ∃ vp, H wv = some (.tup [.int n, vp]) := by
  obtain ⟨p, ob, zs, a, _⟩ := h.ex
  exact ⟨_, a⟩
theorem cut_take (ns : List Int) (k : Nat) : cutV (ns.map V.int) none (some (k : Int)) = (ns.take k).map V.int := by
  rw [cut_ints, HT.sIx_nat, HT.sIx_none, Nat.sub_zero, List.drop_zero, List.take_eq_take_iff.mpr (by omega : min (min k ns.length) ns.length = min k ns.length)]
theorem ixN_hs' {n : Nat} {g : Int → Int} {y : Int} (h0 : 0 ≤ y) (h1 : y < (n : Int)) : ixN (((hs n).map g).map V.int).length y = some y.toNat := by
  rw [List.length_map, List.length_map, hs_length]; exact ixN_nat h0 h1
theorem rngL0 (n : Nat) : rngL 0 n = hs n := by unfold rngL hs; exact List.map_congr_left fun k _ => Int.zero_add _
theorem scMa : FnScope ["houses", "ties", "tie", "told"] ["houses", "ties"] (defScope sMa) := ⟨rfl, rfl, rfl, by decide +kernel, rfl, by decide +kernel, by decide +kernel⟩
theorem nd1 {x : Str} : [x].Nodup := by simp
def spMa (K : PySem.W.Frag) : Sp := fun vs H Q _ => ∃ (n : Nat) (a : Addr) (ys : List V) (T : List (Int × Int)), vs = [.int n, .ref a] ∧ SqL K H a ys ∧ Pairs H ys T ∧ Good n T ∧ 1 ≤ n ∧ n ≤ 8 ∧
  ∀ (r p : Addr) (ob : Obj) (zs : List V) (T' : List (Int × Int)) (H' : Hp), Same H H' → H' r = some (.tup [.int n, .ref p]) → H' p = some (.frz ob (.tup zs)) → ob.dict = none → Pairs H' zs T' → T'.Perm (T.map nrm) → (T'.map code).Pairwise (· ≤ ·) → Q (.ref r) H'
theorem ok_ma {f : Addr} {fd : FuncData} (F : Fun K "made" "made" sMa f fd) (B : Blt mg) (cNb : Cal P w K mg base 2 "need_bounds" ["houses", "ties"] (spNb K)) (cNt : Cal P w K mg base 2 "need_tie" ["houses", "tie"] spNt)
    (cRe : Cal P w K mg base 2 "reached" ["ties"] (spRe K)) : FnOk P w K mg base CX0 3 f fd ["houses", "ties"] (spMa K) := by
  refine F.ok scMa (fun vs H Q E h => ?_) (fun cdv A outer s H vs Q E hr h => ?_)
  · obtain ⟨n, a, ys, T, rfl, _⟩ := h; rfl
  obtain ⟨n, a, ys, T, rfl, hS, hP, hG, n1, n8, q⟩ := h
  have hl := hP.length
  have hG16 := hG.len
  refine ⟨_, pss_cons (ps_expr (pe_cal cNb hr rfl (pa_cons (pv 0) (pa_cons (pv 1) pa_nil))))
    (pss_cons (ps_for PassesOwn.never rfl (pi_list (pv 1)) (pg_name (i := 2) scMa.nd rfl (Or.inl rfl)) (pss_one (ps_expr (pe_cal cNt hr rfl (pa_cons (pv 0) (pa_cons (pv 2) pa_nil))))))
    (pss_cons (ps_set (i := 3) scMa.nd rfl (Or.inl rfl) (pe_callTy call_tuple_frz rfl B.tuple PyProof.Rows.boot_tuple (pa_cons (pe_callB call_sorted rfl B.sorted PyProof.Rows.boot_sorted (pa_cons
        (pe_comp (N' := ["tie"]) (mp := [none]) (g := gName 0) (tt := tYes) (te := tTup (tCons (tCB (rMinT K) (tCons (tVar 0) tNil)) (tCons (tCB (rMaxT K) (tCons (tVar 0) tNil)) tNil))) (CompOk.of (by kernel_rfl)) rfl (pi_list (pv 1)) (fun C s H fp => pg_name (i := 0) nd1 rfl (Or.inl rfl)) (fun C s H fp => pts_nil)
          (fun C s H fp => pe_tup (pa_cons (pe_callB (call_min_tup rfl) rfl B.min PyProof.Rows.boot_min (pa_cons (pv 0) pa_nil)) (pa_cons (pe_callB (call_max_tup rfl) rfl B.max PyProof.Rows.boot_max (pa_cons (pv 0) pa_nil)) pa_nil)))) pa_nil)) pa_nil)))
    (pss_cons (ps_if (pt_cmpR op_lt (pe_callB call_len_seq rfl B.len PySem.boot_len (pa_cons (pe_cal cRe hr rfl (pa_cons (pv 3) pa_nil)) pa_nil)) (pv 0) (nomark _)) pss_never pss_nil)
    (pss_one (ps_ret (pe_tup (pa_cons (pv 0) (pa_cons (pv 3) pa_nil)))))))), ?_⟩
  refine ⟨_, rfl, _, rfl, _, _, _, rfl, hS, by omega, by omega, by omega, ?_⟩
  refine ⟨_, rfl, a, rfl, ⟨ys, hS⟩, ?_⟩
  refine for_list (xs := ys) (fun i σ H' => H' = H ∧ ∃ o2, σ = [some (.int n), some (.ref a), o2, none]) ⟨rfl, _, rfl⟩ (fun i σ H' _ ⟨e, _⟩ => e ▸ hS) ?_ ?_
  · rintro i x σ H' hx ⟨rfl, o2, rfl⟩
    obtain ⟨t, ht, hp⟩ := hP.get hx
    refine ⟨_, rfl, _, rfl, _, t, _, rfl, hp, hG.rng t (List.mem_of_getElem? ht), ?_⟩
    exact ⟨rfl, _, rfl⟩
  rintro σ H' ⟨rfl, o2, rfl⟩
  refine ⟨_, rfl, a, rfl, ⟨ys, hS⟩, ?_⟩
  refine comp_list (xs := ys) (fun i σ H1 acc => Same H' H1 ∧ (∃ o, σ = [o]) ∧ Pairs H1 acc ((T.take i).map nrm)) ⟨Same.refl _, ⟨_, rfl⟩, .nil⟩ ?_ (Nat.le_of_lt (small1000 (by omega))) ?_ ?_
  · rintro i σ H1 acc hi ⟨e1, _, p1⟩
    refine ⟨e1.seq hS, ?_⟩
    have := p1.length
    rw [List.length_map, List.length_take] at this
    omega
  · rintro i x σ H1 acc hx ⟨e1, ⟨o, rfl⟩, p1⟩
    obtain ⟨t, ht, r, rfl, hp⟩ := (hP.same e1).get hx
    refine ⟨_, rfl, r, _, _, rfl, SqT.of hp, _, rfl, r, _, _, rfl, SqT.of hp, by show 2 ≤ sizeLine; decide, fun p hn => ?_⟩
    refine ⟨e1.trans (same_new hn _), ⟨_, rfl⟩, ?_⟩
    rw [take_one ht, List.map_append]
    exact (p1.same (same_new hn _)).append (Pairs.one ⟨p, rfl, upd_same⟩)
  rintro σ H1 acc ⟨e1, _, p1⟩ pc hpc
  rw [hl, List.take_length] at p1
  have e2 : Same H' (upd H1 pc (.lst acc)) := e1.trans (same_new hpc _)
  have p2 : Pairs (upd H1 pc (.lst acc)) acc (T.map nrm) := p1.same (same_new hpc _)
  have hla := p2.length
  rw [List.length_map] at hla
  refine ⟨pc, acc, T.map nrm, rfl, SqL.of upd_same, p2, ?_, by omega, fun is l his hso hln => ?_⟩
  · intro t ht
    obtain ⟨u, hu, rfl⟩ := List.mem_map.mp ht
    obtain ⟨_, _, c, d, _⟩ := inb_nrm (hG.rng u hu)
    exact ⟨c, by omega⟩
  have e3 := e2.trans (same_new hln (.lst (is.map fun i => acc.getD i .non)))
  have p3 : Pairs (upd (upd H1 pc (.lst acc)) l (.lst (is.map fun i => acc.getD i .non))) (is.map fun i => acc.getD i .non) (is.map fun i => (T.map nrm).getD i (0, 0)) :=
    (p2.same (same_new hln _)).pick is fun i hi => List.mem_range.mp (his.mem_iff.mp hi)
  refine ⟨l, _, rfl, SqL.of upd_same, fun l2 ob hl2 hob => ?_⟩
  have e4 := e3.trans (same_new hl2 (.frz ob (.tup (is.map fun i => acc.getD i .non))))
  have p4 := p3.same (same_new hl2 (.frz ob (.tup (is.map fun i => acc.getD i .non))))
  have hperm : (is.map fun i => (T.map nrm).getD i (0, 0)).Perm (T.map nrm) := pick_perm _ (by rw [List.length_map, ← hla]; exact his)
  have hG' := good_nrm hG hperm
  refine ⟨_, rfl, l2, _, _, n, rfl, .inl (.inr ⟨ob, upd_same⟩), p4, hG'.rng, n1, n8, fun r met H5 e5 hr5 hM hcl => ?_⟩
  refine ⟨r, _, rfl, .inl (SqL.of hr5), _, rfl, _, _, rfl, rfl, _, rfl, ?_⟩
  have hall := all_met hG' hM.zero n1 hcl
  refine iteD (by rw [List.length_map]; omega) ?_
  refine ⟨_, rfl, _, rfl, by show 2 ≤ sizeLine; decide, fun rr hrr => ?_⟩
  have e6 := same_new hrr (.tup [.int n, .ref l2])
  refine q rr l2 ob _ _ _ ((e4.trans e5).trans e6) upd_same (e6 _ _ (e5 _ _ upd_same)) hob ((p4.same e5).same e6) hperm ?_
  rw [List.map_map]
  exact hso

/-! ### the program -/
theorem scNh : FnScope ["web", "house"] ["web", "house"] (defScope sNh) := ⟨rfl, rfl, rfl, by decide +kernel, rfl, by decide +kernel, by decide +kernel⟩

def spNh : Sp := fun vs H Q _ => ∃ (wv : Addr) (n : Nat) (vp : V) (x : Int), vs = [.ref wv, .int x] ∧ H wv = some (.tup [.int n, vp]) ∧ inr n x ∧ Q .non H
theorem ok_nh {f : Addr} {fd : FuncData} (F : Fun K "need_house" "need_house" sNh f fd) (cIs : Cal P w K mg base 1 "is_house" ["houses", "number"] spIs) : FnOk P w K mg base CX0 2 f fd ["web", "house"] spNh := by
  refine F.ok scNh (fun vs H Q E h => ?_) (fun cdv A outer s H vs Q E hr h => ?_)
  · obtain ⟨wv, n, vp, x, rfl, _⟩ := h; rfl
  obtain ⟨wv, n, vp, x, rfl, hw, c1, q⟩ := h
  refine ⟨_, (pss_one (ps_if (pt_not (pt_val (pe_cal cIs hr rfl (pa_cons (pe_ix ix_tup (pv 0) pe_int (fun _ _ => rfl)) (pa_cons (pv 1) pa_nil))))) pss_never pss_nil)), ?_⟩
  refine ⟨_, rfl, wv, _, _, _, rfl, rfl, SqT.of hw, rfl, _, rfl, _, _, rfl, _, rfl, ?_⟩
  refine iteB (by rw [decide_eq_true c1.1, decide_eq_true c1.2]; rfl) ?_
  exact q
theorem scBe : FnScope ["web", "one", "other"] ["web", "one", "other"] (defScope sBe) := ⟨rfl, rfl, rfl, by decide +kernel, rfl, by decide +kernel, by decide +kernel⟩

def spBe : Sp := fun vs H Q _ => ∃ (wv : Addr) (n : Nat) (T : List (Int × Int)) (x y : Int), vs = [.ref wv, .int x, .int y] ∧ WebF H wv n T ∧ inr n x ∧ inr n y ∧ ∀ H', Same H H' → Q (.int (bt T x y)) H'
theorem ok_be {f : Addr} {fd : FuncData} (F : Fun K "between" "between" sBe f fd) (B : Blt mg) (cNh : Cal P w K mg base 2 "need_house" ["web", "house"] spNh) : FnOk P w K mg base CX0 3 f fd ["web", "one", "other"] spBe := by
  refine F.ok scBe (fun vs H Q E h => ?_) (fun cdv A outer s H vs Q E hr h => ?_)
  · obtain ⟨wv, n, T, x, y, rfl, _⟩ := h; rfl
  obtain ⟨wv, n, T, x, y, rfl, hW, hx, hy, q⟩ := h
  obtain ⟨p, ob, zs, hw, hp, hob, hP⟩ := hW.ex
  refine ⟨_, (pss_cons (ps_expr (pe_cal cNh hr rfl (pa_cons (pv 0) (pa_cons (pv 1) pa_nil))))
    (pss_cons (ps_expr (pe_cal cNh hr rfl (pa_cons (pv 0) (pa_cons (pv 2) pa_nil))))
    (pss_one (ps_ret (pe_bmT PySem.F.slot_tuple_count PySem.F.type_tuple_count (mt_countT (Nat.lt_of_le_of_lt (Nat.add_le_add_left (by decide : 4 ≤ 64) _) hr.units)) (pe_ix ix_tup (pv 0) pe_int (fun _ _ => rfl)) (pa_cons (pe_tup (pa_cons (pe_callB (call_min2 rfl) rfl B.min PyProof.Rows.boot_min (pa_cons (pv 1) (pa_cons (pv 2) pa_nil))) (pa_cons (pe_callB (call_max2 rfl) rfl B.max PyProof.Rows.boot_max (pa_cons (pv 1) (pa_cons (pv 2) pa_nil))) pa_nil))) pa_nil)))))), ?_⟩
  refine ⟨_, rfl, _, rfl, wv, n, _, x, rfl, hw, hx, ?_⟩
  refine ⟨_, rfl, _, rfl, wv, n, _, y, rfl, hw, hy, ?_⟩
  refine ⟨_, rfl, wv, _, _, _, rfl, rfl, SqT.of hw, rfl, ⟨p, ob, _, rfl, hp, hob⟩, _, rfl, _, rfl, _, _, rfl, _, rfl, _, rfl, _, _, rfl, by show 2 ≤ sizeLine; decide, fun pr hpr => ?_⟩
  have e1 := same_new hpr (.tup [.int (nrm (x, y)).1, .int (nrm (x, y)).2])
  exact ⟨p, zs, T, pr, nrm (x, y), rfl, rfl, .inl (.inr ⟨ob, e1 _ _ hp⟩), hP.same e1, upd_same, q _ e1⟩
theorem scTt : FnScope ["web", "house", "group"] ["web", "house", "group"] (defScope sTt) := ⟨rfl, rfl, rfl, by decide +kernel, rfl, by decide +kernel, by decide +kernel⟩
theorem nd_scTt_0 : (["other", "web", "house"] : List Str).Nodup := by decide +kernel

def spTt (K : PySem.W.Frag) : Sp := fun vs H Q _ => ∃ (wv : Addr) (n : Nat) (T : List (Int × Int)) (x : Int) (g : Addr) (ms : List Int), vs = [.ref wv, .int x, .ref g] ∧ WebF H wv n T ∧ inr n x ∧ SqL K H g (ms.map V.int) ∧ (∀ y ∈ ms, inr n y) ∧ ms.length ≤ 1000 ∧
  ∀ H', Same H H' → Q (.int (tt' T x ms)) H'
theorem ok_tt {f : Addr} {fd : FuncData} (F : Fun K "ties_to" "ties_to" sTt f fd) (B : Blt mg) (cBe : Cal P w K mg base 3 "between" ["web", "one", "other"] spBe) : FnOk P w K mg base CX0 4 f fd ["web", "house", "group"] (spTt K) := by
  refine F.ok scTt (fun vs H Q E h => ?_) (fun cdv A outer s H vs Q E hr h => ?_)
  · obtain ⟨wv, n, T, x, g, ms, rfl, _⟩ := h; rfl
  obtain ⟨wv, n, T, x, g, ms, rfl, hW, hx, hS, hm, hl, q⟩ := h
  refine ⟨_, (pss_one (ps_ret (pe_callB (call_sum rfl) rfl B.sum PyProof.Rows.boot_sum (pa_cons (pe_comp (N' := ["other", "web", "house"]) (mp := [none, some 0, some 1]) (g := (gName 0)) (tt := tYes) (te := (tCall spBe [] E0 (tCons (tVar 1) (tCons (tVar 2) (tCons (tVar 0) tNil))))) (CompOk.of (by kernel_rfl)) rfl (pi_list (pv 2)) (fun C s H fp => (pg_name (i := 0) nd_scTt_0 rfl (Or.inl rfl))) (fun C s H fp => pts_nil) (fun C s H fp => (pe_cal cBe hr rfl (pa_cons (pv 1) (pa_cons (pv 2) (pa_cons (pv 0) pa_nil)))))) pa_nil)))), ?_⟩
  refine ⟨_, rfl, g, rfl, ⟨_, hS⟩, ?_⟩
  refine comp_list (xs := ms.map V.int) (fun i σ H1 acc => Same H H1 ∧ (∃ o, σ = [o, some (.ref wv), some (.int x)]) ∧ acc = ((ms.take i).map fun y => bt T x y).map V.int) ⟨Same.refl _, ⟨_, rfl⟩, rfl⟩ ?_ (Nat.le_of_lt (small1000 (by rw [List.length_map]; exact hl))) ?_ ?_
  · rintro i σ H1 acc hi ⟨e1, _, rfl⟩
    refine ⟨e1.seq hS, ?_⟩
    rw [List.length_map, List.length_map, List.length_take]; omega
  · rintro i v σ H1 acc hv ⟨e1, ⟨o, rfl⟩, rfl⟩
    obtain ⟨y, hy, rfl⟩ := mapI_get hv
    refine ⟨_, rfl, _, rfl, _, rfl, wv, n, T, x, y, rfl, hW.same e1, hx, hm y (List.mem_of_getElem? hy), fun H2 e2 => ?_⟩
    refine ⟨e1.trans e2, ⟨_, rfl⟩, ?_⟩
    rw [take_one hy, List.map_append, List.map_append]; rfl
  rintro σ H1 acc ⟨e1, _, rfl⟩ pc hpc
  rw [List.length_map, List.take_length]
  exact ⟨pc, _, rfl, SqL.of upd_same, q _ (e1.trans (same_new hpc _))⟩
theorem scMo : FnScope ["web", "order", "told", "place", "house"] ["web", "order"] (defScope sMo) := ⟨rfl, rfl, rfl, by decide +kernel, rfl, by decide +kernel, by decide +kernel⟩

theorem rep0 (n : Nat) : (List.replicate n [V.int 0]).flatten = ((hs n).map fun _ => (0 : Int)).map V.int := by
  induction n with
  | zero => rfl
  | succ n ih =>
    rw [hs_succ, List.map_append, List.map_append, ← ih, ← List.replicate_append_replicate (n := n) (m := 1), List.flatten_append]
    rfl
def spMo (K : PySem.W.Frag) : Sp := fun vs H Q _ => ∃ (wv g : Addr) (n : Nat) (T : List (Int × Int)) (o : List Int), vs = [.ref wv, .ref g] ∧ WebF H wv n T ∧ n ≤ 8 ∧ H g = some (.lst (o.map V.int)) ∧ o.Perm (hs n) ∧
  ∀ (r : Addr) (H' : Hp), H r = none → Same H H' → H' r = some (.lst ((boL n T o).map V.int)) → Q (.ref r) H'
set_option maxHeartbeats 4000000 in
theorem ok_mo {f : Addr} {fd : FuncData} (F : Fun K "most_in" "most_in" sMo f fd) (B : Blt mg) (hen : mg "enumerate" = none) (cTt : Cal P w K mg base 4 "ties_to" ["web", "house", "group"] (spTt K)) : FnOk P w K mg base CX0 5 f fd ["web", "order"] (spMo K) := by
  refine F.ok scMo (fun vs H Q E h => ?_) (fun cdv A outer s H vs Q E hr h => ?_)
  · obtain ⟨wv, g, n, T, o, rfl, _⟩ := h; rfl
  obtain ⟨wv, g, n, T, o, rfl, hW, n8, hg, hp, q⟩ := h
  obtain ⟨vp, hw⟩ := hW.top
  have ho := Ord.of hp
  refine ⟨_, (pss_cons (ps_set (i := 2) scMo.nd rfl (Or.inl rfl) (pe_op op_rep (pe_lst (pa_cons pe_int pa_nil)) (pe_ix ix_tup (pv 0) pe_int (fun _ _ => rfl))))
    (pss_cons (ps_for PassesOwn.never rfl (pi_enum rfl hen (pa_cons (pv 1) pa_nil)) (pg_tup rfl (pgs_cons (pg_name (i := 3) scMo.nd rfl (Or.inl rfl)) (pgs_cons (pg_name (i := 4) scMo.nd rfl (Or.inl rfl)) pgs_nil))) (pss_one (ps_asg (pe_op op_sub (pe_cal cTt hr rfl (pa_cons (pv 0) (pa_cons (pv 4) (pa_cons (pe_slice sl_list (pv 1) po_none (po_some (pv 3))) pa_nil)))) pe_int) (pg_sub (pv 2) (pv 4) set_list))))
    (pss_one (ps_ret (pv 2))))), ?_⟩
  refine ⟨by show 1 ≤ sizeLine; decide, fun p1 hp1 => ?_⟩
  have e1 := same_new hp1 (.lst [.int 0])
  refine ⟨_, rfl, wv, _, _, _, rfl, rfl, SqT.of (e1 _ _ hw), rfl, p1, n, _, rfl, rfl, upd_same, by omega, by omega, by show 1 * (n : Int).toNat ≤ sizeLine; exact Nat.le_of_lt (small1000 (by omega)), fun p2 hp2 => ?_⟩
  rw [show (n : Int).toNat = n by omega, rep0]
  have e2 := e1.trans (same_new hp2 (.lst (((hs n).map fun _ => (0 : Int)).map V.int)))
  have h2 : upd (upd H p1 (.lst [.int 0])) p2 (.lst (((hs n).map fun _ => (0 : Int)).map V.int)) p2 = some (.lst (((hs n).map fun _ => (0 : Int)).map V.int)) := upd_same
  have hp2H : H p2 = none := e1.free hp2
  generalize upd (upd H p1 (.lst [.int 0])) p2 (.lst (((hs n).map fun _ => (0 : Int)).map V.int)) = H2 at e2 h2 ⊢
  refine ⟨_, rfl, g, _, rfl, e2 _ _ hg, ?_⟩
  refine for_enum (xs := o.map V.int) (fun i σ H' => (∃ o3 o4 : Option V, σ = [some (.ref wv), some (.ref g), some (.ref p2), o3, o4]) ∧ Same H H' ∧ H' p2 = some (.lst (((hs n).map fun x => if x ∈ o.take i then bo T o x else 0).map V.int))) ⟨⟨_, _, rfl⟩, e2, by rw [h2]; exact congrArg (fun l => some (HO.lst (List.map V.int l))) (hs_congr fun x _ _ => by rw [if_neg (by simp)])⟩ (fun i σ H' _ ⟨_, e, _⟩ => SqL.of (e _ _ hg)) ?_ ?_
  · rintro i v t σ H' hv ht ⟨⟨o3, o4, rfl⟩, e3, h3⟩
    obtain ⟨x, hx, rfl⟩ := mapI_get hv
    have hxr := ho.row.rng x (List.mem_of_getElem? hx)
    have e4 := e3.trans (same_new ht (.tup [.int i, .int x]))
    have h4 := (same_new ht (.tup [.int i, .int x])) _ _ h3
    refine ⟨t, _, rfl, SqT.of upd_same, rfl, _, _, rfl, _, _, rfl, rfl, ?_⟩
    refine ⟨_, rfl, _, rfl, _, rfl, _, rfl, _, rfl, g, _, rfl, SqL.of (e4 _ _ hg), fun p5 hp5 => ?_⟩
    rw [cut_take]
    have f5 := same_new hp5 (.lst ((o.take i).map V.int))
    have e5 := e4.trans f5
    refine ⟨wv, n, T, x, p5, o.take i, rfl, hW.same e5, hxr, SqL.of upd_same, fun y hy => ho.row.rng y (List.mem_of_mem_take hy), by rw [List.length_take]; have := ho.len; omega, fun H6 e6 => ?_⟩
    have e06 := e5.trans e6
    have h6 := e6 _ _ (f5 _ _ h4)
    refine ⟨_, _, rfl, rfl, _, rfl, _, rfl, p2, _, _, _, rfl, rfl, h6, ixN_hs' hxr.1 hxr.2, ?_⟩
    refine ⟨⟨_, _, rfl⟩, same_upd hp2H e06 _, ?_⟩
    rw [upd_same, ← List.map_set, set_hs hxr.1 hxr.2]
    refine congrArg (fun l => some (HO.lst (List.map V.int l))) (hs_congr fun y _ _ => ?_)
    rw [take_one hx]
    by_cases c : y = x
    · rw [if_pos c, if_pos (by rw [c]; exact List.mem_append_right _ List.mem_cons_self), c, bo_at ho.row.nd hx]
    · rw [if_neg c]
      by_cases d : y ∈ o.take i
      · rw [if_pos d, if_pos (List.mem_append_left _ d)]
      · rw [if_neg d, if_neg (fun z => (List.mem_append.mp z).elim d fun z => c (List.mem_singleton.mp z))]
  rintro σ H' ⟨⟨o3, o4, rfl⟩, e3, h3⟩
  refine ⟨_, rfl, q p2 H' hp2H e3 ?_⟩
  rw [h3]
  unfold boL
  refine congrArg (fun l => some (HO.lst (List.map V.int l))) (hs_congr fun y y0 y1 => ?_)
  rw [List.length_map, List.take_length, if_pos (ho.all ⟨y0, y1⟩)]
theorem scWh : FnScope ["found"] ["found"] (defScope sWh) := ⟨rfl, rfl, rfl, by decide +kernel, rfl, by decide +kernel, by decide +kernel⟩

def spWh : Sp := fun vs H Q _ => ∃ x : Int, vs = [.int x] ∧ Q (.bl true) H
theorem ok_wh {f : Addr} {fd : FuncData} (F : Fun K "_law_whole" "_law_whole" sWh f fd) (B : Blt mg) : FnOk P w K mg base CX0 1 f fd ["found"] spWh := by
  refine F.ok scWh (fun vs H Q E h => ?_) (fun cdv A outer s H vs Q E hr h => ?_)
  · obtain ⟨x, rfl, _⟩ := h; rfl
  obtain ⟨x, rfl, q⟩ := h
  refine ⟨_, (pss_one (ps_ret (pe_and (pe_callB call_isinst rfl B.isinst PyProof.Rows.boot_isinstance (pa_cons (pv 0) (pa_cons (pe_bltn (v := .ty "int") rfl B.int PyProof.Rows.boot_int rfl) pa_nil))) (pe_one (pe_not (pe_callB call_isinst rfl B.isinst PyProof.Rows.boot_isinstance (pa_cons (pv 0) (pa_cons (pe_bltn (v := .ty "bool") rfl B.bool PyProof.Rows.boot_bool rfl) pa_nil)))))))), ?_⟩
  refine ⟨_, rfl, _, _, _, _, rfl, .int _, kit_ii K, _, rfl, iteBT rfl ?_⟩
  exact ⟨_, rfl, _, _, _, _, rfl, .int _, kit_ib K, _, rfl, q⟩
theorem scNu : FnScope ["found", "many", "number"] ["found", "many"] (defScope sNu) := ⟨rfl, rfl, rfl, by decide +kernel, rfl, by decide +kernel, by decide +kernel⟩

def spNu : Sp := fun vs H Q _ => ∃ (p : Addr) (ns : List Int) (n : Nat), vs = [.ref p, .int n] ∧ H p = some (.lst (ns.map V.int)) ∧ ns.length = n ∧ Q (.bl true) H
theorem ok_nu {f : Addr} {fd : FuncData} (F : Fun K "_law_numbers" "_law_numbers" sNu f fd) (B : Blt mg) (cWh : Cal P w K mg base 1 "_law_whole" ["found"] spWh) : FnOk P w K mg base CX0 2 f fd ["found", "many"] spNu := by
  refine F.ok scNu (fun vs H Q E h => ?_) (fun cdv A outer s H vs Q E hr h => ?_)
  · obtain ⟨p, ns, n, rfl, _⟩ := h; rfl
  obtain ⟨p, ns, n, rfl, hp, hl, q⟩ := h
  refine ⟨_, (pss_cons (ps_if (PW.pt (pw_or (pt_not (pt_val (pe_callB call_isinst rfl B.isinst PyProof.Rows.boot_isinstance (pa_cons (pv 0) (pa_cons (pe_bltn (v := .ty "list") rfl B.list PyProof.Rows.boot_list rfl) pa_nil))))) (pw_or1 (pt_cmpR op_ne (pe_callB call_len_seq rfl B.len PySem.boot_len (pa_cons (pv 0) pa_nil)) (pv 1) (nomark _))))) pss_never pss_nil)
    (pss_cons (ps_for PassesOwn.never rfl (pi_list (pv 0)) (pg_name (i := 2) scNu.nd rfl (Or.inl rfl)) (pss_one (ps_if (pt_not (pt_val (pe_cal cWh hr rfl (pa_cons (pv 2) pa_nil)))) pss_never pss_nil)))
    (pss_one (ps_ret pe_bl)))), ?_⟩
  refine ⟨_, rfl, _, _, _, _, rfl, .lst hp, kit_ll K, _, rfl, iteB rfl ?_⟩
  refine ⟨_, rfl, p, _, rfl, .inl (SqL.of hp), _, rfl, rfl, _, rfl, iteB (by rw [List.length_map, hl]; simp) ?_⟩
  refine ⟨_, rfl, p, rfl, ⟨_, SqL.of hp⟩, ?_⟩
  refine for_list (xs := ns.map V.int) (fun i σ H' => H' = H ∧ ∃ o2, σ = [some (.ref p), some (.int n), o2]) ⟨rfl, _, rfl⟩ (fun i σ H' _ ⟨e, _⟩ => by rw [e]; exact SqL.of hp) ?_ ?_
  · rintro i v σ H' hv ⟨rfl, o2, rfl⟩
    obtain ⟨y, hy, rfl⟩ := mapI_get hv
    exact ⟨_, rfl, y, rfl, _, rfl, iteB rfl ⟨rfl, _, rfl⟩⟩
  · rintro σ H' ⟨rfl, o2, rfl⟩
    exact q
theorem scWb : FnScope ["script", "most", "one", "houses", "ties", "k", "many", "cell", "other", "names", "rest", "house"] ["script", "most"] (defScope sWb) := ⟨rfl, rfl, rfl, by decide +kernel, rfl, by decide +kernel, by decide +kernel⟩
theorem nd_scWb_0 : (["pair", "names"] : List Str).Nodup := by decide +kernel

def spWb (K : PySem.W.Frag) : Sp := fun vs H Q _ => ∃ (a : Addr) (ns : List Int) (m : Nat), vs = [.ref a, .int m] ∧ SqL K H a (ns.map V.int) ∧ 1 ≤ m ∧ m ≤ 8 ∧
  ∀ (z pt : Addr) (n st : Nat) (zs : List V) (T : List (Int × Int)) (H' : Hp), Same H H' → H' z = some (.tup [.int n, .ref pt, .int st]) → H' pt = some (.lst zs) → Pairs H' zs T → Good n T → 1 ≤ n → n ≤ 8 → n ≤ m → n ≤ st → st ≤ 40 → Q (.ref z) H'
set_option maxHeartbeats 8000000 in
theorem ok_wb {f : Addr} {fd : FuncData} (F : Fun K "_law_web" "_law_web" sWb f fd) (B : Blt mg) (cCe : Cal P w K mg base 1 "_law_cell_at" ["script", "k"] (spCe K)) : FnOk P w K mg base CX0 2 f fd ["script", "most"] (spWb K) := by
  refine F.ok scWb (fun vs H Q E h => ?_) (fun cdv A outer s H vs Q E hr h => ?_)
  · obtain ⟨a, ns, m, rfl, _⟩ := h; rfl
  obtain ⟨a, ns, m, rfl, hS, m1, m8, q⟩ := h
  refine ⟨_, (pss_cons (ps_set (i := 2) scWb.nd rfl (Or.inl rfl) (pe_op op_mod (pe_cal cCe hr rfl (pa_cons (pv 0) (pa_cons pe_int pa_nil))) (pe_op op_pow pe_int pe_int)))
    (pss_cons (ps_set (i := 3) scWb.nd rfl (Or.inl rfl) (pe_op op_add pe_int (pe_op op_mod (pv 2) (pv 1))))
    (pss_cons (ps_set (i := 4) scWb.nd rfl (Or.inl rfl) (pe_lst pa_nil))
    (pss_cons (ps_for PassesOwn.never rfl (pi_range2 rfl B.range (pa_cons pe_int (pa_cons (pv 3) pa_nil))) (pg_name (i := 5) scWb.nd rfl (Or.inl rfl)) (pss_one (ps_expr (pe_bm PySem.F.plainAttrs_list PySem.F.slot_list_append PySem.F.type_list_append mt_append (pv 4) (pa_cons (pe_tup (pa_cons (pe_op op_mod (pe_cal cCe hr rfl (pa_cons (pv 0) (pa_cons (pv 5) pa_nil))) (pv 5)) (pa_cons (pv 5) pa_nil))) pa_nil)))))
    (pss_cons (ps_set (i := 6) scWb.nd rfl (Or.inl rfl) (pe_op op_mod (pe_op op_fdiv (pv 2) (pv 1)) (pe_op op_sub pe_int (pv 1))))
    (pss_cons (ps_join (ps_if (pt_cmpR op_eq (pv 3) pe_int (nomark _)) (pss_one (ps_set (i := 6) scWb.nd rfl (Or.inl rfl) pe_int)) pss_nil))
    (pss_cons (ps_for PassesOwn.never rfl (pi_range1 rfl B.range (pa_cons (pv 6) pa_nil)) (pg_name (i := 5) scWb.nd rfl (Or.inl rfl)) (pss_cons (ps_set (i := 7) scWb.nd rfl (Or.inl rfl) (pe_op op_mod (pe_cal cCe hr rfl (pa_cons (pv 0) (pa_cons (pe_op op_add (pv 3) (pv 5)) pa_nil))) (pe_op op_pow pe_int pe_int)))
    (pss_cons (ps_set (i := 8) scWb.nd rfl (Or.inl rfl) (pe_op op_mod (pe_op op_add (pe_op op_add (pe_op op_mod (pv 7) (pv 3)) pe_int) (pe_op op_mod (pe_op op_fdiv (pv 7) (pv 3)) (pe_op op_sub (pv 3) pe_int))) (pv 3)))
    (pss_one (ps_expr (pe_bm PySem.F.plainAttrs_list PySem.F.slot_list_append PySem.F.type_list_append mt_append (pv 4) (pa_cons (pe_tup (pa_cons (pe_op op_mod (pv 7) (pv 3)) (pa_cons (pv 8) pa_nil))) pa_nil)))))))
    (pss_cons (ps_set (i := 9) scWb.nd rfl (Or.inr rfl) (pe_lst pa_nil))
    (pss_cons (ps_set (i := 10) scWb.nd rfl (Or.inl rfl) (pe_op op_fdiv (pv 2) (pe_op op_mul (pv 1) pe_int)))
    (pss_cons (ps_for PassesOwn.never rfl (pi_range1 rfl B.range (pa_cons (pv 3) pa_nil)) (pg_name (i := 11) scWb.nd rfl (Or.inl rfl)) (pss_cons (ps_expr (pe_bm PySem.F.plainAttrs_list PySem.F.slot_list_insert PySem.F.type_list_insert mt_insert (pv 9) (pa_cons (pe_op op_sub (pv 11) (pe_op op_mod (pv 10) (pe_op op_add (pv 11) pe_int))) (pa_cons (pv 11) pa_nil))))
    (pss_one (ps_set (i := 10) scWb.nd rfl (Or.inl rfl) (pe_op op_fdiv (pv 10) (pe_op op_add (pv 11) pe_int))))))
    (pss_cons (ps_setComp (i := 4) (N' := ["pair", "names"]) (mp := [none, some 9]) (g := (gName 0)) (tt := tYes) (te := (tTup (tCons (tOp (rIxL K) (tVar 1) (tOp (rIxT K) (tVar 0) (tC (.int 0)))) (tCons (tOp (rIxL K) (tVar 1) (tOp (rIxT K) (tVar 0) (tC (.int 1)))) tNil)))) scWb.nd rfl (Or.inl rfl) (CompOk.of (by kernel_rfl)) rfl (pi_list (pv 4)) (fun C s H fp => (pg_name (i := 0) nd_scWb_0 rfl (Or.inl rfl))) (fun C s H fp => pts_nil) (fun C s H fp => (pe_tup (pa_cons (pe_ix ix_list (pv 1) (pe_ix ix_tup (pv 0) pe_int (fun _ _ => rfl)) (fun _ _ => rfl)) (pa_cons (pe_ix ix_list (pv 1) (pe_ix ix_tup (pv 0) pe_int (fun _ _ => rfl)) (fun _ _ => rfl)) pa_nil)))))
    (pss_one (ps_ret (pe_tup (pa_cons (pv 3) (pa_cons (pv 4) (pa_cons (pe_op op_add (pv 3) (pv 6)) pa_nil))))))))))))))))), ?_⟩
  refine ⟨_, rfl, a, ns, 0, rfl, hS, by decide, _, _, rfl, rfl, ⟨by decide, by decide, by decide⟩, _, _, rfl, rfl, (by show (0 : Int) < 10 ^ (30 : Int).toNat; decide), ?_⟩
  have c0 := Int.emod_nonneg (ns.getD (0 : Int).toNat 0) (show (10 : Int) ^ (30 : Int).toNat ≠ 0 by decide)
  show tSeq _ _ _ ((start _ _).set 2 (some (.int (ns.getD (0 : Int).toNat 0 % 10 ^ (30 : Int).toNat)))) H
  generalize ns.getD (0 : Int).toNat 0 % 10 ^ (30 : Int).toNat = one at c0 ⊢
  have m0 := Int.emod_nonneg one (show (m : Int) ≠ 0 by omega)
  have m2 := Int.emod_lt_of_pos one (show (0 : Int) < m by omega)
  obtain ⟨n, hn⟩ : ∃ n : Nat, (n : Int) = 1 + one % m := ⟨(1 + one % m).toNat, by omega⟩
  have n1 : 1 ≤ n := by omega
  have nm : n ≤ m := by omega
  have n8 : n ≤ 8 := by omega
  refine ⟨_, rfl, _, rfl, _, _, rfl, rfl, (by show (0 : Int) < m; omega), _, _, rfl, rfl, ?_⟩
  show tSeq _ _ _ (List.set _ 3 (some (.int (1 + one % m)))) H
  rw [← hn]
  clear m0 m2 hn
  refine ⟨by show 0 ≤ sizeLine; decide, fun pt hpt => ?_⟩
  refine ⟨_, rfl, 1, n, rfl, ⟨by omega, by omega, by omega, by omega⟩, ?_⟩
  refine for_range (n := ((n : Int) - 1).toNat) (fun i σ H' => ∃ (o5 : Option V) (ys : List V) (T : List (Int × Int)), σ = [some (.ref a), some (.int m), some (.int one), some (.int n), some (.ref pt), o5, none, none, none, none, none, none] ∧ Same H H' ∧ H' pt = some (.lst ys) ∧ Pairs H' ys T ∧
    T.length = i ∧ (∀ t ∈ T, inb n t) ∧ ∀ k : Int, 1 ≤ k → k < (i : Int) + 1 → ∃ p, 0 ≤ p ∧ p < k ∧ (p, k) ∈ T) ⟨none, [], [], rfl, same_new hpt _, upd_same, .nil, rfl, (fun t ht => nomatch ht), fun k h1 h2 => by omega⟩ ?_ ?_
  · rintro i σ H' hi ⟨o5, ys, T, rfl, e1, hy, hP, hTl, hTb, hTt⟩
    have hyl := hP.length
    generalize hk : (1 : Int) + (i : Int) = k
    have k1 : 1 ≤ k := by omega
    have kn : k < n := by omega
    have m0 := Int.emod_nonneg (ns.getD k.toNat 0) (show k ≠ 0 by omega)
    have m1' := Int.emod_lt_of_pos (ns.getD k.toNat 0) (show (0 : Int) < k by omega)
    refine ⟨_, rfl, .inl ⟨rfl, _, SqL.of hy⟩, _, rfl, _, rfl, a, ns, _, rfl, e1.seq hS, by omega, _, rfl, _, _, rfl, rfl, by show (0 : Int) < k; omega, _, rfl, by show 2 ≤ sizeLine; decide, fun p hp => ?_⟩
    refine ⟨pt, ys, _, rfl, rfl, (same_new hp _) _ _ hy, small1000 (by omega), ?_⟩
    have e2 : Same H' (upd H' p (.tup [.int (ns.getD k.toNat 0 % k), .int k])) := same_new hp _
    refine ⟨_, _, T ++ [((ns.getD k.toNat 0 % k), k)], rfl, same_upd hpt (e1.trans e2) _, upd_same, ?_, ?_, ?_, ?_⟩
    · have hP2 : Pairs (upd H' p (.tup [.int (ns.getD k.toNat 0 % k), .int k])) (ys ++ [.ref p]) (T ++ [((ns.getD k.toNat 0 % k), k)]) := (hP.same e2).append (Pairs.one ⟨p, rfl, upd_same⟩)
      exact pairs_upd hP2 (e2 _ _ hy) _
    · rw [List.length_append, List.length_singleton, hTl]
    · intro t ht
      rcases List.mem_append.mp ht with ht | ht
      · exact hTb t ht
      · rw [List.mem_singleton.mp ht]
        exact ⟨m0, by show (ns.getD k.toNat 0 % k) < n; omega, by show (0 : Int) ≤ k; omega, by show k < n; omega, by show (ns.getD k.toNat 0 % k) ≠ k; omega⟩
    · intro k' h1 h2
      by_cases hk' : k' < (i : Int) + 1
      · obtain ⟨p', q0, q1, q2⟩ := hTt k' h1 hk'
        exact ⟨p', q0, q1, List.mem_append_left _ q2⟩
      · have ek : k' = k := by omega
        subst ek
        exact ⟨_, m0, m1', List.mem_append_right _ List.mem_cons_self⟩
  rintro σ H1 ⟨o5, ys, T, rfl, e1, hy, hP, hTl, hTb, hTt⟩
  -- more ties
  have r0 := Int.emod_nonneg (one / m) (show (18 : Int) - m ≠ 0 by omega)
  have r1 := Int.emod_lt_of_pos (one / m) (show (0 : Int) < 18 - m by omega)
  refine ⟨_, rfl, _, rfl, _, _, rfl, rfl, ⟨by show (0 : Int) < m; omega, by show (m : Int) < 1073741824; omega⟩, _, rfl, _, _, rfl, rfl, _, _, rfl, rfl, (by show (0 : Int) < 18 - m; omega), ?_⟩
  show tSeq _ _ _ (List.set _ 6 (some (.int (one / m % (18 - m))))) H1
  generalize one / m % (18 - (m : Int)) = k0 at r0 r1 ⊢
  refine ⟨fun σ' H' => ∃ k0 : Nat, σ' = [some (.ref a), some (.int m), some (.int one), some (.int n), some (.ref pt), o5, some (.int k0), none, none, none, none, none] ∧ H' = H1 ∧ (k0 : Int) < 18 - m ∧ (n = 1 → k0 = 0), ?_, ?_⟩
  · refine ⟨_, rfl, rfl, _, rfl, ?_⟩
    by_cases c1 : n = 1
    · refine iteBT (by rw [c1]; decide) ?_
      exact ⟨0, rfl, rfl, by omega, fun _ => rfl⟩
    · refine iteB (by simp only [V.int.injEq, decide_eq_false_iff_not]; omega) ?_
      exact ⟨k0.toNat, by rw [show ((k0.toNat : Nat) : Int) = k0 by omega]; rfl, rfl, by omega, fun w => absurd w c1⟩
  clear r0 r1 k0
  rintro σ' H1' ⟨k0, rfl, rfl, hk0, hk1⟩
  refine ⟨_, rfl, k0, rfl, by omega, by omega, ?_⟩
  refine for_range (n := (k0 : Int).toNat) (fun i σ H' => ∃ (o5 o7 o8 : Option V) (ys' : List V) (U : List (Int × Int)), σ = [some (.ref a), some (.int m), some (.int one), some (.int n), some (.ref pt), o5, some (.int k0), o7, o8, none, none, none] ∧ Same H H' ∧ H' pt = some (.lst ys') ∧
    Pairs H' ys' U ∧ U.length ≤ (n - 1) + i ∧ (∀ t ∈ U, inb n t) ∧ ∀ t ∈ T, t ∈ U) ⟨o5, none, none, ys, T, rfl, e1, hy, hP, by omega, hTb, fun t ht => ht⟩ ?_ ?_
  · rintro i σ H' hi ⟨o5, o7, o8, ys', U, rfl, a1, a3, a4, a5, a6, a7⟩
    rw [Int.zero_add]
    have hyl := a4.length
    have g1' : (1 : Int) < n := by
      rcases Nat.lt_or_ge 1 n with w | w
      · omega
      · have := hk1 (by omega); omega
    refine ⟨_, rfl, _, rfl, _, rfl, _, _, rfl, rfl, a, ns, _, rfl, a1.seq hS, (by show (0 : Int) ≤ (n : Int) + (i : Int); omega), _, _, rfl, rfl, ⟨by decide, by decide, by decide⟩, _, _, rfl, rfl, (by show (0 : Int) < 10 ^ (30 : Int).toNat; decide), ?_⟩
    show tSeq _ _ _ (List.set _ 7 (some (.int (ns.getD ((n : Int) + (i : Int)).toNat 0 % 10 ^ (30 : Int).toNat)))) H'
    generalize ns.getD ((n : Int) + (i : Int)).toNat 0 % 10 ^ (30 : Int).toNat = c
    have b0 := Int.emod_nonneg c (show (n : Int) ≠ 0 by omega)
    have b1 := Int.emod_lt_of_pos c (show (0 : Int) < n by omega)
    have d0 := Int.emod_nonneg (c / n) (show (n : Int) - 1 ≠ 0 by omega)
    have d1 := Int.emod_lt_of_pos (c / n) (show (0 : Int) < (n : Int) - 1 by omega)
    refine ⟨_, rfl, _, rfl, _, _, rfl, rfl, (by show (0 : Int) < n; omega), _, _, rfl, rfl, _, rfl, _, rfl, _, _, rfl, rfl, ⟨by show (0 : Int) < n; omega, by show (n : Int) < 1073741824; omega⟩, _, rfl, _, _, rfl, rfl, _, _, rfl, rfl, by show (0 : Int) < (n : Int) - 1; omega, _, _, rfl, rfl, _, rfl, _, _, rfl, rfl, by show (0 : Int) < n; omega, ?_⟩
    refine ⟨_, rfl, .inl ⟨rfl, _, SqL.of a3⟩, _, rfl, _, rfl, _, _, rfl, rfl, (by show (0 : Int) < n; omega), _, rfl, by show 2 ≤ sizeLine; decide, fun p hp => ?_⟩
    refine ⟨pt, ys', _, rfl, rfl, (same_new hp _) _ _ a3, small1000 (by omega), ?_⟩
    have e2 : Same H' (upd H' p (.tup [.int (c % n), .int ((c % n + 1 + c / n % ((n : Int) - 1)) % n)])) := same_new hp _
    refine ⟨_, _, _, ys' ++ [.ref p], U ++ [(c % n, (c % n + 1 + c / n % ((n : Int) - 1)) % n)], rfl, same_upd hpt (a1.trans e2) _, upd_same, ?_, ?_, ?_, fun t ht => List.mem_append_left _ (a7 t ht)⟩
    · have hP2 : Pairs (upd H' p (.tup [.int (c % n), .int ((c % n + 1 + c / n % ((n : Int) - 1)) % n)])) (ys' ++ [.ref p]) (U ++ [(c % n, (c % n + 1 + c / n % ((n : Int) - 1)) % n)]) :=
        (a4.same e2).append (Pairs.one ⟨p, rfl, upd_same⟩)
      exact pairs_upd hP2 (e2 _ _ a3) _
    · rw [List.length_append, List.length_singleton]; omega
    · intro t ht
      rcases List.mem_append.mp ht with ht | ht
      · exact a6 t ht
      · rw [List.mem_singleton.mp ht]
        exact other_ne b0 b1 d0 d1
  rintro σ H2 ⟨o5, o7, o8, ys', U, rfl, a1, a3, a4, a5, a6, a7⟩
  have hG : Good n U := ⟨by omega, a6, conn_tree fun k h1 h2 => by
    obtain ⟨p, p0, p1, p2⟩ := hTt k h1 (by omega)
    exact ⟨p, p0, p1, a7 _ p2⟩⟩
  have hyl := a4.length
  have hU16 := hG.len
  -- names
  refine ⟨by show 0 ≤ sizeLine; decide, fun po hpo => ?_⟩
  have f3 := same_new hpo (.lst [])
  refine ⟨_, rfl, _, rfl, _, _, rfl, rfl, .inr ⟨by decide, by decide⟩, _, _, rfl, rfl, ⟨by show (0 : Int) < (m : Int) * 20; omega, by show (m : Int) * 20 < 1073741824; omega⟩, ?_⟩
  have e02 := a1.trans f3
  have hpoH : H po = none := a1.free hpo
  refine ⟨_, rfl, n, rfl, by omega, by omega, ?_⟩
  refine for_range (n := (n : Int).toNat) (fun i σ H' => ∃ (d : Int) (o11 : Option V) (o : List Int), σ = [some (.ref a), some (.int m), some (.int one), some (.int n), some (.ref pt), o5, some (.int k0), o7, o8, some (.ref po), some (.int d), o11] ∧ Same H H' ∧ Same H2 H' ∧ H' po = some (.lst (o.map V.int)) ∧ o.Perm (hs i))
    ⟨_, none, [], rfl, e02, f3, upd_same, .nil⟩ ?_ ?_
  · rintro i σ H' hi ⟨d, o11, o, rfl, e3, e23, ho, hp⟩
    rw [Int.zero_add]
    have hol : o.length = i := by rw [hp.length_eq, hs_length]
    have hm0 := Int.emod_nonneg d (show (i : Int) + 1 ≠ 0 by omega)
    have hm1 := Int.emod_lt_of_pos d (show 0 < (i : Int) + 1 by omega)
    refine ⟨_, rfl, .inl ⟨rfl, _, SqL.of ho⟩, _, rfl, _, rfl, _, rfl, _, _, rfl, rfl, _, _, rfl, rfl, (by show (0 : Int) < (i : Int) + 1; omega), _, _, rfl, rfl, _, rfl, po, _, _, _, rfl, rfl, ho, by omega, by rw [List.length_map]; omega, by rw [List.length_map]; exact small1000 (by omega), ?_⟩
    refine ⟨_, rfl, _, rfl, _, _, rfl, rfl, _, _, rfl, rfl, ⟨by show (0 : Int) < (i : Int) + 1; omega, by show (i : Int) + 1 < 1073741824; omega⟩, ?_⟩
    refine ⟨_, _, o.take ((i : Int) - d % ((i : Int) + 1)).toNat ++ (i : Int) :: o.drop ((i : Int) - d % ((i : Int) + 1)).toNat, rfl, same_upd hpoH e3 _, same_upd hpo e23 _, ?_, ?_⟩
    · rw [upd_same, List.map_append, List.map_cons, List.map_take, List.map_drop]
    · refine (ins_perm _ _ _).trans ?_
      rw [hs_succ]
      exact (hp.cons _).trans (List.perm_append_singleton (i : Int) (hs i)).symm
  rintro σ H3 ⟨d, o11, o, rfl, e03, e23, ho, hp⟩
  rw [show ((n : Int).toNat) = n by omega] at hp
  have hol : o.length = n := by rw [hp.length_eq, hs_length]
  have P3 := a4.same e23
  have y3 := e23 _ _ a3
  refine ⟨_, rfl, pt, rfl, ⟨ys', SqL.of y3⟩, ?_⟩
  refine comp_list (xs := ys') (fun i σ H4 acc => Same H3 H4 ∧ (∃ o1, σ = [o1, some (.ref po)]) ∧ Pairs H4 acc ((U.take i).map (ren o))) ⟨Same.refl _, ⟨_, rfl⟩, .nil⟩ ?_ (Nat.le_of_lt (small1000 (by omega))) ?_ ?_
  · rintro i σ H4 acc hi ⟨e4, _, p1⟩
    refine ⟨SqL.of (e4 _ _ y3), ?_⟩
    have := p1.length
    rw [List.length_map, List.length_take] at this
    omega
  · rintro i x σ H4 acc hx ⟨e4, ⟨o1, rfl⟩, p1⟩
    obtain ⟨t, ht, r, rfl, hr'⟩ := (P3.same e4).get hx
    obtain ⟨c0, c1, b0, b1, _⟩ := hG.rng t (List.mem_of_getElem? ht)
    refine ⟨_, rfl, _, rfl, r, _, _, _, rfl, rfl, SqT.of hr', rfl, po, _, _, _, rfl, rfl, SqL.of (e4 _ _ ho), atI_ints c0 (by omega), _, rfl, _, rfl, r, _, _, _, rfl, rfl, SqT.of hr', rfl, po, _, _, _, rfl, rfl, SqL.of (e4 _ _ ho), atI_ints b0 (by omega), by show 2 ≤ sizeLine; decide, fun p hn => ?_⟩
    refine ⟨e4.trans (same_new hn _), ⟨_, rfl⟩, ?_⟩
    rw [take_one ht, List.map_append]
    exact (p1.same (same_new hn _)).append (Pairs.one ⟨p, rfl, upd_same⟩)
  rintro σ H4 acc ⟨e4, _, p1⟩ pc hpc
  rw [hyl, List.take_length] at p1
  have f5 := same_new hpc (.lst acc)
  have e05 := (e03.trans e4).trans f5
  have P5 := p1.same f5
  have y5 : upd H4 pc (.lst acc) pc = some (.lst acc) := upd_same
  have hG2 := good_ren hp hG
  generalize upd H4 pc (.lst acc) = H5 at f5 e05 P5 y5 ⊢
  refine ⟨_, rfl, _, rfl, _, rfl, _, rfl, _, _, rfl, rfl, by show 3 ≤ sizeLine; decide, fun z hz => ?_⟩
  have f6 := same_new hz (.tup [.int n, .ref pc, .int ((n : Int) + (k0 : Int))])
  exact q z pc n (n + k0) acc _ _ (e05.trans f6) (by rw [upd_same, show ((n + k0 : Nat) : Int) = (n : Int) + (k0 : Int) by omega]) (f6 _ _ y5) (P5.same f6) hG2 n1 n8 nm (by omega) (by omega)
theorem scOr : FnScope ["script", "start", "houses", "order", "k"] ["script", "start", "houses"] (defScope sOr) := ⟨rfl, rfl, rfl, by decide +kernel, rfl, by decide +kernel, by decide +kernel⟩

def spOr (K : PySem.W.Frag) : Sp := fun vs H Q _ => ∃ (a : Addr) (ns : List Int) (s0 n : Nat), vs = [.ref a, .int s0, .int n] ∧ SqL K H a (ns.map V.int) ∧ n ≤ 8 ∧ ∀ (r : Addr) (o : List Int) (H' : Hp), H r = none → Same H H' → H' r = some (.lst (o.map V.int)) → o.Perm (hs n) → Q (.ref r) H'
theorem ok_or {f : Addr} {fd : FuncData} (F : Fun K "_law_order" "_law_order" sOr f fd) (B : Blt mg) (cCe : Cal P w K mg base 1 "_law_cell_at" ["script", "k"] (spCe K)) : FnOk P w K mg base CX0 2 f fd ["script", "start", "houses"] (spOr K) := by
  refine F.ok scOr (fun vs H Q E h => ?_) (fun cdv A outer s H vs Q E hr h => ?_)
  · obtain ⟨a, ns, s0, n, rfl, _⟩ := h; rfl
  obtain ⟨a, ns, s0, n, rfl, hS, n8, q⟩ := h
  refine ⟨_, (pss_cons (ps_set (i := 3) scOr.nd rfl (Or.inl rfl) (pe_lst pa_nil))
    (pss_cons (ps_for PassesOwn.never rfl (pi_range1 rfl B.range (pa_cons (pv 2) pa_nil)) (pg_name (i := 4) scOr.nd rfl (Or.inl rfl)) (pss_one (ps_expr (pe_bm PySem.F.plainAttrs_list PySem.F.slot_list_insert PySem.F.type_list_insert mt_insert (pv 3) (pa_cons (pe_op op_mod (pe_cal cCe hr rfl (pa_cons (pv 0) (pa_cons (pe_op op_add (pv 1) (pv 4)) pa_nil))) (pe_op op_add (pe_callB call_len_seq rfl B.len PySem.boot_len (pa_cons (pv 3) pa_nil)) pe_int)) (pa_cons (pv 4) pa_nil))))))
    (pss_one (ps_ret (pv 3))))), ?_⟩
  refine ⟨by show 0 ≤ sizeLine; decide, fun po hpo => ?_⟩
  refine ⟨_, rfl, n, rfl, by omega, by omega, ?_⟩
  refine for_range (n := (n : Int).toNat) (fun i σ H' => ∃ (o4 : Option V) (o : List Int), σ = [some (.ref a), some (.int s0), some (.int n), some (.ref po), o4] ∧ Same H H' ∧ H' po = some (.lst (o.map V.int)) ∧ o.Perm (hs i))
    ⟨none, [], rfl, same_new hpo _, upd_same, .nil⟩ ?_ ?_
  · rintro i σ H' hi ⟨o4, o, rfl, e1, ho, hp⟩
    rw [Int.zero_add]
    have hol : o.length = i := by rw [hp.length_eq, hs_length]
    have hm0 := Int.emod_nonneg (ns.getD ((s0 : Int) + (i : Int)).toNat 0) (show (((o.map V.int).length : Nat) : Int) + 1 ≠ 0 by omega)
    have hm1 := Int.emod_lt_of_pos (ns.getD ((s0 : Int) + (i : Int)).toNat 0) (show 0 < (((o.map V.int).length : Nat) : Int) + 1 by omega)
    refine ⟨_, rfl, .inl ⟨rfl, _, SqL.of ho⟩, _, rfl, _, rfl, _, rfl, _, _, rfl, rfl, a, ns, _, rfl, e1.seq hS, (by show (0 : Int) ≤ (s0 : Int) + (i : Int); omega), _, rfl, po, _, rfl, .inl (SqL.of ho), _, _, rfl, rfl, _, _, rfl, rfl, (by show (0 : Int) < (((o.map V.int).length : Nat) : Int) + 1; omega), _, rfl, po, _, _, _, rfl, rfl, ho, hm0, by omega, by rw [List.length_map]; exact small1000 (by omega), ?_⟩
    refine ⟨_, o.take (ns.getD ((s0 : Int) + (i : Int)).toNat 0 % ((((o.map V.int).length : Nat) : Int) + 1)).toNat ++ (i : Int) :: o.drop (ns.getD ((s0 : Int) + (i : Int)).toNat 0 % ((((o.map V.int).length : Nat) : Int) + 1)).toNat, rfl, same_upd hpo e1 _, ?_, ?_⟩
    · rw [upd_same, List.map_append, List.map_cons, List.map_take, List.map_drop]
    · refine (ins_perm _ _ _).trans ?_
      rw [hs_succ]
      exact (hp.cons _).trans (List.perm_append_singleton (i : Int) (hs i)).symm
  rintro σ H' ⟨o4, o, rfl, e1, ho, hp⟩
  rw [show ((n : Int).toNat) = n by omega] at hp
  exact ⟨_, rfl, q po o H' hpo e1 ho hp⟩
theorem scLb : FnScope ["houses", "ties", "order", "most", "place", "k", "one", "other"] ["houses", "ties", "order"] (defScope sLb) := ⟨rfl, rfl, rfl, by decide +kernel, rfl, by decide +kernel, by decide +kernel⟩

theorem repm (n : Nat) (m : Int) : (List.replicate n [V.int m]).flatten = ((hs n).map fun _ => m).map V.int := by
  induction n with
  | zero => rfl
  | succ n ih => rw [List.replicate_succ', List.flatten_append, ih, hs_succ, List.map_append, List.map_append]; rfl
theorem bdf_snoc (f : Int → Int) (T : List (Int × Int)) (t : Int × Int) (x : Int) : bdf f (T ++ [t]) x = if x = lat f t then bdf f T (lat f t) + 1 else bdf f T x := by
  unfold bdf
  rw [List.countP_append, List.countP_singleton]
  by_cases c : lat f t = x
  · rw [if_pos (decide_eq_true c), if_pos c.symm, c]; omega
  · rw [if_neg (by rw [decide_eq_false c]; decide), if_neg (fun w => c w.symm)]; omega
theorem nodup_ixg {l : List Int} (h : l.Nodup) {i j : Nat} (hi : i < l.length) (hj : j < l.length) (e : l[i] = l[j]) : i = j := by
  rcases Nat.lt_trichotomy i j with c | c | c
  · exact absurd e (List.pairwise_iff_getElem.mp h i j hi hj c)
  · exact c
  · exact absurd e.symm (List.pairwise_iff_getElem.mp h j i hj hi c)
def spLb : Sp := fun vs H Q _ => ∃ (p g : Addr) (n : Nat) (zs : List V) (T T' : List (Int × Int)) (o : List Int), vs = [.int n, .ref p, .ref g] ∧ H p = some (.lst zs) ∧ Pairs H zs T ∧ (∀ t ∈ T, inb n t) ∧ (∀ t ∈ T', inb n t) ∧ (∀ t ∈ T', t.1 < t.2) ∧ T'.Perm (T.map nrm) ∧ n ≤ 8 ∧ H g = some (.lst (o.map V.int)) ∧ o.Perm (hs n) ∧
  ∀ (r : Addr) (H' : Hp), H r = none → Same H H' → H' r = some (.lst ((boL n T' o).map V.int)) → Q (.ref r) H'
set_option maxHeartbeats 2000000 in
theorem ok_lb {f : Addr} {fd : FuncData} (F : Fun K "_law_bound" "_law_bound" sLb f fd) (B : Blt mg) : FnOk P w K mg base CX0 1 f fd ["houses", "ties", "order"] spLb := by
  refine F.ok scLb (fun vs H Q E h => ?_) (fun cdv A outer s H vs Q E hr h => ?_)
  · obtain ⟨p, g, n, zs, T, T', o, rfl, _⟩ := h; rfl
  obtain ⟨p, g, n, zs, T, T', o, rfl, hp, hP, hT, hT', hN, hTp, n8, hg, hpo, q⟩ := h
  have hzl := hP.length
  have ho := Ord.of hpo
  have ol := ho.len
  refine ⟨_, (pss_cons (ps_set (i := 3) scLb.nd rfl (Or.inl rfl) (pe_op op_rep (pe_lst (pa_cons (pe_op op_sub pe_int pe_int) pa_nil)) (pv 0)))
    (pss_cons (ps_set (i := 4) scLb.nd rfl (Or.inl rfl) (pe_op op_rep (pe_lst (pa_cons pe_int pa_nil)) (pv 0)))
    (pss_cons (ps_for PassesOwn.never rfl (pi_range1 rfl B.range (pa_cons (pv 0) pa_nil)) (pg_name (i := 5) scLb.nd rfl (Or.inl rfl)) (pss_one (ps_asg (pv 5) (pg_sub (pv 4) (pe_ix ix_list (pv 2) (pv 5) (fun _ _ => rfl)) set_list))))
    (pss_cons (ps_for PassesOwn.never rfl (pi_list (pv 1)) (pg_tup rfl (pgs_cons (pg_name (i := 6) scLb.nd rfl (Or.inl rfl)) (pgs_cons (pg_name (i := 7) scLb.nd rfl (Or.inl rfl)) pgs_nil))) (pss_one (ps_if (pt_cmpR op_lt (pe_ix ix_list (pv 4) (pv 6) (fun _ _ => rfl)) (pe_ix ix_list (pv 4) (pv 7) (fun _ _ => rfl)) (nomark _)) (pss_one (ps_asg (pe_op op_add (pe_ix ix_list (pv 3) (pv 7) (fun _ _ => rfl)) pe_int) (pg_sub (pv 3) (pv 7) set_list))) (pss_one (ps_asg (pe_op op_add (pe_ix ix_list (pv 3) (pv 6) (fun _ _ => rfl)) pe_int) (pg_sub (pv 3) (pv 6) set_list))))))
    (pss_one (ps_ret (pv 3))))))), ?_⟩
  refine ⟨_, _, rfl, rfl, by show 1 ≤ sizeLine; decide, fun p1 hp1 => ?_⟩
  have e1 := same_new hp1 (.lst [.int (0 - 1)])
  refine ⟨_, rfl, p1, n, _, rfl, rfl, upd_same, by omega, by omega, by show 1 * (n : Int).toNat ≤ sizeLine; exact Nat.le_of_lt (small1000 (by omega)), fun p2 hp2 => ?_⟩
  rw [show (n : Int).toNat = n by omega, repm]
  have e2 := e1.trans (same_new hp2 (.lst (((hs n).map fun _ => (0 - 1 : Int)).map V.int)))
  have h2 : upd (upd H p1 (.lst [.int (0 - 1)])) p2 (.lst (((hs n).map fun _ => (0 - 1 : Int)).map V.int)) p2 = some (.lst (((hs n).map fun _ => (0 - 1 : Int)).map V.int)) := upd_same
  have hp2H : H p2 = none := e1.free hp2
  generalize upd (upd H p1 (.lst [.int (0 - 1)])) p2 (.lst (((hs n).map fun _ => (0 - 1 : Int)).map V.int)) = H2 at e2 h2 ⊢
  refine ⟨by show 1 ≤ sizeLine; decide, fun p3 hp3 => ?_⟩
  have f3 := same_new hp3 (.lst [.int 0])
  refine ⟨_, rfl, p3, n, _, rfl, rfl, upd_same, by omega, by omega, by show 1 * (n : Int).toNat ≤ sizeLine; exact Nat.le_of_lt (small1000 (by omega)), fun p4 hp4 => ?_⟩
  rw [show (n : Int).toNat = n by omega, rep0]
  have f4 := f3.trans (same_new hp4 (.lst (((hs n).map fun _ => (0 : Int)).map V.int)))
  have h4 : upd (upd H2 p3 (.lst [.int 0])) p4 (.lst (((hs n).map fun _ => (0 : Int)).map V.int)) p4 = some (.lst (((hs n).map fun _ => (0 : Int)).map V.int)) := upd_same
  have hp4H : H2 p4 = none := f3.free hp4
  generalize upd (upd H2 p3 (.lst [.int 0])) p4 (.lst (((hs n).map fun _ => (0 : Int)).map V.int)) = H4 at f4 h4 ⊢
  refine ⟨_, rfl, n, rfl, by omega, by omega, ?_⟩
  refine for_range (n := (n : Int).toNat) (fun i σ H' => (∃ o5 : Option V, σ = [some (.int n), some (.ref p), some (.ref g), some (.ref p2), some (.ref p4), o5, none, none]) ∧ Same H2 H' ∧ ∃ f : Int → Int, H' p4 = some (.lst (((hs n).map f).map V.int)) ∧ ∀ (j : Nat) (x : Int), j < i → o[j]? = some x → f x = (j : Int))
    ⟨⟨_, rfl⟩, f4, _, h4, fun j x hj => absurd hj (Nat.not_lt_zero j)⟩ ?_ ?_
  · rintro i σ H5 hi ⟨⟨o5, rfl⟩, e5, f, h5, hf⟩
    rw [Int.zero_add]
    have hil : i < o.length := by omega
    have hoi : o[i]? = some o[i] := List.getElem?_eq_getElem hil
    have hxr := ho.row.rng o[i] (List.getElem_mem hil)
    have hat : atI (o.map V.int) (i : Int) = some (.int o[i]) := atI_nat (by rw [List.getElem?_map, hoi]; rfl)
    refine ⟨_, rfl, _, rfl, _, rfl, _, rfl, g, _, _, _, rfl, rfl, SqL.of (e5 _ _ (e2 _ _ hg)), hat, p4, _, _, _, rfl, rfl, h5, ixN_hs' hxr.1 hxr.2, ?_⟩
    refine ⟨⟨_, rfl⟩, same_upd hp4H e5 _, fun y => if y = o[i] then (i : Int) else f y, by rw [upd_same, ← List.map_set, set_hs hxr.1 hxr.2], fun j x hj hx => ?_⟩
    by_cases c : j = i
    · subst c
      rw [hoi] at hx
      exact if_pos (Option.some.inj hx).symm
    · have hjl : j < o.length := by omega
      refine (if_neg ?_).trans (hf j x (by omega) hx)
      intro w
      rw [List.getElem?_eq_getElem hjl] at hx
      have := Option.some.inj hx
      rw [w] at this
      exact c (nodup_ixg ho.row.nd hjl hil this)
  rintro σ H5 ⟨⟨o5, rfl⟩, e5, f, h5, hf⟩
  rw [show (n : Int).toNat = n by omega] at hf
  have hpl : Plc1 n o f := ⟨ho, fun i x hx => hf i x (by have := (List.getElem?_eq_some_iff.mp hx).1; omega) hx⟩
  have e05 := e2.trans e5
  have hp24 : p2 ≠ p4 := fun w => by rw [← w, h2] at hp4H; cases hp4H
  refine ⟨_, rfl, p, rfl, ⟨_, SqL.of (e05 _ _ hp)⟩, ?_⟩
  refine for_list (xs := zs) (fun i σ H' => (∃ o6 o7 : Option V, σ = [some (.int n), some (.ref p), some (.ref g), some (.ref p2), some (.ref p4), o5, o6, o7]) ∧ Same H H' ∧ H' p4 = some (.lst (((hs n).map f).map V.int)) ∧ H' p2 = some (.lst (((hs n).map (bdf f (T.take i))).map V.int)))
    ⟨⟨_, _, rfl⟩, e05, h5, e5 _ _ h2⟩ (fun i σ H' _ ⟨_, e, _⟩ => SqL.of (e _ _ hp)) ?_ ?_
  · rintro i v σ H6 hv ⟨⟨o6, o7, rfl⟩, e6, h64, h62⟩
    obtain ⟨t, ht, x, rfl, hx⟩ := (hP.same e6).get hv
    obtain ⟨a0, a1, b0, b1, ne⟩ := hT t (List.mem_of_getElem? ht)
    have at4 : ∀ y : Int, 0 ≤ y → y < (n : Int) → atI (((hs n).map f).map V.int) y = some (.int (f y)) := fun y y0 y1 => by rw [List.map_map]; exact at_hs y0 y1
    have at2 : ∀ y : Int, 0 ≤ y → y < (n : Int) → atI (((hs n).map (bdf f (T.take i))).map V.int) y = some (.int (bdf f (T.take i) y)) := fun y y0 y1 => by rw [List.map_map]; exact at_hs y0 y1
    have fin : ∀ y : Int, 0 ≤ y → y < (n : Int) → lat f t = y → (((hs n).map (bdf f (T.take i))).map V.int).set y.toNat (.int (bdf f (T.take i) y + 1)) = ((hs n).map (bdf f (T.take (i + 1)))).map V.int := fun y y0 y1 hy => by
      rw [← List.map_set, set_hs y0 y1, take_one ht]
      refine congrArg (List.map V.int) (hs_congr fun z _ _ => ?_)
      rw [bdf_snoc, hy]
    refine ⟨x, _, rfl, SqT.of hx, rfl, _, _, rfl, _, _, rfl, rfl, ?_⟩
    refine ⟨_, rfl, _, rfl, p4, _, _, _, rfl, rfl, SqL.of h64, at4 _ a0 a1, _, rfl, _, rfl, p4, _, _, _, rfl, rfl, SqL.of h64, at4 _ b0 b1, _, _, rfl, rfl, _, rfl, ?_⟩
    refine ite2B (fun c => ?_) (fun c => ?_)
    · have c' : f t.1 < f t.2 := of_decide_eq_true c
      have hl : lat f t = t.2 := if_pos c'
      refine ⟨_, rfl, _, rfl, p2, _, _, _, rfl, rfl, SqL.of h62, at2 _ b0 b1, _, _, rfl, rfl, _, rfl, _, rfl, p2, _, _, _, rfl, rfl, h62, ixN_hs' b0 b1, ?_⟩
      exact ⟨⟨_, _, rfl⟩, same_upd hp2H e6 _, by rw [upd_ne (Ne.symm hp24)]; exact h64, by rw [upd_same, fin _ b0 b1 hl]⟩
    · have c' : ¬ f t.1 < f t.2 := of_decide_eq_false c
      have hl : lat f t = t.1 := if_neg c'
      refine ⟨_, rfl, _, rfl, p2, _, _, _, rfl, rfl, SqL.of h62, at2 _ a0 a1, _, _, rfl, rfl, _, rfl, _, rfl, p2, _, _, _, rfl, rfl, h62, ixN_hs' a0 a1, ?_⟩
      exact ⟨⟨_, _, rfl⟩, same_upd hp2H e6 _, by rw [upd_ne (Ne.symm hp24)]; exact h64, by rw [upd_same, fin _ a0 a1 hl]⟩
  rintro σ H6 ⟨⟨o6, o7, rfl⟩, e6, _, h62⟩
  rw [hzl, List.take_length] at h62
  refine ⟨_, rfl, q p2 H6 hp2H e6 ?_⟩
  rw [h62]
  unfold boL
  exact congrArg (fun l => some (HO.lst (List.map V.int l))) (hs_congr fun y y0 y1 => bdf_bo hT hT' hN hTp hpl ⟨y0, y1⟩)
theorem scWi : FnScope ["orders", "house", "longer", "order", "place"] ["orders", "house"] (defScope sWi) := ⟨rfl, rfl, rfl, by decide +kernel, rfl, by decide +kernel, by decide +kernel⟩

theorem cut_drop (ns : List Int) (k : Nat) : cutV (ns.map V.int) (some (k : Int)) none = (ns.drop k).map V.int := by
  rw [cut_ints, HT.sIx_nat, HT.sIx_none]
  by_cases h : k ≤ ns.length
  · rw [Nat.min_eq_left h, List.take_of_length_le (by rw [List.length_drop]; exact Nat.le_refl _)]
  · rw [Nat.min_eq_right (by omega), Nat.sub_self, List.take_zero, List.drop_eq_nil_of_le (by omega)]
theorem wiO_len {h : Int} {k : Nat} : ∀ {os : List (List Int)}, (∀ o ∈ os, o.length = k) → (wiO h os).length = os.length * (k + 1)
  | [], _ => by rw [List.length_nil, Nat.zero_mul]; rfl
  | o :: os, e => by
    have ih := wiO_len (h := h) (os := os) fun x hx => e x (List.mem_cons_of_mem _ hx)
    have e0 := e o List.mem_cons_self
    unfold wiO at ih ⊢
    rw [List.flatMap_cons, List.length_append, ih, List.length_cons, Nat.add_mul, Nat.one_mul]
    unfold insO
    rw [List.length_map, List.length_range, e0]
    omega
theorem wiO_snoc (h : Int) (os : List (List Int)) (o : List Int) : wiO h (os ++ [o]) = wiO h os ++ insO h o := by
  unfold wiO
  rw [List.flatMap_append, List.flatMap_cons, List.flatMap_nil, List.append_nil]
def spWi : Sp := fun vs H Q _ => ∃ (p : Addr) (zs : List V) (os : List (List Int)) (k : Nat), vs = [.ref p, .int k] ∧ H p = some (.lst zs) ∧ LstVs H zs os ∧ (∀ o ∈ os, o.length = k) ∧ k < 5 ∧ os.length ≤ 24 ∧
  ∀ (r : Addr) (ys : List V) (H' : Hp), H r = none → Same H H' → H' r = some (.lst ys) → LstVs H' ys (wiO (k : Int) os) → Q (.ref r) H'
set_option maxHeartbeats 4000000 in
theorem ok_wi {f : Addr} {fd : FuncData} (F : Fun K "with_house" "with_house" sWi f fd) (B : Blt mg) : FnOk P w K mg base CX0 1 f fd ["orders", "house"] spWi := by
  refine F.ok scWi (fun vs H Q E h => ?_) (fun cdv A outer s H vs Q E hr h => ?_)
  · obtain ⟨p, zs, os, k, rfl, _⟩ := h; rfl
  obtain ⟨p, zs, os, k, rfl, hp, hL, hol, k5, hos, q⟩ := h
  have hzl := hL.len
  refine ⟨_, (pss_cons (ps_set (i := 2) scWi.nd rfl (Or.inl rfl) (pe_lst pa_nil))
    (pss_cons (ps_for PassesOwn.never rfl (pi_list (pv 0)) (pg_name (i := 3) scWi.nd rfl (Or.inl rfl)) (pss_one (ps_for PassesOwn.never rfl (pi_range1 rfl B.range (pa_cons (pe_op op_add (pe_callB call_len_seq rfl B.len PySem.boot_len (pa_cons (pv 3) pa_nil)) pe_int) pa_nil)) (pg_name (i := 4) scWi.nd rfl (Or.inl rfl)) (pss_one (ps_expr (pe_bm PySem.F.plainAttrs_list PySem.F.slot_list_append PySem.F.type_list_append mt_append (pv 2) (pa_cons (pe_op op_cat (pe_op op_cat (pe_slice sl_list (pv 3) po_none (po_some (pv 4))) (pe_lst (pa_cons (pv 1) pa_nil))) (pe_slice sl_list (pv 3) (po_some (pv 4)) po_none)) pa_nil)))))))
    (pss_one (ps_ret (pv 2))))), ?_⟩
  refine ⟨by show 0 ≤ sizeLine; decide, fun pl hpl => ?_⟩
  have e1 := same_new hpl (.lst [])
  have hpl1 : upd H pl (.lst []) pl = some (.lst []) := upd_same
  generalize upd H pl (.lst []) = H1 at e1 hpl1 ⊢
  refine ⟨_, rfl, p, rfl, ⟨_, SqL.of (e1 _ _ hp)⟩, ?_⟩
  refine for_list (xs := zs) (fun i σ H' => (∃ o3 o4 : Option V, σ = [some (.ref p), some (.int k), some (.ref pl), o3, o4]) ∧ Same H H' ∧ ∃ ys : List V, H' pl = some (.lst ys) ∧ LN H' pl ys (wiO (k : Int) (os.take i)))
    ⟨⟨_, _, rfl⟩, e1, [], hpl1, .nil⟩ (fun i σ H' _ ⟨_, e, _⟩ => SqL.of (e _ _ hp)) ?_ ?_
  · rintro i v σ H2 hv ⟨⟨o3, o4, rfl⟩, e2, ys, hy, hLy⟩
    obtain ⟨o, ho, r, rfl, hro⟩ := hL.get hv
    have hr2 := e2 _ _ hro
    have ol := hol o (List.mem_of_getElem? ho)
    have hwl : (wiO (k : Int) (os.take i)).length ≤ 120 := by
      rw [wiO_len fun x hx => hol x (List.mem_of_mem_take hx), List.length_take]
      have : min i os.length * (k + 1) ≤ 24 * 5 := Nat.mul_le_mul (by omega) (by omega)
      omega
    have hrl : r ≠ pl := fun w => by rw [w, hpl] at hro; cases hro
    refine ⟨_, rfl, r, _, rfl, .inl (SqL.of hr2), _, _, rfl, rfl, _, rfl, by omega, by rw [List.length_map]; omega, ?_⟩
    have el : ((((o.map V.int).length : Nat) : Int) + 1).toNat = k + 1 := by rw [List.length_map, ol]; omega
    rw [el]
    refine for_range (n := k + 1) (fun j σ H' => (∃ o4 : Option V, σ = [some (.ref p), some (.int k), some (.ref pl), some (.ref r), o4]) ∧ Same H H' ∧ ∃ ys : List V, H' pl = some (.lst ys) ∧ LN H' pl ys (wiO (k : Int) (os.take i) ++ (List.range j).map (insA (k : Int) o)))
      ⟨⟨_, rfl⟩, e2, ys, hy, by rw [List.range_zero, List.map_nil, List.append_nil]; exact hLy⟩ ?_ ?_
    · clear hy hLy
      rintro j σ H3 hj ⟨⟨o4, rfl⟩, e3, ys, hy, hLy⟩
      rw [Int.zero_add]
      have hr3 := e3 _ _ hro
      have hyl := hLy.to.len
      rw [List.length_append, List.length_map, List.length_range] at hyl
      refine ⟨_, rfl, .inl ⟨rfl, _, SqL.of hy⟩, ?_⟩
      refine ⟨_, rfl, _, rfl, _, rfl, r, _, rfl, SqL.of hr3, fun p1 hp1 => ?_⟩
      rw [cut_take]
      have g1 := same_new hp1 (.lst ((o.take j).map V.int))
      have h1 : upd H3 p1 (.lst ((o.take j).map V.int)) p1 = some (.lst ((o.take j).map V.int)) := upd_same
      generalize upd H3 p1 (.lst ((o.take j).map V.int)) = X1 at g1 h1 ⊢
      refine ⟨_, rfl, by show 1 ≤ sizeLine; decide, fun p2 hp2 => ?_⟩
      have g2 := same_new hp2 (.lst [.int (k : Int)])
      have h2 : upd X1 p2 (.lst [.int (k : Int)]) p2 = some (.lst [.int (k : Int)]) := upd_same
      generalize upd X1 p2 (.lst [.int (k : Int)]) = X2 at g2 h2 ⊢
      refine ⟨p1, p2, _, _, rfl, rfl, g2 _ _ h1, h2, by rw [List.length_map, List.length_take]; exact Nat.le_of_lt (small1000 (by simp; omega)), fun p3 hp3 => ?_⟩
      have g3 := same_new hp3 (.lst ((o.take j).map V.int ++ [.int (k : Int)]))
      have h3 : upd X2 p3 (.lst ((o.take j).map V.int ++ [.int (k : Int)])) p3 = some (.lst ((o.take j).map V.int ++ [.int (k : Int)])) := upd_same
      generalize upd X2 p3 (.lst ((o.take j).map V.int ++ [.int (k : Int)])) = X3 at g3 h3 ⊢
      have g13 := (g1.trans g2).trans g3
      refine ⟨_, rfl, _, rfl, _, rfl, r, _, rfl, SqL.of (g13 _ _ hr3), fun p4 hp4 => ?_⟩
      rw [cut_drop]
      have g4 := same_new hp4 (.lst ((o.drop j).map V.int))
      have h4 : upd X3 p4 (.lst ((o.drop j).map V.int)) p4 = some (.lst ((o.drop j).map V.int)) := upd_same
      generalize upd X3 p4 (.lst ((o.drop j).map V.int)) = X4 at g4 h4 ⊢
      refine ⟨p3, p4, _, _, rfl, rfl, g4 _ _ h3, h4, by simp only [List.length_append, List.length_map, List.length_take, List.length_drop]; exact Nat.le_of_lt (small1000 (by simp; omega)), fun p5 hp5 => ?_⟩
      have g5 := same_new hp5 (.lst ((o.take j).map V.int ++ [.int (k : Int)] ++ (o.drop j).map V.int))
      have h5 : upd X4 p5 (.lst ((o.take j).map V.int ++ [.int (k : Int)] ++ (o.drop j).map V.int)) p5 = some (.lst ((insA (k : Int) o j).map V.int)) := by
        rw [upd_same]
        unfold insA
        rw [List.map_append, List.map_cons, List.append_assoc]
        rfl
      generalize upd X4 p5 (.lst ((o.take j).map V.int ++ [.int (k : Int)] ++ (o.drop j).map V.int)) = X5 at g5 h5 ⊢
      have g15 := (g13.trans g4).trans g5
      have hy5 := g15 _ _ hy
      have e35 := e3.trans g15
      have hp5l : p5 ≠ pl := fun w => by
        have hx := (g13.trans g4) _ _ hy
        rw [← w, hp5] at hx
        cases hx
      refine ⟨pl, ys, _, rfl, rfl, hy5, small1000 (by omega), ?_⟩
      refine ⟨⟨_, rfl⟩, same_upd hpl e35 _, ys ++ [.ref p5], upd_same, ?_⟩
      rw [List.range_succ, List.map_append, ← List.append_assoc]
      exact LN.put (Paired.snoc (hLy.same g15) ⟨⟨p5, rfl, h5⟩, fun w => hp5l (by injection w)⟩) _
    · rintro σ H3 ⟨⟨o4', rfl⟩, e3, ys3, hy3, hLy3⟩
      refine ⟨⟨_, _, rfl⟩, e3, ys3, hy3, ?_⟩
      rw [take_one ho, wiO_snoc]
      unfold insO
      rw [ol]
      exact hLy3
  rintro σ H2 ⟨⟨o3, o4, rfl⟩, e2, ys, hy, hLy⟩
  rw [hzl, List.take_length] at hLy
  exact ⟨_, rfl, q pl ys H2 hpl e2 hy hLy.to⟩
theorem scAo : FnScope ["houses", "orders", "house"] ["houses"] (defScope sAo) := ⟨rfl, rfl, rfl, by decide +kernel, rfl, by decide +kernel, by decide +kernel⟩

theorem ords_few4 : ∀ {n : Nat}, n ≤ 4 → (ords n).length ≤ 24
  | 0, _ => by decide
  | 1, _ => by decide
  | 2, _ => by decide
  | 3, _ => by decide
  | 4, _ => by decide +kernel
  | n + 5, h => by omega
def spAo : Sp := fun vs H Q _ => ∃ n : Nat, vs = [.int n] ∧ n ≤ 5 ∧ ∀ (r : Addr) (ys : List V) (H' : Hp), H r = none → Same H H' → H' r = some (.lst ys) → LstVs H' ys (ords n) → Q (.ref r) H'
theorem ok_ao {f : Addr} {fd : FuncData} (F : Fun K "all_orders" "all_orders" sAo f fd) (B : Blt mg) (cWi : Cal P w K mg base 1 "with_house" ["orders", "house"] spWi) : FnOk P w K mg base CX0 2 f fd ["houses"] spAo := by
  refine F.ok scAo (fun vs H Q E h => ?_) (fun cdv A outer s H vs Q E hr h => ?_)
  · obtain ⟨n, rfl, _⟩ := h; rfl
  obtain ⟨n, rfl, n5, q⟩ := h
  refine ⟨_, (pss_cons (ps_set (i := 1) scAo.nd rfl (Or.inl rfl) (pe_lst (pa_cons (pe_lst pa_nil) pa_nil)))
    (pss_cons (ps_for PassesOwn.never rfl (pi_range1 rfl B.range (pa_cons (pv 0) pa_nil)) (pg_name (i := 2) scAo.nd rfl (Or.inl rfl)) (pss_one (ps_set (i := 1) scAo.nd rfl (Or.inl rfl) (pe_cal cWi hr rfl (pa_cons (pv 1) (pa_cons (pv 2) pa_nil))))))
    (pss_one (ps_ret (pv 1))))), ?_⟩
  refine ⟨by show 0 ≤ sizeLine; decide, fun p0 hp0 => ⟨by show 1 ≤ sizeLine; decide, fun p1 hp1 => ?_⟩⟩
  have e0 := same_new hp0 (.lst [])
  have e1 := same_new hp1 (.lst [.ref p0])
  have h0 : upd (upd H p0 (.lst [])) p1 (.lst [.ref p0]) p0 = some (.lst (([] : List Int).map V.int)) := e1 _ _ upd_same
  have h1 : upd (upd H p0 (.lst [])) p1 (.lst [.ref p0]) p1 = some (.lst [.ref p0]) := upd_same
  have e01 := e0.trans e1
  have hp1H := e0.free hp1
  generalize upd (upd H p0 (.lst [])) p1 (.lst [.ref p0]) = H1 at h0 h1 e01 ⊢
  refine ⟨_, rfl, n, rfl, by omega, by omega, ?_⟩
  refine for_range (n := (n : Int).toNat) (fun i σ H' => ∃ (pr : Addr) (o2 : Option V) (ys : List V), σ = [some (.int n), some (.ref pr), o2] ∧ H pr = none ∧ Same H H' ∧ H' pr = some (.lst ys) ∧ LstVs H' ys (ords i))
    ⟨p1, none, _, rfl, hp1H, e01, h1, .cons ⟨p0, rfl, h0⟩ .nil⟩ ?_ ?_
  · rintro i σ H' hi ⟨pr, o2, ys, rfl, hpr, e, hy, hL⟩
    rw [Int.zero_add]
    refine ⟨_, rfl, _, rfl, pr, ys, ords i, i, rfl, hy, hL, fun o ho => ords_len ho, by omega, ords_few4 (by omega), fun r ys' H2 hr2 e2 h2 hL2 => ?_⟩
    exact ⟨r, _, ys', rfl, e.free hr2, e.trans e2, h2, hL2⟩
  rintro σ H' ⟨pr, o2, ys, rfl, hpr, e, hy, hL⟩
  rw [show (n : Int).toNat = n by omega] at hL
  exact ⟨_, rfl, q pr ys H' hpr e hy hL⟩
theorem scBs : FnScope ["web", "found"] ["web"] (defScope sBs) := ⟨rfl, rfl, rfl, by decide +kernel, rfl, by decide +kernel, by decide +kernel⟩
theorem nd_scBs_0 : (["order", "web"] : List Str).Nodup := by decide +kernel
theorem nd_scBs_1 : (["told"] : List Str).Nodup := by decide +kernel

def spBsx (C : Addr) : Sp := fun vs H Q E => ∃ (wv : Addr) (n : Nat) (T : List (Int × Int)), vs = [.ref wv] ∧ WebF H wv n T ∧ 1 ≤ n ∧ n ≤ 8 ∧ (∀ t ∈ T, inb n t) ∧ (∀ t ∈ T, t.1 < t.2) ∧
  (n ≤ 5 → ∀ (r : Addr) (ys : List V) (ms : List (List Int)) (H' : Hp), H r = none → Same H H' → H' r = some (.lst ys) → LstVs H' ys ms → (∀ v ∈ ys, ∃ a, v = .ref a ∧ H a = none) → ms.length ≤ 120 → (ms.map cdL).Pairwise (· < ·) → (∀ k, k ∈ ms ↔ ∃ o : List Int, o.Perm (hs n) ∧ k = boL n T o) → Q (.ref r) H') ∧
  (5 < n → ∀ H' : Hp, Same H H' → E (.ref C) none H')
set_option maxHeartbeats 4000000 in
theorem ok_bsx {f C OE : Addr} {fd : FuncData} {t5 : Tok} (F : Fun K "bounds" "bounds" sBs f fd) (B : Blt mg) (hset : mg "set" = none) (m5 : mg "MOST_HOUSES_IN_ORDERS" = some (.int 5 t5)) (hKb : K.In base) (yB : XCls K mg "TooWide" C OE) (cAo : Cal P w K mg base 5 "all_orders" ["houses"] spAo) (cMo : Cal P w K mg base 5 "most_in" ["web", "order"] (spMo K)) : FnOk P w K mg base (CXF P w) 6 f fd ["web"] (spBsx C) := by
  refine Fun_okX F scBs (fun vs H Q E h => ?_) (fun cdv A outer s H vs Q E hr h => ?_)
  · obtain ⟨wv, n, T, rfl, _⟩ := h; rfl
  obtain ⟨wv, n, T, rfl, hW, n1, n8, hT, hN, q, qe⟩ := h
  obtain ⟨vp, hw⟩ := hW.top
  refine ⟨_, (pss_cons (ps_if (pt_cmpR op_gt (pe_ix ix_tup (pv 0) pe_int (fun _ _ => rfl)) (pe_glob (v := .int 5) rfl m5 ⟨_, rfl⟩) (nomark _)) (pss_one (ps_raise thr0_cx rfl (yB.own _ hKb) PySem.F.excBase_ValueError rfl)) pss_nil)
    (pss_cons (ps_setComp (i := 1) (N' := ["order", "web"]) (mp := [none, some 0]) (g := (gName 0)) (tt := tYes) (te := (tCB (rTupleOf K) (tCons (tCall (spMo K) [] E0 (tCons (tVar 1) (tCons (tVar 0) tNil))) tNil))) scBs.nd rfl (Or.inl rfl) (CompOk.of (by kernel_rfl)) rfl (pi_list (pe_cal cAo hr rfl (pa_cons (pe_ix ix_tup (pv 0) pe_int (fun _ _ => rfl)) pa_nil))) (fun C s H fp => (pg_name (i := 0) nd_scBs_0 rfl (Or.inl rfl))) (fun C s H fp => pts_nil) (fun C s H fp => (pe_callTy call_tuple_of rfl B.tuple PyProof.Rows.boot_tuple (pa_cons (pe_cal cMo hr rfl (pa_cons (pv 1) (pa_cons (pv 0) pa_nil))) pa_nil))))
    (pss_one (ps_ret (pe_comp (N' := ["told"]) (mp := [none]) (g := (gName 0)) (tt := tYes) (te := (tCB (rListOf K) (tCons (tVar 0) tNil))) (CompOk.of (by kernel_rfl)) rfl (pi_list (pe_callB (call_sorted_T rfl) rfl B.sorted PyProof.Rows.boot_sorted (pa_cons (pe_callTy (call_set_T rfl (Nat.lt_of_le_of_lt (Nat.add_le_add_left (by decide : 10 ≤ 64) _) hr.units)) rfl hset PyProof.Rows.boot_set (pa_cons (pv 1) pa_nil)) pa_nil))) (fun C s H fp => (pg_name (i := 0) nd_scBs_1 rfl (Or.inl rfl))) (fun C s H fp => pts_nil) (fun C s H fp => (pe_callTy call_list_of rfl B.list PyProof.Rows.boot_list (pa_cons (pv 0) pa_nil)))))))), ?_⟩
  refine ⟨_, rfl, wv, _, _, _, rfl, rfl, SqT.of hw, rfl, _, _, rfl, rfl, _, rfl, ?_⟩
  by_cases n5 : n ≤ 5
  case neg => exact iteBT (by show decide ((5 : Int) < (n : Int)) = true; exact decide_eq_true (by omega)) (qe (by omega) H (Same.refl _))
  refine iteB (by show decide ((5 : Int) < (n : Int)) = false; exact decide_eq_false (by omega)) ?_
  refine ⟨_, rfl, wv, _, _, _, rfl, rfl, SqT.of hw, rfl, n, rfl, n5, fun po os H1 hpo e1 ho hLo => ?_⟩
  have hol := hLo.len
  have few := ords_few n5
  refine ⟨po, rfl, ⟨_, SqL.of ho⟩, ?_⟩
  refine comp_list (xs := os) (fun i σ H' acc => Same H1 H' ∧ (∃ o, σ = [o, some (.ref wv)]) ∧ TupVs H' acc (((ords n).take i).map (boL n T))) ⟨Same.refl _, ⟨_, rfl⟩, .nil⟩ ?_ (Nat.le_of_lt (small1000 (by omega))) ?_ ?_
  · rintro i σ H' acc hi ⟨e, _, hA⟩
    refine ⟨SqL.of (e _ _ ho), ?_⟩
    rw [Paired.length hA, List.length_map, List.length_take]
    omega
  · rintro i v σ H' acc hv ⟨e, ⟨o1, rfl⟩, hA⟩
    obtain ⟨o, hoi, r, rfl, hr1⟩ := hLo.get hv
    have hmo := List.mem_of_getElem? hoi
    refine ⟨_, rfl, _, rfl, wv, r, n, T, o, rfl, hW.same (e1.trans e), n8, e _ _ hr1, mem_ords.mp hmo, fun pm H2 hpm e2 h2 => ?_⟩
    refine ⟨pm, _, rfl, .inl ⟨SqL.of h2, fun pt hpt => ?_⟩⟩
    have f3 := same_new hpt (.tup ((boL n T o).map V.int))
    refine ⟨(e.trans e2).trans f3, ⟨_, rfl⟩, ?_⟩
    rw [take_one hoi, List.map_append]
    exact Paired.snoc (hA.same (e2.trans f3)) ⟨pt, rfl, upd_same⟩
  rintro σ H2 acc ⟨e2, _, hA⟩ pf hpf
  rw [hol, List.take_length] at hA
  have f3 := same_new hpf (.lst acc)
  have hf3 : upd H2 pf (.lst acc) pf = some (.lst acc) := upd_same
  have hA3 := hA.same f3
  have e03 := (e1.trans e2).trans f3
  generalize upd H2 pf (.lst acc) = H3 at f3 hf3 hA3 e03 ⊢
  refine ⟨_, rfl, pf, acc, _, rfl, SqL.of hf3, hA3, by rw [List.length_map]; omega, fun ps hps => ?_⟩
  refine ⟨ps, H3, _, n, rfl, upd_same, fun r k hk => same_new hps _ _ _ hk, n1, fun k hk => ?_, fun l vs ms hl hV hrise hms => ?_⟩
  · obtain ⟨o, ho', rfl⟩ := List.mem_map.mp hk
    exact ⟨boL_len, boL_rng hT hN (by have := hW.len; omega) ((mem_ords.mp ho').nodup_iff.mpr (hs_nodup n))⟩
  have e05 := (e03.trans (same_new hps _)).trans (same_new hl (.lst vs))
  have hV5 := hV.same (same_new hl (.lst vs))
  have hvl : vs.length = ms.length := Paired.length hV
  have hml : ms.length ≤ 120 := by
    have nd : ms.Nodup := by
      rw [List.nodup_iff_pairwise_ne]
      rw [List.pairwise_map] at hrise
      exact hrise.imp fun h w => by rw [w] at h; omega
    have := nodup_lens nd fun k hk => (hms k).mp hk
    rw [List.length_map] at this
    omega
  refine ⟨l, rfl, ⟨_, SqL.of upd_same⟩, ?_⟩
  refine comp_list (xs := vs) (fun i σ H' acc => Same H H' ∧ H' l = some (.lst vs) ∧ TupVs H' vs ms ∧ (∃ o, σ = [o]) ∧ LstVs H' acc (ms.take i) ∧ ∀ v ∈ acc, ∃ a, v = .ref a ∧ H a = none) ⟨e05, upd_same, hV5, ⟨_, rfl⟩, .nil, fun v hv => nomatch hv⟩ ?_ (Nat.le_of_lt (small1000 (by omega))) ?_ ?_
  · rintro i σ H' acc hi ⟨e, hlc, _, _, hA, _⟩
    refine ⟨SqL.of hlc, ?_⟩
    rw [hA.len, List.length_take]
    omega
  · rintro i v σ H' acc hv ⟨e, hlc, hVc, ⟨o1, rfl⟩, hA, hfr⟩
    obtain ⟨k, hk, r, rfl, hr1⟩ := hVc.get hv
    refine ⟨_, rfl, r, _, rfl, .inr (SqT.of hr1), fun pk hpk => ?_⟩
    have f6 := same_new hpk (.lst (k.map V.int))
    refine ⟨e.trans f6, f6 _ _ hlc, hVc.same f6, ⟨_, rfl⟩, ?_, fun v hv => ?_⟩
    · rw [take_one hk]
      exact Paired.snoc (hA.same f6) ⟨pk, rfl, upd_same⟩
    · rcases List.mem_append.mp hv with h | h
      · exact hfr v h
      · exact ⟨pk, List.mem_singleton.mp h, e.free hpk⟩
  rintro σ H6 acc ⟨e6, _, _, _, hA6, hfr⟩ pr hpr
  rw [hvl, List.take_length] at hA6
  have f7 := same_new hpr (.lst acc)
  refine q n5 pr acc ms _ (e6.free hpr) (e6.trans f7) upd_same (hA6.same f7) hfr hml hrise fun k => ?_
  rw [hms k, List.mem_map]
  exact ⟨fun ⟨o, h1, h2⟩ => ⟨o, mem_ords.mp h1, h2.symm⟩, fun ⟨o, h1, h2⟩ => ⟨o, mem_ords.mpr h1, h2.symm⟩⟩
theorem scTi : FnScope ["ties", "house", "left", "many", "one", "other"] ["ties", "house", "left"] (defScope sTi) := ⟨rfl, rfl, rfl, by decide +kernel, rfl, by decide +kernel, by decide +kernel⟩

def spTi : Sp := fun vs H Q _ => ∃ (p g : Addr) (zs : List V) (T : List (Int × Int)) (x : Int) (left : List Int), vs = [.ref p, .int x, .ref g] ∧ H p = some (.lst zs) ∧ Pairs H zs T ∧ H g = some (.lst (left.map V.int)) ∧ Q (.int ((T.countP (tch x left) : Nat) : Int)) H
theorem ok_ti {f : Addr} {fd : FuncData} (F : Fun K "_law_ties_in" "_law_ties_in" sTi f fd) (B : Blt mg) : FnOk P w K mg base CX0 1 f fd ["ties", "house", "left"] spTi := by
  refine F.ok scTi (fun vs H Q E h => ?_) (fun cdv A outer s H vs Q E hr h => ?_)
  · obtain ⟨p, g, zs, T, x, left, rfl, _⟩ := h; rfl
  obtain ⟨p, g, zs, T, x, left, rfl, hp, hP, hg, q⟩ := h
  have hzl := hP.length
  refine ⟨_, (pss_cons (ps_set (i := 3) scTi.nd rfl (Or.inl rfl) pe_int)
    (pss_cons (ps_for PassesOwn.never rfl (pi_list (pv 0)) (pg_tup rfl (pgs_cons (pg_name (i := 4) scTi.nd rfl (Or.inl rfl)) (pgs_cons (pg_name (i := 5) scTi.nd rfl (Or.inl rfl)) pgs_nil))) (pss_one (ps_if (PW.pt (pw_or (PW.pt (pw_and (pt_cmpR op_eq (pv 4) (pv 1) (nomark _)) (pw_and1 (pt_cmpR op_in_seq (pv 5) (pv 2) rfl)))) (pw_or1 (PW.pt (pw_and (pt_cmpR op_eq (pv 5) (pv 1) (nomark _)) (pw_and1 (pt_cmpR op_in_seq (pv 4) (pv 2) rfl))))))) (pss_one (ps_set (i := 3) scTi.nd rfl (Or.inl rfl) (pe_op op_add (pv 3) pe_int))) pss_nil)))
    (pss_one (ps_ret (pv 3))))), ?_⟩
  refine ⟨_, rfl, p, rfl, ⟨_, SqL.of hp⟩, ?_⟩
  refine for_list (xs := zs) (fun i σ H' => H' = H ∧ ∃ o4 o5 : Option V, σ = [some (.ref p), some (.int x), some (.ref g), some (.int (((T.take i).countP (tch x left) : Nat) : Int)), o4, o5])
    ⟨rfl, _, _, rfl⟩ (fun i σ H' _ ⟨e, _⟩ => by rw [e]; exact SqL.of hp) ?_ ?_
  · rintro i v σ H' hv ⟨rfl, o4, o5, rfl⟩
    obtain ⟨t, ht, r, rfl, hx⟩ := hP.get hv
    have yes : tch x left t = true → (((T.take i).countP (tch x left) : Nat) : Int) + 1 = (((T.take (i + 1)).countP (tch x left) : Nat) : Int) := fun c => by
      rw [take_one ht, List.countP_append, List.countP_singleton, if_pos c]; omega
    have no : tch x left t = false → (((T.take i).countP (tch x left) : Nat) : Int) = (((T.take (i + 1)).countP (tch x left) : Nat) : Int) := fun c => by
      rw [take_one ht, List.countP_append, List.countP_singleton, if_neg (by rw [c]; decide)]; omega
    refine ⟨r, _, rfl, SqT.of hx, rfl, _, _, rfl, _, _, rfl, rfl, ?_⟩
    refine ⟨_, rfl, _, rfl, rfl, _, rfl, ?_⟩
    by_cases c1 : t.1 = x
    · refine iteBT (by rw [c1]; simp) ?_
      refine ⟨_, rfl, _, rfl, g, _, rfl, .inl (SqL.of hg), rfl, flat_ints _, _, rfl, ?_⟩
      show if inV (.int t.2) (left.map V.int) = true then _ else _
      rw [inV_int]
      by_cases c2 : t.2 ∈ left
      · refine iteBT (decide_eq_true c2) ?_
        refine iteT ?_
        exact ⟨_, rfl, _, _, rfl, rfl, rfl, _, _, by show [some (V.ref p), some (V.int x), some (V.ref g), some (V.int ((((T.take i).countP (tch x left) : Nat) : Int) + 1)), some (V.int t.1), some (V.int t.2)] = _; rw [yes (by unfold tch; rw [decide_eq_true c1, decide_eq_true c2]; rfl)]⟩
      · refine iteB (decide_eq_false c2) ?_
        have hA : (decide (t.1 = x) && decide (t.2 ∈ left)) = false := by rw [decide_eq_false c2, Bool.and_false]
        refine ⟨_, rfl, _, rfl, rfl, _, rfl, ?_⟩
        by_cases d1 : t.2 = x
        · refine iteBT (by rw [d1]; simp) ?_
          refine ⟨_, rfl, _, rfl, g, _, rfl, .inl (SqL.of hg), rfl, flat_ints _, _, rfl, ?_⟩
          show if inV (.int t.1) (left.map V.int) = true then _ else _
          rw [inV_int]
          by_cases d2 : t.1 ∈ left
          · refine iteBT (decide_eq_true d2) ?_
            exact ⟨_, rfl, _, _, rfl, rfl, rfl, _, _, by show [some (V.ref p), some (V.int x), some (V.ref g), some (V.int ((((T.take i).countP (tch x left) : Nat) : Int) + 1)), some (V.int t.1), some (V.int t.2)] = _; rw [yes (by unfold tch; rw [decide_eq_true d1, decide_eq_true d2, Bool.true_and, Bool.or_true])]⟩
          · refine iteB (decide_eq_false d2) ?_
            exact ⟨rfl, _, _, by show [some (V.ref p), some (V.int x), some (V.ref g), some (V.int (((T.take i).countP (tch x left) : Nat) : Int)), some (V.int t.1), some (V.int t.2)] = _; rw [no (by unfold tch; rw [decide_eq_false d2, Bool.and_false, Bool.or_false]; exact hA)]⟩
        · refine iteB (by simp only [V.int.injEq, decide_eq_false_iff_not]; exact d1) ?_
          exact ⟨rfl, _, _, by show [some (V.ref p), some (V.int x), some (V.ref g), some (V.int (((T.take i).countP (tch x left) : Nat) : Int)), some (V.int t.1), some (V.int t.2)] = _; rw [no (by unfold tch; rw [decide_eq_false d1, Bool.false_and, Bool.or_false]; exact hA)]⟩
    · refine iteB (by simp only [V.int.injEq, decide_eq_false_iff_not]; exact c1) ?_
      have hA : (decide (t.1 = x) && decide (t.2 ∈ left)) = false := by rw [decide_eq_false c1, Bool.false_and]
      refine iteF ?_
      refine ⟨_, rfl, _, rfl, rfl, _, rfl, ?_⟩
      by_cases d1 : t.2 = x
      · refine iteBT (by rw [d1]; simp) ?_
        refine ⟨_, rfl, _, rfl, g, _, rfl, .inl (SqL.of hg), rfl, flat_ints _, _, rfl, ?_⟩
        show if inV (.int t.1) (left.map V.int) = true then _ else _
        rw [inV_int]
        by_cases d2 : t.1 ∈ left
        · refine iteBT (decide_eq_true d2) ?_
          exact ⟨_, rfl, _, _, rfl, rfl, rfl, _, _, by show [some (V.ref p), some (V.int x), some (V.ref g), some (V.int ((((T.take i).countP (tch x left) : Nat) : Int) + 1)), some (V.int t.1), some (V.int t.2)] = _; rw [yes (by unfold tch; rw [decide_eq_true d1, decide_eq_true d2, Bool.true_and, Bool.or_true])]⟩
        · refine iteB (decide_eq_false d2) ?_
          exact ⟨rfl, _, _, by show [some (V.ref p), some (V.int x), some (V.ref g), some (V.int (((T.take i).countP (tch x left) : Nat) : Int)), some (V.int t.1), some (V.int t.2)] = _; rw [no (by unfold tch; rw [decide_eq_false d2, Bool.and_false, Bool.or_false]; exact hA)]⟩
      · refine iteB (by simp only [V.int.injEq, decide_eq_false_iff_not]; exact d1) ?_
        exact ⟨rfl, _, _, by show [some (V.ref p), some (V.int x), some (V.ref g), some (V.int (((T.take i).countP (tch x left) : Nat) : Int)), some (V.int t.1), some (V.int t.2)] = _; rw [no (by unfold tch; rw [decide_eq_false d1, Bool.false_and, Bool.or_false]; exact hA)]⟩
  rintro σ H' ⟨rfl, o4, o5, rfl⟩
  rw [hzl, List.take_length]
  exact ⟨_, rfl, q⟩
theorem scIb : FnScope ["houses", "ties", "told_numbers", "left", "last"] ["houses", "ties", "told_numbers"] (defScope sIb) := ⟨rfl, rfl, rfl, by decide +kernel, rfl, by decide +kernel, by decide +kernel⟩
theorem nd_scIb_0 : (["house", "told_numbers", "ties", "left"] : List Str).Nodup := by decide +kernel

def lenAt (H : Hp) (p : Addr) : Nat := match H p with
  | some (.lst l) => l.length
  | _ => 0
theorem lenAt_of {H : Hp} {p : Addr} {l : List V} (h : H p = some (.lst l)) : lenAt H p = l.length := by unfold lenAt; rw [h]
def spIb : Sp := fun vs H Q _ => ∃ (p g : Addr) (n : Nat) (zs : List V) (T T' : List (Int × Int)) (ks : List Int), vs = [.int n, .ref p, .ref g] ∧ H p = some (.lst zs) ∧ Pairs H zs T ∧ (∀ t ∈ T, inb n t) ∧ (∀ t ∈ T', t.1 < t.2) ∧ T'.Perm (T.map nrm) ∧ n ≤ 8 ∧ H g = some (.lst (ks.map V.int)) ∧ ks.length = n ∧ Lft T' (gf ks) (hs n) ∧ ∀ H' : Hp, Same H H' → Q (.bl true) H'
set_option maxHeartbeats 4000000 in
theorem ok_ib {f : Addr} {fd : FuncData} (F : Fun K "_law_is_bound" "_law_is_bound" sIb f fd) (B : Blt mg) (cTi : Cal P w K mg base 1 "_law_ties_in" ["ties", "house", "left"] spTi) : FnOk P w K mg base CX0 2 f fd ["houses", "ties", "told_numbers"] spIb := by
  refine F.ok scIb (fun vs H Q E h => ?_) (fun cdv A outer s H vs Q E hr h => ?_)
  · obtain ⟨p, g, n, zs, T, T', ks, rfl, _⟩ := h; rfl
  obtain ⟨p, g, n, zs, T, T', ks, rfl, hp, hP, hT, hN, hTp, n8, hg, hkl, hLf, q⟩ := h
  refine ⟨_, (pss_cons (ps_set (i := 3) scIb.nd rfl (Or.inr rfl) (pe_listRng1 rfl rfl B.list rfl B.range (pa_cons (pv 0) pa_nil)))
    (pss_cons (ps_while PassesOwn.never (pt_cmpR (op_neLI (hu_of hr)) (pv 3) (pe_lst pa_nil) (nomark _)) (pss_cons (ps_setComp (i := 4) (N' := ["house", "told_numbers", "ties", "left"]) (mp := [none, some 2, some 1, some 3]) (g := (gName 0)) (tt := (tTest (tOp rEq (tOp (rIxL K) (tVar 1) (tVar 0)) (tOp (rI0 fun i j => .int (i - j)) (tCall spTi [] E0 (tCons (tVar 2) (tCons (tVar 0) (tCons (tVar 3) tNil)))) (tC (.int 1)))))) (te := (tVar 0)) scIb.nd rfl (Or.inl rfl) (CompOk.of (by kernel_rfl)) rfl (pi_list (pv 3)) (fun C s H fp => (pg_name (i := 0) nd_scIb_0 rfl (Or.inl rfl))) (fun C s H fp => pts_one (pt_cmpR op_eq (pe_ix ix_list (pv 1) (pv 0) (fun _ _ => rfl)) (pe_op op_sub (pe_cal cTi hr rfl (pa_cons (pv 2) (pa_cons (pv 0) (pa_cons (pv 3) pa_nil)))) pe_int) (nomark _))) (fun C s H fp => (pv 0)))
    (pss_cons (ps_if (pt_cmpR (op_eqE (hu_of hr)) (pv 4) (pe_lst pa_nil) (nomark _)) pss_never pss_nil)
    (pss_one (ps_expr (pe_bm PySem.F.plainAttrs_list PySem.F.slot_list_remove PySem.F.type_list_remove mt_remove (pv 3) (pa_cons (pe_ix ix_list (pv 4) pe_int (fun _ _ => rfl)) pa_nil)))))))
    (pss_one (ps_ret pe_bl)))), ?_⟩
  refine ⟨_, rfl, n, rfl, by omega, by omega, fun pl hpl => ?_⟩
  rw [show (n : Int).toNat = n by omega, rngL0]
  have e1 := same_new hpl (.lst ((hs n).map V.int))
  have hl1 : upd H pl (.lst ((hs n).map V.int)) pl = some (.lst ((hs n).map V.int)) := upd_same
  generalize upd H pl (.lst ((hs n).map V.int)) = H1 at e1 hl1 ⊢
  refine while_by (fun σ H' => (∃ o4 : Option V, σ = [some (.int n), some (.ref p), some (.ref g), some (.ref pl), o4]) ∧ Same H H' ∧ ∃ left : List Int, H' pl = some (.lst (left.map V.int)) ∧ left.Nodup ∧ left.length ≤ n ∧ (∀ x ∈ left, inr n x) ∧ Lft T' (gf ks) left) (fun σ H' => lenAt H' pl)
    ⟨⟨_, rfl⟩, e1, hs n, hl1, hs_nodup n, by rw [hs_length]; exact Nat.le_refl _, fun x hx => mem_hs.mp hx, hLf⟩ ?_ ?_
  · rintro σ H2 ⟨⟨o4, rfl⟩, e2, left, hl2, nd, lln, rng, lft⟩
    refine ⟨_, rfl, by show 0 ≤ sizeLine; decide, fun pe hpe => ?_⟩
    have f3 := same_new hpe (.lst [])
    have he3 : upd H2 pe (.lst []) pe = some (.lst (([] : List Int).map V.int)) := upd_same
    have hl3 := f3 _ _ hl2
    have e3 := e2.trans f3
    generalize upd H2 pe (.lst []) = H3 at he3 hl3 e3 f3 ⊢
    refine ⟨pl, pe, left, [], rfl, rfl, SqL.of hl3, SqL.of he3, _, rfl, ?_⟩
    by_cases c : left = []
    · refine iteB (by rw [decide_eq_true c]; rfl) ?_
      exact q H3 e3
    refine iteBT (by rw [decide_eq_false c]; rfl) ?_
    refine ⟨_, rfl, pl, rfl, ⟨_, SqL.of hl3⟩, ?_⟩
    refine comp_list (xs := left.map V.int) (fun i σ H' acc => H' = H3 ∧ (∃ o, σ = [o, some (.ref g), some (.ref p), some (.ref pl)]) ∧ acc = ((left.take i).filter fun x => decide (gf ks x = tt' T' x left - 1)).map V.int) ⟨rfl, ⟨_, rfl⟩, rfl⟩ ?_ (Nat.le_of_lt (small1000 (by rw [List.length_map]; omega))) ?_ ?_
    · rintro i σ H' acc hi ⟨rfl, _, rfl⟩
      refine ⟨SqL.of hl3, ?_⟩
      rw [List.length_map]
      exact Nat.le_trans (List.length_filter_le _ _) (by rw [List.length_take]; omega)
    · rintro i v σ H' acc hv ⟨rfl, ⟨o, rfl⟩, rfl⟩
      obtain ⟨x, hx, rfl⟩ := mapI_get hv
      have hxr := rng x (List.mem_of_getElem? hx)
      have hc := tch_tt hT hTp (x := x) nd
      refine ⟨_, rfl, _, rfl, g, _, _, _, rfl, rfl, SqL.of (e3 _ _ hg), atI_ints hxr.1 (by have := hxr.2; omega), _, rfl, _, rfl, _, rfl, p, pl, zs, T, x, left, rfl, e3 _ _ hp, hP.same e3, hl3, _, _, rfl, rfl, rfl, _, rfl, ?_⟩
      rw [hc]
      by_cases d : gf ks x = tt' T' x left - 1
      · refine iteBT (by unfold gf at d; rw [d]; simp) ?_
        refine ⟨_, rfl, rfl, ⟨_, rfl⟩, ?_⟩
        rw [take_one hx, List.filter_append, List.map_append, List.filter_cons_of_pos (p := fun x => decide (gf ks x = tt' T' x left - 1)) (decide_eq_true d)]
        rfl
      · refine iteB (by simp only [V.int.injEq, decide_eq_false_iff_not]; exact d) ?_
        refine ⟨rfl, ⟨_, rfl⟩, ?_⟩
        rw [take_one hx, List.filter_append, List.filter_cons_of_neg (p := fun x => decide (gf ks x = tt' T' x left - 1)) (by rw [decide_eq_false d]; decide), List.filter_nil, List.append_nil]
    rintro σ H' acc ⟨rfl, _, rfl⟩ pc hpc
    rw [List.length_map, List.take_length]
    obtain ⟨z, hz, hzt⟩ := lft.some hN c
    have hzf : z ∈ left.filter fun x => decide (gf ks x = tt' T' x left - 1) := List.mem_filter.mpr ⟨hz, decide_eq_true hzt⟩
    obtain ⟨y, ys, hys⟩ : ∃ y ys, (left.filter fun x => decide (gf ks x = tt' T' x left - 1)) = y :: ys := by
      cases hfl : left.filter fun x => decide (gf ks x = tt' T' x left - 1) with
      | nil => rw [hfl] at hzf; cases hzf
      | cons y ys => exact ⟨y, ys, rfl⟩
    have hyf := List.mem_filter.mp (by rw [hys]; exact List.mem_cons_self : y ∈ left.filter fun x => decide (gf ks x = tt' T' x left - 1))
    have hyt := of_decide_eq_true hyf.2
    rw [hys]
    have f4 := same_new hpc (.lst ((y :: ys).map V.int))
    have hc4 : upd H' pc (.lst ((y :: ys).map V.int)) pc = some (.lst ((y :: ys).map V.int)) := upd_same
    have hl4 := f4 _ _ hl3
    have e4 := e3.trans f4
    generalize upd H' pc (.lst ((y :: ys).map V.int)) = H4 at hc4 hl4 e4 f4 ⊢
    refine ⟨_, rfl, by show 0 ≤ sizeLine; decide, fun p5 hp5 => ?_⟩
    have f5 := same_new hp5 (.lst [])
    have h55 : upd H4 p5 (.lst []) p5 = some (.lst []) := upd_same
    have hl5 := f5 _ _ hl4
    have hc5 := f5 _ _ hc4
    have e5 := e4.trans f5
    generalize upd H4 p5 (.lst []) = H5 at h55 hl5 hc5 e5 f5 ⊢
    refine ⟨pc, p5, _, rfl, rfl, SqL.of hc5, SqL.of h55, _, rfl, iteB rfl ?_⟩
    refine ⟨_, rfl, .inl ⟨rfl, _, SqL.of hl5⟩, _, rfl, pc, _, _, _, rfl, rfl, SqL.of hc5, atI_ints (by decide) (by show (0 : Int) < (((y :: ys).length : Nat) : Int); rw [List.length_cons]; omega), pl, left, y, rfl, rfl, hl5, hyf.1, ?_⟩
    have hel : (left.erase y).length = left.length - 1 := List.length_erase_of_mem hyf.1
    have hpos := List.length_pos_of_mem hyf.1
    refine ⟨⟨⟨_, rfl⟩, same_upd hpl e5 _, left.erase y, upd_same, nd.erase y, by omega, fun x hx => rng x (List.mem_of_mem_erase hx), lft.step hyf.1 hyt⟩, ?_⟩
    show lenAt _ pl < lenAt H2 pl
    rw [lenAt_of upd_same, lenAt_of hl2, List.length_map, List.length_map]
    omega
  · intro σ H' Q1 Q2 himp h
    obtain ⟨v, e, z, h⟩ := h
    refine ⟨v, e, z, fun pe hpe => ?_⟩
    obtain ⟨a, b, ns, ms, e1, e2, h1, h2, bb, e3, h3⟩ := h pe hpe
    exact ⟨a, b, ns, ms, e1, e2, h1, h2, bb, e3, himp _ _ h3⟩
theorem at4n {x y z u : Nat} {m : Int} (h0 : 0 ≤ m) (h1 : m < 4) (hx : 1 ≤ x ∧ x ≤ 8) (hy : 1 ≤ y ∧ y ≤ 8) (hz : 1 ≤ z ∧ z ≤ 8) (hu : 1 ≤ u ∧ u ≤ 8) : ∃ v : Nat, 1 ≤ v ∧ v ≤ 8 ∧ atI [V.int x, .int y, .int z, .int u] m = some (.int v) := by
  have : m = 0 ∨ m = 1 ∨ m = 2 ∨ m = 3 := by omega
  rcases this with h | h | h | h <;> subst h <;> first | exact ⟨_, hx.1, hx.2, rfl⟩ | exact ⟨_, hy.1, hy.2, rfl⟩ | exact ⟨_, hz.1, hz.2, rfl⟩ | exact ⟨_, hu.1, hu.2, rfl⟩
theorem cutV_ints (gs : List Int) (a b : Option Int) : ∃ fs : List Int, cutV (gs.map V.int) a b = fs.map V.int ∧ fs.length ≤ gs.length := by
  rw [cut_ints]
  exact ⟨_, rfl, by rw [List.length_take, List.length_drop]; omega⟩
theorem idx_in {i : Int} {len : Nat} (h0 : 0 ≤ i) (h1 : i < (len : Int)) : seqIndex? i len = some i.toNat := by
  unfold seqIndex?
  have e : (if i < 0 then i + (len : Int) else i) = i := if_neg (by omega)
  simp only [e]
  rw [if_pos (by simp only [Bool.and_eq_true, decide_eq_true_eq]; exact ⟨h0, h1⟩)]
theorem pop_perm : ∀ {o : List Int} {k : Nat} (h : k < o.length), (o[k] :: o.eraseIdx k).Perm o
  | [], k, h => by simp at h
  | a :: o, 0, _ => List.Perm.refl _
  | a :: o, k + 1, h => by
    have ih := pop_perm (o := o) (k := k) (by simpa using h)
    exact (List.Perm.swap a _ _).trans (ih.cons a)

theorem no_int {k : List Int} {ys : List V} {p : Addr} (h : k.map V.int = ys) (hl : 0 < ys.length) (e : ys[0] = .ref p) : False := by
  subst h
  rw [List.getElem_map] at e
  cases e
theorem eqLL {K : PySem.W.Frag} {H : Hp} : ∀ {xs ys : List V} {ks : List (List Int)}, LstVs H xs ks → LstVs H ys ks → Paired (EqS K H 1) xs ys
  | _, _, _, .nil, .nil => .nil
  | _, _, _, .cons h1 r1, .cons h2 r2 => by
    obtain ⟨a, rfl, ha⟩ := h1
    obtain ⟨b, rfl, hb⟩ := h2
    exact .cons (.inr ⟨a, b, _, _, rfl, rfl, .inl ⟨SqL.of ha, SqL.of hb⟩, paired_refl (ok_ints _)⟩) (eqLL r1 r2)


end
end Oh

namespace Oh
open PySem PySem.Spec PyProof.Rows L2
section
variable {P : Program} {w : World} {K : PySem.W.Frag} {mg : Str → Option Value} {base : Heap}

theorem scLw : FnScope ["script", "most", "houses", "ties", "start", "web", "found", "refused", "e", "k", "order", "cell", "house", "kept"] ["script"] (defScope sLw) := ⟨rfl, rfl, rfl, by decide +kernel, rfl, by decide +kernel, by decide +kernel⟩
theorem nd_scLw_0 : (["one"] : List Str).Nodup := by decide +kernel

set_option maxHeartbeats 8000000 in
theorem ok_lw {f cOwingError cTooWide : Addr} {fd : FuncData} (F : Fun K "law" "law" sLw f fd) (B : Blt mg) (mOwingError : mg "OwingError" = some (.ref cOwingError)) (mTooWide : mg "TooWide" = some (.ref cTooWide)) (yB : XCls K mg "TooWide" cTooWide cOwingError) (xB : PySem.W.exmOne K (.ref cTooWide) (.ref cTooWide) = some true) (kO : PySem.W.kitOne K (.ref cTooWide) (.ref cOwingError) = some true)
    (cCe : Cal P w K mg base 7 "_law_cell_at" ["script", "k"] (spCe K)) (cWb : Cal P w K mg base 7 "_law_web" ["script", "most"] (spWb K)) (cMa : Cal P w K mg base 7 "made" ["houses", "ties"] (spMa K)) (cBx : CalX P w K mg base 7 "bounds" ["web"] (spBsx cTooWide)) (cNu : Cal P w K mg base 7 "_law_numbers" ["found", "many"] spNu) (cIb : Cal P w K mg base 7 "_law_is_bound" ["houses", "ties", "told_numbers"] spIb) (cOr : Cal P w K mg base 7 "_law_order" ["script", "start", "houses"] (spOr K)) (cLb : Cal P w K mg base 7 "_law_bound" ["houses", "ties", "order"] spLb) : FnOk P w K mg base CX0 8 f fd ["script"] (spLaw K) := by
  refine F.ok scLw (fun vs H Q E h => ?_) (fun cdv A outer s H vs Q E hr h => ?_)
  · obtain ⟨a, ns, rfl, _⟩ := h; rfl
  obtain ⟨a, ns, rfl, hS, h63, hsm, q⟩ := h
  have m0 := Int.emod_nonneg (ns.getD (0 : Int).toNat 0 / 100) (show (4 : Int) ≠ 0 by decide)
  have m1 := Int.emod_lt_of_pos (ns.getD (0 : Int).toNat 0 / 100) (show (0 : Int) < 4 by decide)
  obtain ⟨mo, mo1, mo8, hat⟩ := at4n (x := 8) (y := 4) (z := 4) (u := 5) m0 m1 (by decide) (by decide) (by decide) (by decide)
  refine ⟨_, (pss_cons (ps_set (i := 1) scLw.nd rfl (Or.inl rfl) (pe_ix ix_list (pe_lst (pa_cons pe_int (pa_cons pe_int (pa_cons pe_int (pa_cons pe_int pa_nil))))) (pe_op op_mod (pe_op op_fdiv (pe_cal cCe hr rfl (pa_cons (pv 0) (pa_cons pe_int pa_nil))) pe_int) pe_int) (fun _ _ => rfl)))
    (pss_cons (ps_asg (pe_cal cWb hr rfl (pa_cons (pv 0) (pa_cons (pv 1) pa_nil))) (pg_tup rfl (pgs_cons (pg_name (i := 2) scLw.nd rfl (Or.inl rfl)) (pgs_cons (pg_name (i := 3) scLw.nd rfl (Or.inl rfl)) (pgs_cons (pg_name (i := 4) scLw.nd rfl (Or.inl rfl)) pgs_nil)))))
    (pss_cons (ps_set (i := 5) scLw.nd rfl (Or.inl rfl) (pe_cal cMa hr rfl (pa_cons (pv 2) (pa_cons (pv 3) pa_nil))))
    (pss_cons (ps_set (i := 6) scLw.nd rfl (Or.inl rfl) pe_non)
    (pss_cons (ps_set (i := 7) scLw.nd rfl (Or.inl rfl) pe_bl)
    (pss_cons (ps_try (i := 8) (tb := fun ES => (tAsg (tCallX (spBsx cTooWide) ES (tCons (tVar 5) tNil)) (gName 6))) (ts := (tAsg (tCB (rExc K) (tCons (tVar 8) (tCons (tC (.ref cOwingError)) tNil))) (gName 7))) (fun pins E ES T => (pss_one (ps_set (i := 6) scLw.nd rfl (Or.inl rfl) (pe_calX T cBx hr rfl (pa_cons (pv 5) pa_nil))))) (fun pins e => (pss_one (ps_set (i := 7) scLw.nd rfl (Or.inl rfl) (pe_callB call_isExc rfl B.isinst PyProof.Rows.boot_isinstance (pa_cons (pv 8) (pa_cons (pe_glob (v := .ref cOwingError) rfl mOwingError rfl) pa_nil)))))) scLw.nd rfl rfl rfl mTooWide)
    (pss_cons (ps_if (pt_cmpR op_gt (pv 2) pe_int (nomark _)) (pss_one (ps_ret (pv 7))) pss_nil)
    (pss_cons (ps_if (PW.pt (pw_or (pt_val (pv 7)) (pw_or1 (pt_not (pt_val (pe_callB call_isinst rfl B.isinst PyProof.Rows.boot_isinstance (pa_cons (pv 6) (pa_cons (pe_bltn (v := .ty "list") rfl B.list PyProof.Rows.boot_list rfl) pa_nil)))))))) pss_never pss_nil)
    (pss_cons (ps_for PassesOwn.never rfl (pi_range1 rfl B.range (pa_cons (pe_callB call_len_seq rfl B.len PySem.boot_len (pa_cons (pv 6) pa_nil)) pa_nil)) (pg_name (i := 9) scLw.nd rfl (Or.inl rfl)) (pss_cons (ps_if (PW.pt (pw_or (pt_not (pt_val (pe_cal cNu hr rfl (pa_cons (pe_ix ix_list (pv 6) (pv 9) (fun _ _ => rfl)) (pa_cons (pv 2) pa_nil))))) (pw_or1 (pt_not (pt_val (pe_cal cIb hr rfl (pa_cons (pv 2) (pa_cons (pv 3) (pa_cons (pe_ix ix_list (pv 6) (pv 9) (fun _ _ => rfl)) pa_nil))))))))) pss_never pss_nil)
    (pss_one (ps_if (PW.pt (pw_and (pt_cmpR op_gt (pv 9) pe_int (nomark _)) (pw_and1 (pt_not (pt_cmpR (op_ltLL (Nat.lt_of_le_of_lt (Nat.le_add_right _ 1) (hu_of hr))) (pe_ix ix_list (pv 6) (pe_op op_sub (pv 9) pe_int) (fun _ _ => rfl)) (pe_ix ix_list (pv 6) (pv 9) (fun _ _ => rfl)) (nomark _)))))) pss_never pss_nil))))
    (pss_cons (ps_set (i := 10) scLw.nd rfl (Or.inl rfl) (pe_cal cOr hr rfl (pa_cons (pv 0) (pa_cons (pv 4) (pa_cons (pv 2) pa_nil)))))
    (pss_cons (ps_for PassesOwn.never rfl (pi_list (pe_op op_cat (pe_lst (pa_cons pe_int pa_nil)) (pe_slice sl_list (pv 0) (po_some (pe_op op_add (pv 4) (pv 2))) (po_some (pe_op op_add (pe_op op_add (pv 4) (pv 2)) pe_int))))) (pg_name (i := 11) scLw.nd rfl (Or.inl rfl)) (pss_cons (ps_set (i := 12) scLw.nd rfl (Or.inl rfl) (pe_bm PySem.F.plainAttrs_list PySem.F.slot_list_pop PySem.F.type_list_pop mt_popAt (pv 10) (pa_cons (pe_op op_mod (pv 11) (pe_callB call_len_seq rfl B.len PySem.boot_len (pa_cons (pv 10) pa_nil))) pa_nil)))
    (pss_cons (ps_expr (pe_bm PySem.F.plainAttrs_list PySem.F.slot_list_insert PySem.F.type_list_insert mt_insert (pv 10) (pa_cons (pe_op op_mod (pe_op op_fdiv (pv 11) pe_int) (pe_op op_add (pe_callB call_len_seq rfl B.len PySem.boot_len (pa_cons (pv 10) pa_nil)) pe_int)) (pa_cons (pv 12) pa_nil))))
    (pss_one (ps_if (pt_cmpR (op_notInLL (Nat.lt_of_le_of_lt (Nat.add_le_add_left (by decide : 2 ≤ 64) _) hr.units)) (pe_cal cLb hr rfl (pa_cons (pv 2) (pa_cons (pv 3) (pa_cons (pv 10) pa_nil)))) (pv 6) rfl) pss_never pss_nil)))))
    (pss_cons (ps_setComp (i := 13) (N' := ["one"]) (mp := [none]) (g := (gName 0)) (tt := tYes) (te := (tCB (rListOf K) (tCons (tVar 0) tNil))) scLw.nd rfl (Or.inl rfl) (CompOk.of (by kernel_rfl)) rfl (pi_list (pv 6)) (fun C s H fp => (pg_name (i := 0) nd_scLw_0 rfl (Or.inl rfl))) (fun C s H fp => pts_nil) (fun C s H fp => (pe_callTy call_list_of rfl B.list PyProof.Rows.boot_list (pa_cons (pv 0) pa_nil))))
    (pss_cons (ps_expr (pe_bm PySem.F.plainAttrs_list PySem.F.slot_list_append PySem.F.type_list_append mt_append (pe_ix ix_list (pv 6) pe_int (fun _ _ => rfl)) (pa_cons pe_int pa_nil)))
    (pss_cons (ps_expr (pe_bm PySem.F.plainAttrs_list PySem.F.slot_list_append PySem.F.type_list_append mt_append (pv 6) (pa_cons (pe_lst (pa_cons pe_int pa_nil)) pa_nil)))
    (pss_one (ps_ret (pe_cmpR (op_eqL 1 (Nat.lt_of_le_of_lt (Nat.add_le_add_left (by decide : 1 + 1 ≤ 64) _) hr.units)) (pe_calX thr_no cBx hr rfl (pa_cons (pv 5) pa_nil)) (pv 13) (nomark _)))))))))))))))))), ?_⟩
  refine ⟨by show 4 ≤ sizeLine; decide, fun pq hpq => ?_⟩
  have f0 := same_new hpq (.lst [.int (8 : Int), .int (4 : Int), .int (4 : Int), .int (5 : Int)])
  refine ⟨_, rfl, a, ns, 0, rfl, f0.seq hS, by decide, _, _, rfl, rfl, ⟨by decide, by decide⟩, _, _, rfl, rfl, (by show (0 : Int) < 4; decide), pq, _, _, _, rfl, rfl, SqL.of upd_same, hat, ?_⟩
  refine ⟨_, rfl, _, rfl, a, ns, mo, rfl, f0.seq hS, mo1, mo8, fun z pt n s0 zs T H1 e1' hz hpt hP hG n1 n8 _ hs0 hs40 => ?_⟩
  have e1 := f0.trans e1'
  have hzl := hP.length
  have hT16 := hG.len
  refine ⟨z, _, rfl, SqT.of hz, rfl, _, _, rfl, _, _, rfl, _, _, rfl, rfl, ?_⟩
  refine ⟨_, rfl, _, rfl, n, pt, zs, T, rfl, SqL.of hpt, hP, hG, n1, n8, fun wv pw ob ws T' H2 e2 hwv hpw hob hPw hTp hTs => ?_⟩
  have hG' := good_nrm hG hTp
  have hN : ∀ t ∈ T', t.1 < t.2 := fun t ht => by
    obtain ⟨u, hu, rfl⟩ := List.mem_map.mp (hTp.mem_iff.mp ht)
    obtain ⟨_, _, _, _, ne⟩ := hG.rng u hu
    rcases nrm_or u with ⟨e, l⟩ | ⟨e, l⟩ <;> rw [e] <;> (try dsimp only) <;> omega
  have hTl : T'.length = T.length := by rw [hTp.length_eq, List.length_map]
  have hW : WebF H2 wv n T' := ⟨⟨pw, ob, ws, hwv, hpw, hob, hPw⟩, hG'.len⟩
  have e02 := e1.trans e2
  have hpt2 := e2 _ _ hpt
  have hP2 := hP.same e2
  refine ⟨fun σ' C H' => σ' = [some (.ref a), some (.int mo), some (.int n), some (.ref pt), some (.int s0), some (.ref wv), some .non, some (.bl false), none, none, none, none, none, none] ∧ Same H2 H' ∧ 5 < n ∧ C = .ref cTooWide, ?_, ?_⟩
  case refine_2 =>
    rintro σ' C H3 ⟨rfl, eH, n6, rfl⟩
    refine ⟨xB, fun ea hea => ?_⟩
    have ef := same_new hea (.ext (ExcAt ea (.ref cTooWide)))
    generalize hHb : upd H3 ea (.ext (ExcAt ea (.ref cTooWide))) = Hb at ef
    have hxe : Hb ea = some (.ext (ExcAt ea (.ref cTooWide))) := hHb ▸ upd_same
    clear hHb
    refine ⟨_, rfl, ea, _, _, _, _, rfl, rfl, hxe, yB.k, kO, ?_⟩
    refine ⟨_, rfl, _, _, rfl, rfl, _, rfl, iteBT (by show decide ((5 : Int) < (n : Int)) = true; exact decide_eq_true (by omega)) ?_⟩
    exact ⟨_, rfl, q _⟩
  refine ⟨_, rfl, wv, n, T', rfl, hW, n1, n8, hG'.rng, hN, fun n5 r ys ms H3 hr3 e3 h3 hL3 hfr hml hrise hms => ?_, fun n6 H3 e3 => ⟨rfl, e3, n6, rfl⟩⟩
  have hyl := hL3.len
  have h05 : ∀ k ∈ ms, k.length = n ∧ smallL k ∧ Lft T' (gf k) (hs n) := fun k hk => by
    obtain ⟨o, hpo, rfl⟩ := (hms k).mp hk
    exact ⟨boL_len, boL_rng hG'.rng hN (by have := hG'.len; omega) (hpo.nodup_iff.mpr (hs_nodup n)), Lft.bound hpo⟩
  refine ⟨_, rfl, _, _, rfl, rfl, _, rfl, iteB (by show decide ((5 : Int) < (n : Int)) = false; exact decide_eq_false (by omega)) ?_⟩
  refine ⟨_, rfl, _, rfl, iteB rfl ?_⟩
  refine ⟨_, rfl, _, _, _, _, rfl, .lst h3, kit_ll K, _, rfl, iteB rfl ?_⟩
  refine ⟨_, rfl, r, _, rfl, .inl (SqL.of h3), _, rfl, by omega, by omega, ?_⟩
  have hpt3 := e3 _ _ hpt2
  have hP3 := hP2.same e3
  have hW3 := hW.same e3
  have e03 := e02.trans e3
  refine for_range (n := ((ys.length : Nat) : Int).toNat) (fun i σ H' => (∃ o9 : Option V, σ = [some (.ref a), some (.int mo), some (.int n), some (.ref pt), some (.int s0), some (.ref wv), some (.ref r), some (.bl false), none, o9, none, none, none, none]) ∧ Same H3 H') ⟨⟨_, rfl⟩, Same.refl _⟩ ?_ ?_
  · rintro i σ H4 hi ⟨⟨o9, rfl⟩, e4⟩
    rw [Int.zero_add]
    have hil : i < ys.length := by omega
    obtain ⟨k, hk, pk, epk, hpk⟩ := hL3.get (List.getElem?_eq_getElem hil)
    have hat1 : atI ys (i : Int) = some (.ref pk) := atI_nat (by rw [List.getElem?_eq_getElem hil, epk])
    have hpk4 := e4 _ _ hpk
    obtain ⟨kl, ksm, klf⟩ := h05 k (List.mem_of_getElem? hk)
    refine ⟨_, rfl, _, rfl, r, _, _, _, rfl, rfl, SqL.of (e4 _ _ h3), hat1, _, rfl, pk, k, n, rfl, hpk4, kl, _, rfl, iteB rfl ?_⟩
    refine ⟨_, rfl, _, rfl, _, rfl, _, rfl, r, _, _, _, rfl, rfl, SqL.of (e4 _ _ h3), hat1, pt, pk, n, zs, T, T', k, rfl, e4 _ _ hpt3, hP3.same e4, hG.rng, hN, hTp, n8, hpk4, kl, klf, fun H5 e5 => ?_⟩
    refine ⟨_, rfl, iteB rfl ?_⟩
    have e45 := e4.trans e5
    refine ⟨_, rfl, _, _, rfl, rfl, _, rfl, ?_⟩
    by_cases c : i = 0
    · refine iteB (by show decide ((0 : Int) < (i : Int)) = false; exact decide_eq_false (by omega)) ?_
      exact ⟨⟨_, rfl⟩, e45⟩
    refine iteBT (by show decide ((0 : Int) < (i : Int)) = true; exact decide_eq_true (by omega)) ?_
    have hjl : i - 1 < ys.length := by omega
    obtain ⟨k0, hk0, pk0, epk0, hpk0⟩ := hL3.get (List.getElem?_eq_getElem hjl)
    have hat0 : atI ys ((i : Int) - 1) = some (.ref pk0) := by
      rw [show (i : Int) - 1 = ((i - 1 : Nat) : Int) by omega]
      exact atI_nat (by rw [List.getElem?_eq_getElem hjl, epk0])
    obtain ⟨kl0, ksm0, _⟩ := h05 k0 (List.mem_of_getElem? hk0)
    have hlt : cdL k0 < cdL k := by
      rw [List.pairwise_iff_getElem] at hrise
      have a1 := List.getElem?_eq_some_iff.mp hk0
      have a2 := List.getElem?_eq_some_iff.mp hk
      obtain ⟨b1, c1⟩ := a1
      obtain ⟨b2, c2⟩ := a2
      have := hrise (i - 1) i (by rw [List.length_map]; exact b1) (by rw [List.length_map]; exact b2) (by omega)
      rw [List.getElem_map, List.getElem_map, c1, c2] at this
      exact this
    refine ⟨_, rfl, _, rfl, _, _, rfl, rfl, r, _, _, _, rfl, rfl, SqL.of (e45 _ _ h3), hat0, _, rfl, _, rfl, r, _, _, _, rfl, rfl, SqL.of (e45 _ _ h3), hat1, pk0, pk, k0, k, rfl, rfl, e45 _ _ hpk0, e45 _ _ hpk, by omega, ?_⟩
    rw [lex_cdL (by omega) ksm0 ksm, decide_eq_true hlt]
    exact ⟨_, rfl, iteB rfl ⟨⟨_, rfl⟩, e45⟩⟩
  rintro σ H4 ⟨⟨o9, rfl⟩, e4⟩
  have e04 := e03.trans e4
  have h4 := e4 _ _ h3
  have hL4 := hL3.same e4
  have hpt4 := e4 _ _ hpt3
  have hP4 := hP3.same e4
  refine ⟨_, rfl, _, rfl, _, rfl, a, ns, s0, n, rfl, e04.seq hS, n8, fun po o H5 hpo e5 ho hp => ?_⟩
  have e05 := e04.trans e5
  refine ⟨by show 1 ≤ sizeLine; decide, fun c1 hc1 => ?_⟩
  have f6 := same_new hc1 (.lst [.int 0])
  refine ⟨_, rfl, _, rfl, _, rfl, _, _, rfl, rfl, _, rfl, _, rfl, _, rfl, _, _, rfl, rfl, _, _, rfl, rfl, _, rfl, a, _, rfl, (e05.trans f6).seq hS, fun c2 hc2 => ?_⟩
  obtain ⟨cs, ecs, hcl⟩ := cutV_ints ns (some ((s0 : Int) + (n : Int))) (some ((s0 : Int) + (n : Int) + 60))
  rw [ecs]
  have f7 := same_new hc2 (.lst (cs.map V.int))
  refine ⟨c1, c2, _, _, rfl, rfl, f7 _ _ upd_same, upd_same, by rw [List.length_map]; exact Nat.le_of_lt (small1000 (by simp; omega)), fun c3 hc3 => ?_⟩
  have f8 := same_new hc3 (.lst ([V.int 0] ++ cs.map V.int))
  have h8 : upd (upd (upd H5 c1 (.lst [.int 0])) c2 (.lst (cs.map V.int))) c3 (.lst ([V.int 0] ++ cs.map V.int)) c3 = some (.lst ((0 :: cs).map V.int)) := upd_same
  have e58 := (f6.trans f7).trans f8
  have ho8 := e58 _ _ ho
  have hc3o : c3 ≠ po := fun w => by
    have hx := (f6.trans f7) _ _ ho
    rw [← w, hc3] at hx
    cases hx
  generalize upd (upd (upd H5 c1 (.lst [.int 0])) c2 (.lst (cs.map V.int))) c3 (.lst ([V.int 0] ++ cs.map V.int)) = H8 at f8 h8 e58 ho8 ⊢
  have e48 := e5.trans e58
  refine ⟨c3, rfl, ⟨_, SqL.of h8⟩, ?_⟩
  refine for_list (xs := (0 :: cs).map V.int) (fun i σ H' => (∃ o11 o12 : Option V, σ = [some (.ref a), some (.int mo), some (.int n), some (.ref pt), some (.int s0), some (.ref wv), some (.ref r), some (.bl false), none, o9, some (.ref po), o11, o12, none]) ∧ Same H4 H' ∧ H' c3 = some (.lst ((0 :: cs).map V.int)) ∧ ∃ o : List Int, H' po = some (.lst (o.map V.int)) ∧ o.Perm (hs n)) ⟨⟨_, _, rfl⟩, e48, h8, o, ho8, hp⟩ (fun i σ H' _ ⟨_, _, h, _⟩ => SqL.of h) ?_ ?_
  · clear ho ho8 hp
    rintro i v σ H9 hv ⟨⟨o11, o12, rfl⟩, e9, hc9, o, ho9, hp⟩
    obtain ⟨c, hc, rfl⟩ := mapI_get hv
    have ol : o.length = n := by rw [hp.length_eq, hs_length]
    have w0 := Int.emod_nonneg c (show (((o.map V.int).length : Nat) : Int) ≠ 0 by rw [List.length_map]; omega)
    have w1 := Int.emod_lt_of_pos c (show (0 : Int) < (((o.map V.int).length : Nat) : Int) by rw [List.length_map]; omega)
    have w2 : (c % (((o.map V.int).length : Nat) : Int)).toNat < o.length := by rw [List.length_map] at w0 w1 ⊢; omega
    refine ⟨_, rfl, .inl ⟨rfl, _, SqL.of ho9⟩, _, rfl, _, rfl, po, _, rfl, .inl (SqL.of ho9), _, _, rfl, rfl, (by show (0 : Int) < (((o.map V.int).length : Nat) : Int); rw [List.length_map]; omega), po, _, _, _, _, rfl, rfl, ho9, by omega, by rw [List.length_map] at w1 ⊢; omega, idx_in w0 w1, (by rw [List.getElem?_map, List.getElem?_eq_getElem w2]; rfl : (o.map V.int)[(c % (((o.map V.int).length : Nat) : Int)).toNat]? = some (.int o[(c % (((o.map V.int).length : Nat) : Int)).toNat])), ?_⟩
    generalize hk : (c % (((o.map V.int).length : Nat) : Int)).toNat = k at w2
    rw [map_eraseI]
    have e10 := same_upd hpo e9 (.lst ((o.eraseIdx k).map V.int))
    have hc10 : upd H9 po (.lst ((o.eraseIdx k).map V.int)) c3 = some (.lst ((0 :: cs).map V.int)) := by rw [upd_ne hc3o]; exact hc9
    have ho10 : upd H9 po (.lst ((o.eraseIdx k).map V.int)) po = some (.lst ((o.eraseIdx k).map V.int)) := upd_same
    generalize upd H9 po (.lst ((o.eraseIdx k).map V.int)) = H10 at e10 hc10 ho10 ⊢
    have le : (o.eraseIdx k).length = n - 1 := by rw [List.length_eraseIdx_of_lt w2]; omega
    have hpe : (o[k] :: o.eraseIdx k).Perm (hs n) := (pop_perm w2).trans hp
    generalize o[k] = hx at hpe ⊢
    generalize o.eraseIdx k = oe at ho10 le hpe ⊢
    have u0 := Int.emod_nonneg (c / 8) (show (((oe.map V.int).length : Nat) : Int) + 1 ≠ 0 by omega)
    have u1 := Int.emod_lt_of_pos (c / 8) (show (0 : Int) < (((oe.map V.int).length : Nat) : Int) + 1 by omega)
    refine ⟨_, rfl, .inl ⟨rfl, _, SqL.of ho10⟩, _, rfl, _, _, rfl, rfl, ⟨by decide, by decide⟩, _, rfl, po, _, rfl, .inl (SqL.of ho10), _, _, rfl, rfl, _, _, rfl, rfl, (by show (0 : Int) < (((oe.map V.int).length : Nat) : Int) + 1; omega), _, rfl, po, _, _, _, rfl, rfl, ho10, u0, by omega, by rw [List.length_map]; exact small1000 (by omega), ?_⟩
    have hins : (oe.map V.int).take (c / 8 % ((((oe.map V.int).length : Nat) : Int) + 1)).toNat ++ V.int hx :: (oe.map V.int).drop (c / 8 % ((((oe.map V.int).length : Nat) : Int) + 1)).toNat = (oe.take (c / 8 % ((((oe.map V.int).length : Nat) : Int) + 1)).toNat ++ hx :: oe.drop (c / 8 % ((((oe.map V.int).length : Nat) : Int) + 1)).toNat).map V.int := by rw [List.map_append, List.map_cons, List.map_take, List.map_drop]
    rw [hins]
    have hpn : (oe.take (c / 8 % ((((oe.map V.int).length : Nat) : Int) + 1)).toNat ++ hx :: oe.drop (c / 8 % ((((oe.map V.int).length : Nat) : Int) + 1)).toNat).Perm (hs n) := (ins_perm _ _ _).trans hpe
    generalize oe.take (c / 8 % ((((oe.map V.int).length : Nat) : Int) + 1)).toNat ++ hx :: oe.drop (c / 8 % ((((oe.map V.int).length : Nat) : Int) + 1)).toNat = o2 at hpn ⊢
    have e11 := same_upd hpo e10 (.lst (o2.map V.int))
    have hc11 : upd H10 po (.lst (o2.map V.int)) c3 = some (.lst ((0 :: cs).map V.int)) := by rw [upd_ne hc3o]; exact hc10
    have ho11 : upd H10 po (.lst (o2.map V.int)) po = some (.lst (o2.map V.int)) := upd_same
    generalize upd H10 po (.lst (o2.map V.int)) = H11 at e11 hc11 ho11 ⊢
    refine ⟨_, rfl, _, rfl, _, rfl, pt, po, n, zs, T, T', o2, rfl, e11 _ _ hpt4, hP4.same e11, hG.rng, hG'.rng, hN, hTp, n8, ho11, hpn, fun pb H12 hpb e12 hb12 => ?_⟩
    have e412 := e11.trans e12
    refine ⟨_, rfl, pb, r, _, ys, ms, rfl, rfl, hb12, SqL.of (e412 _ _ h4), hL4.same e412, (hms _).mpr ⟨o2, hpn, rfl⟩, _, rfl, iteB rfl ?_⟩
    exact ⟨⟨_, _, rfl⟩, e412, e12 _ _ hc11, o2, e12 _ _ ho11, hpn⟩
  rintro σ H9 ⟨⟨o11, o12, rfl⟩, e9, _, _⟩
  have e39 := e4.trans e9
  have h9 := e39 _ _ h3
  have hL9 := hL3.same e39
  refine ⟨_, rfl, r, rfl, ⟨_, SqL.of h9⟩, ?_⟩
  refine comp_list (xs := ys) (fun i σ H' acc => Same H9 H' ∧ (∃ o, σ = [o]) ∧ LstVs H' acc (ms.take i) ∧ ∀ v ∈ acc, ∃ b, v = .ref b ∧ H9 b = none) ⟨Same.refl _, ⟨_, rfl⟩, .nil, fun v hv => nomatch hv⟩ ?_ (Nat.le_of_lt (small1000 (by omega))) ?_ ?_
  · rintro i σ H' acc hi ⟨e, _, hA, _⟩
    refine ⟨SqL.of (e _ _ h9), ?_⟩
    rw [hA.len, List.length_take]
    omega
  · rintro i v σ H' acc hv ⟨e, ⟨o1, rfl⟩, hA, hac⟩
    obtain ⟨k, hk, b, rfl, hb⟩ := hL9.get hv
    refine ⟨_, rfl, b, _, rfl, .inl (SqL.of (e _ _ hb)), fun pk hpk => ?_⟩
    have f := same_new hpk (.lst (k.map V.int))
    refine ⟨e.trans f, ⟨_, rfl⟩, ?_, fun v hv => ?_⟩
    · rw [take_one hk]
      exact Paired.snoc (hA.same f) ⟨pk, rfl, upd_same⟩
    · rcases List.mem_append.mp hv with h | h
      · exact hac v h
      · exact ⟨pk, List.mem_singleton.mp h, e.free hpk⟩
  rintro σ H10 acc ⟨e10, _, hA10, hac⟩ pk hpk
  rw [hyl, List.take_length] at hA10
  have f11 := same_new hpk (.lst acc)
  have hk11 : upd H10 pk (.lst acc) pk = some (.lst acc) := upd_same
  have hA11 := hA10.same f11
  have e911 := e10.trans f11
  have hpk9 : H9 pk = none := e10.free hpk
  generalize upd H10 pk (.lst acc) = H11 at f11 hk11 hA11 e911 ⊢
  -- the first of them
  have hmn : 0 < ms.length := List.length_pos_of_mem ((hms _).mpr ⟨hs n, List.Perm.refl _, rfl⟩)
  have h0l : 0 < ys.length := by omega
  obtain ⟨k0, hk0, p0, ep0, hp0⟩ := hL9.get (List.getElem?_eq_getElem h0l)
  have hat0 : atI ys (0 : Int) = some (.ref p0) := atI_nat (j := 0) (by rw [List.getElem?_eq_getElem h0l, ep0])
  have k0l := (h05 k0 (List.mem_of_getElem? hk0)).1
  obtain ⟨p0', ep0', hp02⟩ := hfr _ (List.getElem_mem h0l)
  rw [ep0] at ep0'
  injection ep0' with ep0'
  subst ep0'
  have h11 := e911 _ _ h9
  have hp011 := e911 _ _ hp0
  have hrp : r ≠ p0 := fun w => by
    rw [w, hp011] at h11
    injection h11 with h11
    injection h11 with h11
    exact no_int h11 h0l ep0
  refine ⟨_, rfl, r, _, _, _, rfl, rfl, SqL.of h11, hat0, .inl ⟨rfl, _, SqL.of hp011⟩, p0, _, _, rfl, rfl, hp011, by rw [List.length_map]; exact small1000 (by omega), ?_⟩
  have e211 : Same H2 H11 := (e3.trans e39).trans e911
  have e212 := same_upd hp02 e211 (.lst (k0.map V.int ++ [.int 1]))
  have h12 : upd H11 p0 (.lst (k0.map V.int ++ [.int 1])) r = some (.lst ys) := by rw [upd_ne hrp]; exact h11
  have hpk0 : pk ≠ p0 := fun w => by rw [w, hp0] at hpk9; cases hpk9
  have hk12 : upd H11 p0 (.lst (k0.map V.int ++ [.int 1])) pk = some (.lst acc) := by rw [upd_ne hpk0]; exact hk11
  have hA12 : LN (upd H11 p0 (.lst (k0.map V.int ++ [.int 1]))) r acc ms := by
    refine Paired.mapMem hA11 fun v k hv hk => ?_
    obtain ⟨b, rfl, hb⟩ := hk
    obtain ⟨b', eb, hb'⟩ := hac _ hv
    injection eb with eb
    subst eb
    refine ⟨⟨b, rfl, ?_⟩, fun w => ?_⟩
    · rw [upd_ne fun w => by rw [w, hp0] at hb'; cases hb']
      exact hb
    · injection w with w
      rw [w, h9] at hb'
      cases hb'
  generalize upd H11 p0 (.lst (k0.map V.int ++ [.int 1])) = H12 at e212 h12 hk12 hA12 ⊢
  refine ⟨_, rfl, .inl ⟨rfl, _, SqL.of h12⟩, by show 1 ≤ sizeLine; decide, fun p13 hp13 => ?_⟩
  have f13 := same_new hp13 (.lst [.int 0])
  have h13 := f13 _ _ h12
  have hk13 := f13 _ _ hk12
  have hA13 := hA12.same f13
  have e213 := e212.trans f13
  generalize upd H12 p13 (.lst [.int 0]) = H13 at f13 h13 hk13 hA13 e213 ⊢
  refine ⟨r, ys, _, rfl, rfl, h13, small1000 (by omega), ?_⟩
  have e214 := same_upd hr3 e213 (.lst (ys ++ [.ref p13]))
  have hrk : pk ≠ r := fun w => by rw [w, h9] at hpk9; cases hpk9
  have hk14 : upd H13 r (.lst (ys ++ [.ref p13])) pk = some (.lst acc) := by rw [upd_ne hrk]; exact hk13
  have hA14 := (hA13.put (.lst (ys ++ [.ref p13]))).to
  generalize upd H13 r (.lst (ys ++ [.ref p13])) = H14 at e214 hk14 hA14 ⊢
  refine ⟨_, rfl, wv, n, T', rfl, hW.same e214, n1, n8, hG'.rng, hN, fun _ r2 ys2 ms2 H15 hr15 e15 h15 hL15 _ _ hrise2 hms2 => ?_, fun n6 => absurd n6 (by omega)⟩
  have ems : ms2 = ms := rise_eq hrise2 hrise fun k => (hms2 k).trans (hms k).symm
  subst ems
  refine ⟨_, rfl, r2, pk, _, _, rfl, rfl, SqL.of h15, SqL.of (e15 _ _ hk14), eqLL hL15 (hA14.same e15), q _⟩

end
set_option maxHeartbeats 4000000 in
theorem all_mk {l : PySem.W.OpenLaw} {w : World} {K : PySem.W.Frag} {h : Heap} {mg : Str → Option Value} {fa f0 f1 f2 f3 f4 f5 f6 f7 f8 f9 f10 f11 f12 f13 f14 f15 f16 f17 f18 f19 f20 cOwingError cTooWide : Addr} (X : K.In h) (G : h.Ns mainGlobals mg) (hfa : mg "law" = some (.ref fa))
    {od0 an0 od1 an1 od2 an2 od3 an3 od4 an4 od5 an5 od6 an6 od7 an7 od8 an8 od9 an9 od10 an10 od11 an11 od12 an12 od13 an13 od14 an14 od15 an15 od16 an16 od17 an17 od18 an18 od19 an19 od20 an20 : Option Addr} {sl0 sl1 sl2 sl3 sl4 sl5 sl6 sl7 sl8 sl9 sl10 sl11 sl12 sl13 sl14 sl15 sl16 sl17 sl18 sl19 sl20 : Array (Option Value)} {oc0 kV0 dc0 pm0 cd0 ct0 oc1 kV1 dc1 pm1 cd1 ct1 oc2 kV2 dc2 pm2 cd2 ct2 oc3 kV3 dc3 pm3 cd3 ct3 oc4 kV4 dc4 pm4 cd4 ct4 oc5 kV5 dc5 pm5 cd5 ct5 oc6 kV6 dc6 pm6 cd6 ct6 oc7 kV7 dc7 pm7 cd7 ct7 oc8 kV8 dc8 pm8 cd8 ct8 oc9 kV9 dc9 pm9 cd9 ct9 oc10 kV10 dc10 pm10 cd10 ct10 oc11 kV11 dc11 pm11 cd11 ct11 oc12 kV12 dc12 pm12 cd12 ct12 oc13 kV13 dc13 pm13 cd13 ct13 oc14 kV14 dc14 pm14 cd14 ct14 oc15 kV15 dc15 pm15 cd15 ct15 oc16 kV16 dc16 pm16 cd16 ct16 oc17 kV17 dc17 pm17 cd17 ct17 oc18 kV18 dc18 pm18 cd18 ct18 oc19 kV19 dc19 pm19 cd19 ct19 oc20 kV20 dc20 pm20 cd20 ct20 : Value} {t8 t16 : Tok} {t5 : Tok}
    (a0 : PySem.W.nsIn K mainGlobals "made" = some (some (.ref f0))) (l0 : K.lookup f0 = some ⟨oc0, od0, .func (PySem.W.fnOf "made" "made" (defArgs sMa) (defBody sMa) (defScope sMa) .none kV0 dc0 pm0 an0 cd0 ct0), sl0⟩) (c0 : PySem.W.codeIn K cd0 "made" = true) (k0 : PySem.W.keepIn K (.ref f0) = true)
    (a1 : PySem.W.nsIn K mainGlobals "need_bounds" = some (some (.ref f1))) (l1 : K.lookup f1 = some ⟨oc1, od1, .func (PySem.W.fnOf "need_bounds" "need_bounds" (defArgs sNb) (defBody sNb) (defScope sNb) .none kV1 dc1 pm1 an1 cd1 ct1), sl1⟩) (c1 : PySem.W.codeIn K cd1 "need_bounds" = true) (k1 : PySem.W.keepIn K (.ref f1) = true)
    (a2 : PySem.W.nsIn K mainGlobals "need_tie" = some (some (.ref f2))) (l2 : K.lookup f2 = some ⟨oc2, od2, .func (PySem.W.fnOf "need_tie" "need_tie" (defArgs sNt) (defBody sNt) (defScope sNt) .none kV2 dc2 pm2 an2 cd2 ct2), sl2⟩) (c2 : PySem.W.codeIn K cd2 "need_tie" = true) (k2 : PySem.W.keepIn K (.ref f2) = true)
    (a3 : PySem.W.nsIn K mainGlobals "is_house" = some (some (.ref f3))) (l3 : K.lookup f3 = some ⟨oc3, od3, .func (PySem.W.fnOf "is_house" "is_house" (defArgs sIs) (defBody sIs) (defScope sIs) .none kV3 dc3 pm3 an3 cd3 ct3), sl3⟩) (c3 : PySem.W.codeIn K cd3 "is_house" = true) (k3 : PySem.W.keepIn K (.ref f3) = true)
    (a4 : PySem.W.nsIn K mainGlobals "reached" = some (some (.ref f4))) (l4 : K.lookup f4 = some ⟨oc4, od4, .func (PySem.W.fnOf "reached" "reached" (defArgs sRe) (defBody sRe) (defScope sRe) .none kV4 dc4 pm4 an4 cd4 ct4), sl4⟩) (c4 : PySem.W.codeIn K cd4 "reached" = true) (k4 : PySem.W.keepIn K (.ref f4) = true)
    (a5 : PySem.W.nsIn K mainGlobals "need_house" = some (some (.ref f5))) (l5 : K.lookup f5 = some ⟨oc5, od5, .func (PySem.W.fnOf "need_house" "need_house" (defArgs sNh) (defBody sNh) (defScope sNh) .none kV5 dc5 pm5 an5 cd5 ct5), sl5⟩) (c5 : PySem.W.codeIn K cd5 "need_house" = true) (k5 : PySem.W.keepIn K (.ref f5) = true)
    (a6 : PySem.W.nsIn K mainGlobals "between" = some (some (.ref f6))) (l6 : K.lookup f6 = some ⟨oc6, od6, .func (PySem.W.fnOf "between" "between" (defArgs sBe) (defBody sBe) (defScope sBe) .none kV6 dc6 pm6 an6 cd6 ct6), sl6⟩) (c6 : PySem.W.codeIn K cd6 "between" = true) (k6 : PySem.W.keepIn K (.ref f6) = true)
    (a7 : PySem.W.nsIn K mainGlobals "ties_to" = some (some (.ref f7))) (l7 : K.lookup f7 = some ⟨oc7, od7, .func (PySem.W.fnOf "ties_to" "ties_to" (defArgs sTt) (defBody sTt) (defScope sTt) .none kV7 dc7 pm7 an7 cd7 ct7), sl7⟩) (c7 : PySem.W.codeIn K cd7 "ties_to" = true) (k7 : PySem.W.keepIn K (.ref f7) = true)
    (a8 : PySem.W.nsIn K mainGlobals "most_in" = some (some (.ref f8))) (l8 : K.lookup f8 = some ⟨oc8, od8, .func (PySem.W.fnOf "most_in" "most_in" (defArgs sMo) (defBody sMo) (defScope sMo) .none kV8 dc8 pm8 an8 cd8 ct8), sl8⟩) (c8 : PySem.W.codeIn K cd8 "most_in" = true) (k8 : PySem.W.keepIn K (.ref f8) = true)
    (a9 : PySem.W.nsIn K mainGlobals "bounds" = some (some (.ref f9))) (l9 : K.lookup f9 = some ⟨oc9, od9, .func (PySem.W.fnOf "bounds" "bounds" (defArgs sBs) (defBody sBs) (defScope sBs) .none kV9 dc9 pm9 an9 cd9 ct9), sl9⟩) (c9 : PySem.W.codeIn K cd9 "bounds" = true) (k9 : PySem.W.keepIn K (.ref f9) = true)
    (a10 : PySem.W.nsIn K mainGlobals "all_orders" = some (some (.ref f10))) (l10 : K.lookup f10 = some ⟨oc10, od10, .func (PySem.W.fnOf "all_orders" "all_orders" (defArgs sAo) (defBody sAo) (defScope sAo) .none kV10 dc10 pm10 an10 cd10 ct10), sl10⟩) (c10 : PySem.W.codeIn K cd10 "all_orders" = true) (k10 : PySem.W.keepIn K (.ref f10) = true)
    (a11 : PySem.W.nsIn K mainGlobals "with_house" = some (some (.ref f11))) (l11 : K.lookup f11 = some ⟨oc11, od11, .func (PySem.W.fnOf "with_house" "with_house" (defArgs sWi) (defBody sWi) (defScope sWi) .none kV11 dc11 pm11 an11 cd11 ct11), sl11⟩) (c11 : PySem.W.codeIn K cd11 "with_house" = true) (k11 : PySem.W.keepIn K (.ref f11) = true)
    (a12 : PySem.W.nsIn K mainGlobals "_law_cell_at" = some (some (.ref f12))) (l12 : K.lookup f12 = some ⟨oc12, od12, .func (PySem.W.fnOf "_law_cell_at" "_law_cell_at" (defArgs sCe) (defBody sCe) (defScope sCe) .none kV12 dc12 pm12 an12 cd12 ct12), sl12⟩) (c12 : PySem.W.codeIn K cd12 "_law_cell_at" = true) (k12 : PySem.W.keepIn K (.ref f12) = true)
    (a13 : PySem.W.nsIn K mainGlobals "_law_whole" = some (some (.ref f13))) (l13 : K.lookup f13 = some ⟨oc13, od13, .func (PySem.W.fnOf "_law_whole" "_law_whole" (defArgs sWh) (defBody sWh) (defScope sWh) .none kV13 dc13 pm13 an13 cd13 ct13), sl13⟩) (c13 : PySem.W.codeIn K cd13 "_law_whole" = true) (k13 : PySem.W.keepIn K (.ref f13) = true)
    (a14 : PySem.W.nsIn K mainGlobals "_law_numbers" = some (some (.ref f14))) (l14 : K.lookup f14 = some ⟨oc14, od14, .func (PySem.W.fnOf "_law_numbers" "_law_numbers" (defArgs sNu) (defBody sNu) (defScope sNu) .none kV14 dc14 pm14 an14 cd14 ct14), sl14⟩) (c14 : PySem.W.codeIn K cd14 "_law_numbers" = true) (k14 : PySem.W.keepIn K (.ref f14) = true)
    (a15 : PySem.W.nsIn K mainGlobals "_law_web" = some (some (.ref f15))) (l15 : K.lookup f15 = some ⟨oc15, od15, .func (PySem.W.fnOf "_law_web" "_law_web" (defArgs sWb) (defBody sWb) (defScope sWb) .none kV15 dc15 pm15 an15 cd15 ct15), sl15⟩) (c15 : PySem.W.codeIn K cd15 "_law_web" = true) (k15 : PySem.W.keepIn K (.ref f15) = true)
    (a16 : PySem.W.nsIn K mainGlobals "_law_order" = some (some (.ref f16))) (l16 : K.lookup f16 = some ⟨oc16, od16, .func (PySem.W.fnOf "_law_order" "_law_order" (defArgs sOr) (defBody sOr) (defScope sOr) .none kV16 dc16 pm16 an16 cd16 ct16), sl16⟩) (c16 : PySem.W.codeIn K cd16 "_law_order" = true) (k16 : PySem.W.keepIn K (.ref f16) = true)
    (a17 : PySem.W.nsIn K mainGlobals "_law_bound" = some (some (.ref f17))) (l17 : K.lookup f17 = some ⟨oc17, od17, .func (PySem.W.fnOf "_law_bound" "_law_bound" (defArgs sLb) (defBody sLb) (defScope sLb) .none kV17 dc17 pm17 an17 cd17 ct17), sl17⟩) (c17 : PySem.W.codeIn K cd17 "_law_bound" = true) (k17 : PySem.W.keepIn K (.ref f17) = true)
    (a18 : PySem.W.nsIn K mainGlobals "_law_is_bound" = some (some (.ref f18))) (l18 : K.lookup f18 = some ⟨oc18, od18, .func (PySem.W.fnOf "_law_is_bound" "_law_is_bound" (defArgs sIb) (defBody sIb) (defScope sIb) .none kV18 dc18 pm18 an18 cd18 ct18), sl18⟩) (c18 : PySem.W.codeIn K cd18 "_law_is_bound" = true) (k18 : PySem.W.keepIn K (.ref f18) = true)
    (a19 : PySem.W.nsIn K mainGlobals "_law_ties_in" = some (some (.ref f19))) (l19 : K.lookup f19 = some ⟨oc19, od19, .func (PySem.W.fnOf "_law_ties_in" "_law_ties_in" (defArgs sTi) (defBody sTi) (defScope sTi) .none kV19 dc19 pm19 an19 cd19 ct19), sl19⟩) (c19 : PySem.W.codeIn K cd19 "_law_ties_in" = true) (k19 : PySem.W.keepIn K (.ref f19) = true)
    (a20 : PySem.W.nsIn K mainGlobals "law" = some (some (.ref f20))) (l20 : K.lookup f20 = some ⟨oc20, od20, .func (PySem.W.fnOf "law" "law" (defArgs sLw) (defBody sLw) (defScope sLw) .none kV20 dc20 pm20 an20 cd20 ct20), sl20⟩) (c20 : PySem.W.codeIn K cd20 "law" = true) (k20 : PySem.W.keepIn K (.ref f20) = true)
    (g8 : PySem.W.nsIn K mainGlobals "MOST_HOUSES" = some (some (.int 8 t8))) (g16 : PySem.W.nsIn K mainGlobals "MOST_TIES" = some (some (.int 16 t16)))
    (g5 : PySem.W.nsIn K mainGlobals "MOST_HOUSES_IN_ORDERS" = some (some (.int 5 t5)))
    (z0 : PySem.W.nsIn K mainGlobals "len" = some none)
    (z1 : PySem.W.nsIn K mainGlobals "range" = some none)
    (z2 : PySem.W.nsIn K mainGlobals "list" = some none)
    (z3 : PySem.W.nsIn K mainGlobals "tuple" = some none)
    (z4 : PySem.W.nsIn K mainGlobals "sorted" = some none)
    (z5 : PySem.W.nsIn K mainGlobals "min" = some none)
    (z6 : PySem.W.nsIn K mainGlobals "max" = some none)
    (z7 : PySem.W.nsIn K mainGlobals "sum" = some none)
    (z8 : PySem.W.nsIn K mainGlobals "isinstance" = some none)
    (z9 : PySem.W.nsIn K mainGlobals "int" = some none)
    (z10 : PySem.W.nsIn K mainGlobals "bool" = some none)
    (z11 : PySem.W.nsIn K mainGlobals "enumerate" = some none)
    (z12 : PySem.W.nsIn K mainGlobals "set" = some none)
    (nOwingError : PySem.W.nsIn K mainGlobals "OwingError" = some (some (.ref cOwingError)))
    (nTooWide : PySem.W.nsIn K mainGlobals "TooWide" = some (some (.ref cTooWide)))
    (xTooWide : xOk K cTooWide cOwingError = true)
    (xB : PySem.W.exmOne K (.ref cTooWide) (.ref cTooWide) = some true)
    (kO : PySem.W.kitOne K (.ref cTooWide) (.ref cOwingError) = some true)
    : ∃ fd : FuncData, (∀ (s : Shared) (v : Value), BindsTo s fd ⟨[v], []⟩ [("script", v)]) ∧ ∀ base : Heap, K.In base → base.Ns mainGlobals mg → FnOk l.prog w K mg base CX0 8 fa fd ["script"] (spLaw K) := by
  have e := hfa.symm.trans (PySem.W.mg_of X G a20)
  cases e
  have B : Blt mg := ⟨PySem.W.mg_none_of X G z0, PySem.W.mg_none_of X G z1, PySem.W.mg_none_of X G z2, PySem.W.mg_none_of X G z3, PySem.W.mg_none_of X G z4, PySem.W.mg_none_of X G z5, PySem.W.mg_none_of X G z6, PySem.W.mg_none_of X G z7, PySem.W.mg_none_of X G z8, PySem.W.mg_none_of X G z9, PySem.W.mg_none_of X G z10⟩
  have m8 := PySem.W.mg_of X G g8
  have m16 := PySem.W.mg_of X G g16
  have m5 := PySem.W.mg_of X G g5
  have hen := PySem.W.mg_none_of X G z11
  have hset := PySem.W.mg_none_of X G z12
  have mOwingError := PySem.W.mg_of X G nOwingError
  have mTooWide := PySem.W.mg_of X G nTooWide
  have yTooWide := xcls_mk mTooWide xTooWide
  have F0 := fun_mk (st := sMa) l0 c0 k0
  have b0 := F0.binds (ps := ["houses", "ties"]) fun _ _ _ _ _ _ us hl => match us, hl with | [_, _], _ => rfl
  have F1 := fun_mk (st := sNb) l1 c1 k1
  have b1 := F1.binds (ps := ["houses", "ties"]) fun _ _ _ _ _ _ us hl => match us, hl with | [_, _], _ => rfl
  have F2 := fun_mk (st := sNt) l2 c2 k2
  have b2 := F2.binds (ps := ["houses", "tie"]) fun _ _ _ _ _ _ us hl => match us, hl with | [_, _], _ => rfl
  have F3 := fun_mk (st := sIs) l3 c3 k3
  have b3 := F3.binds (ps := ["houses", "number"]) fun _ _ _ _ _ _ us hl => match us, hl with | [_, _], _ => rfl
  have F4 := fun_mk (st := sRe) l4 c4 k4
  have b4 := F4.binds (ps := ["ties"]) fun _ _ _ _ _ _ us hl => match us, hl with | [_], _ => rfl
  have F5 := fun_mk (st := sNh) l5 c5 k5
  have b5 := F5.binds (ps := ["web", "house"]) fun _ _ _ _ _ _ us hl => match us, hl with | [_, _], _ => rfl
  have F6 := fun_mk (st := sBe) l6 c6 k6
  have b6 := F6.binds (ps := ["web", "one", "other"]) fun _ _ _ _ _ _ us hl => match us, hl with | [_, _, _], _ => rfl
  have F7 := fun_mk (st := sTt) l7 c7 k7
  have b7 := F7.binds (ps := ["web", "house", "group"]) fun _ _ _ _ _ _ us hl => match us, hl with | [_, _, _], _ => rfl
  have F8 := fun_mk (st := sMo) l8 c8 k8
  have b8 := F8.binds (ps := ["web", "order"]) fun _ _ _ _ _ _ us hl => match us, hl with | [_, _], _ => rfl
  have F9 := fun_mk (st := sBs) l9 c9 k9
  have b9 := F9.binds (ps := ["web"]) fun _ _ _ _ _ _ us hl => match us, hl with | [_], _ => rfl
  have F10 := fun_mk (st := sAo) l10 c10 k10
  have b10 := F10.binds (ps := ["houses"]) fun _ _ _ _ _ _ us hl => match us, hl with | [_], _ => rfl
  have F11 := fun_mk (st := sWi) l11 c11 k11
  have b11 := F11.binds (ps := ["orders", "house"]) fun _ _ _ _ _ _ us hl => match us, hl with | [_, _], _ => rfl
  have F12 := fun_mk (st := sCe) l12 c12 k12
  have b12 := F12.binds (ps := ["script", "k"]) fun _ _ _ _ _ _ us hl => match us, hl with | [_, _], _ => rfl
  have F13 := fun_mk (st := sWh) l13 c13 k13
  have b13 := F13.binds (ps := ["found"]) fun _ _ _ _ _ _ us hl => match us, hl with | [_], _ => rfl
  have F14 := fun_mk (st := sNu) l14 c14 k14
  have b14 := F14.binds (ps := ["found", "many"]) fun _ _ _ _ _ _ us hl => match us, hl with | [_, _], _ => rfl
  have F15 := fun_mk (st := sWb) l15 c15 k15
  have b15 := F15.binds (ps := ["script", "most"]) fun _ _ _ _ _ _ us hl => match us, hl with | [_, _], _ => rfl
  have F16 := fun_mk (st := sOr) l16 c16 k16
  have b16 := F16.binds (ps := ["script", "start", "houses"]) fun _ _ _ _ _ _ us hl => match us, hl with | [_, _, _], _ => rfl
  have F17 := fun_mk (st := sLb) l17 c17 k17
  have b17 := F17.binds (ps := ["houses", "ties", "order"]) fun _ _ _ _ _ _ us hl => match us, hl with | [_, _, _], _ => rfl
  have F18 := fun_mk (st := sIb) l18 c18 k18
  have b18 := F18.binds (ps := ["houses", "ties", "told_numbers"]) fun _ _ _ _ _ _ us hl => match us, hl with | [_, _, _], _ => rfl
  have F19 := fun_mk (st := sTi) l19 c19 k19
  have b19 := F19.binds (ps := ["ties", "house", "left"]) fun _ _ _ _ _ _ us hl => match us, hl with | [_, _, _], _ => rfl
  have F20 := fun_mk (st := sLw) l20 c20 k20
  refine ⟨PySem.W.fnOf "law" "law" (defArgs sLw) (defBody sLw) (defScope sLw) .none kV20 dc20 pm20 an20 cd20 ct20, fun s v => .of_eq rfl, fun base hKb _ => ?_⟩
  have q_is_house : Cal l.prog w K mg base 1 "is_house" ["houses", "number"] spIs := ⟨⟨_, _, ok_is F3, b3, k3, PySem.W.mg_of X G a3⟩⟩
  have q_need_bounds : Cal l.prog w K mg base 1 "need_bounds" ["houses", "ties"] (spNb K) := ⟨⟨_, _, ok_nb F1 B m8 m16, b1, k1, PySem.W.mg_of X G a1⟩⟩
  have q_need_tie : Cal l.prog w K mg base 2 "need_tie" ["houses", "tie"] spNt := ⟨⟨_, _, ok_nt F2 q_is_house, b2, k2, PySem.W.mg_of X G a2⟩⟩
  have q_reached : Cal l.prog w K mg base 1 "reached" ["ties"] (spRe K) := ⟨⟨_, _, ok_re F4, b4, k4, PySem.W.mg_of X G a4⟩⟩
  have q_made : Cal l.prog w K mg base 3 "made" ["houses", "ties"] (spMa K) := ⟨⟨_, _, ok_ma F0 B (q_need_bounds.mono (by decide)) q_need_tie (q_reached.mono (by decide)), b0, k0, PySem.W.mg_of X G a0⟩⟩
  have q_need_house : Cal l.prog w K mg base 2 "need_house" ["web", "house"] spNh := ⟨⟨_, _, ok_nh F5 q_is_house, b5, k5, PySem.W.mg_of X G a5⟩⟩
  have q_between : Cal l.prog w K mg base 3 "between" ["web", "one", "other"] spBe := ⟨⟨_, _, ok_be F6 B q_need_house, b6, k6, PySem.W.mg_of X G a6⟩⟩
  have q_ties_to : Cal l.prog w K mg base 4 "ties_to" ["web", "house", "group"] (spTt K) := ⟨⟨_, _, ok_tt F7 B q_between, b7, k7, PySem.W.mg_of X G a7⟩⟩
  have q_most_in : Cal l.prog w K mg base 5 "most_in" ["web", "order"] (spMo K) := ⟨⟨_, _, ok_mo F8 B hen q_ties_to, b8, k8, PySem.W.mg_of X G a8⟩⟩
  have q__law_cell_at : Cal l.prog w K mg base 1 "_law_cell_at" ["script", "k"] (spCe K) := ⟨⟨_, _, ok_ce F12 B, b12, k12, PySem.W.mg_of X G a12⟩⟩
  have q__law_whole : Cal l.prog w K mg base 1 "_law_whole" ["found"] spWh := ⟨⟨_, _, ok_wh F13 B, b13, k13, PySem.W.mg_of X G a13⟩⟩
  have q__law_numbers : Cal l.prog w K mg base 2 "_law_numbers" ["found", "many"] spNu := ⟨⟨_, _, ok_nu F14 B q__law_whole, b14, k14, PySem.W.mg_of X G a14⟩⟩
  have q__law_web : Cal l.prog w K mg base 2 "_law_web" ["script", "most"] (spWb K) := ⟨⟨_, _, ok_wb F15 B q__law_cell_at, b15, k15, PySem.W.mg_of X G a15⟩⟩
  have q__law_order : Cal l.prog w K mg base 2 "_law_order" ["script", "start", "houses"] (spOr K) := ⟨⟨_, _, ok_or F16 B q__law_cell_at, b16, k16, PySem.W.mg_of X G a16⟩⟩
  have q__law_bound : Cal l.prog w K mg base 1 "_law_bound" ["houses", "ties", "order"] spLb := ⟨⟨_, _, ok_lb F17 B, b17, k17, PySem.W.mg_of X G a17⟩⟩
  have q_with_house : Cal l.prog w K mg base 1 "with_house" ["orders", "house"] spWi := ⟨⟨_, _, ok_wi F11 B, b11, k11, PySem.W.mg_of X G a11⟩⟩
  have q_all_orders : Cal l.prog w K mg base 2 "all_orders" ["houses"] spAo := ⟨⟨_, _, ok_ao F10 B q_with_house, b10, k10, PySem.W.mg_of X G a10⟩⟩
  have q_bounds : CalX l.prog w K mg base 6 "bounds" ["web"] (spBsx cTooWide) := ⟨⟨_, _, ok_bsx F9 B hset m5 hKb yTooWide (q_all_orders.mono (by decide)) q_most_in, b9, k9, PySem.W.mg_of X G a9⟩⟩
  have q__law_ties_in : Cal l.prog w K mg base 1 "_law_ties_in" ["ties", "house", "left"] spTi := ⟨⟨_, _, ok_ti F19 B, b19, k19, PySem.W.mg_of X G a19⟩⟩
  have q__law_is_bound : Cal l.prog w K mg base 2 "_law_is_bound" ["houses", "ties", "told_numbers"] spIb := ⟨⟨_, _, ok_ib F18 B q__law_ties_in, b18, k18, PySem.W.mg_of X G a18⟩⟩
  exact (ok_lw F20 B mOwingError mTooWide yTooWide xB kO (q__law_cell_at.mono (by decide)) (q__law_web.mono (by decide)) (q_made.mono (by decide)) (q_bounds.mono (by decide)) (q__law_numbers.mono (by decide)) (q__law_is_bound.mono (by decide)) (q__law_order.mono (by decide)) (q__law_bound.mono (by decide))).mono (by decide)
end Oh

def PySem.W.Fast.tw17234536837644335506 : Unit := ()
def PySem.W.Fast.tw13860501167623577241 : Unit := ()
def PySem.W.Fast.tw10357526165594061350 : Unit := ()
def PySem.W.Fast.tw15002544154716960276 : Unit := ()
def PySem.W.Fast.tw6111144837931530663 : Unit := ()
def PySem.W.Fast.tw9202437642898729384 : Unit := ()
def PySem.W.Fast.tw140756616170076222 : Unit := ()
open PySem PySem.W PyProof.Rows
set_option maxRecDepth 100000 in
set_option maxHeartbeats 0 in
theorem PySem.Challenge.cw_owinghall_k31_all_bounds_holds : PySem.Challenge.rw_owinghall_k31_all_bounds.Holds := by
  w_on; o_law; k_head; (case hw => w_witness2)
  k_fill
  refine Oh.walkB (l := PySem.Challenge.rw_owinghall_k31_all_bounds) (k := 8) (CX := fun _ => L2.CX0) rfl rfl ⟨rfl, by decide, by decide⟩ (fun w h Y => PySem.W.kIn_of Y) ?F (fun _ _ _ _ _ z => z)
  case F =>
    intro w mg fa h KX G hmg
    refine' Oh.all_mk KX G hmg ?a0 ?l0 ?c0 ?k0 ?a1 ?l1 ?c1 ?k1 ?a2 ?l2 ?c2 ?k2 ?a3 ?l3 ?c3 ?k3 ?a4 ?l4 ?c4 ?k4 ?a5 ?l5 ?c5 ?k5 ?a6 ?l6 ?c6 ?k6 ?a7 ?l7 ?c7 ?k7 ?a8 ?l8 ?c8 ?k8 ?a9 ?l9 ?c9 ?k9 ?a10 ?l10 ?c10 ?k10 ?a11 ?l11 ?c11 ?k11 ?a12 ?l12 ?c12 ?k12 ?a13 ?l13 ?c13 ?k13 ?a14 ?l14 ?c14 ?k14 ?a15 ?l15 ?c15 ?k15 ?a16 ?l16 ?c16 ?k16 ?a17 ?l17 ?c17 ?k17 ?a18 ?l18 ?c18 ?k18 ?a19 ?l19 ?c19 ?k19 ?a20 ?l20 ?c20 ?k20 ?g8 ?g16 ?g5 ?z0 ?z1 ?z2 ?z3 ?z4 ?z5 ?z6 ?z7 ?z8 ?z9 ?z10 ?z11 ?z12 ?nOwingError ?nTooWide ?xTooWide ?xB ?kO
    (case a0 => k_is)
    (case l0 => k_is)
    (case c0 => k_is)
    (case k0 => k_is)
    (case a1 => k_is)
    (case l1 => k_is)
    (case c1 => k_is)
    (case k1 => k_is)
    (case a2 => k_is)
    (case l2 => k_is)
    (case c2 => k_is)
    (case k2 => k_is)
    (case a3 => k_is)
    (case l3 => k_is)
    (case c3 => k_is)
    (case k3 => k_is)
    (case a4 => k_is)
    (case l4 => k_is)
    (case c4 => k_is)
    (case k4 => k_is)
    (case a5 => k_is)
    (case l5 => k_is)
    (case c5 => k_is)
    (case k5 => k_is)
    (case a6 => k_is)
    (case l6 => k_is)
    (case c6 => k_is)
    (case k6 => k_is)
    (case a7 => k_is)
    (case l7 => k_is)
    (case c7 => k_is)
    (case k7 => k_is)
    (case a8 => k_is)
    (case l8 => k_is)
    (case c8 => k_is)
    (case k8 => k_is)
    (case a9 => k_is)
    (case l9 => k_is)
    (case c9 => k_is)
    (case k9 => k_is)
    (case a10 => k_is)
    (case l10 => k_is)
    (case c10 => k_is)
    (case k10 => k_is)
    (case a11 => k_is)
    (case l11 => k_is)
    (case c11 => k_is)
    (case k11 => k_is)
    (case a12 => k_is)
    (case l12 => k_is)
    (case c12 => k_is)
    (case k12 => k_is)
    (case a13 => k_is)
    (case l13 => k_is)
    (case c13 => k_is)
    (case k13 => k_is)
    (case a14 => k_is)
    (case l14 => k_is)
    (case c14 => k_is)
    (case k14 => k_is)
    (case a15 => k_is)
    (case l15 => k_is)
    (case c15 => k_is)
    (case k15 => k_is)
    (case a16 => k_is)
    (case l16 => k_is)
    (case c16 => k_is)
    (case k16 => k_is)
    (case a17 => k_is)
    (case l17 => k_is)
    (case c17 => k_is)
    (case k17 => k_is)
    (case a18 => k_is)
    (case l18 => k_is)
    (case c18 => k_is)
    (case k18 => k_is)
    (case a19 => k_is)
    (case l19 => k_is)
    (case c19 => k_is)
    (case k19 => k_is)
    (case a20 => k_is)
    (case l20 => k_is)
    (case c20 => k_is)
    (case k20 => k_is)
    (case g8 => k_is)
    (case g16 => k_is)
    (case g5 => k_is)
    (case z0 => k_is)
    (case z1 => k_is)
    (case z2 => k_is)
    (case z3 => k_is)
    (case z4 => k_is)
    (case z5 => k_is)
    (case z6 => k_is)
    (case z7 => k_is)
    (case z8 => k_is)
    (case z9 => k_is)
    (case z10 => k_is)
    (case z11 => k_is)
    (case z12 => k_is)
    (case nOwingError => k_is)
    (case nTooWide => k_is)
    (case xTooWide => kernel_rfl)
    (case xB => kernel_rfl)
    (case kO => kernel_rfl)


