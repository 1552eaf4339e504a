import PyProof.Rows.All
import Wide.All
import OpenK.AllK
import Wide.FinOn
import Lean
import PyProof.EqAt
import PyProof.EqKinds
import PyProof.TupleCall
import KE.KTryMore
import PyProof.ZipIter
import PyProof.Rows.ZipGen
import PyProof.Rows.SetFrom
import PyProof.SetRoads
import PyProof.NeKinds
import PyProof.ConsumeWalk
import OpenK.KLine
import PyProof.ListRange
import PySem.Challenge.RW_owinghall_k12_told_papers
set_option Elab.async false
set_option linter.all false
set_option maxRecDepth 100000
/-! THE HAND LAYER, for ints, bools, texts, own classes, LISTS and tuples (index, slices, in, append, pop ..), calls, loops. Paste it whole ahead of your own text; what your proof does not reach may be deleted. -/
namespace L2
open PySem PySem.Spec PyProof.Rows

/-- a key: an int or a str -/
abbrev Key := Sum Int Str
def keyIs : Key → Value → Bool
  | .inl k, v => Value.isInt k v
  | .inr x, v => Value.isStrOf x v
def keyH (w : World) : Key → Int
  | .inl k => hashInt k
  | .inr x => hashStr w x
theorem keyIs_shape : ∀ {k : Key} {v : Value}, keyIs k v = true → (∃ i t, k = Sum.inl i ∧ v = Value.int i t) ∨ (∃ x t, k = Sum.inr x ∧ v = Value.str x t)
  | .inl i, v, h => by
    obtain ⟨t, e⟩ := Value.isInt_shape (k := i) (v := v) h
    exact .inl ⟨i, t, rfl, e⟩
  | .inr x, v, h => by
    obtain ⟨t, e⟩ := Value.isStrOf_shape (x := x) (v := v) h
    exact .inr ⟨x, t, rfl, e⟩
theorem key_ll (a b : Int) : decide ((Sum.inl a : Key) = Sum.inl b) = (a == b) := by
  by_cases e : a = b
  · subst e; simp
  · have h : ¬ (Sum.inl a : Key) = Sum.inl b := fun q => e (Sum.inl.inj q)
    rw [decide_eq_false h]
    exact (beq_eq_false_iff_ne.mpr e).symm
theorem key_rr (a b : Str) : decide ((Sum.inr a : Key) = Sum.inr b) = decide (a = b) := by
  by_cases e : a = b
  · subst e; simp
  · have h : ¬ (Sum.inr a : Key) = Sum.inr b := fun q => e (Sum.inr.inj q)
    rw [decide_eq_false h, decide_eq_false e]
theorem key_lr (a : Int) (b : Str) : decide ((Sum.inl a : Key) = Sum.inr b) = false := decide_eq_false (fun q => nomatch q)
theorem key_rl (a : Str) (b : Int) : decide ((Sum.inr a : Key) = Sum.inl b) = false := decide_eq_false (fun q => nomatch q)

def mixKind (prog : Program) (w : World) : PySem.KeyKind prog w Key where
  is := keyIs
  hash := keyH w
  inj := fun v a b ha hb => by
    rcases keyIs_shape ha with ⟨i, t, rfl, rfl⟩ | ⟨x, t, rfl, rfl⟩
    · rcases keyIs_shape hb with ⟨j, u, rfl, e⟩ | ⟨y, u, rfl, e⟩
      · injection e with e1 _; rw [e1]
      · exact nomatch e
    · rcases keyIs_shape hb with ⟨j, u, rfl, e⟩ | ⟨y, u, rfl, e⟩
      · exact nomatch e
      · injection e with e1 _; rw [e1]
  byValue := fun k v h => by
    rcases keyIs_shape h with ⟨i, t, rfl, rfl⟩ | ⟨x, t, rfl, rfl⟩ <;> rfl
  pyHash := fun hv h => by
    rcases keyIs_shape hv with ⟨i, t, rfl, rfl⟩ | ⟨x, t, rfl, rfl⟩
    · exact wpAny_pyHash_int h
    · exact wpAny_pyHash_str h
  eqBool := fun hu hv h => by
    rcases keyIs_shape hu with ⟨i, t, rfl, rfl⟩ | ⟨x, t, rfl, rfl⟩
    · rcases keyIs_shape hv with ⟨j, u, rfl, rfl⟩ | ⟨y, u, rfl, rfl⟩
      · rw [key_ll] at h; exact wpAny_eqBool_int h
      · rw [key_lr] at h; exact SeqAt.EqAt.int_str i t y u _ _ _ _ h
    · rcases keyIs_shape hv with ⟨j, u, rfl, rfl⟩ | ⟨y, u, rfl, rfl⟩
      · rw [key_rl] at h; exact SeqAt.EqAt.str_int x t j u _ _ _ _ h
      · rw [key_rr] at h; exact wpAny_eqBool_str h
  «strs» := fun k x t v h => by
    rcases keyIs_shape h with ⟨i, u, rfl, e⟩ | ⟨y, u, rfl, e⟩
    · exact nomatch e
    · injection e with e1 _
      subst e1
      cases v <;> rfl

end L2

namespace L2
open PySem PySem.Spec PyProof.Rows

/-- a value, without the heap -/
inductive V where
  | non | bl (b : Bool) | int (i : Int) | str (x : Str) | byt (b : Array UInt8) | flt (b : UInt64) | ref (a : Addr) | ty (n : String)
  deriving DecidableEq

def RelV : V → Value → Prop
  | .non, u => u = Value.none
  | .bl b, u => u = Value.bool b
  | .int i, u => ∃ t, u = Value.int i t
  | .str x, u => ∃ t, u = Value.str x t
  | .byt b, u => ∃ t, u = Value.bytes b t
  | .flt b, u => ∃ t, u = Value.float b t
  | .ref a, u => u = Value.ref a
  | .ty n, u => u = Value.type n

abbrev Vals : List V → List Value → Prop := Paired RelV
theorem Vals.length {xs : List V} {us : List Value} (r : Vals xs us) : xs.length = us.length := Paired.length r
theorem Vals.get : ∀ {xs : List V} {us : List Value} {i : Nat} {x : V}, Vals xs us → xs[i]? = some x → ∃ u, us[i]? = some u ∧ RelV x u
  | _, _, _, _, .nil, e => by simp at e
  | _, _, 0, _, .cons r _, e => by simp at e; subst e; exact ⟨_, rfl, r⟩
  | _, _, i + 1, x, .cons _ t, e => by
    obtain ⟨u, h1, h2⟩ := Vals.get (i := i) (x := x) t (by simpa using e)
    exact ⟨u, by simpa using h1, h2⟩
theorem Vals.set {x : V} {u : Value} (r : RelV x u) : ∀ {xs : List V} {us : List Value} (i : Nat), Vals xs us → Vals (xs.set i x) (us.set i u)
  | _, _, _, .nil => .nil
  | _, _, 0, .cons _ t => .cons r t
  | _, _, i + 1, .cons q t => .cons q (Vals.set r i t)
theorem Vals.append : ∀ {xs ys : List V} {us ws : List Value}, Vals xs us → Vals ys ws → Vals (xs ++ ys) (us ++ ws)
  | _, _, _, _, .nil, s => s
  | _, _, _, _, .cons r t, s => .cons r (Vals.append t s)
theorem Vals.take : ∀ {xs : List V} {us : List Value} (n : Nat), Vals xs us → Vals (xs.take n) (us.take n)
  | _, _, 0, _ => .nil
  | _, _, _ + 1, .nil => .nil
  | _, _, n + 1, .cons r t => .cons r (Vals.take n t)
theorem Vals.drop : ∀ {xs : List V} {us : List Value} (n : Nat), Vals xs us → Vals (xs.drop n) (us.drop n)
  | _, _, 0, r => r
  | _, _, _ + 1, .nil => .nil
  | _, _, n + 1, .cons _ t => Vals.drop n t
def RelO : Option V → Option Value → Prop
  | some v, some u => RelV v u
  | none, none => True
  | _, _ => False
def KV {κ : Type} : List (κ × V) → List (κ × Value) → Prop := Paired fun (p : κ × V) (q : κ × Value) => p.1 = q.1 ∧ RelV p.2 q.2

/-- a key of a dict (00_mix): an int or a text -/
def kV : Key → V
  | .inl i => .int i
  | .inr x => .str x

/-- what stands at a tracked address -/
inductive HO where
  /-- a list -/
  | lst (xs : List V)
  /-- a tuple (never changes) -/
  | tup (xs : List V)
  /-- a dict whose keys are ints and texts; one whose keys are tuples of ints and texts (the empty one is both) -/
  | dK (kvs : List (Key × V)) | dT (kvs : List (List Key × V))
  /-- a set of ints: its members, its size -/
  | set (S : Int → Bool) (n : Nat)
  /-- an instance of the class at C, its dict at dx, its attributes -/
  | ins (C dx : Addr) (fs : List (Str × V))
  /-- the dict of the instance at x -/
  | own (x : Addr)
  /-- the dict of an exception -/
  | xd (fs : List (Str × V))
  /-- a bound method, f of x -/
  | met (f x : Addr)
  /-- a range object lo, lo + 1, .. below hi -/
  | rng (lo hi : Int)
  /-- a thing that is known to the object (the script; a dict while a loop walks it): read, never written while it is so -/
  | frz (o : Obj) (u : HO)
  /-- a code object's table -/
  | tbl (ps : Array Value)
  /-- any other thing, by what is true of its one object (a def of one's own: SetO a S n := HO.ext fun h => ..) -/
  | ext (φ : Heap → Prop)

abbrev Hp := Addr → Option HO
def upd (H : Hp) (a : Addr) (o : HO) : Hp := fun b => if b = a then some o else H b
theorem upd_same {H : Hp} {a : Addr} {o : HO} : upd H a o a = some o := by unfold upd; rw [if_pos rfl]
theorem upd_ne {H : Hp} {a b : Addr} {o : HO} (h : b ≠ a) : upd H a o b = H b := by unfold upd; rw [if_neg h]
/-- two objects of different content stand apart -/
theorem ne_of {H : Hp} {a b : Addr} {o u : HO} (h : H a = some o) (h' : H b = some u) (d : o ≠ u) : a ≠ b := by
  intro e; subst e; rw [h] at h'; exact d (Option.some.inj h')
theorem ne_of_none {H : Hp} {a b : Addr} {o : HO} (h : H a = some o) (h' : H b = none) : a ≠ b := by
  intro e; subst e; rw [h] at h'; cases h'

section
variable (P : Program) (w : World)
def ObjOk (H : Hp) (h : Heap) (a : Addr) : HO → Prop
  | .lst xs => xs.length ≤ sizeLine ∧ ∃ (its : List Value) (n : Nat), Vals xs its ∧ h.get? a = some { cls := .type "list", data := .seq its.toArray n }
  | .tup xs => xs.length ≤ sizeLine ∧ ∃ its : List Value, Vals xs its ∧ IsTup h a its.toArray
  | .dK kvs => kvs.length ≤ sizeLine ∧ (a == sysModules) = false ∧ ∃ vs, KV kvs vs ∧ h.DictOf (mixKind P w) a vs
  | .dT kvs => kvs.length ≤ sizeLine ∧ (a == sysModules) = false ∧ ∃ xs : List (List Key × Addr × Value),
      Paired (fun (p : List Key × V) (q : List Key × Addr × Value) => p.1 = q.1 ∧ H q.2.1 = some (.tup (p.1.map kV)) ∧ RelV p.2 q.2.2) kvs xs ∧
      ∃ o es ep, h.get? a = some o ∧ o.ExactDict ∧ o.data = .dict es ep ∧ es.toList = xs.map (entryOfKey (tupleKind (mixKind P w))) ∧ (xs.map (·.1)).Nodup
  | .set S n => h.SetOf (intKind P w) a S n
  | .ins C dx fs => H dx = some (.own a) ∧ fs.length ≤ 1000 ∧ dx ≠ a ∧ h.get? a = some (PySem.W.instObj C dx) ∧
      ∃ mA, h.Ns1 dx mA ∧ (∀ f, RelO (fs.lookup f) (mA f)) ∧ PySem.Within mA (fs.map (·.1))
  | .own _ => ∃ o, h.get? a = some o
  | .xd fs => ∃ mA, h.Ns1 a mA ∧ ∀ f, RelO (fs.lookup f) (mA f)
  | .rng lo hi => ∃ t u v, h.get? a = some { cls := .type "range", data := .fields #[.int lo t, .int hi u, .int 1 v] }
  | .frz o u => h.get? a = some o ∧ ObjOk H h a u
  | .tbl ps => h.get? a = some { cls := .none, data := .fields ps }
  | .met f x => h.get? a = some (PySem.W.methodObj (.ref f) (.ref x))
  | .ext φ => φ h ∧ (∃ o, h.get? a = some o) ∧ ∀ h1 h2 : Heap, φ h1 → (∀ o, h1.get? a = some o → h2.get? a = some o) → φ h2
/-- the abstract heap is held -/
def HOk (H : Hp) (h : Heap) : Prop := ∀ a o, H a = some o → ObjOk P w H h a o
end

section
variable {P : Program} {w : World} {H H' : Hp} {h h' : Heap} {a : Addr} {o : HO}
theorem ObjOk.lt (x : ObjOk P w H h a o) : a < h.objs.size := by
  cases o with
  | lst xs => obtain ⟨_, _, _, _, e⟩ := x; exact Heap.lt_size e
  | tup xs => obtain ⟨_, _, _, p⟩ := x; exact p.lt
  | dK kvs => obtain ⟨_, _, _, _, o, _, _, e, _⟩ := x; exact Heap.lt_size e
  | dT kvs => obtain ⟨_, _, _, _, o, _, _, e, _⟩ := x; exact Heap.lt_size e
  | set S n => obtain ⟨o, _, _, _, e, _⟩ := x; exact Heap.lt_size e
  | ins C dx fs => obtain ⟨_, _, _, e, _⟩ := x; exact Heap.lt_size e
  | own y => obtain ⟨_, e⟩ := x; exact Heap.lt_size e
  | xd fs => obtain ⟨_, ⟨_, _, _, e, _⟩, _⟩ := x; exact Heap.lt_size e
  | rng lo hi => obtain ⟨_, _, _, e⟩ := x; exact Heap.lt_size e
  | frz ob u => obtain ⟨e, _⟩ := x; exact Heap.lt_size e
  | tbl ps => exact Heap.lt_size (show h.get? a = some _ from x)
  | met f y => exact Heap.lt_size (show h.get? a = some _ from x)
  | ext φ => obtain ⟨_, ⟨_, e⟩, _⟩ := x; exact Heap.lt_size e
theorem Paired.mapP {α β : Type} {F G : α → β → Prop} : ∀ {l₁ : List α} {l₂ : List β}, Paired F l₁ l₂ → (∀ a b, F a b → G a b) → Paired G l₁ l₂
  | _, _, .nil, _ => .nil
  | _, _, .cons r t, f => .cons (f _ _ r) (Paired.mapP t f)
/-- what an object's description leans on: its own object, its own dict, the tuples -/
theorem ObjOk.stay (x : ObjOk P w H h a o) (k : ∀ b u, (b = a ∨ H b = some (.own a)) → h.get? b = some u → h'.get? b = some u)
    (ho : ∀ b, H b = some (.own a) → H' b = some (.own a)) (ht : ∀ b xs, H b = some (.tup xs) → H' b = some (.tup xs)) : ObjOk P w H' h' a o := by
  induction o with
  | lst xs => obtain ⟨z, its, n, r, e⟩ := x; exact ⟨z, its, n, r, k _ _ (.inl rfl) e⟩
  | tup xs => obtain ⟨z, its, r, ob, e, c⟩ := x; exact ⟨z, its, r, ob, k _ _ (.inl rfl) e, c⟩
  | dK kvs => obtain ⟨z, y, vs, r, ob, es, ep, e, c⟩ := x; exact ⟨z, y, vs, r, ob, es, ep, k _ _ (.inl rfl) e, c⟩
  | dT kvs =>
    obtain ⟨z, y, xs, r, ob, es, ep, e, c⟩ := x
    exact ⟨z, y, xs, Paired.mapP r fun p q z => ⟨z.1, ht _ _ z.2.1, z.2.2⟩, ob, es, ep, k _ _ (.inl rfl) e, c⟩
  | set S n => obtain ⟨ob, es, ep, t, e, c⟩ := x; exact ⟨ob, es, ep, t, k _ _ (.inl rfl) e, c⟩
  | ins C dx fs =>
    obtain ⟨d, z, ne, e, mA, ⟨od, es, ep, e2, c⟩, r⟩ := x
    exact ⟨ho _ d, z, ne, k _ _ (.inl rfl) e, mA, ⟨od, es, ep, k _ _ (.inr d) e2, c⟩, r⟩
  | own y => obtain ⟨ob, e⟩ := x; exact ⟨ob, k _ _ (.inl rfl) e⟩
  | xd fs => obtain ⟨mA, ⟨od, es, ep, e, c⟩, r⟩ := x; exact ⟨mA, ⟨od, es, ep, k _ _ (.inl rfl) e, c⟩, r⟩
  | rng lo hi => obtain ⟨t, u, v, e⟩ := x; exact ⟨t, u, v, k _ _ (.inl rfl) e⟩
  | frz ob u ih => obtain ⟨e, q⟩ := x; exact ⟨k _ _ (.inl rfl) e, ih q⟩
  | tbl ps =>
    have e : h.get? a = some { cls := .none, data := .fields ps } := x
    show h'.get? a = some { cls := .none, data := .fields ps }
    exact k a _ (.inl rfl) e
  | met f y =>
    have e : h.get? a = some (PySem.W.methodObj (.ref f) (.ref y)) := x
    show h'.get? a = some (PySem.W.methodObj (.ref f) (.ref y))
    exact k a _ (.inl rfl) e
  | ext φ => obtain ⟨p, ⟨o, e⟩, st⟩ := x; exact ⟨st _ _ p fun o q => k _ _ (.inl rfl) q, ⟨o, k _ _ (.inl rfl) e⟩, st⟩
theorem HOk.lt (x : HOk P w H h) (e : H a = some o) : a < h.objs.size := (x a o e).lt
theorem HOk.fresh (x : HOk P w H h) (e : h.objs.size ≤ a) : H a = none := by
  cases q : H a with
  | none => rfl
  | some u => exact absurd (Nat.lt_of_lt_of_le (x.lt q) e) (Nat.lt_irrefl _)
/-- every object of the heap is kept -/
theorem HOk.kept (x : HOk P w H h) (k : ∀ b u, h.get? b = some u → h'.get? b = some u) : HOk P w H h' := fun a o e =>
  (x a o e).stay (fun b u _ q => k b u q) (fun _ q => q) fun _ _ q => q
/-- a new object is laid and tracked -/
theorem HOk.laid (x : HOk P w H h) (k : ∀ b u, h.get? b = some u → h'.get? b = some u) (hp : h.objs.size ≤ a) (new : ObjOk P w (upd H a o) h' a o) : HOk P w (upd H a o) h' := fun b u e => by
  have hn := x.fresh hp
  by_cases hb : b = a
  · subst hb; rw [upd_same] at e; cases e; exact new
  · rw [upd_ne hb] at e
    exact (x b u e).stay (fun c v _ q => k c v q) (fun c q => by rw [upd_ne (ne_of_none q hn)]; exact q) fun c xs q => by rw [upd_ne (ne_of_none q hn)]; exact q
end

/-- what may be read as u: it is u, or a known u -/
def Rd (H : Hp) (a : Addr) (u : HO) : Prop := H a = some u ∨ ∃ o, H a = some (.frz o u)
theorem Rd.of {H : Hp} {a : Addr} {u : HO} (h : H a = some u) : Rd H a u := .inl h
theorem Rd.ok {P : Program} {w : World} {H : Hp} {h : Heap} {a : Addr} {u : HO} (r : Rd H a u) (x : HOk P w H h) : ObjOk P w H h a u := by
  rcases r with r | ⟨o, r⟩
  · exact x a u r
  · obtain ⟨_, q⟩ := x a _ r
    exact q
/-- what may be written -/
def Mut : Option HO → Prop
  | some (.lst _) => True
  | some (.dK _) => True
  | some (.dT _) => True
  | some (.set _ _) => True
  | some (.ins _ _ _) => True
  | some (.ext _) => True
  | _ => False
section
variable {P : Program} {w : World} {H : Hp} {h h' : Heap} {x e : Addr} {o' : HO}
/-- the object at e is changed: x itself, or the dict of the instance x -/
theorem HOk.write (ok : HOk P w H h) (mu : Mut (H x)) (he : e = x ∨ H e = some (.own x)) (k : ∀ b u, b ≠ e → h.get? b = some u → h'.get? b = some u) (heo : ∃ u, h'.get? e = some u)
    (new : ObjOk P w (upd H x o') h' x o') : HOk P w (upd H x o') h' := fun b u q => by
  have nown : ∀ c y, H c = some (.own y) → c ≠ x := fun c y r z => by subst z; rw [r] at mu; exact mu
  have ntup : ∀ c xs, H c = some (.tup xs) → c ≠ x := fun c xs r z => by subst z; rw [r] at mu; exact mu
  by_cases hb : b = x
  · subst hb; rw [upd_same] at q; cases q; exact new
  · rw [upd_ne hb] at q
    by_cases hbe : b = e
    · have q' : H b = some (.own x) := by
        rcases he with z | z
        · exact absurd (hbe.trans z) hb
        · rw [hbe]; exact z
      rw [q] at q'; cases q'
      obtain ⟨v, hv⟩ := heo
      exact ⟨v, by rw [hbe]; exact hv⟩
    · refine (ok b u q).stay (fun c v hc r => k c v ?_ r) (fun c r => by rw [upd_ne (nown c b r)]; exact r) fun c xs r => by rw [upd_ne (ntup c xs r)]; exact r
      rcases hc with rfl | hc
      · exact hbe
      · rintro rfl
        rcases he with z | z
        · exact nown c b hc z
        · rw [hc] at z; cases z; exact hb rfl
end

/-! ### kept unless tracked; of the frames at fs (the callers') the slots may change (an exception that passes writes there); of the records at ex (iterators) nothing is said -/
structure Un (fs ex : List Addr) (H H' : Hp) (h h' : Heap) : Prop where
  keep : ∀ b o, h.get? b = some o → H b = none → b ∉ fs → b ∉ ex → h'.get? b = some o
  slot : ∀ b o, h.get? b = some o → H b = none → b ∈ fs → b ∉ ex → ∃ sl, h'.get? b = some { o with slots := sl }
  free : ∀ b o, h.get? b = some o → H b = none → b ∉ ex → H' b = none
  there : ∀ b o, h.get? b = some o → b ∉ ex → ∃ o', h'.get? b = some o'
  tups : ∀ b xs, H b = some (.tup xs) → H' b = some (.tup xs)
  frzs : ∀ b o u, H b = some (.frz o u) → H' b = some (.frz o u)
  tbls : ∀ b ps, H b = some (.tbl ps) → ∃ more, H' b = some (.tbl (ps ++ more))
section
variable {fs fs' ex ex' : List Addr} {H H1 H2 : Hp} {h h1 h2 h' : Heap} {a x e : Addr} {o : HO}
theorem Un.any (u : Un fs ex H H1 h h1) {b : Addr} {ob : Obj} (q : h.get? b = some ob) (n : H b = none) (hx : b ∉ ex) : ∃ sl, h1.get? b = some { ob with slots := sl } := by
  by_cases hb : b ∈ fs
  · exact u.slot b ob q n hb hx
  · exact ⟨ob.slots, u.keep b ob q n hb hx⟩
theorem Un.trans (a : Un fs ex H H1 h h1) (b : Un fs ex H1 H2 h1 h2) : Un fs ex H H2 h h2 where
  keep := fun c ob q n hc hx => b.keep c ob (a.keep c ob q n hc hx) (a.free c ob q n hx) hc hx
  slot := fun c ob q n hc hx => by
    obtain ⟨sl, e1⟩ := a.slot c ob q n hc hx
    obtain ⟨sl', e2⟩ := b.slot c _ e1 (a.free c ob q n hx) hc hx
    exact ⟨sl', e2⟩
  free := fun c ob q n hx => by
    obtain ⟨o', e1⟩ := a.there c ob q hx
    exact b.free c o' e1 (a.free c ob q n hx) hx
  there := fun c ob q hx => by
    obtain ⟨o', e1⟩ := a.there c ob q hx
    exact b.there c o' e1 hx
  tups := fun c xs q => b.tups c xs (a.tups c xs q)
  frzs := fun c ob xs q => b.frzs c ob xs (a.frzs c ob xs q)
  tbls := fun c ps q => by
    obtain ⟨m1, e1⟩ := a.tbls c ps q
    obtain ⟨m2, e2⟩ := b.tbls c _ e1
    exact ⟨m1 ++ m2, by rw [e2, Array.append_assoc]⟩
theorem Un.kept (k : ∀ b u, h.get? b = some u → h'.get? b = some u) : Un fs ex H H h h' :=
  ⟨fun b ob q _ _ _ => k b ob q, fun b ob q _ _ _ => ⟨ob.slots, k b ob q⟩, fun _ _ _ n _ => n, fun b ob q _ => ⟨ob, k b ob q⟩, fun _ _ q => q, fun _ _ _ q => q, fun _ ps q => ⟨#[], by rw [q]; simp⟩⟩
theorem Un.refl : Un fs ex H H h h := Un.kept fun _ _ q => q
theorem Un.laid (k : ∀ b u, h.get? b = some u → h'.get? b = some u) (hp : h.objs.size ≤ a) (hn : H a = none) : Un fs ex H (upd H a o) h h' where
  keep := fun b u q _ _ _ => k b u q
  slot := fun b u q _ _ _ => ⟨u.slots, k b u q⟩
  free := fun b u q n _ => by rw [upd_ne (Nat.ne_of_lt (Nat.lt_of_lt_of_le (Heap.lt_size q) hp))]; exact n
  there := fun b u q _ => ⟨u, k b u q⟩
  tups := fun b xs q => by rw [upd_ne (ne_of_none q hn)]; exact q
  frzs := fun b u xs q => by rw [upd_ne (ne_of_none q hn)]; exact q
  tbls := fun b ps q => ⟨#[], by rw [upd_ne (ne_of_none q hn), q]; simp⟩
theorem Un.write (mu : Mut (H x)) (he : e = x ∨ H e = some (.own x)) (k : ∀ b u, b ≠ e → h.get? b = some u → h'.get? b = some u) (heo : ∃ u, h'.get? e = some u) : Un fs ex H (upd H x o) h h' := by
  have hx : ∀ b, H b = none → b ≠ x := fun b n z => by subst z; rw [n] at mu; exact mu
  have hb : ∀ b, H b = none → b ≠ e := fun b n z => by
    subst z
    rcases he with r | r
    · exact hx b n r
    · rw [n] at r; cases r
  have hm : ∀ b u, H b = some u → ¬ Mut (some u) → b ≠ x := fun b u q nm z => by subst z; rw [q] at mu; exact nm mu
  refine ⟨fun b u q n _ _ => k b u (hb b n) q, fun b u q n _ _ => ⟨u.slots, k b u (hb b n) q⟩, fun b u q n _ => by rw [upd_ne (hx b n)]; exact n, fun b u q _ => ?_,
    fun b xs q => by rw [upd_ne (hm b _ q fun z => z)]; exact q, fun b u xs q => by rw [upd_ne (hm b _ q fun z => z)]; exact q, fun b ps q => ⟨#[], by rw [upd_ne (hm b _ q fun z => z), q]; simp⟩⟩
  by_cases hbe : b = e
  · subst hbe; exact heo
  · exact ⟨u, k b u hbe q⟩
theorem Un.mono (u : Un fs ex H H1 h h1) (hs : ∀ b ∈ fs, b ∈ fs') (hx : ∀ b ∈ ex, b ∈ ex') : Un fs' ex' H H1 h h1 :=
  ⟨fun b ob q n hb he => u.keep b ob q n (fun z => hb (hs b z)) fun z => he (hx b z), fun _ _ q n _ he => u.any q n fun z => he (hx _ z), fun b ob q n he => u.free b ob q n fun z => he (hx b z), fun b ob q he => u.there b ob q fun z => he (hx b z), u.tups, u.frzs, u.tbls⟩
end

/-! ### the heap without what is tracked -/
def trk (h : Heap) (H : Hp) : List Addr := (List.range h.objs.size).filter fun a => (H a).isSome
def hidT (h : Heap) (H : Hp) : Heap := PySem.W.hideAll h (trk h H)
theorem hidT_size (h : Heap) (H : Hp) : (hidT h H).objs.size = h.objs.size := PySem.W.hideAll_size _ _
theorem hidT_get {h : Heap} {H : Hp} {b : Addr} {o : Obj} (e : h.get? b = some o) (n : H b = none) : (hidT h H).get? b = some o :=
  PySem.W.hideAll_get _ e fun hm => by
    have q : (H b).isSome = true := (List.mem_filter.mp hm).2
    rw [n] at q; simp at q
theorem of_hidT {h : Heap} {H : Hp} {b : Addr} {o : Obj} (e : (hidT h H).get? b = some o) : h.get? b = some o ∧ H b = none := by
  have e' : h.get? b = some o := PySem.W.of_hideAll (trk h H) e
  refine ⟨e', ?_⟩
  cases q : H b with
  | none => rfl
  | some x =>
    have hm : b ∈ trk h H := List.mem_filter.mpr ⟨List.mem_range.mpr (Heap.lt_size e'), by simp [q]⟩
    have z : (hidT h H).get? b = none := PySem.W.hideAll_none (trk h H) hm
    rw [z] at e; cases e

/-! ### OpenK's ledger, filled with every new object but one -/
def allNews (g h : Heap) (L : Addr) : List (Addr × Obj) := (List.range h.objs.size).filterMap fun a => if a = L ∨ (g.get? a).isSome = true then none else (h.get? a).map fun o => (a, o)
def rest (g h : Heap) (L d : Addr) : List (Addr × Obj) := (allNews g h L).filter fun p => decide (p.1 ≠ d)
end L2

namespace L2
open PySem PySem.Spec PyProof.Rows

/-- the module's facts, over the base: the heap at the law's entry without what is tracked there -/
structure Mod (K : PySem.W.Frag) (mg : Str → Option Value) (base : Heap) : Prop where
  kin : K.In base
  glob : base.Ns mainGlobals mg
  blt : ∃ mb, base.Ns builtinsNs mb ∧ ∀ x : Str, x ≠ "__name__" → mb x = bootBuiltins x
  nolimit : base.NoLimit

/-- the context: a def's body (or a comprehension's block) running. base: fixed through the whole law; s₀, H₀: the entry; outer: the frames whose slots others may change (a def's callers); stack: all frames that run;
   ex: iterators that were made ahead of the entry and are walked here (a comprehension's); fn: the names whose cells were made at the entry (a def: all; a comprehension's block: its own); calm: not within an except suite; pn: pins that every state bears; xe: what is wanted of an exception that leaves the code -/
structure Cx where
  prog : Program
  w : World
  K : PySem.W.Frag
  mg : Str → Option Value
  base : Heap
  A : Around
  N : List Str
  s₀ : Shared
  H₀ : Hp
  env : Env
  outer : List Env
  stack : List Env
  ex : List Addr
  fn : Str → Bool
  calm : Bool
  pn : List (Addr × Obj)
  xe : Value → Shared → Prop
/-- the callers' frames -/
def frs (l : List Env) : List Addr := l.filterMap (·.frame)
abbrev Cx.fs (X : Cx) : List Addr := frs X.outer

def Vis (sc : Scope) (x : Str) : Prop := sc.names.lookup x = some .local ∨ sc.names.lookup x = some .cell ∨ sc.names.lookup x = some .free
def Loc (sc : Scope) (x : Str) : Prop := sc.names.lookup x = some .local ∨ sc.names.lookup x = some .cell
def Look (env : Env) (h : Heap) (m : Str → Option Value) (x : Str) (u : Value) : Prop :=
  (env.kindOf x = some .local ∧ m x = some u) ∨ ((env.kindOf x = some .cell ∨ env.kindOf x = some .free) ∧ ∃ c, env.cells.lookup x = some c ∧ h.IsCell c (some u))

structure Cx.Ok (X : Cx) : Prop where
  mod : Mod X.K X.mg X.base
  kind : X.env.scope.kind = .function
  glob : X.env.globals = mainGlobals
  blt : X.env.builtins = builtinsNs
  above : X.s₀.heap.objs.size ≤ X.env.locals
  inj : ∀ x y c, X.env.cells.lookup x = some c → X.env.cells.lookup y = some c → x = y
  has : ∀ x, (X.env.kindOf x = some .cell ∨ X.env.kindOf x = some .free) → ∃ c, X.env.cells.lookup x = some c
  cab : ∀ x c, X.fn x = true → X.env.cells.lookup x = some c → X.s₀.heap.objs.size ≤ c
  hd : X.calm = true → X.A.handled = none
  frames : X.A.frames = some X.stack
  stk : X.stack = X.outer ∨ (X.stack = X.env :: X.outer ∧ X.env.frame = some X.env.locals)
  exf : ∀ b ∈ X.ex, b ≠ X.env.locals ∧ ∀ x c, X.env.cells.lookup x = some c → c ≠ b
  bs : ∀ b o, X.base.get? b = some o → X.s₀.heap.get? b = some o ∧ X.H₀ b = none
  bsz : X.base.objs.size ≤ X.s₀.heap.objs.size
  noex : ∀ b o, X.base.get? b = some o → b ∉ X.ex
  exfs : ∀ b ∈ X.ex, b ∉ X.fs
  funs : X.s₀.heap.FunFrames X.base X.outer
  frf : ∀ b ∈ X.fs, X.H₀ b = none

structure Inv (X : Cx) (pins : List (Addr × Obj)) (σ : List (Option V)) (H : Hp) (s : Shared) : Prop where
  ok : X.Ok
  os : s.os = X.s₀.os
  bare : AllBare s.gens
  base : Un X.fs X.ex X.H₀ H X.s₀.heap s.heap
  loc : ∃ m, s.heap.Ns X.env.locals m ∧ ∀ (i : Nat) (x : Str) (v : V), X.N[i]? = some x → σ[i]? = some (some v) → Vis X.env.scope x → ∃ u, RelV v u ∧ Look X.env s.heap m x u
  cell : ∀ x c, X.env.cells.lookup x = some c → ∃ v, s.heap.IsCell c v
  free : H X.env.locals = none
  freeC : ∀ x c, X.env.cells.lookup x = some c → H c = none
  pin : ∀ p ∈ X.pn ++ pins, s.heap.get? p.1 = some p.2 ∧ H p.1 = none ∧ p.1 ≠ X.env.locals ∧ p.1 ∉ X.fs ∧ ∀ v, p.2.data ≠ .cell v
  hok : HOk X.prog X.w H s.heap
  len : σ.length = X.N.length

section
variable {X : Cx} {pins : List (Addr × Obj)} {σ : List (Option V)} {H H' : Hp} {s : Shared} {h' : Heap}

theorem Cx.Ok.nofr (ok : X.Ok) {b : Addr} {o : Obj} (e : X.base.get? b = some o) : b ∉ X.fs := fun hb => by
  have := (ok.funs.mem hb).1
  rw [e] at this; cases this
theorem Inv.bs (I : Inv X pins σ H s) : ∀ b o, X.base.get? b = some o → s.heap.get? b = some o ∧ H b = none := fun b o e =>
  ⟨I.base.keep b o (I.ok.bs b o e).1 (I.ok.bs b o e).2 (I.ok.nofr e) (I.ok.noex b o e), I.base.free b o (I.ok.bs b o e).1 (I.ok.bs b o e).2 (I.ok.noex b o e)⟩
theorem Inv.bk (I : Inv X pins σ H s) : ∀ b o, X.base.get? b = some o → s.heap.get? b = some o := fun b o e => (I.bs b o e).1
theorem Inv.mod (I : Inv X pins σ H s) : Mod X.K X.mg X.base := I.ok.mod
theorem Inv.kIn (I : Inv X pins σ H s) : X.K.In s.heap := I.ok.mod.kin.keeps I.bk
theorem Inv.nolimit (I : Inv X pins σ H s) : s.heap.NoLimit := I.ok.mod.nolimit.keeps I.bk
theorem Inv.lt (I : Inv X pins σ H s) : X.env.locals < s.heap.objs.size := let ⟨_, hn, _⟩ := I.loc; hn.lt
theorem Inv.sz (I : Inv X pins σ H s) : X.s₀.heap.objs.size ≤ s.heap.objs.size := Nat.le_trans I.ok.above (Nat.le_of_lt I.lt)
theorem Inv.nofs (I : Inv X pins σ H s) {a : Addr} (h : s.heap.objs.size ≤ a) : a ∉ X.fs := fun hb => by
  obtain ⟨_, o, ho, _⟩ := I.ok.funs.mem hb
  exact absurd (Nat.lt_of_lt_of_le (Heap.lt_size ho) (Nat.le_trans I.sz h)) (Nat.lt_irrefl _)
theorem Inv.cne (I : Inv X pins σ H s) : ∀ x c, X.env.cells.lookup x = some c → c ≠ X.env.locals := fun x c e z => by
  obtain ⟨v, o, ho, hd⟩ := I.cell x c e
  obtain ⟨m, ⟨o', es, ep, ho', hd', _⟩, _⟩ := I.loc
  rw [z, ho'] at ho; cases ho; rw [hd'] at hd; cases hd
theorem Inv.funs (I : Inv X pins σ H s) : s.heap.FunFrames X.base X.outer := by
  have all : ∀ (l : List Env), (∀ b ∈ frs l, b ∈ X.fs) → X.s₀.heap.FunFrames X.base l → s.heap.FunFrames X.base l := by
    intro l
    induction l with
    | nil => intro _ _; trivial
    | cons env r ih =>
      intro hs hl
      obtain ⟨hk, ⟨L, o, hf, hn, ho, hd⟩, hr⟩ := hl
      have hL : L ∈ X.fs := hs L (by unfold frs; rw [List.filterMap_cons, hf]; exact List.mem_cons_self)
      obtain ⟨sl, e⟩ := I.base.slot L o ho (I.ok.frf L hL) hL fun z => I.ok.exfs L z hL
      exact ⟨hk, ⟨L, _, hf, hn, e, hd⟩, ih (fun b hb => hs b (by unfold frs; rw [List.filterMap_cons, hf]; exact List.mem_cons_of_mem _ hb)) hr⟩
  exact all X.outer (fun _ hb => hb) I.ok.funs

/-- the frames that run, for a call -/
theorem Inv.stack (I : Inv X pins σ H s) : s.heap.FunFrames X.base X.stack := by
  rcases I.ok.stk with e | ⟨e, hf⟩
  · rw [e]; exact I.funs
  · rw [e]
    obtain ⟨m, hn, _⟩ := I.loc
    refine .cons (by rw [I.ok.kind]; decide) hf hn ?_ I.funs
    exact Heap.get?_none_of_le (Nat.le_trans I.ok.bsz I.ok.above)
theorem Inv.stkSub (I : Inv X pins σ H s) : ∀ b ∈ frs X.stack, b ∈ X.env.locals :: X.fs := fun b hb => by
  rcases I.ok.stk with e | ⟨e, hf⟩
  · rw [e] at hb; exact List.mem_cons_of_mem _ hb
  · rw [e] at hb
    unfold frs at hb
    rw [List.filterMap_cons, hf] at hb
    exact hb
theorem Inv.stkFree (I : Inv X pins σ H s) : ∀ b ∈ frs X.stack, H b = none := fun b hb => by
  rcases List.mem_cons.mp (I.stkSub b hb) with e | hb
  · rw [e]; exact I.free
  · obtain ⟨_, o, ho, _⟩ := I.ok.funs.mem hb
    exact I.base.free b o ho (I.ok.frf b hb) fun z => I.ok.exfs b z hb

/-- THE STEP: the untracked objects but the frame and the records at ch are kept (the callers' frames up to slots), the frame's map is kept, the new abstract heap is held -/
theorem Inv.step {g' : Array GenState} {t' : Nat} {d' : Drawn} {ch : List Addr} (I : Inv X pins σ H s)
    (hch : ∀ b ∈ ch, (b ∈ X.ex ∨ X.s₀.heap.objs.size ≤ b) ∧ b ≠ X.env.locals ∧ (∀ x c, X.env.cells.lookup x = some c → c ≠ b) ∧ ∀ p ∈ X.pn ++ pins, p.1 ≠ b)
    (keep : ∀ b o, b ≠ X.env.locals → b ∉ X.fs → b ∉ ch → s.heap.get? b = some o → H b = none → h'.get? b = some o)
    (slot : ∀ b o, b ≠ X.env.locals → b ∈ X.fs → b ∉ ch → s.heap.get? b = some o → H b = none → ∃ sl, h'.get? b = some { o with slots := sl }) (free : ∀ b o, b ∉ ch → s.heap.get? b = some o → H b = none → H' b = none)
    (there : ∀ b o, b ∉ ch → s.heap.get? b = some o → ∃ o', h'.get? b = some o')
    (tups : ∀ b xs, H b = some (.tup xs) → H' b = some (.tup xs)) (frzs : ∀ b o u, H b = some (.frz o u) → H' b = some (.frz o u)) (tbls : ∀ b ps, H b = some (.tbl ps) → ∃ more, H' b = some (.tbl (ps ++ more)))
    (ns : ∀ m, s.heap.Ns X.env.locals m → h'.Ns X.env.locals m) (hok : HOk X.prog X.w H' h') (hg : AllBare g') :
    Inv X pins σ H' { s with heap := h', gens := g', drawn := d', toks := t' } := by
  have neL : ∀ b o, X.s₀.heap.get? b = some o → b ≠ X.env.locals := fun b o e => Nat.ne_of_lt (Nat.lt_of_lt_of_le (Heap.lt_size e) I.ok.above)
  have neC : ∀ b o, X.s₀.heap.get? b = some o → b ∉ X.ex → b ∉ ch := fun b o e hx hb => by
    rcases (hch b hb).1 with z | z
    · exact hx z
    · exact absurd (Nat.lt_of_lt_of_le (Heap.lt_size e) z) (Nat.lt_irrefl _)
  have cellK : ∀ x c, X.env.cells.lookup x = some c → ∀ v, s.heap.IsCell c v → h'.IsCell c v := fun x c e v ⟨o, ho, hd⟩ => by
    have nch : c ∉ ch := fun z => (hch c z).2.2.1 x c e rfl
    by_cases hc : c ∈ X.fs
    · obtain ⟨sl, q⟩ := slot c o (I.cne x c e) hc nch ho (I.freeC x c e)
      exact ⟨_, q, hd⟩
    · exact ⟨o, keep c o (I.cne x c e) hc nch ho (I.freeC x c e), hd⟩
  refine ⟨I.ok, I.os, hg, ⟨fun b o e n hb hx => ?_, fun b o e n hb hx => ?_, fun b o e n hx => ?_, fun b o e hx => ?_, fun b xs e => tups b xs (I.base.tups b xs e), fun b o xs e => frzs b o xs (I.base.frzs b o xs e), fun b ps e => ?_⟩, ?_, fun x c e => ?_, ?_, fun x c e => ?_, fun p hp => ?_, hok, I.len⟩
  · exact keep b o (neL b o e) hb (neC b o e hx) (I.base.keep b o e n hb hx) (I.base.free b o e n hx)
  · obtain ⟨sl, e1⟩ := I.base.slot b o e n hb hx
    obtain ⟨sl', e2⟩ := slot b _ (neL b o e) hb (neC b o e hx) e1 (I.base.free b o e n hx)
    exact ⟨sl', e2⟩
  · obtain ⟨o', e1⟩ := I.base.there b o e hx
    exact free b o' (neC b o e hx) e1 (I.base.free b o e n hx)
  · obtain ⟨o', e1⟩ := I.base.there b o e hx
    exact there b o' (neC b o e hx) e1
  · obtain ⟨m1, e1⟩ := I.base.tbls b ps e
    obtain ⟨m2, e2⟩ := tbls b _ e1
    exact ⟨m1 ++ m2, by rw [e2, Array.append_assoc]⟩
  · obtain ⟨m, hn, hl⟩ := I.loc
    refine ⟨m, ns m hn, fun i x v e1 e2 e3 => ?_⟩
    obtain ⟨u, r, l⟩ := hl i x v e1 e2 e3
    refine ⟨u, r, ?_⟩
    rcases l with l | ⟨k, c, e, z⟩
    · exact .inl l
    · exact .inr ⟨k, c, e, cellK x c e _ z⟩
  · obtain ⟨v, z⟩ := I.cell x c e
    exact ⟨v, cellK x c e v z⟩
  · obtain ⟨m, ⟨o, _, _, ho, _⟩, _⟩ := I.loc
    exact free _ o (fun z => (hch _ z).2.1 rfl) ho I.free
  · obtain ⟨v, o, ho, hd⟩ := I.cell x c e
    exact free c o (fun z => (hch c z).2.2.1 x c e rfl) ho (I.freeC x c e)
  · obtain ⟨e, n, ne, nf, d⟩ := I.pin p hp
    have nch : p.1 ∉ ch := fun z => (hch p.1 z).2.2.2 p hp rfl
    exact ⟨keep p.1 p.2 ne nf nch e n, free p.1 p.2 nch e n, ne, nf, d⟩
/-- .. where the frame's own object is kept too -/
theorem Inv.un {t' : Nat} (I : Inv X pins σ H s) (u : Un X.fs [] H H' s.heap h') (hok : HOk X.prog X.w H' h') : Inv X pins σ H' { s with heap := h', toks := t' } := by
  obtain ⟨m, ⟨o, es, ep, ho, r⟩, _⟩ := id I.loc
  obtain ⟨sl, hL⟩ := u.any ho I.free (by simp)
  exact I.step (g' := s.gens) (d' := s.drawn) (ch := []) (fun _ z => nomatch z) (fun b o _ hb _ e n => u.keep b o e n hb (by simp)) (fun b o _ hb _ e n => u.slot b o e n hb (by simp)) (fun b o _ e n => u.free b o e n (by simp)) (fun b o _ e => u.there b o e (by simp)) u.tups u.frzs u.tbls (fun m' hm => by
    obtain ⟨o', es', ep', ho', r'⟩ := hm
    rw [ho] at ho'; cases ho'
    exact ⟨_, es', ep', hL, r'⟩) hok I.bare
/-- behind a call (or a comprehension's block): the slots of this frame may have changed too, the records at ch may have turned -/
theorem Inv.call {g' : Array GenState} {t' : Nat} {d' : Drawn} {ch : List Addr} (I : Inv X pins σ H s) (u : Un (frs X.stack) ch H H' s.heap h') (hok : HOk X.prog X.w H' h') (hg : AllBare g')
    (hch : ∀ b ∈ ch, (b ∈ X.ex ∨ X.s₀.heap.objs.size ≤ b) ∧ b ≠ X.env.locals ∧ (∀ x c, X.env.cells.lookup x = some c → c ≠ b) ∧ ∀ p ∈ X.pn ++ pins, p.1 ≠ b) :
    Inv X pins σ H' { s with heap := h', gens := g', drawn := d', toks := t' } := by
  obtain ⟨m, ⟨o, es, ep, ho, r⟩, _⟩ := id I.loc
  obtain ⟨sl, hL⟩ := u.any ho I.free fun z => (hch _ z).2.1 rfl
  exact I.step (ch := ch) hch (fun b o hL hb hc e n => u.keep b o e n (fun z => (List.mem_cons.mp (I.stkSub b z)).elim hL hb) hc) (fun b o _ _ hc e n => u.any e n hc) (fun b o hc e n => u.free b o e n hc) (fun b o hc e => u.there b o e hc) u.tups u.frzs u.tbls (fun m' hm => by
    obtain ⟨o', es', ep', ho', r'⟩ := hm
    rw [ho] at ho'; cases ho'
    exact ⟨_, es', ep', hL, r'⟩) hok hg
/-- an untracked record of ours (an iterator) has turned -/
theorem Inv.turned {t' : Nat} {it : Addr} (I : Inv X pins σ H s) (k : ∀ b o, b ≠ it → s.heap.get? b = some o → h'.get? b = some o) (hn : H it = none) (hL : it ≠ X.env.locals)
    (h1 : it ∈ X.ex ∨ X.s₀.heap.objs.size ≤ it) (h2 : ∀ x c, X.env.cells.lookup x = some c → c ≠ it) (h3 : ∀ p ∈ X.pn ++ pins, p.1 ≠ it) : Inv X pins σ H { s with heap := h', toks := t' } := by
  have nit : ∀ b u, H b = some u → b ≠ it := fun b u e z => by rw [z, hn] at e; cases e
  refine I.step (g' := s.gens) (d' := s.drawn) (ch := [it]) (fun b hb => ?_) (fun b o _ _ hc e _ => k b o (fun z => hc (by simp [z])) e) (fun b o _ _ hc e _ => ⟨o.slots, k b o (fun z => hc (by simp [z])) e⟩) (fun _ _ _ _ n => n)
    (fun b o hc e => ⟨o, k b o (fun z => hc (by simp [z])) e⟩) (fun _ _ e => e) (fun _ _ _ e => e) (fun b ps e => ⟨#[], by rw [e]; simp⟩) (fun m hm => ?_) (fun b u e => ?_) I.bare
  · have e : b = it := by simpa using hb
    subst e
    exact ⟨h1, hL, h2, h3⟩
  · obtain ⟨o, es, ep, ho, r⟩ := hm
    exact ⟨o, es, ep, k _ o (Ne.symm hL) ho, r⟩
  · refine (I.hok b u e).stay (fun c v hc q => k c v ?_ q) (fun _ q => q) fun _ _ q => q
    rcases hc with z | z
    · rw [z]; exact nit b u e
    · exact nit c _ z
theorem Inv.tok (I : Inv X pins σ H s) (t : Nat) : Inv X pins σ H { s with toks := t } := I.un (h' := s.heap) (t' := t) Un.refl I.hok
/-- all objects kept -/
theorem Inv.kept {t' : Nat} (I : Inv X pins σ H s) (k : ∀ b u, s.heap.get? b = some u → h'.get? b = some u) : Inv X pins σ H { s with heap := h', toks := t' } := I.un (Un.kept k) (I.hok.kept k)
/-- a new object laid and tracked -/
theorem Inv.laid {a : Addr} {o : HO} {t' : Nat} (I : Inv X pins σ H s) (k : ∀ b u, s.heap.get? b = some u → h'.get? b = some u) (hp : s.heap.objs.size ≤ a) (new : ObjOk X.prog X.w (upd H a o) h' a o) :
    Inv X pins σ (upd H a o) { s with heap := h', toks := t' } := I.un (Un.laid k hp (I.hok.fresh hp)) (I.hok.laid k hp new)
/-- an object written -/
theorem Inv.write {x e : Addr} {o : HO} {t' : Nat} (I : Inv X pins σ H s) (mu : Mut (H x)) (he : e = x ∨ H e = some (.own x)) (k : ∀ b u, b ≠ e → s.heap.get? b = some u → h'.get? b = some u) (heo : ∃ u, h'.get? e = some u)
    (new : ObjOk X.prog X.w (upd H x o) h' x o) : Inv X pins σ (upd H x o) { s with heap := h', toks := t' } := I.un (Un.write mu he k heo) (I.hok.write mu he k heo new)
theorem Inv.pins_of {pins' : List (Addr × Obj)} (I : Inv X pins σ H s) (h : ∀ p ∈ pins', s.heap.get? p.1 = some p.2 ∧ H p.1 = none ∧ p.1 ≠ X.env.locals ∧ p.1 ∉ X.fs ∧ ∀ v, p.2.data ≠ .cell v) : Inv X pins' σ H s :=
  ⟨I.ok, I.os, I.bare, I.base, I.loc, I.cell, I.free, I.freeC, fun p hp => (List.mem_append.mp hp).elim (fun z => I.pin p (List.mem_append_left _ z)) (h p), I.hok, I.len⟩

theorem nodup_ix {N : List Str} (hN : N.Nodup) {i j : Nat} {x : Str} (a : N[i]? = some x) (b : N[j]? = some x) : i = j := by
  obtain ⟨h1, e1⟩ := List.getElem?_eq_some_iff.mp a
  obtain ⟨h2, e2⟩ := List.getElem?_eq_some_iff.mp b
  exact (List.getElem_inj hN).mp (e1.trans e2.symm)

/-- a name is stored; what changed -/
theorem store_ok2 {M : Model} {A : Around} {E : Value → Shared → Prop} {i : Nat} {x : Str} {v : V} {u : Value} {Q : Unit → Shared → Prop} (I : Inv X pins σ H s) (hN : X.N.Nodup) (hi : X.N[i]? = some x) (hx : Loc X.env.scope x) (r : RelV v u)
    (h : ∀ s', Inv X pins (σ.set i (some v)) H s' → (∃ a, Heap.SameBut a s.heap s'.heap ∧ (a = X.env.locals ∨ X.env.cells.lookup x = some a)) → Q () s') (hf : X.fn x = true ∨ X.env.scope.names.lookup x = some .local := by first | exact .inl rfl | exact .inr rfl | assumption) : wpAny M A (storeName X.env x u) Q E s := by
  obtain ⟨m, hn, hl⟩ := id I.loc
  have hcls : (X.env.scope.kind == .class || (X.env.scope.kind == .module && X.env.locals != X.env.globals)) = false := by rw [I.ok.kind]; rfl
  have hiσ : i < σ.length := by rw [I.len]; exact (List.getElem?_eq_some_iff.mp hi).1
  have cne := I.cne
  have tracked : ∀ {a : Addr} {h' : Heap}, (∃ o, s.heap.get? a = some o ∧ H a = none) → Heap.SameBut a s.heap h' → HOk X.prog X.w H h' := fun {a h'} ha hs b ob e => by
    obtain ⟨_, _, hfree⟩ := ha
    refine (I.hok b ob e).stay (fun c w' hc q => (hs.2 c ?_).trans q) (fun _ q => q) fun _ _ q => q
    rintro rfl
    rcases hc with rfl | hc
    · rw [hfree] at e; cases e
    · rw [hfree] at hc; cases hc
  rcases hx with hk | hk
  · refine wpAny_storeName_local hk hn (fun h' hn' hs => ?_) hcls
    obtain ⟨oL, _, _, hoL, _⟩ := id hn
    refine h _ ⟨I.ok, I.os, I.bare, ⟨fun b o e n hb hx => ?_, fun b o e n hb hx => ?_, I.base.free, fun b o e hx => ?_, I.base.tups, I.base.frzs, I.base.tbls⟩, ⟨_, hn', fun j y v' e1 e2 e3 => ?_⟩, fun y c e => ?_, I.free, I.freeC, fun p hp => ?_, tracked ⟨oL, hoL, I.free⟩ hs, by simpa using I.len⟩ ⟨_, hs, .inl rfl⟩
    · exact (hs.2 b (Nat.ne_of_lt (Nat.lt_of_lt_of_le (Heap.lt_size e) I.ok.above))).trans (I.base.keep b o e n hb hx)
    · obtain ⟨sl, e1⟩ := I.base.slot b o e n hb hx
      exact ⟨sl, (hs.2 b (Nat.ne_of_lt (Nat.lt_of_lt_of_le (Heap.lt_size e) I.ok.above))).trans e1⟩
    · obtain ⟨o', e1⟩ := I.base.there b o e hx
      exact ⟨o', (hs.2 b (Nat.ne_of_lt (Nat.lt_of_lt_of_le (Heap.lt_size e) I.ok.above))).trans e1⟩
    · by_cases hj : j = i
      · subst hj
        rw [hi] at e1; cases e1
        rw [List.getElem?_set_self hiσ] at e2
        cases e2
        exact ⟨u, r, .inl ⟨hk, by simp⟩⟩
      · rw [List.getElem?_set_ne (Ne.symm hj)] at e2
        obtain ⟨u', r', q⟩ := hl j y v' e1 e2 e3
        refine ⟨u', r', ?_⟩
        rcases q with ⟨k, e⟩ | ⟨k, c, e, z⟩
        · refine .inl ⟨k, ?_⟩
          have : y ≠ x := fun e => hj (nodup_ix hN e1 (e ▸ hi))
          simp [this, e]
        · exact .inr ⟨k, c, e, z.sameBut hs (cne y c e)⟩
    · obtain ⟨w', z⟩ := I.cell y c e
      exact ⟨w', z.sameBut hs (cne y c e)⟩
    · obtain ⟨e, n, ne, nf, d⟩ := I.pin p hp
      exact ⟨(hs.2 p.1 ne).trans e, n, ne, nf, d⟩
  · have hfn : X.fn x = true := by
      rcases hf with z | z
      · exact z
      · rw [z] at hk; cases hk
    obtain ⟨c, hc⟩ := I.ok.has x (.inl hk)
    obtain ⟨w', z⟩ := I.cell x c hc
    refine wpAny_storeName_cell I.ok.kind hk hc z (fun h' hc' hs => ?_)
    obtain ⟨oc, hoc, hocd⟩ := id z
    refine h { s with heap := h' } ⟨I.ok, I.os, I.bare, ⟨fun b o e n hb hx => ?_, fun b o e n hb hx => ?_, I.base.free, fun b o e hx => ?_, I.base.tups, I.base.frzs, I.base.tbls⟩, ⟨m, hn.sameBut hs (Ne.symm (cne x c hc)), fun j y v' e1 e2 e3 => ?_⟩, fun y c' e => ?_, I.free, I.freeC, fun p hp => ?_, tracked ⟨oc, hoc, I.freeC x c hc⟩ hs, by simpa using I.len⟩ ⟨c, hs, .inr hc⟩
    · exact (hs.2 b (Nat.ne_of_lt (Nat.lt_of_lt_of_le (Heap.lt_size e) (I.ok.cab x c hfn hc)))).trans (I.base.keep b o e n hb hx)
    · obtain ⟨sl, e1⟩ := I.base.slot b o e n hb hx
      exact ⟨sl, (hs.2 b (Nat.ne_of_lt (Nat.lt_of_lt_of_le (Heap.lt_size e) (I.ok.cab x c hfn hc)))).trans e1⟩
    · obtain ⟨o', e1⟩ := I.base.there b o e hx
      exact ⟨o', (hs.2 b (Nat.ne_of_lt (Nat.lt_of_lt_of_le (Heap.lt_size e) (I.ok.cab x c hfn hc)))).trans e1⟩
    · by_cases hj : j = i
      · subst hj
        rw [hi] at e1; cases e1
        rw [List.getElem?_set_self hiσ] at e2
        cases e2
        exact ⟨u, r, .inr ⟨.inl hk, c, hc, hc'⟩⟩
      · rw [List.getElem?_set_ne (Ne.symm hj)] at e2
        obtain ⟨u', r', q⟩ := hl j y v' e1 e2 e3
        refine ⟨u', r', ?_⟩
        rcases q with q | ⟨k, c', e, z'⟩
        · exact .inl q
        · refine .inr ⟨k, c', e, z'.sameBut hs ?_⟩
          rintro rfl
          exact hj (nodup_ix hN e1 (I.ok.inj _ _ _ e hc ▸ hi))
    · by_cases hcc : c' = c
      · subst hcc; exact ⟨_, hc'⟩
      · obtain ⟨w2, z2⟩ := I.cell y c' e
        exact ⟨w2, z2.sameBut hs hcc⟩
    · obtain ⟨e, n, ne, nf, d⟩ := I.pin p hp
      refine ⟨(hs.2 p.1 ?_).trans e, n, ne, nf, d⟩
      intro q
      rw [q, hoc] at e
      have q' : oc = p.2 := Option.some.inj e
      exact d w' (by rw [← q']; exact hocd)
theorem store_ok {M : Model} {A : Around} {E : Value → Shared → Prop} {i : Nat} {x : Str} {v : V} {u : Value} {Q : Unit → Shared → Prop} (I : Inv X pins σ H s) (hN : X.N.Nodup) (hi : X.N[i]? = some x) (hx : Loc X.env.scope x) (r : RelV v u)
    (h : ∀ s', Inv X pins (σ.set i (some v)) H s' → Q () s') (hf : X.fn x = true ∨ X.env.scope.names.lookup x = some .local := by first | exact .inl rfl | exact .inr rfl | assumption) : wpAny M A (storeName X.env x u) Q E s :=
  store_ok2 I hN hi hx r (fun s' I' _ => h s' I') hf
/-- behind a call or a block, the state as it is -/
theorem Inv.call' {s' : Shared} {ch : List Addr} (I : Inv X pins σ H s) (ho : s'.os = s.os) (u : Un (frs X.stack) ch H H' s.heap s'.heap) (hok : HOk X.prog X.w H' s'.heap) (hg : AllBare s'.gens)
    (hch : ∀ b ∈ ch, (b ∈ X.ex ∨ X.s₀.heap.objs.size ≤ b) ∧ b ≠ X.env.locals ∧ (∀ x c, X.env.cells.lookup x = some c → c ≠ b) ∧ ∀ p ∈ X.pn ++ pins, p.1 ≠ b) : Inv X pins σ H' s' := by
  obtain ⟨h', g', d', t', o'⟩ := s'
  have e : o' = s.os := ho
  subst e
  exact I.call (g' := g') (t' := t') (d' := d') u hok hg hch
end

/-! ### the judgements -/
/-- an exception: its class, its own dict's address (where it has one), the abstract heap behind it -/
abbrev XK := Value → Option Addr → Hp → Prop
abbrev St := List (Option V)
abbrev VK := V → Hp → Prop
/-- an expression's reading; a test's; an argument list's -/
abbrev TE := St → Hp → VK → Prop
abbrev TT := St → Hp → (Bool → Hp → Prop) → Prop
abbrev TA := St → Hp → (List V → Hp → Prop) → Prop
/-- what is wanted behind a statement -/
structure Ends where
  nx : St → Hp → Prop
  rt : VK
  bk : St → Hp → Prop := fun _ _ => False
  ct : St → Hp → Prop := fun _ _ => False
abbrev TS := Ends → St → Hp → Prop

def EP (X : Cx) (pins : List (Addr × Obj)) (σ : St) (Q : VK) (u : Value) (s' : Shared) : Prop := ∃ v H', Inv X pins σ H' s' ∧ RelV v u ∧ Q v H'
def TP (X : Cx) (pins : List (Addr × Obj)) (σ : St) (Q : Bool → Hp → Prop) (b : Bool) (s' : Shared) : Prop := ∃ H', Inv X pins σ H' s' ∧ Q b H'
def AP (X : Cx) (pins : List (Addr × Obj)) (σ : St) (Q : List V → Hp → Prop) (us : List Value) (s' : Shared) : Prop := ∃ vs H', Inv X pins σ H' s' ∧ Vals vs us ∧ Q vs H'
def SP (X : Cx) (pins : List (Addr × Obj)) (D : Ends) (f : Flow) (s' : Shared) : Prop :=
  match f with
  | .next => ∃ σ' H', Inv X pins σ' H' s' ∧ D.nx σ' H'
  | .brk => ∃ σ' H', Inv X pins σ' H' s' ∧ D.bk σ' H'
  | .cont => ∃ σ' H', Inv X pins σ' H' s' ∧ D.ct σ' H'
  | .ret u => ∃ v σ' H', Inv X pins σ' H' s' ∧ RelV v u ∧ D.rt v H'

def PE (X : Cx) (e : Expr) (t : TE) : Prop :=
  ∀ (pins : List (Addr × Obj)) (s : Shared) (σ : St) (H : Hp) (Q : VK), Inv X pins σ H s → t σ H Q → wpAny (model X.prog X.w) X.A (eval e X.env) (EP X pins σ Q) X.xe s
def PT (X : Cx) (e : Expr) (t : TT) : Prop :=
  ∀ (pins : List (Addr × Obj)) (s : Shared) (σ : St) (H : Hp) (Q : Bool → Hp → Prop), Inv X pins σ H s → t σ H Q → wpAny (model X.prog X.w) X.A (isTrue e X.env (eval e X.env)) (TP X pins σ Q) X.xe s
/-- a test whatever its 'whole' is (and, or) -/
def PW (X : Cx) (e : Expr) (t : TT) : Prop :=
  ∀ (whole : Sem Value) (pins : List (Addr × Obj)) (s : Shared) (σ : St) (H : Hp) (Q : Bool → Hp → Prop), Inv X pins σ H s → t σ H Q → wpAny (model X.prog X.w) X.A (isTrue e X.env whole) (TP X pins σ Q) X.xe s
theorem PW.pt {X : Cx} {e : Expr} {t : TT} (h : PW X e t) : PT X e t := h _
/-- an argument list (no star), from the left -/
def PA (X : Cx) (es : List Expr) (t : TA) : Prop :=
  ∀ (pos : Pos) (pins : List (Addr × Obj)) (s : Shared) (σ : St) (H : Hp) (Q : List V → Hp → Prop), Inv X pins σ H s → t σ H Q → wpAny (model X.prog X.w) X.A (spliced (backTo pos (starEach es X.env))) (AP X pins σ Q) X.xe s
def PS (X : Cx) (st : Stmt) (t : TS) : Prop :=
  ∀ (pins : List (Addr × Obj)) (s : Shared) (σ : St) (H : Hp) (D : Ends), Inv X pins σ H s → t D σ H → wpAny (model X.prog X.w) X.A (exec st X.env) (SP X pins D) X.xe s
def PSs (X : Cx) (st : List Stmt) (t : TS) : Prop :=
  ∀ (pins : List (Addr × Obj)) (s : Shared) (σ : St) (H : Hp) (D : Ends), Inv X pins σ H s → t D σ H → wpAny (model X.prog X.w) X.A (execs st X.env) (SP X pins D) X.xe s
/-- weaken the end -/
theorem thn {α : Type} {t : Sem α} {Q Q' : α → Shared → Prop} {M : Model} {A : Around} {E : Value → Shared → Prop} {s : Shared} (h : wpAny M A t Q E s) (hQ : ∀ a s, Q a s → Q' a s) : wpAny M A t Q' E s := wpAny_mono h hQ fun _ _ x => x
end L2

namespace L2
open PySem PySem.Spec PyProof.Rows
section
variable {X : Cx}

/-! ### names and constants -/
def tVar (i : Nat) : TE := fun σ H Q => ∃ v, σ[i]? = some (some v) ∧ Q v H
def tC (v : V) : TE := fun _ H Q => Q v H
theorem pe_var {i : Nat} {x : Str} {pos : Pos} (hN : X.N[i]? = some x) (hv : Vis X.env.scope x) (hd : (x == ("__debug__" : Str)) = false := by decide) (hcd : (x == ("__classdict__" : Str)) = false := by decide) : PE X (.Name x pos) (tVar i) := by
  intro pins s σ H Q I h
  obtain ⟨v, e, h⟩ := h
  obtain ⟨m, hn, hl⟩ := I.loc
  obtain ⟨u, r, l⟩ := hl i x v hN e hv
  have fin : EP X pins σ Q u s := ⟨v, H, I, r, h⟩
  rcases l with ⟨hk, hm⟩ | ⟨hk, c, hc, hcell⟩
  · exact wpAny_Name (wpAny_loadName_local I.ok.kind hk hn hm fin) hd
  · rcases hk with hk | hk
    · exact wpAny_Name (wpAny_loadName_cell I.ok.kind hk hc hcell fin) hd
    · exact wpAny_Name (wpAny_loadName_free I.ok.kind hk hc hcell fin hcd) hd
theorem pe_int {i j pos} : PE X (.Constant (.int i) j pos) (tC (.int i)) := fun _ _ _ H _ I h => wpAny_Constant_int ⟨.int i, H, I.tok _, ⟨_, rfl⟩, h⟩
theorem pe_bl {b j pos} : PE X (.Constant (.bool b) j pos) (tC (.bl b)) := fun _ _ _ H _ I h => Constant_bool ⟨.bl b, H, I, rfl, h⟩
theorem pe_str {x j pos} : PE X (.Constant (.str x) j pos) (tC (.str x)) := fun _ _ _ H _ I h => Calls.Constant_str ⟨.str x, H, I.tok _, ⟨_, rfl⟩, h⟩

/-- a global name of the def -/
def Gl (X : Cx) (x : Str) : Prop := X.env.kindOf x = some .globalImplicit
theorem ld_glob {E : Value → Shared → Prop} {pins : List (Addr × Obj)} {s : Shared} {σ : St} {H : Hp} {x : Str} {u : Value} {pos : Pos} {Q : Value → Shared → Prop} (I : Inv X pins σ H s) (hg : Gl X x) (hm : X.mg x = some u) (h : Q u s)
    (hd : (x == ("__debug__" : Str)) = false := by decide) : wpAny (model X.prog X.w) X.A (eval (.Name x pos) X.env) Q E s :=
  Calls.Name_function_global I.ok.kind hg (Calls.loadGlobal_global (by rw [I.ok.glob]; exact I.mod.glob.keeps I.bk) hm h) hd
theorem ld_blt {E : Value → Shared → Prop} {pins : List (Addr × Obj)} {s : Shared} {σ : St} {H : Hp} {x : Str} {u : Value} {pos : Pos} {Q : Value → Shared → Prop} (I : Inv X pins σ H s) (hg : Gl X x) (hm : X.mg x = none) (hv : bootBuiltins x = some u) (h : Q u s)
    (hn : x ≠ "__name__" := by decide) (hd : (x == ("__debug__" : Str)) = false := by decide) : wpAny (model X.prog X.w) X.A (eval (.Name x pos) X.env) Q E s := by
  obtain ⟨mb, h1, h2⟩ := I.mod.blt
  exact Calls.Name_function_global I.ok.kind hg (Calls.loadGlobal_builtin (by rw [I.ok.glob]; exact I.mod.glob.keeps I.bk) hm (by rw [I.ok.blt]; exact h1.keeps I.bk) ((h2 x hn).trans hv) h) hd
/-- a module's constant, a class, a function, as a value -/
theorem pe_glob {x : Str} {v : V} {u : Value} {pos : Pos} (hg : Gl X x) (hm : X.mg x = some u) (r : RelV v u) (hd : (x == ("__debug__" : Str)) = false := by decide) : PE X (.Name x pos) (tC v) :=
  fun _ _ _ H _ I h => ld_glob I hg hm ⟨v, H, I, r, h⟩ hd
theorem pe_bltn {x : Str} {v : V} {u : Value} {pos : Pos} (hg : Gl X x) (hm : X.mg x = none) (hv : bootBuiltins x = some u) (r : RelV v u) (hn : x ≠ "__name__" := by decide) (hd : (x == ("__debug__" : Str)) = false := by decide) : PE X (.Name x pos) (tC v) :=
  fun _ _ _ H _ I h => ld_blt I hg hm hv ⟨v, H, I, r, h⟩ hn hd

/-! ### arithmetic -/
variable {a b : Expr} {ta tb : TE} {pos : Pos}
/-! ### comparisons -/
/-- a comparison as a value, as a test -/
def tB (t : TE) : TT := fun σ H Q => t σ H fun x H1 => ∃ c, x = .bl c ∧ Q c H1
/-- an expression whose value is a bool, as a test -/
theorem pt_val {e : Expr} {t : TE} (h : PE X e t) (he : ∀ whole, isTrue e X.env whole = (do let v ← whole; standAt e.pos; holding [v] (truthy v)) := by intro _; rfl) : PT X e (tB t) := by
  intro pins s σ H Q I hw
  refine isTrue_plain (thn (h pins s σ H _ I hw) fun v s1 ⟨x, H1, I1, r1, q1⟩ => ?_) (he _)
  obtain ⟨d, rfl, q⟩ := q1
  cases r1
  exact wpAny_truthy_bool ⟨H1, I1, q⟩

/-! ### and, or, not -/
variable {tA tB' : TT} {rest : List Expr}
def tAnd (t u : TT) : TT := fun σ H Q => t σ H fun c H1 => if c = true then u σ H1 Q else Q false H1
def tOr (t u : TT) : TT := fun σ H Q => t σ H fun c H1 => if c = true then Q true H1 else u σ H1 Q
def tNot (t : TT) : TT := fun σ H Q => t σ H fun c H1 => Q (!c) H1
theorem pw_and1 (ha : PT X a tA) : PW X (.BoolOp .And [a] pos) tA := by
  intro wh pins s σ H Q I h
  refine isTrue_and (thn (ha pins s σ H Q I h) fun c s1 e => ?_)
  cases c with
  | true => exact isTrue_and_nil e
  | false => exact e
theorem pw_or1 (ha : PT X a tA) : PW X (.BoolOp .Or [a] pos) tA := by
  intro wh pins s σ H Q I h
  refine isTrue_or (thn (ha pins s σ H Q I h) fun c s1 e => ?_)
  cases c with
  | false => exact isTrue_or_nil e
  | true => exact e
theorem pw_and (ha : PT X a tA) (hb : PW X (.BoolOp .And (b :: rest) pos) tB') : PW X (.BoolOp .And (a :: b :: rest) pos) (tAnd tA tB') := by
  intro wh pins s σ H Q I h
  refine isTrue_and (thn (ha pins s σ H _ I h) fun c s1 ⟨H1, I1, q1⟩ => ?_)
  cases c with
  | true => exact hb wh pins s1 σ H1 Q I1 q1
  | false => exact ⟨H1, I1, q1⟩
theorem pw_or (ha : PT X a tA) (hb : PW X (.BoolOp .Or (b :: rest) pos) tB') : PW X (.BoolOp .Or (a :: b :: rest) pos) (tOr tA tB') := by
  intro wh pins s σ H Q I h
  refine isTrue_or (thn (ha pins s σ H _ I h) fun c s1 ⟨H1, I1, q1⟩ => ?_)
  cases c with
  | true => exact ⟨H1, I1, q1⟩
  | false => exact hb wh pins s1 σ H1 Q I1 q1
theorem pt_not (ha : PT X a tA) : PT X (.UnaryOp .Not a pos) (tNot tA) := by
  intro pins s σ H Q I h
  exact isTrue_not (ha pins s σ H (fun c H1 => Q (!c) H1) I h)
/-- .. as values (bools) -/
def tAndV (ta tb : TE) : TE := fun σ H Q => ta σ H fun x H1 => ∃ c, x = .bl c ∧ if c = true then tb σ H1 Q else Q (.bl false) H1
def tNotV (ta : TE) : TE := fun σ H Q => ta σ H fun x H1 => ∃ c, x = .bl c ∧ Q (.bl (!c)) H1
theorem pe_one {op} {t : TE} (h : PE X a t) : PE X (.BoolOp op [a] pos) t := fun pins s σ H Q I hw => BoolOp_one (h pins s σ H Q I hw)
theorem pe_and (ha : PE X a ta) (hb : PE X (.BoolOp .And (b :: rest) pos) tb) : PE X (.BoolOp .And (a :: b :: rest) pos) (tAndV ta tb) := by
  intro pins s σ H Q I h
  refine BoolOp_and (thn (ha pins s σ H _ I h) fun v s1 ⟨x, H1, I1, r1, q1⟩ => ?_)
  obtain ⟨c, rfl, q1⟩ := q1
  cases r1
  refine wpAny_truthy_bool ?_
  cases c with
  | true => exact hb pins s1 σ H1 Q I1 q1
  | false => exact ⟨.bl false, H1, I1, rfl, q1⟩
theorem pe_not (ha : PE X a ta) : PE X (.UnaryOp .Not a pos) (tNotV ta) := by
  intro pins s σ H Q I h
  refine UnaryOp_ (thn (ha pins s σ H _ I h) fun v s1 ⟨x, H1, I1, r1, q1⟩ => ?_)
  obtain ⟨c, rfl, q1⟩ := q1
  cases r1
  exact not_of (wpAny_truthy_bool ⟨.bl (!c), H1, I1, rfl, q1⟩)
/-- a if t else b -/
def tIf (t : TT) (ta tb : TE) : TE := fun σ H Q => t σ H fun c H1 => if c = true then ta σ H1 Q else tb σ H1 Q
theorem pe_ifExp {c : Expr} (hc : PT X c tA) (ha : PE X a ta) (hb : PE X b tb) : PE X (.IfExp c a b pos) (tIf tA ta tb) := by
  intro pins s σ H Q I h
  refine wpAny_IfExp (thn (hc pins s σ H _ I h) fun d s1 ⟨H1, I1, q1⟩ => ?_)
  cases d with
  | true => exact ha pins s1 σ H1 Q I1 q1
  | false => exact hb pins s1 σ H1 Q I1 q1
end
end L2

namespace L2
open PySem PySem.Spec PyProof.Rows

/-! ### a list, a tuple that is read: tracked, frozen, or an object of the module -/
def SqL (K : PySem.W.Frag) (H : Hp) (a : Addr) (xs : List V) : Prop :=
  Rd H a (.lst xs) ∨
    ∃ (o : Obj) (its : Array Value) (n : Nat), K.lookup a = some o ∧ o.cls = .type "list" ∧ o.dict = none ∧ o.data = .seq its n ∧ its.size ≤ sizeLine ∧ Vals xs its.toList
def SqT (K : PySem.W.Frag) (H : Hp) (a : Addr) (xs : List V) : Prop :=
  Rd H a (.tup xs) ∨
    ∃ (o : Obj) (its : Array Value) (n : Nat), K.lookup a = some o ∧ o.cls = .type "tuple" ∧ o.data = .seq its n ∧ its.size ≤ sizeLine ∧ Vals xs its.toList
def absV : Value → Option V
  | .none => some .non
  | .bool b => some (.bl b)
  | .int i _ => some (.int i)
  | .str x _ => some (.str x)
  | .bytes b _ => some (.byt b)
  | .float b _ => some (.flt b)
  | .ref a => some (.ref a)
  | .type n => some (.ty n)
  | _ => none
theorem RelV.abs {x : V} {u : Value} (r : RelV x u) : absV u = some x := by
  cases x with
  | non => cases r; rfl
  | bl _ => cases r; rfl
  | int _ => obtain ⟨t, rfl⟩ := r; rfl
  | str _ => obtain ⟨t, rfl⟩ := r; rfl
  | byt _ => obtain ⟨t, rfl⟩ := r; rfl
  | flt _ => obtain ⟨t, rfl⟩ := r; rfl
  | ref _ => cases r; rfl
  | ty _ => cases r; rfl
theorem RelV.inj {x y : V} {u : Value} (r : RelV x u) (q : RelV y u) : x = y := Option.some.inj (r.abs.symm.trans q.abs)
theorem Vals.inj : ∀ {xs ys : List V} {us : List Value}, Vals xs us → Vals ys us → xs = ys
  | _, _, _, .nil, .nil => rfl
  | _, _, _, .cons r t, .cons r' t' => by rw [r.inj r', Vals.inj t t']
section
variable {X : Cx} {pins : List (Addr × Obj)} {σ : St} {H : Hp} {s : Shared} {a : Addr} {xs ys : List V}
theorem SqL.of {K : PySem.W.Frag} (h : H a = some (.lst xs)) : SqL K H a xs := .inl (.inl h)
theorem SqT.of {K : PySem.W.Frag} (h : H a = some (.tup xs)) : SqT K H a xs := .inl (.inl h)
theorem Inv.list (I : Inv X pins σ H s) (h : SqL X.K H a xs) : ∃ its : List Value, Vals xs its ∧ PlainL s.heap a its.toArray ∧ xs.length ≤ sizeLine := by
  rcases h with h | ⟨o, its, n, hk, hc, hd, hs, hz, r⟩
  · obtain ⟨z, its, n, r, e⟩ := h.ok I.hok
    exact ⟨its, r, ⟨_, n, e, rfl, rfl, rfl⟩, z⟩
  · refine ⟨its.toList, r, ⟨o, n, I.kIn a o hk, hc, hd, by simpa using hs⟩, ?_⟩
    have e := r.length
    simp only [Array.length_toList] at e
    omega
theorem Inv.tuple (I : Inv X pins σ H s) (h : SqT X.K H a xs) : ∃ its : List Value, Vals xs its ∧ IsTup s.heap a its.toArray ∧ xs.length ≤ sizeLine := by
  rcases h with h | ⟨o, its, n, hk, hc, hs, hz, r⟩
  · obtain ⟨z, its, r, p⟩ := h.ok I.hok
    exact ⟨its, r, p, z⟩
  · refine ⟨its.toList, r, ⟨o, I.kIn a o hk, hc, n, by simpa using hs⟩, ?_⟩
    have e := r.length
    simp only [Array.length_toList] at e
    omega
theorem Inv.list_inj (I : Inv X pins σ H s) (h : SqL X.K H a xs) (h' : SqL X.K H a ys) : xs = ys := by
  obtain ⟨its, r, ⟨o, n, e, _, _, d⟩, _⟩ := I.list h
  obtain ⟨its', r', ⟨o', n', e', _, _, d'⟩, _⟩ := I.list h'
  rw [e] at e'; cases e'
  rw [d] at d'
  injection d' with d1 _
  have : its = its' := by simpa using congrArg Array.toList d1
  subst this
  exact r.inj r'
theorem Inv.tuple_inj (I : Inv X pins σ H s) (h : SqT X.K H a xs) (h' : SqT X.K H a ys) : xs = ys := by
  obtain ⟨its, r, ⟨o, e, _, n, d⟩, _⟩ := I.tuple h
  obtain ⟨its', r', ⟨o', e', _, n', d'⟩, _⟩ := I.tuple h'
  rw [e] at e'; cases e'
  rw [d] at d'
  injection d' with d1 _
  have : its = its' := by simpa using congrArg Array.toList d1
  subst this
  exact r.inj r'
end

/-! ### another wish about exceptions -/
abbrev Cx.wish (X : Cx) (E : Value → Shared → Prop) : Cx := { X with xe := E }
/-- no exception leaves -/
abbrev Cx.nox (X : Cx) : Cx := X.wish fun _ _ => False
theorem Cx.Ok.wish {X : Cx} (ok : X.Ok) (E : Value → Shared → Prop) : (X.wish E).Ok :=
  ⟨ok.mod, ok.kind, ok.glob, ok.blt, ok.above, ok.inj, ok.has, ok.cab, ok.hd, ok.frames, ok.stk, ok.exf, ok.bs, ok.bsz, ok.noex, ok.exfs, ok.funs, ok.frf⟩
theorem Cx.Ok.unwish {X : Cx} {E : Value → Shared → Prop} (ok : (X.wish E).Ok) : X.Ok :=
  ⟨ok.mod, ok.kind, ok.glob, ok.blt, ok.above, ok.inj, ok.has, ok.cab, ok.hd, ok.frames, ok.stk, ok.exf, ok.bs, ok.bsz, ok.noex, ok.exfs, ok.funs, ok.frf⟩
section
variable {X : Cx} {pins : List (Addr × Obj)} {σ : St} {H : Hp} {s : Shared} {E : Value → Shared → Prop}
theorem Inv.wish (I : Inv X pins σ H s) (E : Value → Shared → Prop) : Inv (X.wish E) pins σ H s := ⟨I.ok.wish E, I.os, I.bare, I.base, I.loc, I.cell, I.free, I.freeC, I.pin, I.hok, I.len⟩
theorem Inv.unwish (I : Inv (X.wish E) pins σ H s) : Inv X pins σ H s := ⟨I.ok.unwish, I.os, I.bare, I.base, I.loc, I.cell, I.free, I.freeC, I.pin, I.hok, I.len⟩
theorem SP.unwish {D : Ends} {f : Flow} {s' : Shared} (h : SP (X.wish E) pins D f s') : SP X pins D f s' := by
  cases f with
  | next => obtain ⟨σ', H', I, q⟩ := h; exact ⟨σ', H', I.unwish, q⟩
  | brk => obtain ⟨σ', H', I, q⟩ := h; exact ⟨σ', H', I.unwish, q⟩
  | cont => obtain ⟨σ', H', I, q⟩ := h; exact ⟨σ', H', I.unwish, q⟩
  | ret u => obtain ⟨v, σ', H', I, r, q⟩ := h; exact ⟨v, σ', H', I.unwish, r, q⟩
theorem PE.nox {e : Expr} {t : TE} (h : PE X.nox e t) : PE X e t := fun pins s σ H Q I hw =>
  wpAny_mono (h pins s σ H Q (I.wish _) hw) (fun _ _ ⟨v, H', I', r, q⟩ => ⟨v, H', I'.unwish, r, q⟩) fun _ _ z => False.elim z
theorem PT.nox {e : Expr} {t : TT} (h : PT X.nox e t) : PT X e t := fun pins s σ H Q I hw =>
  wpAny_mono (h pins s σ H Q (I.wish _) hw) (fun _ _ ⟨H', I', q⟩ => ⟨H', I'.unwish, q⟩) fun _ _ z => False.elim z
theorem PSs.nox {st : List Stmt} {t : TS} (h : PSs X.nox st t) : PSs X st t := fun pins s σ H D I hw =>
  wpAny_mono (h pins s σ H D (I.wish _) hw) (fun _ _ q => q.unwish) fun _ _ z => False.elim z
end

/-! ### blocks and small statements -/
section
variable {X : Cx} {st : Stmt} {rest : List Stmt} {t u : TS} {e : Expr} {te : TE} {pos : Pos}
def tNext : TS := fun D σ H => D.nx σ H
def tSeq (t u : TS) : TS := fun D σ H => t { D with nx := u D } σ H
theorem pss_nil : PSs X [] tNext := fun _ _ σ H _ I h => wpAny_execs_nil ⟨σ, H, I, h⟩
theorem pss_cons (h1 : PS X st t) (h2 : PSs X rest u) : PSs X (st :: rest) (tSeq t u) := by
  intro pins s σ H D I h
  refine wpAny_execs_cons (thn (h1 pins s σ H { D with nx := u D } I h) fun f s1 q => ?_)
  cases f with
  | next =>
    obtain ⟨σ', H', I', q⟩ := q
    exact h2 pins s1 σ' H' D I' q
  | ret v => exact q
  | brk => exact q
  | cont => exact q
theorem pss_one (h1 : PS X st t) : PSs X [st] t := by
  intro pins s σ H D I h
  refine wpAny_execs_cons (thn (h1 pins s σ H D I h) fun f s1 q => ?_)
  cases f with
  | next => exact wpAny_execs_nil q
  | ret v => exact q
  | brk => exact q
  | cont => exact q
/-- in a def's body nothing is shown -/
theorem Inv.quiet {pins : List (Addr × Obj)} {σ : St} {H : Hp} {s : Shared} (I : Inv X pins σ H s) : interactive X.env = false := by simp [interactive, I.ok.kind]
/-- an expression whose value is dropped -/
def tDrop (te : TE) : TS := fun D σ H => te σ H fun _ H1 => D.nx σ H1
theorem ps_expr (he : PE X e te) (hs : swapsWith e none pos.line X.env = pure false := by rfl) : PS X (.Expr e pos) (tDrop te) := by
  intro pins s σ H D I h
  exact wpAny_Expr_any (thn (he pins s σ H _ I h) fun v s1 ⟨x, H1, I1, r1, q1⟩ => ⟨σ, H1, I1, q1⟩) I.quiet hs
def tRet (te : TE) : TS := fun D σ H => te σ H D.rt
theorem ps_ret (he : PE X e te) : PS X (.Return (some e) pos) (tRet te) := by
  intro pins s σ H D I h
  exact wpAny_Return_some (thn (he pins s σ H _ I h) fun v s1 ⟨x, H1, I1, r1, q1⟩ => ⟨x, σ, H1, I1, r1, q1⟩)
def tIfS (c : TT) (t u : TS) : TS := fun D σ H => c σ H fun b H1 => if b = true then t D σ H1 else u D σ H1
theorem ps_if {c : Expr} {a b : List Stmt} {tc : TT} (hc : PT X c tc) (ha : PSs X a t) (hb : PSs X b u) : PS X (.If c a b pos) (tIfS tc t u) := by
  intro pins s σ H D I h
  refine wpAny_If (thn (hc pins s σ H _ I h) fun d s1 ⟨H1, I1, q1⟩ => ?_)
  cases d with
  | true => exact ha pins s1 σ H1 D I1 q1
  | false => exact hb pins s1 σ H1 D I1 q1
/-- code that the proof never comes to -/
def tNever : TS := fun _ _ _ => False
theorem pss_never {sts : List Stmt} : PSs X sts tNever := fun _ _ _ _ _ _ h => h.elim
end

/-! ### targets -/
abbrev TG := V → St → Hp → (St → Hp → Prop) → Prop
abbrev TGs := List V → St → Hp → (St → Hp → Prop) → Prop
def PG (X : Cx) (target : Expr) (t : TG) : Prop :=
  ∀ (pins : List (Addr × Obj)) (s : Shared) (σ : St) (H : Hp) (v : V) (u : Value) (Q : St → Hp → Prop), Inv X pins σ H s → RelV v u → t v σ H Q →
    wpAny (model X.prog X.w) X.A (assign target X.env u) (fun _ s' => ∃ σ' H', Inv X pins σ' H' s' ∧ Q σ' H') X.xe s
/-- several targets, one after another -/
def PGs (X : Cx) (ts : List Expr) (t : TGs) : Prop :=
  ∀ (pins : List (Addr × Obj)) (s : Shared) (σ : St) (H : Hp) (vs : List V) (us : List Value) (Q : St → Hp → Prop), Inv X pins σ H s → Vals vs us → t vs σ H Q →
    wpAny (model X.prog X.w) X.A (assignInOrder ((assignEach ts X.env).map (·.2)) us) (fun _ s' => ∃ σ' H', Inv X pins σ' H' s' ∧ Q σ' H') X.xe s
/-- o[i] = v, by values -/
abbrev TSet := V → V → V → Hp → (Hp → Prop) → Prop
def PSet (X : Cx) (t : TSet) : Prop :=
  ∀ (pins : List (Addr × Obj)) (s : Shared) (σ : St) (H : Hp) (o i v : V) (ov iv u : Value) (Q : Hp → Prop), Inv X pins σ H s → RelV o ov → RelV i iv → RelV v u → t o i v H Q →
    wpAny (model X.prog X.w) X.A (setItem ov iv u) (fun _ s' => ∃ H', Inv X pins σ H' s' ∧ Q H') X.xe s
section
variable {X : Cx} {pos : Pos}
def gName (i : Nat) : TG := fun v σ H Q => Q (σ.set i (some v)) H
theorem pg_name {i : Nat} {x : Str} (hN : X.N.Nodup) (hi : X.N[i]? = some x) (hx : Loc X.env.scope x) (hf : X.fn x = true ∨ X.env.scope.names.lookup x = some .local := by first | exact .inl rfl | exact .inr rfl | assumption) : PG X (.Name x pos) (gName i) := by
  intro pins s σ H v u Q I r h
  exact wpAny_assign_Name (store_ok I hN hi hx r (fun s' I' => ⟨_, H, I', h⟩) hf)
def gNil : TGs := fun vs σ H Q => vs = [] ∧ Q σ H
def gCons (t : TG) (u : TGs) : TGs := fun vs σ H Q => ∃ v r, vs = v :: r ∧ t v σ H fun σ' H' => u r σ' H' Q
theorem pgs_nil : PGs X [] gNil := by
  intro pins s σ H vs us Q I r h
  obtain ⟨e, h⟩ := h
  subst e
  cases r
  exact assignInOrder_nil ⟨σ, H, I, h⟩
theorem pgs_cons {e : Expr} {es : List Expr} {t : TG} {u : TGs} (h1 : PG X e t) (h2 : PGs X es u)
    (hs : (assignEach (e :: es) X.env).map (·.2) = assign e X.env :: (assignEach es X.env).map (·.2) := by rfl) : PGs X (e :: es) (gCons t u) := by
  intro pins s σ H vs us Q I r h
  obtain ⟨v, vr, e1, h⟩ := h
  subst e1
  cases r with
  | cons r rr =>
    rw [hs]
    refine assignInOrder_cons (thn (h1 pins s σ H _ _ _ I r h) fun _ s1 ⟨σ1, H1, I1, q1⟩ => ?_)
    exact h2 pins s1 σ1 H1 _ _ Q I1 rr q1
/-- (a, b, ..) = a tuple of that length -/
def gTup (K : PySem.W.Frag) (n : Nat) (t : TGs) : TG := fun v σ H Q => ∃ a xs, v = .ref a ∧ SqT K H a xs ∧ xs.length = n ∧ t xs σ H Q
theorem pg_tup {es : List Expr} {k : Nat} {t : TGs} {n : Nat} (hc : X.calm = true) (h : PGs X es t)
    (hn : (assignEach es X.env).length = n := by rfl) (hst : (assignEach es X.env).findIdx? (·.1) = none := by rfl) : PG X (.Tuple es k pos) (gTup X.K n t) := by
  intro pins s σ H v u Q I r hw
  obtain ⟨a, xs, e1, hq, hl, hw⟩ := hw
  subst e1
  cases r
  obtain ⟨its, rv, ht, hz⟩ := I.tuple hq
  refine assign_Tuple_tuple (I.ok.hd hc) ht (by simp [hn, ← hl, rv.length]) hst fun h' hx => ?_
  have I1 : Inv X pins σ H { s with heap := h' } := I.kept (t' := s.toks) fun b o e => hx b o (Nat.ne_of_lt (Heap.lt_size e)) e
  exact h pins _ σ H xs _ Q I1 (by simpa using rv) hw
/-- o[i] = .. -/
def gSub (to ti : TE) (t : TSet) : TG := fun v σ H Q => to σ H fun o H1 => ti σ H1 fun i H2 => t o i v H2 fun H3 => Q σ H3
theorem pg_sub {o i : Expr} {to ti : TE} {t : TSet} (ho : PE X o to) (hi : PE X i ti) (hs : PSet X t)
    (ha : ∀ v, assign (.Subscript o i pos) X.env v = (do
      let ov ← holding [v] (eval o X.env)
      let iv ← holding [v, ov] (eval i X.env)
      standAt pos
      holding [v, ov, iv] (setItem ov iv v)
      release [v, ov, iv] []) := by intro _; rfl) : PG X (.Subscript o i pos) (gSub to ti t) := by
  intro pins s σ H v u Q I r h
  rw [ha]
  refine wpAny_bind (wpAny_holding (thn (ho pins s σ H _ I h) fun ov s1 ⟨x, H1, I1, r1, q1⟩ => ?_))
  refine wpAny_bind (wpAny_holding (thn (hi pins s1 σ H1 _ I1 q1) fun iv s2 ⟨y, H2, I2, r2, q2⟩ => ?_))
  refine wpAny_bind (wpAny_standAt (wpAny_bind (wpAny_holding (thn (hs pins s2 σ H2 x y v ov iv u _ I2 r1 r2 r q2) fun _ s3 ⟨H3, I3, q3⟩ => ?_))))
  exact wpAny_release ⟨σ, H3, I3, q3⟩
/-- target = value -/
def tAsg (te : TE) (g : TG) : TS := fun D σ H => te σ H fun x H1 => g x σ H1 D.nx
theorem ps_asg {tg e : Expr} {te : TE} {g : TG} (he : PE X e te) (hg : PG X tg g) (hs : swapsWithSole [tg] e pos.line X.env = pure false := by rfl) (hw : swappedStores [tg] e X.env = pure none := by rfl)
    (h1 : (assignEach [tg] X.env).map (·.2) = [assign tg X.env] := by rfl) : PS X (.Assign [tg] e pos) (tAsg te g) := by
  intro pins s σ H D I h
  refine wpAny_Assign_stores (thn (he pins s σ H _ I h) fun v s1 ⟨x, H1, I1, r1, q1⟩ => ?_) hs hw
  rw [h1]
  exact thn (hg pins s1 σ H1 x v _ I1 r1 q1) fun _ s2 q => q
/-- name = value -/
theorem ps_set {i : Nat} {x : Str} {e : Expr} {te : TE} {pos' : Pos} (hN : X.N.Nodup) (hi : X.N[i]? = some x) (hx : Loc X.env.scope x) (he : PE X e te) (hs : swapsWith e (some (.Name x pos')) pos.line X.env = pure false := by rfl) (hf : X.fn x = true ∨ X.env.scope.names.lookup x = some .local := by first | exact .inl rfl | exact .inr rfl | assumption) :
    PS X (.Assign [.Name x pos'] e pos) (tAsg te (gName i)) := by
  intro pins s σ H D I h
  refine wpAny_Assign_Name (thn (he pins s σ H _ I h) fun v s1 ⟨y, H1, I1, r1, q1⟩ => ?_) hs
  exact store_ok I1 hN hi hx r1 (fun s2 I2 => ⟨_, H1, I2, q1⟩) hf
end

/-! ### while -/
section
variable {X : Cx} {pos : Pos}
/-- the invariant W with its measure -/
def tWhile (c : TT) (tb : TS) : TS := fun D σ H => ∃ W : Nat → St → Hp → Prop, (∃ m, W m σ H) ∧ ∀ m σ H, W m σ H →
  c σ H fun b H1 => if b = true then ∃ N : St → Hp → Prop, (∀ σ' H', N σ' H' → ∃ m', m' < m ∧ W m' σ' H') ∧ tb { D with nx := N, ct := N, bk := D.nx } σ H1 else D.nx σ H1
theorem ps_while {c : Expr} {body : List Stmt} {tc : TT} {tb : TS} (hp : PassesOwn (model X.prog X.w) X.A X.env X.xe) (hc : PT X c tc) (hb : PSs X body tb) : PS X (.While c body [] pos) (tWhile tc tb) := by
  intro pins s σ H D I h
  obtain ⟨W, ⟨m0, w0⟩, turn⟩ := h
  refine wpAny_While (codeAny_whileLoop (fun n s' => ∃ σ' H', Inv X pins σ' H' s' ∧ W n σ' H') ?_ m0 ⟨σ, H, I, w0⟩)
  rintro n s1 ⟨σ1, H1, I1, w1⟩
  refine wpAny_passesOwn hp (thn (hc pins s1 σ1 H1 _ I1 (turn n σ1 H1 w1)) fun b s2 ⟨H2, I2, q2⟩ => ?_)
  cases b with
  | true =>
    obtain ⟨N, hN, q2⟩ := q2
    rw [if_pos rfl]
    refine wpAny_passesOwn hp (thn (hb pins s2 σ1 H2 _ I2 q2) fun f s3 q3 => ?_)
    cases f with
    | next =>
      obtain ⟨σ3, H3, I3, n3⟩ := q3
      obtain ⟨m', hm, w3⟩ := hN σ3 H3 n3
      exact ⟨m', hm, σ3, H3, I3, w3⟩
    | cont =>
      obtain ⟨σ3, H3, I3, n3⟩ := q3
      obtain ⟨m', hm, w3⟩ := hN σ3 H3 n3
      exact ⟨m', hm, σ3, H3, I3, w3⟩
    | brk => exact q3
    | ret v => exact q3
  | false =>
    rw [if_neg Bool.false_ne_true]
    exact wpAny_execs_nil ⟨σ1, H2, I2, q2⟩
end

/-! ### what a loop or a comprehension walks -/
/-- at turn i: it yields x (the heap may grow), or it stops -/
structure It where
  go : Nat → Hp → Prop
  yld : Nat → Hp → V → Hp → Prop
  stop : Nat → Hp → Prop
/-- the iterator's own objects may turn: they are not the frame's, not pinned, younger than the entry (or a comprehension's own) -/
def FpOk (X : Cx) (pins : List (Addr × Obj)) (H : Hp) (b : Addr) : Prop :=
  H b = none ∧ b ≠ X.env.locals ∧ b ∉ X.fs ∧ (b ∈ X.ex ∨ X.s₀.heap.objs.size ≤ b) ∧ (∀ x c, X.env.cells.lookup x = some c → c ≠ b) ∧ ∀ p ∈ X.pn ++ pins, p.1 ≠ b
theorem Inv.fpOk {X : Cx} {pins : List (Addr × Obj)} {σ : St} {H H' : Hp} {s : Shared} {b : Addr} (I : Inv X pins σ H s) (hb : s.heap.objs.size ≤ b) (hn : H' b = none) : FpOk X pins H' b := by
  refine ⟨hn, Nat.ne_of_gt (Nat.lt_of_lt_of_le I.lt hb), I.nofs hb, .inr (Nat.le_trans I.sz hb), fun x c e z => ?_, fun p hp z => ?_⟩
  · obtain ⟨v, q⟩ := I.cell x c e
    exact absurd (Nat.lt_of_lt_of_le q.lt (by rw [z]; exact hb)) (Nat.lt_irrefl _)
  · exact absurd (Nat.lt_of_lt_of_le (Heap.lt_size (I.pin p hp).1) (by rw [z]; exact hb)) (Nat.lt_irrefl _)
structure Turn (P : Program) (w : World) (K : PySem.W.Frag) (tg : Expr) (J : It) (fp : List Addr) (it : Addr) (tn : Nat → Heap → Prop) : Prop where
  mem : it ∈ fp
  obj : ∀ i h, tn i h → ∀ b ∈ fp, ∃ o, h.get? b = some o ∧ ∀ v, o.data ≠ .cell v
  keep : ∀ i h h', tn i h → (∀ b ∈ fp, ∀ o, h.get? b = some o → h'.get? b = some o) → tn i h'
  item : ∀ (X : Cx), X.prog = P → X.w = w → X.K = K → X.calm = true → ∀ (i : Nat) (pins : List (Addr × Obj)) (s : Shared) (σ : St) (H : Hp) (E : Value → Shared → Prop), Inv X pins σ H s → (∀ b ∈ fp, FpOk X pins H b) → tn i s.heap → J.go i H →
    wpAny (model P w) X.A (pyNext (.ref it)) (fun r s1 => ∃ u, r = some u ∧
      wpAny (model P w) X.A (letOwnedTupleGo tg (.ref it) u) (fun _ s2 => ∃ x H', Inv X pins σ H' s2 ∧ RelV x u ∧ J.yld i H x H' ∧ tn (i + 1) s2.heap ∧ ∀ b ∈ fp, H' b = none) E s1) E s
  done : ∀ (X : Cx), X.prog = P → X.w = w → X.K = K → X.calm = true → ∀ (i : Nat) (pins : List (Addr × Obj)) (s : Shared) (σ : St) (H : Hp) (E : Value → Shared → Prop), Inv X pins σ H s → (∀ b ∈ fp, FpOk X pins H b) → tn i s.heap → J.stop i H →
    wpAny (model P w) X.A (pyNext (.ref it)) (fun r s1 => r = none ∧ Inv X pins σ H s1) E s
  self : ∀ (A : Around) (i : Nat) (s : Shared) (Q : Value → Shared → Prop) (E : Value → Shared → Prop), tn i s.heap → Q (.ref it) s → wpAny (model P w) A (pyIter (.ref it)) Q E s
abbrev TI := St → Hp → (It → Hp → Prop) → Prop
/-- an iterator has come -/
def PIE (X : Cx) (pins : List (Addr × Obj)) (σ : St) (tg : Expr) (R : It → Hp → Prop) (itv : Value) (s2 : Shared) : Prop :=
  ∃ (it : Addr) (fp : List Addr) (tn : Nat → Heap → Prop) (J : It) (H' : Hp), itv = .ref it ∧ Inv X pins σ H' s2 ∧ Turn X.prog X.w X.K tg J fp it tn ∧ tn 0 s2.heap ∧ (∀ b ∈ fp, FpOk X pins H' b) ∧ R J H'
def PI (X : Cx) (tg iter : Expr) (wi : TI) : Prop :=
  ∀ (pins : List (Addr × Obj)) (s : Shared) (σ : St) (H : Hp) (R : It → Hp → Prop), Inv X pins σ H s → wi σ H R →
    wpAny (model X.prog X.w) X.A (eval iter X.env) (fun v s1 => wpAny (model X.prog X.w) X.A (pyIter v) (PIE X pins σ tg R) X.xe s1) X.xe s

/-- the step ahead of the store is nothing for an iterator that keeps no tuple -/
theorem go_of {M : Model} {A : Around} {E : Value → Shared → Prop} {s : Shared} {tg : Expr} {it : Addr} {u : Value} {o : Obj} {n : String} {vs : Array Value} {Q : Unit → Shared → Prop} (ho : s.heap.get? it = some o) (hc : o.cls = .type n) (hd : o.data = .fields vs)
    (hn : ["enumerate", "zip", "dict_itemiterator", "dict_reverseitemiterator", "odict_iterator", "itertools.zip_longest", "itertools.pairwise"].contains n = false) (hQ : Q () s) : wpAny M A (letOwnedTupleGo tg (.ref it) u) Q E s := by
  unfold letOwnedTupleGo
  cases tg <;> first
    | exact wpAny_pure hQ
    | (cases u <;> first
        | exact wpAny_pure hQ
        | (refine wpAny_bind (wpAny_load ho ?_)
           rw [hc, hd]
           show wpAny M A (if (["enumerate", "zip", "dict_itemiterator", "dict_reverseitemiterator", "odict_iterator", "itertools.zip_longest", "itertools.pairwise"].contains n && vs[0]? == some (rawInt _)) = true then _ else _) Q E s
           rw [if_neg (by intro h; rw [hn, Bool.false_and] at h; cases h)]
           exact wpAny_pure hQ))

/-- the list at a, as it stands at each turn (a loop may append to it) -/
def Itl (K : PySem.W.Frag) (a : Addr) : It :=
  ⟨fun i H => ∃ xs x, SqL K H a xs ∧ xs[i]? = some x, fun i H x H' => H' = H ∧ ∀ xs, SqL K H a xs → xs[i]? = some x, fun i H => ∃ xs, SqL K H a xs ∧ xs.length ≤ i⟩
def Itt (K : PySem.W.Frag) (a : Addr) : It :=
  ⟨fun i H => ∃ xs x, SqT K H a xs ∧ xs[i]? = some x, fun i H x H' => H' = H ∧ ∀ xs, SqT K H a xs → xs[i]? = some x, fun i H => ∃ xs, SqT K H a xs ∧ xs.length ≤ i⟩
/-- lo, lo + 1, .. (n of them) -/
def Itr (lo : Int) (n : Nat) : It := ⟨fun i _ => i < n, fun i H x H' => H' = H ∧ x = .int (lo + i), fun i _ => n ≤ i⟩
theorem turn_list {P : Program} {w : World} {K : PySem.W.Frag} {tg : Expr} (a it : Addr) : Turn P w K tg (Itl K a) [it] it (fun i h => h.IsListIter it a i) where
  mem := by simp
  obj := fun i h st b hb => by
    have e : b = it := by simpa using hb
    subst e
    obtain ⟨o, e, c, d⟩ := st
    exact ⟨o, e, fun v z => by rw [d] at z; cases z⟩
  keep := fun i h h' st k => st.at fun o e => k it (by simp) o e
  item := by
    intro X hP hw hK hc i pins s σ H E I hf st hg
    subst hP hw hK
    obtain ⟨xs, x, hq, hx⟩ := hg
    obtain ⟨its, rv, p, hz⟩ := I.list hq
    obtain ⟨u, hu, ru⟩ := rv.get hx
    obtain ⟨f0, f1, f2, f3, f4, f5⟩ := hf it (by simp)
    refine wpAny_pyNext_list_item st p.isList (x := u) (by simpa using hu) fun h' st' sb => ?_
    have I1 : Inv X pins σ H { s with heap := h' } := I.turned (t' := s.toks) (fun b o hb e => (sb.2 b hb).trans e) f0 f1 f3 f4 f5
    obtain ⟨o, e, c, d⟩ := id st'
    exact ⟨u, rfl, go_of (s := { s with heap := h' }) e c d (by decide) ⟨x, H, I1, ru, ⟨rfl, fun ys hy => by rw [I.list_inj hy hq]; exact hx⟩, st', fun b hb => (hf b hb).1⟩⟩
  done := by
    intro X hP hw hK hc i pins s σ H E I hf st hg
    subst hP hw hK
    obtain ⟨xs, hq, hx⟩ := hg
    obtain ⟨its, rv, p, hz⟩ := I.list hq
    obtain ⟨f0, f1, f2, f3, f4, f5⟩ := hf it (by simp)
    have hl := rv.length
    exact wpAny_pyNext_list_end (I.ok.hd hc) st p.isList (by simp; omega) fun h' eb => ⟨rfl, I.turned (t' := s.toks) (fun b o hb e => eb b o hb e) f0 f1 f3 f4 f5⟩
  self := fun _ _ _ _ _ st h => wpAny_pyIter_listiter st h
theorem turn_tuple {P : Program} {w : World} {K : PySem.W.Frag} {tg : Expr} (a it : Addr) : Turn P w K tg (Itt K a) [it] it (fun i h => h.IsTupleIter it a i) where
  mem := by simp
  obj := fun i h st b hb => by
    have e : b = it := by simpa using hb
    subst e
    obtain ⟨o, e, c, d⟩ := st
    exact ⟨o, e, fun v z => by rw [d] at z; cases z⟩
  keep := fun i h h' st k => st.at fun o e => k it (by simp) o e
  item := by
    intro X hP hw hK hc i pins s σ H E I hf st hg
    subst hP hw hK
    obtain ⟨xs, x, hq, hx⟩ := hg
    obtain ⟨its, rv, p, hz⟩ := I.tuple hq
    obtain ⟨u, hu, ru⟩ := rv.get hx
    obtain ⟨f0, f1, f2, f3, f4, f5⟩ := hf it (by simp)
    refine wpAny_pyNext_tuple_item st (show s.heap.IsTuple a its.toArray from p) (x := u) (by simpa using hu) fun h' st' sb => ?_
    have I1 : Inv X pins σ H { s with heap := h' } := I.turned (t' := s.toks) (fun b o hb e => (sb.2 b hb).trans e) f0 f1 f3 f4 f5
    obtain ⟨o, e, c, d⟩ := id st'
    exact ⟨u, rfl, go_of (s := { s with heap := h' }) e c d (by decide) ⟨x, H, I1, ru, ⟨rfl, fun ys hy => by rw [I.tuple_inj hy hq]; exact hx⟩, st', fun b hb => (hf b hb).1⟩⟩
  done := by
    intro X hP hw hK hc i pins s σ H E I hf st hg
    subst hP hw hK
    obtain ⟨xs, hq, hx⟩ := hg
    obtain ⟨its, rv, p, hz⟩ := I.tuple hq
    obtain ⟨f0, f1, f2, f3, f4, f5⟩ := hf it (by simp)
    have hl := rv.length
    exact wpAny_pyNext_tuple_end (I.ok.hd hc) st (show s.heap.IsTuple a its.toArray from p) (by simp; omega) fun h' eb => ⟨rfl, I.turned (t' := s.toks) (fun b o hb e => eb b o hb e) f0 f1 f3 f4 f5⟩
  self := fun _ _ _ _ _ st h => wpAny_pyIter_tupleiter st h
theorem turn_range {P : Program} {w : World} {K : PySem.W.Frag} {tg : Expr} (it : Addr) (lo : Int) (n : Nat) : Turn P w K tg (Itr lo n) [it] it (fun i h => IsRangeIter h it (lo + (i : Nat) * 1) ((n : Int) - (i : Nat)) 1) where
  mem := by simp
  obj := fun i h st b hb => by
    have e : b = it := by simpa using hb
    subst e
    exact ⟨_, st, fun v z => by
      have z' : Data.fields _ = Data.cell v := z
      cases z'⟩
  keep := fun i h h' st k => k it (by simp) _ st
  item := by
    intro X hP hw hK hc i pins s σ H E I hf st hg
    subst hP hw hK
    obtain ⟨f0, f1, f2, f3, f4, f5⟩ := hf it (by simp)
    have W := Walks.range (prog := X.prog) (w := X.w) (I.ok.hd hc) it lo 1 n
    refine W.item i s _ _ hg st fun v h' tk hv st' kk => ?_
    obtain ⟨t, rfl⟩ := hv
    have I1 : Inv X pins σ H { s with heap := h', toks := tk } := I.turned (fun b o hb e => kk b o (by simpa using hb) e) f0 f1 f3 f4 f5
    refine ⟨_, rfl, go_of (s := { s with heap := h', toks := tk }) (n := "range_iterator") st' rfl rfl (by decide) ⟨.int (lo + i), H, I1, ⟨t, ?_⟩, ⟨rfl, rfl⟩, st', fun b hb => (hf b hb).1⟩⟩
    rw [Int.mul_one]
  done := by
    intro X hP hw hK hc i pins s σ H E I hf st hg
    subst hP hw hK
    obtain ⟨f0, f1, f2, f3, f4, f5⟩ := hf it (by simp)
    exact wpAny_pyNext_range_end (I.ok.hd hc) st (by have : n ≤ i := hg; omega) fun h' eb => ⟨rfl, I.turned (t' := s.toks) (fun b o hb e => eb b o hb e) f0 f1 f3 f4 f5⟩
  self := fun _ _ _ _ _ st h => wpAny_pyIter_rangeiter st h
end L2

namespace L2
open PySem PySem.Spec PyProof.Rows
section
variable {X : Cx} {tg : Expr}
def iList (K : PySem.W.Frag) (tl : TE) : TI := fun σ H R => tl σ H fun x H1 => ∃ a, x = .ref a ∧ (∃ xs, SqL K H1 a xs) ∧ R (Itl K a) H1
def iTup (K : PySem.W.Frag) (tl : TE) : TI := fun σ H R => tl σ H fun x H1 => ∃ a, x = .ref a ∧ (∃ xs, SqT K H1 a xs) ∧ R (Itt K a) H1
theorem pi_list {l : Expr} {tl : TE} (hl : PE X l tl) : PI X tg l (iList X.K tl) := by
  intro pins s σ H R I h
  refine thn (hl pins s σ H _ I h) fun v s1 ⟨x, H1, I1, r1, q1⟩ => ?_
  obtain ⟨a, e, ⟨xs, hq⟩, q⟩ := q1
  subst e
  cases r1
  obtain ⟨its, rv, p, hz⟩ := I1.list hq
  refine wpAny_pyIter_list p.isList ?_
  refine ⟨s1.heap.objs.size, [s1.heap.objs.size], _, _, H1, rfl, I1.kept (t' := s1.toks) fun b o e => Heap.get?_push_of_some _ e, turn_list a _, ⟨_, Heap.get?_push_size _ rfl, rfl, rfl⟩, fun b hb => ?_, q⟩
  have e : b = s1.heap.objs.size := by simpa using hb
  subst e
  exact I1.fpOk (Nat.le_refl _) (I1.hok.fresh (Nat.le_refl _))
theorem pi_tup {l : Expr} {tl : TE} (hl : PE X l tl) : PI X tg l (iTup X.K tl) := by
  intro pins s σ H R I h
  refine thn (hl pins s σ H _ I h) fun v s1 ⟨x, H1, I1, r1, q1⟩ => ?_
  obtain ⟨a, e, ⟨xs, hq⟩, q⟩ := q1
  subst e
  cases r1
  obtain ⟨its, rv, p, hz⟩ := I1.tuple hq
  refine wpAny_pyIter_tuple (show s1.heap.IsTuple a its.toArray from p) ?_
  refine ⟨s1.heap.objs.size, [s1.heap.objs.size], _, _, H1, rfl, I1.kept (t' := s1.toks) fun b o e => Heap.get?_push_of_some _ e, turn_tuple a _, ⟨_, Heap.get?_push_size _ rfl, rfl, rfl⟩, fun b hb => ?_, q⟩
  have e : b = s1.heap.objs.size := by simpa using hb
  subst e
  exact I1.fpOk (Nat.le_refl _) (I1.hok.fresh (Nat.le_refl _))
/-- a range object just made, walked -/
theorem range_it {pins : List (Addr × Obj)} {σ : St} {H : Hp} {s : Shared} {R : It → Hp → Prop} {E : Value → Shared → Prop} {lo hi : Int} {t u v : Tok} {tk : Nat} (I : Inv X pins σ H s) (h1 : -(2 ^ 62) ≤ lo) (h2 : lo < 2 ^ 62) (h3 : -(2 ^ 62) ≤ hi) (h4 : hi < 2 ^ 62)
    (q : R (Itr lo (hi - lo).toNat) H) : wpAny (model X.prog X.w) X.A (pyIter (.ref s.heap.objs.size)) (PIE X pins σ tg R) E { s with heap := s.heap.push { cls := .type "range", data := .fields #[.int lo t, .int hi u, .int 1 v] }, toks := tk } := by
  refine wpAny_pyIter_range (IsRange.new ..) (small_one h1 h2 h3 h4) ?_
  have I1 : Inv X pins σ H { s with heap := s.heap.push { cls := .type "range", data := .fields #[.int lo t, .int hi u, .int 1 v] }, toks := tk } := I.kept fun b o e => Heap.get?_push_of_some _ e
  refine ⟨(s.heap.push { cls := .type "range", data := .fields #[.int lo t, .int hi u, .int 1 v] }).objs.size, [(s.heap.push { cls := .type "range", data := .fields #[.int lo t, .int hi u, .int 1 v] }).objs.size], _, _, H, rfl,
    I1.kept (t' := tk) fun b o e => Heap.get?_push_of_some _ e, turn_range _ lo (hi - lo).toNat, ?_, fun b hb => ?_, q⟩
  · have e1 : lo + ((0 : Nat) : Int) * 1 = lo := by simp
    have e2 : (((hi - lo).toNat : Nat) : Int) - ((0 : Nat) : Int) = Builtin.Range.rangeSize lo hi 1 := by rw [rangeSize_one]; split <;> omega
    show IsRangeIter _ _ (lo + ((0 : Nat) : Int) * 1) ((((hi - lo).toNat : Nat) : Int) - ((0 : Nat) : Int)) 1
    rw [e1, e2]
    exact Heap.get?_push_size _ rfl
  · have e : b = (s.heap.push { cls := .type "range", data := .fields #[.int lo t, .int hi u, .int 1 v] }).objs.size := by simpa using hb
    subst e
    exact I1.fpOk (Nat.le_refl _) (I1.hok.fresh (Nat.le_refl _))
def iRng1 (ta : TA) : TI := fun σ H R => ta σ H fun vs H1 => ∃ j : Int, vs = [.int j] ∧ -(2 ^ 62) ≤ j ∧ j < 2 ^ 62 ∧ R (Itr 0 j.toNat) H1
def iRng2 (ta : TA) : TI := fun σ H R => ta σ H fun vs H1 => ∃ i j : Int, vs = [.int i, .int j] ∧ (-(2 ^ 62) ≤ i ∧ i < 2 ^ 62 ∧ -(2 ^ 62) ≤ j ∧ j < 2 ^ 62) ∧ R (Itr i (j - i).toNat) H1
theorem pi_range1 {a : Expr} {ta : TA} {p pos : Pos} (hg : Gl X "range") (hm : X.mg "range" = none) (ha : PA X [a] ta) (hs : starEach [a] X.env = [(false, eval a X.env)] := by rfl) : PI X tg (.Call (.Name "range" p) [a] [] pos) (iRng1 ta) := by
  intro pins s σ H R I h
  refine Call_ (ld_blt I hg hm boot_range (PyProof.Rows.callWith_type1 (thn (ha pos pins s σ H _ I h) fun us s1 ⟨vs, H1, I1, r1, q1⟩ => ?_) hs rfl))
  obtain ⟨j, e, q1, q2, q⟩ := q1
  subst e
  cases r1 with
  | cons r rr =>
    cases rr
    obtain ⟨t, rfl⟩ := r
    exact call_range_1 (range_it I1 (by omega) (by omega) q1 q2 (by simpa using q))
theorem pi_range2 {a b : Expr} {ta : TA} {p pos : Pos} (hg : Gl X "range") (hm : X.mg "range" = none) (ha : PA X [a, b] ta) (hs : starEach [a, b] X.env = [(false, eval a X.env), (false, eval b X.env)] := by rfl) (hs2 : starEach [b] X.env = [(false, eval b X.env)] := by rfl) :
    PI X tg (.Call (.Name "range" p) [a, b] [] pos) (iRng2 ta) := by
  intro pins s σ H R I h
  refine Call_ (ld_blt I hg hm boot_range (PyProof.Rows.callWith_type1 (thn (ha pos pins s σ H _ I h) fun us s1 ⟨vs, H1, I1, r1, q1⟩ => ?_) (by rw [hs, hs2]) (by rw [hs2]; rfl)))
  obtain ⟨i, j, e, ⟨q1, q2, q3, q4⟩, q⟩ := q1
  subst e
  cases r1 with
  | cons r rr =>
    cases rr with
    | cons r' rr =>
      cases rr
      obtain ⟨t, rfl⟩ := r
      obtain ⟨t', rfl⟩ := r'
      exact call_range_2 (range_it I1 q1 q2 q3 q4 q)

/-! ### for -/
/-- W: the invariant by the turn and a measure; N: what the body is to reach -/
def tFor (wi : TI) (g : TG) (tb : TS) : TS := fun D σ H => wi σ H fun J H1 => ∃ W : Nat → Nat → St → Hp → Prop, (∃ m, W 0 m σ H1) ∧ ∀ i m σ H, W i m σ H →
  (J.stop i H ∧ D.nx σ H) ∨ (J.go i H ∧ ∃ N : St → Hp → Prop, (∀ σ' H', N σ' H' → ∃ m', m' < m ∧ W (i + 1) m' σ' H') ∧ ∀ x H', J.yld i H x H' → g x σ H' fun σ2 H2 => tb { D with nx := N, ct := N, bk := D.nx } σ2 H2)
/-- the records at fp as they stand -/
def pinsAt (fp : List Addr) (h : Heap) : List (Addr × Obj) := fp.filterMap fun b => (h.get? b).map fun o => (b, o)
theorem mem_pinsAt {fp : List Addr} {h : Heap} {b : Addr} {o : Obj} (hb : b ∈ fp) (e : h.get? b = some o) : (b, o) ∈ pinsAt fp h := List.mem_filterMap.mpr ⟨b, hb, by rw [e]; rfl⟩
theorem of_pinsAt {fp : List Addr} {h : Heap} {p : Addr × Obj} (hp : p ∈ pinsAt fp h) : p.1 ∈ fp ∧ h.get? p.1 = some p.2 := by
  obtain ⟨b, hb, e⟩ := List.mem_filterMap.mp hp
  cases q : h.get? b with
  | none => rw [q] at e; cases e
  | some o =>
    rw [q] at e
    have e' : (b, o) = p := Option.some.inj e
    subst e'
    exact ⟨hb, q⟩
theorem Inv.pinned {pins : List (Addr × Obj)} {σ : St} {H : Hp} {s : Shared} {fp : List Addr} (I : Inv X pins σ H s) (hf : ∀ b ∈ fp, FpOk X pins H b) (ho : ∀ b ∈ fp, ∃ o, s.heap.get? b = some o ∧ ∀ v, o.data ≠ .cell v) : Inv X (pins ++ pinsAt fp s.heap) σ H s :=
  I.pins_of fun p hp => (List.mem_append.mp hp).elim (fun z => I.pin p (List.mem_append_right _ z)) fun z => by
    obtain ⟨hb, e⟩ := of_pinsAt z
    obtain ⟨f0, f1, f2, _⟩ := hf p.1 hb
    obtain ⟨o, e', d⟩ := ho p.1 hb
    rw [e] at e'; cases e'
    exact ⟨e, f0, f1, f2, d⟩
theorem Inv.unpinned {pins pl : List (Addr × Obj)} {σ : St} {H : Hp} {s : Shared} (I : Inv X (pins ++ pl) σ H s) : Inv X pins σ H s := I.pins_of fun p hp => I.pin p (List.mem_append_right _ (List.mem_append_left _ hp))
theorem ps_for {iter : Expr} {body : List Stmt} {wi : TI} {g : TG} {tb : TS} {pos : Pos} (hp : PassesOwn (model X.prog X.w) X.A X.env X.xe) (hc : X.calm = true) (hi : PI X tg iter wi) (hg : PG X tg g) (hb : PSs X body tb)
    (hs : ∀ x, foldedSetIterable iter X.env x = pure x := by intro _; rfl) : PS X (.For tg iter body [] pos) (tFor wi g tb) := by
  intro pins s σ H D I h
  refine wpAny_For (thn (hi pins s σ H _ I h) fun v s1 h1 => thn h1 fun itv s2 h2 => ?_) hs
  obtain ⟨it, fp, tn, J, H2, e, I2, T, st2, f2, W, ⟨m0, w0⟩, turn⟩ := h2
  subst e
  -- what stays true of the iterator's objects through the loop
  have stat : ∀ {H' : Hp}, (∀ b ∈ fp, H' b = none) → ∀ b ∈ fp, FpOk X pins H' b := fun hn b hb => ⟨hn b hb, (f2 b hb).2⟩
  refine codeAny_forLoop_any (fun n s' => ∃ i σ' H', Inv X pins σ' H' s' ∧ tn i s'.heap ∧ (∀ b ∈ fp, H' b = none) ∧ W i n σ' H') ?_ m0 ⟨0, σ, H2, I2, st2, fun b hb => (f2 b hb).1, w0⟩
  rintro n s3 ⟨i, σ3, H3, I3, st3, fr3, w3⟩
  rcases turn i n σ3 H3 w3 with ⟨stop, qn⟩ | ⟨go, N, hN, step⟩
  · refine wpAny_passesOwn hp (thn (T.done X rfl rfl rfl hc i pins s3 σ3 H3 X.xe I3 (stat fr3) st3 stop) fun r s4 ⟨hr, I4⟩ => ?_)
    subst hr
    exact wpAny_execs_nil ⟨σ3, H3, I4, qn⟩
  · refine wpAny_passesOwn hp (thn (T.item X rfl rfl rfl hc i pins s3 σ3 H3 X.xe I3 (stat fr3) st3 go) fun r s4 ⟨u, hr, h4⟩ => ?_)
    subst hr
    refine wpAny_passesOwn hp (thn h4 fun _ s5 ⟨x, H5, I5, r5, y5, st5, fr5⟩ => ?_)
    have I5' := I5.pinned (stat fr5) (T.obj _ _ st5)
    refine wpAny_passesOwn hp (thn (hg _ s5 σ3 H5 x u _ I5' r5 (step x H5 y5)) fun _ s6 ⟨σ6, H6, I6, q6⟩ => ?_)
    refine wpAny_passesOwn hp (thn (hb _ s6 σ6 H6 _ I6 q6) fun f s7 q7 => ?_)
    have again : ∀ {σ7 : St} {H7 : Hp}, Inv X (pins ++ pinsAt fp s5.heap) σ7 H7 s7 → N σ7 H7 → ∃ m, m < n ∧ ∃ i σ' H', Inv X pins σ' H' s7 ∧ tn i s7.heap ∧ (∀ b ∈ fp, H' b = none) ∧ W i m σ' H' := fun {σ7 H7} I7 n7 => by
      obtain ⟨m', hm, w7⟩ := hN σ7 H7 n7
      refine ⟨m', hm, i + 1, σ7, H7, I7.unpinned, T.keep _ _ _ st5 fun b hb o e => (I7.pin (b, o) (List.mem_append_right _ (List.mem_append_right _ (mem_pinsAt hb e)))).1, fun b hb => ?_, w7⟩
      obtain ⟨o, e, d⟩ := T.obj _ _ st5 b hb
      exact (I7.pin (b, o) (List.mem_append_right _ (List.mem_append_right _ (mem_pinsAt hb e)))).2.1
    cases f with
    | next => obtain ⟨σ7, H7, I7, n7⟩ := q7; exact again I7 n7
    | cont => obtain ⟨σ7, H7, I7, n7⟩ := q7; exact again I7 n7
    | brk => obtain ⟨σ7, H7, I7, q7⟩ := q7; exact ⟨σ7, H7, I7.unpinned, q7⟩
    | ret v => obtain ⟨x7, σ7, H7, I7, r7, q7⟩ := q7; exact ⟨x7, σ7, H7, I7.unpinned, r7, q7⟩
end

/-! ### the forms one uses -/
/-- over a list that the body leaves as it is -/
theorem for_list {K : PySem.W.Frag} {a : Addr} {xs : List V} {g : TG} {tb : TS} {D : Ends} {σ : St} {H : Hp} (Pv : Nat → St → Hp → Prop) (h0 : Pv 0 σ H) (hl : ∀ i σ H, i ≤ xs.length → Pv i σ H → SqL K H a xs)
    (hs : ∀ i x σ H, xs[i]? = some x → Pv i σ H → g x σ H fun σ2 H2 => tb { D with nx := Pv (i + 1), ct := Pv (i + 1), bk := D.nx } σ2 H2) (hd : ∀ σ H, Pv xs.length σ H → D.nx σ H) :
    ∃ W : Nat → Nat → St → Hp → Prop, (∃ m, W 0 m σ H) ∧ ∀ i m σ H, W i m σ H →
      ((Itl K a).stop i H ∧ D.nx σ H) ∨ ((Itl K a).go i H ∧ ∃ N : St → Hp → Prop, (∀ σ' H', N σ' H' → ∃ m', m' < m ∧ W (i + 1) m' σ' H') ∧ ∀ x H', (Itl K a).yld i H x H' → g x σ H' fun σ2 H2 => tb { D with nx := N, ct := N, bk := D.nx } σ2 H2) := by
  refine ⟨fun i m σ H => m = xs.length - i ∧ i ≤ xs.length ∧ Pv i σ H, ⟨xs.length, by simp, Nat.zero_le _, h0⟩, ?_⟩
  rintro i m σ H ⟨rfl, hi, p⟩
  have q := hl i σ H hi p
  by_cases hlt : i < xs.length
  · refine .inr ⟨⟨xs, xs[i], q, by simp [hlt]⟩, Pv (i + 1), fun σ' H' p' => ⟨xs.length - (i + 1), by omega, rfl, hlt, p'⟩, fun x H' y => ?_⟩
    obtain ⟨e, y⟩ := y
    subst e
    exact hs i x σ _ (y xs q) p
  · have e : i = xs.length := by omega
    subst e
    exact .inl ⟨⟨xs, q, Nat.le_refl _⟩, hd σ H p⟩
theorem for_tup {K : PySem.W.Frag} {a : Addr} {xs : List V} {g : TG} {tb : TS} {D : Ends} {σ : St} {H : Hp} (Pv : Nat → St → Hp → Prop) (h0 : Pv 0 σ H) (hl : ∀ i σ H, i ≤ xs.length → Pv i σ H → SqT K H a xs)
    (hs : ∀ i x σ H, xs[i]? = some x → Pv i σ H → g x σ H fun σ2 H2 => tb { D with nx := Pv (i + 1), ct := Pv (i + 1), bk := D.nx } σ2 H2) (hd : ∀ σ H, Pv xs.length σ H → D.nx σ H) :
    ∃ W : Nat → Nat → St → Hp → Prop, (∃ m, W 0 m σ H) ∧ ∀ i m σ H, W i m σ H →
      ((Itt K a).stop i H ∧ D.nx σ H) ∨ ((Itt K a).go i H ∧ ∃ N : St → Hp → Prop, (∀ σ' H', N σ' H' → ∃ m', m' < m ∧ W (i + 1) m' σ' H') ∧ ∀ x H', (Itt K a).yld i H x H' → g x σ H' fun σ2 H2 => tb { D with nx := N, ct := N, bk := D.nx } σ2 H2) := by
  refine ⟨fun i m σ H => m = xs.length - i ∧ i ≤ xs.length ∧ Pv i σ H, ⟨xs.length, by simp, Nat.zero_le _, h0⟩, ?_⟩
  rintro i m σ H ⟨rfl, hi, p⟩
  have q := hl i σ H hi p
  by_cases hlt : i < xs.length
  · refine .inr ⟨⟨xs, xs[i], q, by simp [hlt]⟩, Pv (i + 1), fun σ' H' p' => ⟨xs.length - (i + 1), by omega, rfl, hlt, p'⟩, fun x H' y => ?_⟩
    obtain ⟨e, y⟩ := y
    subst e
    exact hs i x σ _ (y xs q) p
  · have e : i = xs.length := by omega
    subst e
    exact .inl ⟨⟨xs, q, Nat.le_refl _⟩, hd σ H p⟩
theorem for_range {lo : Int} {n : Nat} {g : TG} {tb : TS} {D : Ends} {σ : St} {H : Hp} (Pv : Nat → St → Hp → Prop) (h0 : Pv 0 σ H)
    (hs : ∀ i σ H, i < n → Pv i σ H → g (.int (lo + i)) σ H fun σ2 H2 => tb { D with nx := Pv (i + 1), ct := Pv (i + 1), bk := D.nx } σ2 H2) (hd : ∀ σ H, Pv n σ H → D.nx σ H) :
    ∃ W : Nat → Nat → St → Hp → Prop, (∃ m, W 0 m σ H) ∧ ∀ i m σ H, W i m σ H →
      ((Itr lo n).stop i H ∧ D.nx σ H) ∨ ((Itr lo n).go i H ∧ ∃ N : St → Hp → Prop, (∀ σ' H', N σ' H' → ∃ m', m' < m ∧ W (i + 1) m' σ' H') ∧ ∀ x H', (Itr lo n).yld i H x H' → g x σ H' fun σ2 H2 => tb { D with nx := N, ct := N, bk := D.nx } σ2 H2) := by
  refine ⟨fun i m σ H => m = n - i ∧ i ≤ n ∧ Pv i σ H, ⟨n, by simp, Nat.zero_le _, h0⟩, ?_⟩
  rintro i m σ H ⟨rfl, hi, p⟩
  by_cases hlt : i < n
  · refine .inr ⟨hlt, Pv (i + 1), fun σ' H' p' => ⟨n - (i + 1), by omega, rfl, hlt, p'⟩, fun x H' y => ?_⟩
    obtain ⟨e, y⟩ := y
    subst e y
    exact hs i σ _ hlt p
  · have e : i = n := by omega
    subst e
    exact .inl ⟨Nat.le_refl _, hd σ H p⟩
end L2

namespace L2
open PySem PySem.Spec PyProof.Rows

abbrev R2 := V → V → Hp → VK → Prop
/-- a two-place operation on values: f is binaryOp op, inplaceOp op or compareOp op -/
def OpR (X : Cx) (f : Value → Value → Sem Value) (r : R2) : Prop :=
  ∀ (pins : List (Addr × Obj)) (s : Shared) (σ : St) (H : Hp) (x y : V) (v u : Value) (Q : VK), Inv X pins σ H s → RelV x v → RelV y u → r x y H Q →
    wpAny (model X.prog X.w) X.A (f v u) (EP X pins σ Q) X.xe s
/-- a one-place operation -/
def UnR (X : Cx) (f : Value → Sem Value) (r : V → Hp → VK → Prop) : Prop :=
  ∀ (pins : List (Addr × Obj)) (s : Shared) (σ : St) (H : Hp) (x : V) (v : Value) (Q : VK), Inv X pins σ H s → RelV x v → r x H Q →
    wpAny (model X.prog X.w) X.A (f v) (EP X pins σ Q) X.xe s
/-- a call of a value that is known (a builtin, a type) with values -/
def CallR (X : Cx) (f : Value) (r : List V → Hp → VK → Prop) : Prop :=
  ∀ (pins : List (Addr × Obj)) (s : Shared) (σ : St) (H : Hp) (xs : List V) (us : List Value) (Q : VK), Inv X pins σ H s → Vals xs us → r xs H Q →
    wpAny (model X.prog X.w) X.A (call f us) (EP X pins σ Q) X.xe s
def tOp (r : R2) (ta tb : TE) : TE := fun σ H Q => ta σ H fun x H1 => tb σ H1 fun y H2 => r x y H2 Q
def tUn (r : V → Hp → VK → Prop) (ta : TE) : TE := fun σ H Q => ta σ H fun x H1 => r x H1 Q
/-- ints in, under C, and a value out -/
def rI (C : Int → Int → Prop) (g : Int → Int → V) : R2 := fun x y H Q => ∃ i j, x = .int i ∧ y = .int j ∧ C i j ∧ Q (g i j) H
def rI0 (g : Int → Int → V) : R2 := fun x y H Q => ∃ i j, x = .int i ∧ y = .int j ∧ Q (g i j) H
def rU (g : Int → V) : V → Hp → VK → Prop := fun x H Q => ∃ i, x = .int i ∧ Q (g i) H

section
variable {X : Cx} {a b c : Expr} {ta tb tc : TE} {pos : Pos}

theorem binT (ha : PE X a ta) (hb : PE X b tb) {pins : List (Addr × Obj)} {s : Shared} {σ : St} {H : Hp} {R : V → V → Hp → Prop} (I : Inv X pins σ H s)
    (h : ta σ H fun x H1 => tb σ H1 fun y H2 => R x y H2) {Q : Value → Shared → Prop} {f : Value → Value → Sem Value}
    (hf : ∀ v u s2 x y H2, Inv X pins σ H2 s2 → RelV x v → RelV y u → R x y H2 → wpAny (model X.prog X.w) X.A (f v u) Q X.xe s2) :
    wpAny (model X.prog X.w) X.A (eval a X.env) (fun v s₁ => wpAny (model X.prog X.w) X.A (eval b X.env) (fun u s₂ => wpAny (model X.prog X.w) X.A (f v u) Q X.xe s₂) X.xe s₁) X.xe s := by
  refine thn (ha pins s σ H _ I h) fun v s1 ⟨x, H1, I1, r1, q1⟩ => ?_
  refine thn (hb pins s1 σ H1 _ I1 q1) fun u s2 ⟨y, H2, I2, r2, q2⟩ => ?_
  exact hf v u s2 x y H2 I2 r1 r2 q2

theorem pe_op {op : Operator} {r : R2} (ho : OpR X (binaryOp op) r) (ha : PE X a ta) (hb : PE X b tb) : PE X (.BinOp a op b pos) (tOp r ta tb) := by
  intro pins s σ H Q I h
  exact wpAny_BinOp (binT ha hb I h fun v u s2 x y H2 I2 rx ry q => ho pins s2 σ H2 x y v u Q I2 rx ry q)
theorem pe_un {op : UnaryOp} {r : V → Hp → VK → Prop} (ho : UnR X (unaryOp op) r) (ha : PE X a ta) : PE X (.UnaryOp op a pos) (tUn r ta) := by
  intro pins s σ H Q I h
  exact UnaryOp_ (thn (ha pins s σ H _ I h) fun v s1 ⟨x, H1, I1, r1, q1⟩ => ho pins s1 σ H1 x v Q I1 r1 q1)
/-! ### ints -/
theorem opI {f : Value → Value → Sem Value} {C : Int → Int → Prop} {g : Int → Int → Int}
    (rule : ∀ (i j : Int) (t u : Tok) (s : Shared) (Q : Value → Shared → Prop) (E : Value → Shared → Prop), C i j → Q (.int (g i j) s.toks) { s with toks := s.toks + 1 } → wpAny (model X.prog X.w) X.A (f (.int i t) (.int j u)) Q E s) :
    OpR X f (rI C fun i j => .int (g i j)) := by
  intro pins s σ H x y v u Q I rx ry h
  obtain ⟨i, j, rfl, rfl, hc, q⟩ := h
  obtain ⟨t, rfl⟩ := rx
  obtain ⟨t', rfl⟩ := ry
  exact rule i j t t' s _ _ hc ⟨.int (g i j), H, I.tok _, ⟨_, rfl⟩, q⟩
theorem opI0 {f : Value → Value → Sem Value} {g : Int → Int → Int}
    (rule : ∀ (i j : Int) (t u : Tok) (s : Shared) (Q : Value → Shared → Prop) (E : Value → Shared → Prop), Q (.int (g i j) s.toks) { s with toks := s.toks + 1 } → wpAny (model X.prog X.w) X.A (f (.int i t) (.int j u)) Q E s) :
    OpR X f (rI0 fun i j => .int (g i j)) := by
  intro pins s σ H x y v u Q I rx ry h
  obtain ⟨i, j, rfl, rfl, q⟩ := h
  obtain ⟨t, rfl⟩ := rx
  obtain ⟨t', rfl⟩ := ry
  exact rule i j t t' s _ _ ⟨.int (g i j), H, I.tok _, ⟨_, rfl⟩, q⟩
theorem opB0 {f : Value → Value → Sem Value} {g : Int → Int → Bool}
    (rule : ∀ (i j : Int) (t u : Tok) (s : Shared) (Q : Value → Shared → Prop) (E : Value → Shared → Prop), Q (.bool (g i j)) s → wpAny (model X.prog X.w) X.A (f (.int i t) (.int j u)) Q E s) :
    OpR X f (rI0 fun i j => .bl (g i j)) := by
  intro pins s σ H x y v u Q I rx ry h
  obtain ⟨i, j, rfl, rfl, q⟩ := h
  obtain ⟨t, rfl⟩ := rx
  obtain ⟨t', rfl⟩ := ry
  exact rule i j t t' s _ _ ⟨.bl (g i j), H, I, rfl, q⟩

def CDiv (i j : Int) : Prop := 0 < j ∧ j < 1073741824
def CPow (i j : Int) : Prop := 0 ≤ j ∧ j ≤ 1000000 ∧ i.natAbs < 2 ^ 64
def CMul (i j : Int) : Prop := (-(2 ^ 64) < i ∧ i < 2 ^ 64) ∨ (-(2 ^ 64) < j ∧ j < 2 ^ 64)
theorem CMul.ok {i j : Int} (h : CMul i j) : IntMulOk i j := by
  rcases h with ⟨h1, h2⟩ | ⟨h1, h2⟩
  · exact .of_left (intBits_le_64 h1 h2)
  · exact .of_right (intBits_le_64 h1 h2)
theorem op_add : OpR X (binaryOp .Add) (rI0 fun i j => .int (i + j)) := opI0 fun _ _ _ _ _ _ _ q => add_int q
theorem op_sub : OpR X (binaryOp .Sub) (rI0 fun i j => .int (i - j)) := opI0 fun _ _ _ _ _ _ _ q => sub_int q
theorem op_mul : OpR X (binaryOp .Mult) (rI CMul fun i j => .int (i * j)) := opI fun _ _ _ _ _ _ _ hc q => mul_int q hc.ok
/-- // by a positive divisor -/
theorem op_fdiv : OpR X (binaryOp .FloorDiv) (rI CDiv fun i j => .int (i / j)) := opI fun i j _ _ _ _ _ hc q => by
  have h1 : (0 : Int) < j := hc.1
  have h2 : j < 1073741824 := hc.2
  exact floordiv_int (by omega) (by rw [Int.fdiv_eq_ediv_of_nonneg i (by omega)]; exact q) (.inl (PyProof.noPylong_small (by omega)))
/-- % by a positive divisor of any size -/
theorem op_mod : OpR X (binaryOp .Mod) (rI (fun _ j => 0 < j) fun i j => .int (i % j)) := opI fun i j _ _ _ _ _ hc q => by
  have h1 : (0 : Int) < j := hc
  exact mod_int' (by omega) (by rw [Int.fmod_eq_emod_of_nonneg i (by omega)]; exact q)
theorem op_pow : OpR X (binaryOp .Pow) (rI CPow fun i j => .int (i ^ j.toNat)) := opI fun _ _ _ _ _ _ _ hc q => pow_int_small hc.1 hc.2.1 hc.2.2 q
theorem unI {f : Value → Sem Value} {g : Int → Int}
    (rule : ∀ (i : Int) (t : Tok) (s : Shared) (Q : Value → Shared → Prop) (E : Value → Shared → Prop), Q (.int (g i) s.toks) { s with toks := s.toks + 1 } → wpAny (model X.prog X.w) X.A (f (.int i t)) Q E s) :
    UnR X f (rU fun i => .int (g i)) := by
  intro pins s σ H x v Q I rx h
  obtain ⟨i, rfl, q⟩ := h
  obtain ⟨t, rfl⟩ := rx
  exact rule i t s _ _ ⟨.int (g i), H, I.tok _, ⟨_, rfl⟩, q⟩
theorem un_neg : UnR X (unaryOp .USub) (rU fun i => .int (-i)) := unI fun _ _ _ _ _ q => neg_int q
/-! ### bools among ints: n += (a < b) -/
end

/-! ### comparisons -/
/-- the scalars that == tells apart as data does -/
def scal : V → V → Bool
  | .non, .non => true | .non, .int _ => true | .int _, .non => true | .non, .bl _ => true | .bl _, .non => true | .non, .str _ => true | .str _, .non => true
  | .int _, .int _ => true | .bl _, .bl _ => true | .str _, .str _ => true | .byt _, .byt _ => true
  | .int _, .str _ => true | .str _, .int _ => true | .bl _, .str _ => true | .str _, .bl _ => true
  | _, _ => false
def rEq : R2 := fun x y H Q => scal x y = true ∧ Q (.bl (decide (x = y))) H
def rNe : R2 := fun x y H Q => scal x y = true ∧ Q (.bl (!decide (x = y))) H

theorem dec_int {i j : Int} : decide (V.int i = V.int j) = (i == j) := by
  rw [Bool.eq_iff_iff]
  simp
theorem dec_bl {i j : Bool} : decide (V.bl i = V.bl j) = (i == j) := by
  rw [Bool.eq_iff_iff]
  simp
theorem dec_str {i j : Str} : decide (V.str i = V.str j) = (i == j) := by
  rw [Bool.eq_iff_iff]
  simp
theorem dec_byt {i j : Array UInt8} : decide (V.byt i = V.byt j) = (i.toList == j.toList) := by
  rw [Bool.eq_iff_iff]
  cases i
  cases j
  simp

section
variable {X : Cx} {a b c : Expr} {ta tb tc : TE} {pos : Pos}
theorem fin_bl {pins : List (Addr × Obj)} {σ : St} {H : Hp} {s : Shared} {Q : VK} {k k' : Bool} (I : Inv X pins σ H s) (q : Q (.bl k) H) (e : k = k') : EP X pins σ Q (.bool k') s := by
  subst e
  exact ⟨.bl k, H, I, rfl, q⟩
theorem op_eq : OpR X (compareOp .Eq) rEq := by
  intro pins s σ H x y v u Q I rx ry h
  obtain ⟨hs, q⟩ := h
  cases x with
  | non =>
    cases rx
    cases y with
    | non => cases ry; exact PySem.EqNone.eq_none_none (fin_bl I q (by simp))
    | bl j => cases ry; exact PySem.EqNone.eq_none_bool (fin_bl I q (by simp))
    | int j => obtain ⟨t', rfl⟩ := ry; exact PySem.EqNone.eq_none_int (fin_bl I q (by simp))
    | str j => obtain ⟨t', rfl⟩ := ry; exact PySem.EqNone.eq_none_str (fin_bl I q (by simp))
    | _ => exact absurd (show false = true from hs) Bool.false_ne_true
  | bl i =>
    cases rx
    cases y with
    | non => cases ry; exact PySem.EqNone.eq_bool_none (fin_bl I q (by simp))
    | bl j => cases ry; exact eq_bool (fin_bl I q dec_bl)
    | str j => obtain ⟨t', rfl⟩ := ry; exact PySem.EqMixed.eq_bool_str (fin_bl I q (by simp))
    | _ => exact absurd (show false = true from hs) Bool.false_ne_true
  | int i =>
    obtain ⟨t, rfl⟩ := rx
    cases y with
    | non => cases ry; exact PySem.EqNone.eq_int_none (fin_bl I q (by simp))
    | int j => obtain ⟨t', rfl⟩ := ry; exact eq_int (fin_bl I q dec_int)
    | str j => obtain ⟨t', rfl⟩ := ry; exact PySem.EqMixed.eq_int_str (fin_bl I q (by simp))
    | _ => exact absurd (show false = true from hs) Bool.false_ne_true
  | str i =>
    obtain ⟨t, rfl⟩ := rx
    cases y with
    | non => cases ry; exact PySem.EqNone.eq_str_none (fin_bl I q (by simp))
    | bl j => cases ry; exact PySem.EqMixed.eq_str_bool (fin_bl I q (by simp))
    | int j => obtain ⟨t', rfl⟩ := ry; exact PySem.EqMixed.eq_str_int (fin_bl I q (by simp))
    | str j => obtain ⟨t', rfl⟩ := ry; exact eq_str (fin_bl I q dec_str)
    | _ => exact absurd (show false = true from hs) Bool.false_ne_true
  | byt i =>
    obtain ⟨t, rfl⟩ := rx
    cases y with
    | byt j => obtain ⟨t', rfl⟩ := ry; exact PySem.W.eq_bytes (fin_bl I q dec_byt)
    | _ => exact absurd (show false = true from hs) Bool.false_ne_true
  | _ => cases y <;> exact absurd (show false = true from hs) Bool.false_ne_true
theorem op_ne : OpR X (compareOp .NotEq) rNe := by
  intro pins s σ H x y v u Q I rx ry h
  obtain ⟨hs, q⟩ := h
  cases x with
  | non =>
    cases rx
    cases y with
    | non => cases ry; exact PySem.EqNone.ne_none_none (fin_bl I q (by simp))
    | bl j => cases ry; exact PySem.EqNone.ne_none_bool (fin_bl I q (by simp))
    | int j => obtain ⟨t', rfl⟩ := ry; exact PySem.EqNone.ne_none_int (fin_bl I q (by simp))
    | str j => obtain ⟨t', rfl⟩ := ry; exact PySem.EqNone.ne_none_str (fin_bl I q (by simp))
    | _ => exact absurd (show false = true from hs) Bool.false_ne_true
  | bl i =>
    cases rx
    cases y with
    | non => cases ry; exact PySem.EqNone.ne_bool_none (fin_bl I q (by simp))
    | bl j => cases ry; exact ne_bool (fin_bl I q (congrArg not dec_bl))
    | str j => obtain ⟨t', rfl⟩ := ry; exact PySem.EqMixed.ne_bool_str (fin_bl I q (by simp))
    | _ => exact absurd (show false = true from hs) Bool.false_ne_true
  | int i =>
    obtain ⟨t, rfl⟩ := rx
    cases y with
    | non => cases ry; exact PySem.EqNone.ne_int_none (fin_bl I q (by simp))
    | int j => obtain ⟨t', rfl⟩ := ry; exact ne_int (fin_bl I q (congrArg not dec_int))
    | str j => obtain ⟨t', rfl⟩ := ry; exact PySem.EqMixed.ne_int_str (fin_bl I q (by simp))
    | _ => exact absurd (show false = true from hs) Bool.false_ne_true
  | str i =>
    obtain ⟨t, rfl⟩ := rx
    cases y with
    | non => cases ry; exact PySem.EqNone.ne_str_none (fin_bl I q (by simp))
    | bl j => cases ry; exact PySem.EqMixed.ne_str_bool (fin_bl I q (by simp))
    | int j => obtain ⟨t', rfl⟩ := ry; exact PySem.EqMixed.ne_str_int (fin_bl I q (by simp))
    | str j => obtain ⟨t', rfl⟩ := ry; exact ne_str (fin_bl I q (congrArg not dec_str))
    | _ => exact absurd (show false = true from hs) Bool.false_ne_true
  | byt i =>
    obtain ⟨t, rfl⟩ := rx
    cases y with
    | byt j => obtain ⟨t', rfl⟩ := ry; exact PySem.W.ne_bytes (fin_bl I q (congrArg not dec_byt))
    | _ => exact absurd (show false = true from hs) Bool.false_ne_true
  | _ => cases y <;> exact absurd (show false = true from hs) Bool.false_ne_true

theorem op_lt : OpR X (compareOp .Lt) (rI0 fun i j => .bl (decide (i < j))) := opB0 fun _ _ _ _ _ _ _ q => lt_int q
theorem op_le : OpR X (compareOp .LtE) (rI0 fun i j => .bl (decide (i ≤ j))) := opB0 fun _ _ _ _ _ _ _ q => le_int q
theorem op_gt : OpR X (compareOp .Gt) (rI0 fun i j => .bl (decide (j < i))) := opB0 fun _ _ _ _ _ _ _ q => gt_int q
/-- two rules for one operation: by cases -/
theorem OpR.or {f : Value → Value → Sem Value} {r r' : R2} (h : OpR X f r) (h' : OpR X f r') : OpR X f (fun x y H Q => r x y H Q ∨ r' x y H Q) := by
  intro pins s σ H x y v u Q I rx ry q
  rcases q with q | q
  · exact h pins s σ H x y v u Q I rx ry q
  · exact h' pins s σ H x y v u Q I rx ry q

theorem nomark (b : Expr) {op : CmpOp} (h : op ≠ .In := by decide) (h2 : op ≠ .NotIn := by decide) : behindInMarks op b = false := by
  have e1 : (op == CmpOp.In) = false := by cases op <;> first | rfl | exact absurd rfl h
  have e2 : (op == CmpOp.NotIn) = false := by cases op <;> first | rfl | exact absurd rfl h2
  cases b <;> simp [behindInMarks, e1, e2]
/-- a comparison as a value; hm: nomark b, or (for in, not in) by with_unfolding_all rfl -/
theorem pe_cmpR {op : CmpOp} {r : R2} (ho : OpR X (compareOp op) r) (ha : PE X a ta) (hb : PE X b tb) (hm : behindInMarks op b = false) : PE X (.Compare a [op] [b] pos) (tOp r ta tb) := by
  intro pins s σ H Q I h
  exact wpAny_Compare1 (binT ha hb I h fun v u s2 x y H2 I2 rx ry q => ho pins s2 σ H2 x y v u Q I2 rx ry q) hm
/-- a reading of a value as a test -/
def tTest (t : TE) : TT := fun σ H Q => t σ H fun x H' => ∃ k, x = .bl k ∧ Q k H'
theorem pt_cmpR {op : CmpOp} {r : R2} (ho : OpR X (compareOp op) r) (ha : PE X a ta) (hb : PE X b tb) (hm : behindInMarks op b = false) : PT X (.Compare a [op] [b] pos) (tTest (tOp r ta tb)) := by
  intro pins s σ H Q I h
  refine wpAny_isTrue_Compare1 (thn (ha pins s σ H _ I h) fun v s1 ⟨x, H1, I1, r1, q1⟩ => thn (hb pins s1 σ H1 _ I1 q1) fun u s2 ⟨y, H2, I2, r2, q2⟩ =>
    thn (ho pins s2 σ H2 x y v u _ I2 r1 r2 q2) fun c s3 ⟨z, H3, I3, r3, k, e, q3⟩ => ?_) hm
  subst e
  cases r3
  exact wpAny_truthy_bool ⟨H3, I3, q3⟩
/-- a op1 b op2 c -/
def tChain (r r' : R2) (ta tb tc : TE) : TE := fun σ H Q => ta σ H fun x H1 => tb σ H1 fun y H2 => r x y H2 fun z H3 => ∃ k, z = .bl k ∧
  (if k = true then tc σ H3 fun w' H4 => r' y w' H4 Q else Q (.bl false) H3)
theorem pe_chain {op op' : CmpOp} {r r' : R2} (ho : OpR X (compareOp op) r) (ho' : OpR X (compareOp op') r') (ha : PE X a ta) (hb : PE X b tb) (hc : PE X c tc)
    (hm : lastMarks [op, op'] [b, c] = false := by with_unfolding_all rfl) : PE X (.Compare a [op, op'] [b, c] pos) (tChain r r' ta tb tc) := by
  intro pins s σ H Q I h
  refine Compare_chain (thn (ha pins s σ H _ I h) fun v s1 ⟨x, H1, I1, r1, q1⟩ => chain_link (thn (hb pins s1 σ H1 _ I1 q1) fun u s2 ⟨y, H2, I2, r2, q2⟩ =>
    thn (ho pins s2 σ H2 x y v u _ I2 r1 r2 q2) fun d s3 ⟨z, H3, I3, r3, k, e, q3⟩ => ?_)) hm
  subst e
  cases r3
  refine wpAny_truthy_bool ?_
  cases k with
  | false => exact ite_ff ⟨.bl false, H3, I3, rfl, q3⟩
  | true => exact ite_tt (chain_last (thn (hc pins s3 σ H3 _ I3 q3) fun w' s4 ⟨z', H4, I4, r4, q4⟩ => ho' pins s4 σ H4 y z' u w' Q I4 r2 r4 q4))
/-! ### truth -/
theorem line63 : (sizeLine : Nat) < 2 ^ 63 := by rw [sizeLine_eq]; decide
/-! ### strs and bytes -/
/-! ### scalar builtins, by CallR -/
theorem vals1 {x : V} {us : List Value} (r : Vals [x] us) : ∃ u, us = [u] ∧ RelV x u := by
  cases r with
  | cons r1 r2 => cases r2; exact ⟨_, rfl, r1⟩
theorem vals2 {x y : V} {us : List Value} (r : Vals [x, y] us) : ∃ u w', us = [u, w'] ∧ RelV x u ∧ RelV y w' := by
  cases r with
  | cons r1 r2 =>
    cases r2 with
    | cons r3 r4 => cases r4; exact ⟨_, _, rfl, r1, r3⟩
theorem call_max2 (hc : X.calm = true) : CallR X (.builtin "max") (fun xs H Q => ∃ i j, xs = [.int i, .int j] ∧ Q (.int (if j > i then j else i)) H) := by
  intro pins s σ H xs us Q I r h
  obtain ⟨i, j, rfl, q⟩ := h
  obtain ⟨u, w', rfl, ⟨t, rfl⟩, ⟨t', rfl⟩⟩ := vals2 r
  refine max_two_ints (I.ok.hd hc) fun h' tk k => ⟨_, H, I.kept k, ?_, q⟩
  by_cases hj : j > i
  · rw [if_pos hj, if_pos hj]; exact ⟨_, rfl⟩
  · rw [if_neg hj, if_neg hj]; exact ⟨_, rfl⟩
theorem call_min2 (hc : X.calm = true) : CallR X (.builtin "min") (fun xs H Q => ∃ i j, xs = [.int i, .int j] ∧ Q (.int (if j < i then j else i)) H) := by
  intro pins s σ H xs us Q I r h
  obtain ⟨i, j, rfl, q⟩ := h
  obtain ⟨u, w', rfl, ⟨t, rfl⟩, ⟨t', rfl⟩⟩ := vals2 r
  refine min_two_ints (I.ok.hd hc) fun h' tk k => ⟨_, H, I.kept k, ?_, q⟩
  by_cases hj : j < i
  · rw [if_pos hj, if_pos hj]; exact ⟨_, rfl⟩
  · rw [if_neg hj, if_neg hj]; exact ⟨_, rfl⟩
end
end L2

namespace L2
open PySem PySem.Spec PyProof.Rows

/-! ### an instance, its attributes a map -/
structure ObjM (h : Heap) (x dx C : Addr) (mA : Str → Option Value) : Prop where
  obj : h.get? x = some (PySem.W.instObj C dx)
  ns : h.Ns1 dx mA
  ne : dx ≠ x

theorem lookIn_ns {h : Heap} {dx : Addr} {mA : Str → Option Value} (n : h.Ns1 dx mA) : ∃ od, h.get? dx = some od ∧ ∀ name, PySem.W.lookIn name od = some (mA name) := by
  obtain ⟨o, es, ep, ho, hd, hk, _, hm⟩ := n
  refine ⟨o, ho, fun name => ?_⟩
  have e := hm name
  unfold nsFind findBy at e
  rw [← Array.find?_toList] at e
  unfold PySem.W.lookIn
  rw [hd]
  dsimp only
  split
  · rename_i y q
    rw [q] at e
    exact congrArg some e
  · rename_i q
    rw [q] at e
    have a : es.toList.any (·.refKey) = false := by
      rw [List.any_eq_false]
      intro y hy
      obtain ⟨z, t, hkey⟩ := hk y (Array.mem_toList_iff.mp hy)
      simp [DictEntry.refKey, hkey]
    have a' : ¬ es.toList.any (·.refKey) = true := by rw [a]; exact Bool.false_ne_true
    rw [if_neg a']
    exact congrArg some e

theorem ObjM.look {h : Heap} {x dx C : Addr} {mA : Str → Option Value} (I : ObjM h x dx C mA) : ∃ od, PySem.W.InstAt h x (PySem.W.instObj C dx) C (some od) ∧ ∀ name, PySem.W.lookIn name od = some (mA name) :=
  let ⟨od, ho, hl⟩ := lookIn_ns I.ns
  ⟨od, ⟨I.obj, rfl, rfl, ho⟩, hl⟩

section
variable {prog : Program} {w : World} {A : Around} {E : Value → Shared → Prop} {s : Shared} {K : PySem.W.Frag} {x dx C f : Addr} {mA : Str → Option Value} {name : Str} {v : Value}

end

/-! ### the attributes as a list of pairs -/
section
variable {P : Program} {w : World} {H H' : Hp} {h h' : Heap} {a C dx : Addr} {fs fs' : List (Str × V)}
theorem ins_get (hok : HOk P w H h) (e : H a = some (.ins C dx fs)) : ∃ mA, ObjM h a dx C mA ∧ (∀ f, RelO (fs.lookup f) (mA f)) ∧ PySem.Within mA (fs.map (·.1)) ∧ fs.length ≤ 1000 ∧ H dx = some (.own a) := by
  obtain ⟨d, z, ne, ob, mA, n, r, q⟩ := (show ObjOk P w H h a (.ins C dx fs) from hok a _ e)
  exact ⟨mA, ⟨ob, n, ne⟩, r, q, z, d⟩
end

/-! ### what of the text a class must have -/
structure Cls (K : PySem.W.Frag) (C : Addr) : Prop where
  pg : PySem.W.plainGet K C Str.empty = true
  hd : PySem.W.hasDictIn K C = true
  po : PySem.W.plainOver K C = true
  sa : PySem.W.findIn K (.ref C) "__setattr__" = some (some (.builtin "object.__setattr__"))
theorem Cls.get {K : PySem.W.Frag} {C : Addr} (c : Cls K C) (f : Str) : PySem.W.plainGet K C f = true := c.pg
/-- a constant of the class -/
structure Con (K : PySem.W.Frag) (C : Addr) (f : Str) (v : V) (u : Value) : Prop where
  at_ : PySem.W.findIn K (.ref C) f = some (some u)
  rel : RelV v u
  get : PySem.W.specialIn K u "__get__" = some none
  cp : PySem.W.copiedNames.contains f = false
/-- a method: a plain def of the class or of one above it -/
structure Meth (K : PySem.W.Frag) (C : Addr) (m : Str) (f : Addr) : Prop where
  at_ : PySem.W.findIn K (.ref C) m = some (some (.ref f))
  fn : PySem.W.isFn K (.ref f) = true
  kp : PySem.W.keepIn K (.ref f) = true

section
variable {X : Cx} {pins : List (Addr × Obj)} {σ : St} {H : Hp} {s : Shared} {a C dx : Addr} {fs : List (Str × V)} {f : Str} {v : V} {A : Around} {E : Value → Shared → Prop}

/-- a new instance, tracked, without attributes -/
theorem Inv.made (I : Inv X pins σ H s) : Inv X pins σ (upd (upd H s.heap.objs.size (.own (s.heap.objs.size + 1))) (s.heap.objs.size + 1) (.ins C s.heap.objs.size []))
    { s with heap := (s.heap.push PySem.W.emptyDict).push (PySem.W.instObj C s.heap.objs.size) } := by
  have e1 : (s.heap.push PySem.W.emptyDict).get? s.heap.objs.size = some PySem.W.emptyDict := Heap.get?_push_size s.heap rfl
  have e2 : ((s.heap.push PySem.W.emptyDict).push (PySem.W.instObj C s.heap.objs.size)).get? (s.heap.objs.size + 1) = some (PySem.W.instObj C s.heap.objs.size) := by
    have := Heap.get?_push_size (s.heap.push PySem.W.emptyDict) (o := PySem.W.instObj C s.heap.objs.size) rfl
    rwa [Heap.size_push] at this
  have e3 : (s.heap.push PySem.W.emptyDict).Ns s.heap.objs.size (fun _ => none) := ⟨PySem.W.emptyDict, #[], _, e1, rfl, (fun e he => absurd he (by simp)), fun _ => rfl⟩
  have I1 := I.laid (a := s.heap.objs.size) (o := .own (s.heap.objs.size + 1)) (h' := s.heap.push PySem.W.emptyDict) (t' := s.toks) (fun b u q => Heap.get?_push_of_some _ q) (Nat.le_refl _) ⟨_, e1⟩
  refine I1.laid (a := s.heap.objs.size + 1) (o := .ins C s.heap.objs.size []) (t' := s.toks) (fun b u q => Heap.get?_push_of_some _ q) (Nat.le_of_eq (Heap.size_push _ _)) ?_
  have ne : s.heap.objs.size ≠ s.heap.objs.size + 1 := Nat.ne_of_lt (Nat.lt_succ_self _)
  refine ⟨by rw [upd_ne ne, upd_same], Nat.zero_le _, ne, e2, fun _ => none, (Heap.Ns1.of_empty e3).at fun o q => Heap.get?_push_of_some _ q, fun _ => True.intro, fun y hy => absurd rfl hy⟩

end

/-! ### readings and rules -/
section
variable {X : Cx} {o e value : Expr} {f : Str} {pos pos' tpos : Pos} {ta tv : TE}
end

/-! ### isinstance -/
section
variable {X : Cx} {pins : List (Addr × Obj)} {σ : St} {H : Hp} {s : Shared} {A : Around} {E : Value → Shared → Prop} {Q : Value → Shared → Prop} {c : Value} {b : Bool}
/-- the type of a value, as the fragment's deciders take it; for an instance its class -/
inductive TyOf (K : PySem.W.Frag) (H : Hp) : V → Value → Prop where
  | non : TyOf K H .non (.type "NoneType")
  | bl (x : Bool) : TyOf K H (.bl x) (.type "bool")
  | int (i : Int) : TyOf K H (.int i) (.type "int")
  | str (x : Str) : TyOf K H (.str x) (.type "str")
  | flt (x : UInt64) : TyOf K H (.flt x) (.type "float")
  | lst {a : Addr} {xs : List V} (e : H a = some (.lst xs)) : TyOf K H (.ref a) (.type "list")
  | frz {a : Addr} {o : Obj} {xs : List V} (e : H a = some (.frz o (.lst xs))) : TyOf K H (.ref a) (.type "list")
  | tup {a : Addr} {xs : List V} (e : H a = some (.tup xs)) : TyOf K H (.ref a) (.type "tuple")
  | dK {a : Addr} {kvs : List (Key × V)} (e : H a = some (.dK kvs)) : TyOf K H (.ref a) (.type "dict")
  | dT {a : Addr} {kvs : List (List Key × V)} (e : H a = some (.dT kvs)) : TyOf K H (.ref a) (.type "dict")
  | ins {a C dx : Addr} {fs : List (Str × V)} (e : H a = some (.ins C dx fs)) (cl : Cls K C) (ha : PySem.W.findIn K (.ref C) "__class__" = some (some (.builtin "object.__class__")))
      (hn : PySem.W.specialIn K (.builtin "object.__class__") "__get__" = some (some (.builtin "getset_descriptor.__get__"))) (htk : PySem.W.takesIn K (.builtin "object.__class__") = some true)
      (hm : PySem.W.mroIn K C (.type "object") = some true) : TyOf K H (.ref a) (.ref C)
/-- isinstance(x, c) for one class c, a built-in or an own one: kitOne's answer -/
theorem isinst_ok {x : V} {u t : Value} (I : Inv X pins σ H s) (rx : RelV x u) (ty : TyOf X.K H x t) (e : PySem.W.kitOne X.K t c = some b) (h : ∀ tk, Q (.bool b) { s with toks := tk }) :
    wpAny (model X.prog X.w) A (call (.builtin "isinstance") [u, c]) Q E s := by
  cases ty with
  | non => cases (show u = Value.none from rx); exact PySem.W.kia_one PySem.W.kitx_none I.kIn True.intro e (fun z => nomatch z) h
  | bl y => cases (show u = Value.bool y from rx); exact PySem.W.kia_one PySem.W.kitx_bool I.kIn True.intro e (fun z => nomatch z) h
  | int i => obtain ⟨t, q⟩ := (show ∃ t, u = Value.int i t from rx); cases q; exact PySem.W.kia_one PySem.W.kitx_int I.kIn True.intro e (fun z => nomatch z) h
  | str y => obtain ⟨t, q⟩ := (show ∃ t, u = Value.str y t from rx); cases q; exact PySem.W.kia_one PySem.W.kitx_str I.kIn True.intro e (fun z => nomatch z) h
  | flt y => obtain ⟨t, q⟩ := (show ∃ t, u = Value.float y t from rx); cases q; exact PySem.W.kia_one PySem.W.kitx_float I.kIn True.intro e (fun z => nomatch z) h
  | @lst a xs ea =>
    cases (show u = Value.ref a from rx)
    obtain ⟨_, _, n, _, h1⟩ := (show ObjOk X.prog X.w H s.heap a (.lst xs) from I.hok a _ ea)
    exact PySem.W.kia_one PySem.W.kitx_list I.kIn ⟨_, h1, rfl⟩ e (fun z => nomatch z) h
  | @frz a ob xs ea =>
    cases (show u = Value.ref a from rx)
    obtain ⟨_, _, _, n, _, h1⟩ := (show ObjOk X.prog X.w H s.heap a (.frz ob (.lst xs)) from I.hok a _ ea)
    exact PySem.W.kia_one PySem.W.kitx_list I.kIn ⟨_, h1, rfl⟩ e (fun z => nomatch z) h
  | @tup a xs ea =>
    cases (show u = Value.ref a from rx)
    obtain ⟨_, _, _, p⟩ := (show ObjOk X.prog X.w H s.heap a (.tup xs) from I.hok a _ ea)
    obtain ⟨o, h1, h2, _⟩ := p
    exact PySem.W.kia_one PySem.W.kitx_tuple I.kIn ⟨o, h1, h2⟩ e (fun z => nomatch z) h
  | @dK a kvs ea =>
    cases (show u = Value.ref a from rx)
    obtain ⟨_, _, vs, _, p⟩ := (show ObjOk X.prog X.w H s.heap a (.dK kvs) from I.hok a _ ea)
    obtain ⟨o, es, ep, h1, h2, _⟩ := p
    exact PySem.W.kia_one PySem.W.kitx_dict I.kIn ⟨o, h1, h2.1⟩ e (fun z => nomatch z) h
  | @dT a kvs ea =>
    cases (show u = Value.ref a from rx)
    obtain ⟨_, _, xs, _, o, es, ep, h1, h2, _⟩ := (show ObjOk X.prog X.w H s.heap a (.dT kvs) from I.hok a _ ea)
    exact PySem.W.kia_one PySem.W.kitx_dict I.kIn ⟨o, h1, h2.1⟩ e (fun z => nomatch z) h
  | @ins a C dx fs ea cl ha hn htk hm =>
    cases (show u = Value.ref a from rx)
    obtain ⟨mA, O, _⟩ := ins_get I.hok ea
    obtain ⟨od, J, _⟩ := O.look
    exact PySem.W.kia_one (PySem.W.kitx_own (cl.get _) cl.hd ha hn htk hm) I.kIn J e (fun z => nomatch z) h
end
end L2

namespace L2
open PySem PySem.Spec PyProof.Rows

/-! ### room -/
structure Room (k : Nat) (A : Around) : Prop where
  hd : A.handled = none
  dp : A.depth + 3 * k + 5 < recursionLimit
  un : A.units + 16 * k + 200 < cLine
theorem Room.mono {j k : Nat} {A : Around} (r : Room k A) (h : j ≤ k) : Room j A := ⟨r.hd, by have := r.dp; omega, by have := r.un; omega⟩
theorem Room.deeper {k : Nat} {A : Around} (r : Room (k + 1) A) (env : Env) : Room k (A.deeper env) :=
  ⟨r.hd, by have := r.dp; show A.depth + 1 + 3 * k + 5 < _; omega, by have := r.un; show A.units + 3 + 16 * k + 200 < _; omega⟩
theorem Room.in1 {k : Nat} {A : Around} (r : Room (k + 1) A) : Room k A.in1 :=
  ⟨r.hd, by have := r.dp; show A.depth + 3 * k + 5 < _; omega, by have := r.un; show A.units + 1 + 16 * k + 200 < _; omega⟩
theorem Room.depth {k : Nat} {A : Around} (r : Room k A) : A.depth < recursionLimit := by have := r.dp; omega
theorem Room.units {k : Nat} {A : Around} (r : Room k A) : A.units + 64 < cLine := by have := r.un; omega
/-! ### argument lists and displays -/
def tNil : TA := fun _ H Q => Q [] H
def tCons (ta : TE) (tr : TA) : TA := fun σ H Q => ta σ H fun x H1 => tr σ H1 fun xs H2 => Q (x :: xs) H2
section
variable {X : Cx} {e : Expr} {es : List Expr} {te : TE} {t : TA} {pos : Pos}
theorem pa_nil : PA X [] tNil := fun _ _ _ _ H Q I h => Calls.spliced_nil ⟨[], H, I, .nil, h⟩
theorem pa_cons (ha : PE X e te) (hr : PA X es t) (hs : starEach (e :: es) X.env = (false, eval e X.env) :: starEach es X.env := by rfl) : PA X (e :: es) (tCons te t) := by
  intro pos pins s σ H Q I h
  rw [hs]
  show wpAny _ _ (spliced ((false, eval e X.env) :: backTo pos (starEach es X.env))) _ _ s
  refine Calls.spliced_cons (thn (ha pins s σ H _ I h) fun u s1 ⟨x, H1, I1, r1, q1⟩ => ?_)
  exact thn (hr pos pins s1 σ H1 _ I1 q1) fun us s2 ⟨xs, H2, I2, r2, q2⟩ => ⟨x :: xs, H2, I2, .cons r1 r2, q2⟩

/-- a tuple, a list of written items -/
def tTup (t : TA) : TE := fun σ H Q => t σ H fun xs H1 => xs.length ≤ sizeLine ∧ ∀ p, H1 p = none → Q (.ref p) (upd H1 p (.tup xs))
def tLst (t : TA) : TE := fun σ H Q => t σ H fun xs H1 => xs.length ≤ sizeLine ∧ ∀ p, H1 p = none → Q (.ref p) (upd H1 p (.lst xs))
theorem pe_tup {x1} (h : PA X es t) : PE X (.Tuple es x1 pos) (tTup t) := by
  intro pins s σ H Q I hq
  refine wpAny_Tuple_spliced (thn (h pos pins s σ H _ I hq) fun us s1 ⟨xs, H1, I1, r, z, q⟩ => ⟨by rw [← r.length]; exact z, ?_⟩)
  have hf : H1 s1.heap.objs.size = none := I1.hok.fresh (Nat.le_refl _)
  refine ⟨.ref s1.heap.objs.size, upd H1 s1.heap.objs.size (.tup xs), I1.laid (t' := s1.toks) (fun b u e => Heap.get?_push_of_some _ e) (Nat.le_refl _) ?_, rfl, q _ hf⟩
  exact ⟨z, us, r, ⟨_, Heap.get?_push_size _ rfl, rfl, _, rfl⟩⟩
theorem pe_lst (h : PA X es t) : PE X (.List es pos) (tLst t) := by
  intro pins s σ H Q I hq
  refine wpAny_List_spliced (thn (h pos pins s σ H _ I hq) fun us s1 ⟨xs, H1, I1, r, z, q⟩ => ⟨by rw [← r.length]; exact z, ?_⟩)
  have hf : H1 s1.heap.objs.size = none := I1.hok.fresh (Nat.le_refl _)
  refine ⟨.ref s1.heap.objs.size, upd H1 s1.heap.objs.size (.lst xs), I1.laid (t' := s1.toks) (fun b u e => Heap.get?_push_of_some _ e) (Nat.le_refl _) ?_, rfl, q _ hf⟩
  exact ⟨z, us, 0, r, Heap.get?_push_size _ rfl⟩
end

/-! ### what a def promises -/
/-- a def's promise: the bound arguments in the parameters' order, the heap, the wanted end, the wanted exception -/
abbrev Sp := List V → Hp → VK → XK → Prop
/-- how an exception lies behind a call (file 08 gives it): the callers' frames, abstract heap and state ahead of the call, the wish, the exception, the state -/
abbrev CXT := List Env → Hp → Shared → XK → Value → Shared → Prop

/-- the state at a call -/
structure Env0 (P : Program) (w : World) (K : PySem.W.Frag) (mg : Str → Option Value) (base : Heap) (A : Around) (outer : List Env) (s : Shared) (H : Hp) : Prop where
  frames : A.frames = some outer
  mod : Mod K mg base
  bs : ∀ b o, base.get? b = some o → s.heap.get? b = some o ∧ H b = none
  bsz : base.objs.size ≤ s.heap.objs.size
  funs : s.heap.FunFrames base outer
  frf : ∀ b ∈ frs outer, H b = none
  hok : HOk P w H s.heap
  bare : AllBare s.gens
/-- a call's end -/
def CE (outer : List Env) (P : Program) (w : World) (H : Hp) (s : Shared) (Q : VK) (u : Value) (s' : Shared) : Prop :=
  ∃ v H', s'.os = s.os ∧ AllBare s'.gens ∧ Un (frs outer) [] H H' s.heap s'.heap ∧ HOk P w H' s'.heap ∧ RelV v u ∧ Q v H'
def CR (CX : CXT) (outer : List Env) (P : Program) (w : World) (H : Hp) (s : Shared) (Q : VK) (E : XK) (r : Result) (s' : Shared) : Prop :=
  match r with
  | .ok (.ret u) => CE outer P w H s Q u s'
  | .ok _ => False
  | .error e => CX outer H s E e s'
structure FnOk (P : Program) (w : World) (K : PySem.W.Frag) (mg : Str → Option Value) (base : Heap) (CX : CXT) (k : Nat) (f : Addr) (fd : FuncData) (ps : List Str) (sp : Sp) : Prop where
  len : ∀ vs H Q E, sp vs H Q E → vs.length = ps.length
  run : ∀ (A : Around) (outer : List Env) (s : Shared) (H : Hp) (args : Args) (us : List Value) (vs : List V) (Q : VK) (E : XK), Room k A → Env0 P w K mg base A outer s H → BindsTo s fd args (ps.zip us) → Vals vs us → sp vs H Q E →
    codeAny (model P w) A (.call (.ref f) args) (CR CX outer P w H s Q E) s
theorem FnOk.mono {P : Program} {w : World} {K : PySem.W.Frag} {mg : Str → Option Value} {base : Heap} {CX : CXT} {j k : Nat} {f : Addr} {fd : FuncData} {ps : List Str} {sp : Sp} (F : FnOk P w K mg base CX j f fd ps sp) (h : j ≤ k) :
    FnOk P w K mg base CX k f fd ps sp := ⟨F.len, fun A outer s H args us vs Q E hr => F.run A outer s H args us vs Q E (hr.mono h)⟩
/-- a weaker promise -/
theorem FnOk.imp {P : Program} {w : World} {K : PySem.W.Frag} {mg : Str → Option Value} {base : Heap} {CX : CXT} {k : Nat} {f : Addr} {fd : FuncData} {ps : List Str} {sp sp' : Sp} (F : FnOk P w K mg base CX k f fd ps sp)
    (h : ∀ vs H Q E, sp' vs H Q E → sp vs H Q E) : FnOk P w K mg base CX k f fd ps sp' :=
  ⟨fun vs H Q E q => F.len vs H Q E (h _ _ _ _ q), fun A outer s H args us vs Q E hr he hb hv hs => F.run A outer s H args us vs Q E hr he hb hv (h _ _ _ _ hs)⟩

theorem Env0.in1 {P : Program} {w : World} {K : PySem.W.Frag} {mg : Str → Option Value} {base : Heap} {A : Around} {outer : List Env} {s : Shared} {H : Hp} (e : Env0 P w K mg base A outer s H) :
    Env0 P w K mg base A.in1 outer s H := ⟨e.frames, e.mod, e.bs, e.bsz, e.funs, e.frf, e.hok, e.bare⟩

section
variable {X : Cx} {pins : List (Addr × Obj)} {σ : St} {H : Hp} {s s' : Shared}
/-- from a body: what a callee wants -/
theorem Inv.env0 (I : Inv X pins σ H s) : Env0 X.prog X.w X.K X.mg X.base X.A X.stack s H :=
  ⟨I.ok.frames, I.ok.mod, I.bs, Nat.le_trans I.ok.bsz I.sz, I.stack, I.stkFree, I.hok, I.bare⟩
/-- behind a call -/
theorem Inv.after {Q : VK} {u : Value} (I : Inv X pins σ H s) (h : CE X.stack X.prog X.w H s Q u s') : EP X pins σ Q u s' := by
  obtain ⟨v, H', os, bare, un, hok, r, q⟩ := h
  obtain ⟨hh, g, d, t, os'⟩ := s'
  obtain rfl : os' = s.os := os
  exact ⟨v, H', I.call (h' := hh) (g' := g) (d' := d) (t' := t) (ch := []) un hok bare (fun b z => absurd z (by simp)), r, q⟩
end

/-! ### calls -/
/-- f(..): the written arguments, then the defaults dvs; E: what is wanted of an exception -/
def tCall (sp : Sp) (dvs : List V) (E : XK) (t : TA) : TE := fun σ H Q => t σ H fun vs H1 => sp (vs ++ dvs) H1 Q E
/-- how the parameters are bound: us the positional arguments, kw the keywords' values by name, ds the defaults that fill up -/
def Binds (K : PySem.W.Frag) (fd : FuncData) (ps : List Str) (ds : List Value) : Prop :=
  ∀ (s : Shared) (us : List Value), K.In s.heap → (us ++ ds).length = ps.length → BindsTo s fd ⟨us, []⟩ (ps.zip (us ++ ds))
/-- every parameter is given -/
theorem Binds.all {K : PySem.W.Frag} {fd : FuncData} {ps : List Str} (h : ∀ us : List Value, us.length = ps.length → bindArgs fd ⟨us, []⟩ = pure (ps.zip us)) : Binds K fd ps [] := fun s us _ hl => by
  rw [List.append_nil] at hl ⊢
  exact .of_eq (h us hl)

/-- an exception of a callee reaches what this body wants of exceptions -/
def Passes (CX : CXT) (X : Cx) (E : XK) : Prop := ∀ (pins : List (Addr × Obj)) (σ : St) (H : Hp) (s : Shared) (e : Value) (s' : Shared), Inv X pins σ H s → CX X.stack H s E e s' → X.xe e s'

section
variable {X : Cx} {CX : CXT} {k : Nat} {f C : Addr} {fd : FuncData} {ps : List Str} {sp : Sp} {dvs : List V} {ds : List Value} {E : XK} {x m : Str} {p pos apos : Pos} {e o : Expr} {es : List Expr} {ta : TE} {t : TA}

/-- the callee runs -/
theorem run_fn {pins : List (Addr × Obj)} {σ : St} {H : Hp} {s : Shared} {Q : VK} {us : List Value} {vs : List V} (F : FnOk X.prog X.w X.K X.mg X.base CX k f fd ps sp) (hr : Room k X.A) (hb : Binds X.K fd ps ds) (hd : Vals dvs ds) (hx : Passes CX X E)
    (I : Inv X pins σ H s) (r : Vals vs us) (h : sp (vs ++ dvs) H Q E) : wpAny (model X.prog X.w) X.A (call (.ref f) us) (EP X pins σ Q) X.xe s := by
  have r2 : Vals (vs ++ dvs) (us ++ ds) := r.append hd
  have hl : (us ++ ds).length = ps.length := by rw [← r2.length]; exact F.len _ _ _ _ h
  refine wpAny_call (codeAny_mono (F.run X.A X.stack s H ⟨us, []⟩ (us ++ ds) (vs ++ dvs) Q E hr I.env0 (hb s us I.kIn hl) r2 h) fun r s' hq => ?_)
  cases r with
  | error e => exact hx pins σ H s e s' I hq
  | ok fl =>
    cases fl with
    | ret u => exact I.after hq
    | next => exact False.elim hq
    | brk => exact False.elim hq
    | cont => exact False.elim hq

theorem pe_call (F : FnOk X.prog X.w X.K X.mg X.base CX k f fd ps sp) (hr : Room k X.A) (hg : Gl X x) (hm : X.mg x = some (.ref f)) (hk : PySem.W.keepIn X.K (.ref f) = true) (hb : Binds X.K fd ps ds) (hd : Vals dvs ds) (hx : Passes CX X E)
    (ha : PA X (e :: es) t) (hdb : (x == ("__debug__" : Str)) = false := by decide) (he : starEach (e :: es) X.env = (false, eval e X.env) :: starEach es X.env := by rfl) (hpl : (backTo pos (starEach es X.env)).any (·.1) = false := by rfl) :
    PE X (.Call (.Name x p) (e :: es) [] pos) (tCall sp dvs E t) := by
  intro pins s σ H Q I h
  refine wpAny_Call_Name_kw (ld_glob I hg hm ?_ hdb)
  refine PySem.W.callWith_K (h₀ := X.base) I.ok.mod.kin hk (thn (ha pos pins s σ H _ I h) fun us s1 ⟨vs, H1, I1, r, q⟩ => ⟨I1.kIn, ?_⟩) he hpl
  exact run_fn F hr hb hd hx I1 r q
/-- what a class must have to be made -/
structure Mk (K : PySem.W.Frag) (C f : Addr) : Prop where
  makes : PySem.W.makesIn K C = true
  init : PySem.W.findIn K (.ref C) "__init__" = some (some (.ref f))
  fn : PySem.W.isFn K (.ref f) = true
  kp : PySem.W.keepIn K (.ref C) = true

end

/-! ### keywords -/
section
variable {X : Cx} {CX : CXT} {k : Nat} {f C : Addr} {fd : FuncData} {ps ks : List Str} {sp : Sp} {E : XK} {x m : Str} {p pos apos kpos : Pos} {e o : Expr} {es : List Expr} {kws : List Keyword} {te ta : TE} {t tk : TA} {nm : Option Str}
/-- how a call with keywords binds: g puts the positional values us and the keywords' values ws (names ks) in the parameters' order, defaults among them -/
structure KBinds (K : PySem.W.Frag) (fd : FuncData) (ps ks : List Str) (g : List Value → List Value → List Value) (gV : List V → List V → List V) : Prop where
  to : ∀ (s : Shared) (us ws : List Value), K.In s.heap → (g us ws).length = ps.length → BindsTo s fd ⟨us, ks.zip ws⟩ (ps.zip (g us ws))
  rel : ∀ {vs : List V} {us : List Value} {zs : List V} {ws : List Value}, Vals vs us → Vals zs ws → Vals (gV vs zs) (g us ws)
variable {g : List Value → List Value → List Value} {gV : List V → List V → List V}
end

/-! ### a def's body keeps its promise -/
/-- names: the parameters first -/
structure FnScope (N P : List Str) (sc : Scope) : Prop where
  kind : sc.kind = .function
  co : sc.isCoroutine = false
  gen : sc.isGenerator = false
  nd : N.Nodup
  pre : N.take P.length = P
  par : ∀ x ∈ P, sc.names.lookup x = some .local ∨ sc.names.lookup x = some .cell
  nofree : ∀ y ∈ sc.names, y.2 ≠ .free

theorem bindL_out {kindOf : Str → Option NameKind} {x : Str} : ∀ {binds : List (Str × Value)} {m : Str → Option Value}, (∀ v, (x, v) ∉ binds) → bindL kindOf binds m x = m x
  | [], _, _ => rfl
  | (n, v) :: r, m, h => by
    unfold bindL
    rw [bindL_out fun w hw => h w (List.mem_cons_of_mem _ hw)]
    split
    · have : x ≠ n := by rintro rfl; exact h v List.mem_cons_self
      simp [this]
    · rfl
theorem bindC_out {kindOf : Str → Option NameKind} {x : Str} : ∀ {binds : List (Str × Value)} {m : Str → Option Value}, (∀ v, (x, v) ∉ binds) → bindC kindOf binds m x = m x
  | [], _, _ => rfl
  | (n, v) :: r, m, h => by
    unfold bindC
    rw [bindC_out fun w hw => h w (List.mem_cons_of_mem _ hw)]
    split
    · rfl
    · have : x ≠ n := by rintro rfl; exact h v List.mem_cons_self
      simp [this]
theorem bindL_get {kindOf : Str → Option NameKind} {x : Str} {v : Value} : ∀ {P : List Str} {vs : List Value} {i : Nat} {m : Str → Option Value}, P.Nodup → P[i]? = some x → vs[i]? = some v → kindOf x = some .local →
    bindL kindOf (P.zip vs) m x = some v
  | [], _, _, _, _, h, _, _ => by simp at h
  | _ :: _, [], _, _, _, _, h, _ => by simp at h
  | p :: P, w :: vs, 0, m, nd, h1, h2, hk => by
    simp at h1 h2; subst h1; subst h2
    show bindL kindOf ((p, w) :: P.zip vs) m p = _
    unfold bindL
    rw [bindL_out fun v hv => (List.nodup_cons.mp nd).1 (List.of_mem_zip hv).1, if_pos hk]
    simp
  | p :: P, w :: vs, i + 1, m, nd, h1, h2, hk => by
    show bindL kindOf ((p, w) :: P.zip vs) m x = _
    unfold bindL
    exact bindL_get (i := i) (List.nodup_cons.mp nd).2 (by simpa using h1) (by simpa using h2) hk
theorem bindC_get {kindOf : Str → Option NameKind} {x : Str} {v : Value} : ∀ {P : List Str} {vs : List Value} {i : Nat} {m : Str → Option Value}, P.Nodup → P[i]? = some x → vs[i]? = some v → kindOf x ≠ some .local →
    bindC kindOf (P.zip vs) m x = some v
  | [], _, _, _, _, h, _, _ => by simp at h
  | _ :: _, [], _, _, _, _, h, _ => by simp at h
  | p :: P, w :: vs, 0, m, nd, h1, h2, hk => by
    simp at h1 h2; subst h1; subst h2
    show bindC kindOf ((p, w) :: P.zip vs) m p = _
    unfold bindC
    rw [bindC_out fun v hv => (List.nodup_cons.mp nd).1 (List.of_mem_zip hv).1, if_neg hk]
    simp
  | p :: P, w :: vs, i + 1, m, nd, h1, h2, hk => by
    show bindC kindOf ((p, w) :: P.zip vs) m x = _
    unfold bindC
    exact bindC_get (i := i) (List.nodup_cons.mp nd).2 (by simpa using h1) (by simpa using h2) hk

/-- the names' values at the entry -/
def start (N : List Str) (vs : List V) : St := vs.map some ++ List.replicate (N.length - vs.length) none

/-- the context of a def's body, at its entry; an exception leaves the frame, then lies as CX says -/
def cxOf (CX : CXT) (P : Program) (w : World) (K : PySem.W.Frag) (mg : Str → Option Value) (base : Heap) (N : List Str) (qual : Str) (scope : Scope) (f : Addr) (cd : Value) (A : Around) (outer : List Env) (s : Shared) (H : Hp) (E : XK) : Cx where
  prog := P
  w := w
  K := K
  mg := mg
  base := base
  A := A.deeper (envOfC qual scope s.heap.objs.size f cd)
  N := N
  s₀ := s
  H₀ := H
  env := envOfC qual scope s.heap.objs.size f cd
  outer := outer
  stack := envOfC qual scope s.heap.objs.size f cd :: outer
  ex := []
  calm := true
  fn := fun _ => true
  pn := []
  xe := fun e s' => wpAny (model P w) (A.deeper (envOfC qual scope s.heap.objs.size f cd)) (leaving (envOfC qual scope s.heap.objs.size f cd) e) (fun _ s'' => CX outer H s E e s'') (fun e' s'' => CX outer H s E e' s'') s'

theorem cell_has {sc : Scope} {n : Nat} {x : Str} (h : sc.names.lookup x = some .cell) : ∃ c, (cellsFrom n sc.names []).lookup x = some c := by
  have q := PySem.W.cellsFrom_some sc.names n [] (.inl h)
  exact Option.isSome_iff_exists.mp q

theorem inv_start {CX : CXT} {P : Program} {w : World} {K : PySem.W.Frag} {mg : Str → Option Value} {base : Heap} {N ps : List Str} {qual : Str} {scope : Scope} {f : Addr} {cd : Value} {A : Around} {outer : List Env} {s s1 : Shared} {H : Hp} {E : XK} {us : List Value} {vs : List V}
    (S : FnScope N ps scope) (hd : A.handled = none) (e0 : Env0 P w K mg base A outer s H) (hl : vs.length = ps.length) (r : Vals vs us)
    (x : InCallC s s.heap.objs.size (bindL (envOfC qual scope s.heap.objs.size f cd).kindOf (ps.zip us) fun _ => none) (cellsFrom (s.heap.objs.size + 1) scope.names []) (bindC (envOfC qual scope s.heap.objs.size f cd).kindOf (ps.zip us) fun _ => none) s1) :
    Inv (cxOf CX P w K mg base N qual scope f cd A outer s H E) [] (start N vs) H s1 := by
  have hpl : ps.length ≤ N.length := by have := congrArg List.length S.pre; rw [List.length_take] at this; omega
  obtain ⟨h1, tk, rfl, hk⟩ := x.done
  have noA : ∀ b : Addr, b ∉ (cxOf CX P w K mg base N qual scope f cd A outer s H E).ex := fun b z => absurd (show b ∈ ([] : List Addr) from z) (by simp)
  refine ⟨⟨e0.mod, S.kind, rfl, rfl, Nat.le_refl _, fun y z c h1 h2 => ?_, fun y hy => ?_, fun y c _ h => ?_, fun _ => hd, Around.frames_deeper e0.frames, .inr ⟨rfl, rfl⟩, fun b z => absurd z (noA b), e0.bs, e0.bsz, fun b _ _ => noA b, fun b z => absurd z (noA b), e0.funs, e0.frf⟩,
    rfl, e0.bare, Un.kept hk, ⟨_, x.toInCall.ns, fun i y v h1 h2 h3 => ?_⟩, fun y c h => ⟨_, x.cell y c h⟩, e0.hok.fresh (Nat.le_refl _), fun y c h => ?_, fun p hp => absurd (show p ∈ ([] : List (Addr × Obj)) from hp) (by simp), e0.hok.kept hk, ?_⟩
  · exact name_of_addr x.apart (PySem.mem_of_lookup h1) (PySem.mem_of_lookup h2)
  · have hy : scope.names.lookup y = some .cell ∨ scope.names.lookup y = some .free := hy
    rcases hy with hy | hy
    · exact cell_has hy
    · exact absurd rfl (S.nofree _ (PySem.mem_of_lookup hy))
  · exact Nat.le_of_lt (x.above y c (PySem.mem_of_lookup h))
  · have hi : i < vs.length := by
      unfold start at h2
      by_cases hi : i < vs.length
      · exact hi
      · rw [List.getElem?_append_right (by simpa using hi)] at h2
        rw [List.getElem?_replicate] at h2
        split at h2 <;> cases h2
    have ha : vs[i]? = some v := by
      unfold start at h2
      rw [List.getElem?_append_left (by simpa using hi), List.getElem?_map] at h2
      cases e : vs[i]? with
      | none => rw [e] at h2; cases h2
      | some a => rw [e] at h2; cases h2; rfl
    obtain ⟨u, hu, rv⟩ := r.get ha
    have hp : ps[i]? = some y := by
      rw [← S.pre, List.getElem?_take_of_lt (by omega)]; exact h1
    have ndP : ps.Nodup := by rw [← S.pre]; exact S.nd.sublist (List.take_sublist _ _)
    refine ⟨u, rv, ?_⟩
    rcases S.par y (List.mem_of_getElem? hp) with k | k
    · exact .inl ⟨k, bindL_get ndP hp hu k⟩
    · obtain ⟨c, e⟩ := cell_has (n := s.heap.objs.size + 1) k
      refine .inr ⟨.inl k, c, e, ?_⟩
      have q := x.cell y c e
      rw [bindC_get ndP hp hu (by show scope.names.lookup y ≠ _; rw [k]; decide)] at q
      exact q
  · exact e0.hok.fresh (Nat.le_of_lt (x.above y c (PySem.mem_of_lookup h)))
  · unfold start
    show _ = N.length
    rw [List.length_append, List.length_map, List.length_replicate]
    omega

/-- THE RULE: a def (or a method) of the text, by its body. The body's reading t is chosen for each entry; it is run at the parameters' values -/
theorem fn_of {CX : CXT} {P : Program} {w : World} {K : PySem.W.Frag} {mg : Str → Option Value} {base : Heap} {k : Nat} {f : Addr} {name qual : Str} {params : Arguments} {body : List Stmt} {scope : Scope} {dV kV doc pm cdv ct oc : Value} {an od : Option Addr}
    {osl : Array (Option Value)} {N ps : List Str} {sp : Sp} (lk : K.lookup f = some ⟨oc, od, .func (PySem.W.fnOf name qual params body scope dV kV doc pm an cdv ct), osl⟩) (hcd : PySem.W.codeIn K cdv qual = true) (S : FnScope N ps scope)
    (len : ∀ vs H Q E, sp vs H Q E → vs.length = ps.length)
    (hbody : ∀ (A : Around) (outer : List Env) (s : Shared) (H : Hp) (vs : List V) (Q : VK) (E : XK), Room k (A.deeper (envOfC qual scope s.heap.objs.size f cdv)) → sp vs H Q E →
      ∃ t, PSs (cxOf CX P w K mg base N qual scope f cdv A outer s H E) body t ∧ t { nx := fun _ H' => Q .non H', rt := Q } (start N vs) H) :
    FnOk P w K mg base CX (k + 1) f (PySem.W.fnOf name qual params body scope dV kV doc pm an cdv ct) ps sp := by
  refine ⟨len, fun A outer s H args us vs Q E hr e0 hb r hsp => ?_⟩
  have hl := len _ _ _ _ hsp
  have KX : K.In s.heap := e0.mod.kin.keeps fun b o e => (e0.bs b o e).1
  have lim : s.heap.NoLimit := e0.mod.nolimit.keeps fun b o e => (e0.bs b o e).1
  have hkind : ∀ y ∈ ps.zip us, scope.names.lookup y.1 = some .local ∨ (scope.names.lookup y.1 = some .cell ∧ ((cellsFrom (s.heap.objs.size + 1) scope.names []).lookup y.1).isSome = true) := fun ⟨n, v⟩ hy => by
    rcases S.par n (List.of_mem_zip hy).1 with q | q
    · exact .inl q
    · exact .inr ⟨q, PySem.W.cellsFrom_some _ _ _ (.inl q)⟩
  refine codeAny_call_function hr.depth (KX _ _ lk) rfl S.co S.gen rfl (PySem.W.codeRec_of KX hcd) (hb _ _ _ _ ?_)
  refine wpAny_newFunctionEnv_cells S.kind hkind fun env he s1 x => ?_
  subst he
  refine ⟨lim.keeps x.toInCall.keep, codeAny_func ?_⟩
  obtain ⟨t, ht, hq⟩ := hbody A outer s H vs Q E (hr.deeper _) hsp
  have I : Inv (cxOf CX P w K mg base N qual scope f cdv A outer s H E) [] (start N vs) H s1 := inv_start S hr.hd e0 hl r x
  refine wpAny_mono (ht [] s1 (start N vs) H _ I hq) (fun fl s' hs => ?_) fun e s' hs => hs
  have fin : ∀ {σ' : St} {H' : Hp} {v : V} {u : Value}, Inv (cxOf CX P w K mg base N qual scope f cdv A outer s H E) [] σ' H' s' → RelV v u → Q v H' → CE outer P w H s Q u s' :=
    fun {σ' H' v u} J rv q => ⟨v, H', J.os, J.bare, J.base, J.hok, rv, q⟩
  cases fl with
  | ret u =>
    obtain ⟨v, σ', H', J, rv, q⟩ := hs
    exact fin J rv q
  | next =>
    obtain ⟨σ', H', J, q⟩ := hs
    exact fin (v := V.non) (u := Value.none) J rfl q
  | brk =>
    obtain ⟨_, _, _, q⟩ := hs
    exact False.elim q
  | cont =>
    obtain ⟨_, _, _, q⟩ := hs
    exact False.elim q
end L2

namespace L2
open PySem PySem.Spec PyProof.Rows
section
variable {X : Cx} {x : Str} {p pos : Pos} {e : Expr} {es : List Expr} {t : TA} {id T : String} {r : List V → Hp → VK → Prop}

def tCB (r : List V → Hp → VK → Prop) (t : TA) : TE := fun σ H Q => t σ H fun vs H1 => r vs H1 Q
/-- f(e, ..), f a built-in function -/
theorem pe_callB (hc : CallR X (.builtin id) r) (hg : Gl X x) (hm : X.mg x = none) (hv : bootBuiltins x = some (.builtin id)) (ha : PA X (e :: es) t) (hn : x ≠ "__name__" := by decide) (hdb : (x == ("__debug__" : Str)) = false := by decide)
    (he : starEach (e :: es) X.env = (false, eval e X.env) :: starEach es X.env := by rfl) (hpl : (backTo pos (starEach es X.env)).any (·.1) = false := by rfl) : PE X (.Call (.Name x p) (e :: es) [] pos) (tCB r t) := by
  intro pins s σ H Q I h
  refine wpAny_Call_Name_kw (ld_blt I hg hm hv ?_ hn hdb)
  exact PyProof.Rows.callWith_builtin1 (thn (ha pos pins s σ H _ I h) fun us s1 ⟨vs, H1, I1, r1, q1⟩ => hc pins s1 σ H1 vs us Q I1 r1 q1) he hpl
/-- T(e, ..), T a built-in type -/
theorem pe_callTy (hc : CallR X (.type T) r) (hg : Gl X x) (hm : X.mg x = none) (hv : bootBuiltins x = some (.type T)) (ha : PA X (e :: es) t) (hn : x ≠ "__name__" := by decide) (hdb : (x == ("__debug__" : Str)) = false := by decide)
    (he : starEach (e :: es) X.env = (false, eval e X.env) :: starEach es X.env := by rfl) (hpl : (backTo pos (starEach es X.env)).any (·.1) = false := by rfl) : PE X (.Call (.Name x p) (e :: es) [] pos) (tCB r t) := by
  intro pins s σ H Q I h
  refine wpAny_Call_Name_kw (ld_blt I hg hm hv ?_ hn hdb)
  exact PyProof.Rows.callWith_type1 (thn (ha pos pins s σ H _ I h) fun us s1 ⟨vs, H1, I1, r1, q1⟩ => hc pins s1 σ H1 vs us Q I1 r1 q1) he hpl
end
end L2

namespace HT
open PySem PyProof.Rows

section
open PySem.SeqAt
open PySem.AutoSeq1 (wpAny_loadPart')
open PySem.MeetsSeq PySem.MeetsSeq2 PySem.MeetsSeq3

end

section
variable {prog : Program} {w : World} {A : Around} {E : Value → Shared → Prop} {s : Shared}

/-! ### t[a:b], not the whole -/
/-- a slice's bound as a place among n (d where it is left out) -/
def sIx (n d : Nat) : Option Int → Nat
  | none => d
  | some v => if v < 0 then (v + (n : Int)).toNat else min v.toNat n
theorem sIx_none (n d : Nat) : sIx n d none = d := rfl
theorem sIx_nat (n d k : Nat) : sIx n d (some (k : Int)) = min k n := by
  show (if (k : Int) < 0 then ((k : Int) + (n : Int)).toNat else min (k : Int).toNat n) = min k n
  rw [if_neg (by omega), Int.toNat_natCast]
theorem sIx_le (n d : Nat) (hd : d ≤ n) (o : Option Int) : sIx n d o ≤ n := by
  cases o with
  | none => exact hd
  | some v =>
    show (if v < 0 then (v + (n : Int)).toNat else min v.toNat n) ≤ n
    by_cases hv : v < 0
    · rw [if_pos hv]; omega
    · rw [if_neg hv]; exact Nat.min_le_right _ _
theorem clip_eq (v : Int) (n d : Nat) : (if v < 0 then max (v + (n : Int)) 0 else min v (n : Int)) = ((sIx n d (some v) : Nat) : Int) := by
  show (if v < 0 then max (v + (n : Int)) 0 else min v (n : Int)) = (((if v < 0 then (v + (n : Int)).toNat else min v.toNat n) : Nat) : Int)
  by_cases hv : v < 0
  · simp only [if_pos hv]; omega
  · simp only [if_neg hv]; omega
theorem adjust_gen (lo hi : Option Int) (n : Nat) : Builtin.Slice.sliceAdjust lo hi 1 (n : Int) = (((sIx n 0 lo : Nat) : Int), ((sIx n n hi : Nat) : Int)) := by
  have h1 : ¬ ((1 : Int) < 0) := by omega
  unfold Builtin.Slice.sliceAdjust
  simp only [h1, if_false]
  refine Prod.ext ?_ ?_
  · cases lo with
    | none => rfl
    | some v => exact clip_eq v n 0
  · cases hi with
    | none => rfl
    | some v => exact clip_eq v n n
theorem places_gen (i j : Nat) : Builtin.Slice.slicePlaces (i : Int) (j : Int) 1 = j - i := by
  unfold Builtin.Slice.slicePlaces
  have h1 : (1 : Int) > 0 := by omega
  simp only [h1, if_true, Int.ediv_one]
  split <;> omega
theorem slicePart_ {v : Value} {o : Option Int} {Q : Option Int → Shared → Prop} (p : IsPart v o) (h : Q o s) : wpAny (model prog w) A (Builtin.Slice.slicePartIndex v) Q E s := by
  cases p with
  | none => exact slicePart_none h
  | int i t => exact slicePart_int h
theorem sliceApplied_gen {sl : Addr} {vl vu : Value} {lo hi : Option Int} {n : Nat} {Q : Int × Int × Nat → Shared → Prop} (hs : s.heap.IsSliceOf sl vl vu .none) (pl : IsPart vl lo) (pu : IsPart vu hi)
    (h : Q (((sIx n 0 lo : Nat) : Int), 1, sIx n n hi - sIx n 0 lo) s) : wpAny (model prog w) A (Builtin.Slice.sliceApplied (.ref sl) (pure (n : Int))) Q E s := by
  obtain ⟨os, hos, hcs, hds⟩ := id hs
  unfold Builtin.Slice.sliceApplied Builtin.Slice.sliceFields
  refine wpAny_bind (wpAny_bind (wpAny_field hos hds (x := vl) rfl (wpAny_bind (wpAny_field hos hds (x := vu) rfl (wpAny_bind (wpAny_field hos hds (x := .none) rfl (wpAny_pure ?_)))))))
  refine wpAny_bind (slicePart_none ?_)
  show wpAny _ _ (if ((1 : Int) == 0) = true then _ else _) _ _ s
  rw [if_neg (by decide)]
  refine wpAny_bind (slicePart_ pl (wpAny_bind (slicePart_ pu (wpAny_bind (wpAny_pure ?_)))))
  show wpAny _ _ (match Builtin.Slice.sliceAdjust lo hi 1 (n : Int) with | (lo, hi) => pure (lo, (1 : Int), Builtin.Slice.slicePlaces lo hi 1)) _ _ s
  rw [adjust_gen lo hi n]
  show wpAny _ _ (pure (((sIx n 0 lo : Nat) : Int), (1 : Int), Builtin.Slice.slicePlaces ((sIx n 0 lo : Nat) : Int) ((sIx n n hi : Nat) : Int) 1)) _ _ s
  rw [places_gen]
  exact wpAny_pure h
theorem pick_gen (xs : Array Value) (i k : Nat) : ((List.range k).filterMap fun (m : Nat) => xs[((i : Int) + (m : Int) * 1).toNat]?).toArray = ((xs.toList.drop i).take k).toArray := by
  have e : (fun (m : Nat) => xs[((i : Int) + (m : Int) * 1).toNat]?) = fun m => xs[i + m]? := by
    funext m
    have : ((i : Int) + (m : Int) * 1).toNat = i + m := by omega
    rw [this]
  rw [e]
  have := pick_run xs i k
  rw [List.filterMap_map] at this
  have e2 : ((fun x => xs[x]?) ∘ fun x => i + x) = fun m => xs[i + m]? := rfl
  rw [e2] at this
  rw [this]

theorem getItem_tuple_cut {t sl : Addr} {items : Array Value} {vl vu : Value} {lo hi : Option Int} {Q : Value → Shared → Prop} (ht : IsTup s.heap t items) (hs : s.heap.IsSliceOf sl vl vu .none) (pl : IsPart vl lo) (pu : IsPart vu hi)
    (hw : ¬ (sIx items.size 0 lo = 0 ∧ sIx items.size items.size hi = items.size))
    (h : Q (.ref s.heap.objs.size) { s with heap := s.heap.push { cls := .type "tuple", data := .seq ((items.toList.drop (sIx items.size 0 lo)).take (sIx items.size items.size hi - sIx items.size 0 lo)).toArray } })
    (hsz : items.size ≤ sizeLine) : wpAny (model prog w) A (getItem (.ref t) (.ref sl)) Q E s := by
  have htake : sizeOk (.seq ((items.toList.drop (sIx items.size 0 lo)).take (sIx items.size items.size hi - sIx items.size 0 lo)).toArray) := by
    show ((items.toList.drop (sIx items.size 0 lo)).take (sIx items.size items.size hi - sIx items.size 0 lo)).toArray.size ≤ sizeLine
    rw [List.size_toArray, List.length_take, List.length_drop, Array.length_toList]
    omega
  have hj : sIx items.size items.size hi ≤ items.size := sIx_le _ _ (Nat.le_refl _) hi
  obtain ⟨os, hos, hcs, hds⟩ := id hs
  have hTs : s.TypeIs (.ref sl) "slice" := ⟨os, hos, hcs⟩
  unfold getItem
  try with_reducible refine wpAny_holding ?_
  first | refine wpAny_bind (wpAny_pure ?_) | skip
  refine wpAny_bind (wpAny_sequenceKey ht.typeIs (by decide) ?_)
  refine wpAny_bind (wpAny_callSpecial?_slot (name := Str.ofString "__getitem__") ht.typeIs PyProof.Rows.slot_tuple_getitem
    (wpAny_call_entry PyProof.Rows.slot_tuple_getitem ht.typeIs entry_tuple_getitem ?_ (args_tuple_getitem _ _)))
  show wpAny _ _ (Builtin.Tuple.tupleItemsOf (.ref t) >>= _) _ _ s
  refine wpAny_bind (tupleItemsOf_ ht ?_)
  refine wpAny_bind (wpAny_typeOf hTs ?_)
  rw [if_pos (by decide)]
  refine wpAny_bind (sliceApplied_gen hs pl pu ?_)
  have hno : ¬ ((((sIx items.size 0 lo : Nat) : Int) == 0 && (1 : Int) == 1 && (sIx items.size items.size hi - sIx items.size 0 lo) == items.size) = true) := by
    intro q
    rw [Bool.and_eq_true, Bool.and_eq_true] at q
    have q1 : ((sIx items.size 0 lo : Nat) : Int) = 0 := eq_of_beq q.1.1
    have q2 : sIx items.size items.size hi - sIx items.size 0 lo = items.size := eq_of_beq q.2
    exact hw ⟨by omega, by omega⟩
  show wpAny _ _ (if (((sIx items.size 0 lo : Nat) : Int) == 0 && (1 : Int) == 1 && (sIx items.size items.size hi - sIx items.size 0 lo) == items.size) = true then _ else _) _ _ s
  rw [if_neg hno, pick_gen]
  first
    | exact wpAny_bind (m := Builtin.Tuple.tupleExact _) (wpAny_newObj_type (wpAny_pure ⟨_, rfl, wpAny_pure h⟩) htake)
    | exact wpAny_bind (m := Builtin.Tuple.tupleExact _) (wpAny_newObj_type (wpAny_bind (wpAny_pure (wpAny_pure ⟨_, rfl, wpAny_pure h⟩))) htake)
    | exact wpAny_bind (wpAny_bind (m := Builtin.Tuple.tupleExact _) (wpAny_newObj_type (wpAny_pure (wpAny_pure ⟨_, rfl, wpAny_pure h⟩)) htake))
    | exact wpAny_bind (wpAny_bind (m := Builtin.Tuple.tupleExact _) (wpAny_newObj_type (wpAny_pure ⟨_, rfl, wpAny_pure h⟩) htake))
end
end HT

namespace L2
open PySem PySem.Spec PyProof.Rows

/-! ### the parts of a slice -/
abbrev TO := St → Hp → (Option Int → Hp → Prop) → Prop
/-- a slice's part (left out, or an int) -/
def PO (X : Cx) (e : Option Expr) (t : TO) : Prop :=
  ∀ (pins : List (Addr × Obj)) (s : Shared) (σ : St) (H : Hp) (Q : Option Int → Hp → Prop), Inv X pins σ H s → t σ H Q →
    wpAny (model X.prog X.w) X.A (evalPart e X.env) (fun u s' => ∃ o H', Inv X pins σ H' s' ∧ IsPart u o ∧ Q o H') X.xe s
def tNoPart : TO := fun _ H Q => Q none H
def tPart (t : TE) : TO := fun σ H Q => t σ H fun x H1 => ∃ i, x = .int i ∧ Q (some i) H1

theorem intsAre_of {ns : List Int} : ∀ {us : List Value}, Vals (ns.map V.int) us → IntsAre us ns := by
  induction ns with
  | nil => intro us r; rw [List.map_nil] at r; cases r; exact .nil
  | cons n ns ih =>
    intro us r
    rw [List.map_cons] at r
    cases r with
    | cons r1 r2 =>
      obtain ⟨t, e⟩ := r1
      subst e
      exact .cons n t (ih r2)

section
variable {X : Cx} {e : Expr} {te : TE} {lo hi : Option Expr} {tl th : TO} {pos p2 : Pos}

theorem po_none : PO X none tNoPart := by
  intro pins s σ H Q I h
  rw [evalPart_none]
  exact wpAny_pure ⟨none, H, I, .none, h⟩
theorem po_some (h : PE X e te) : PO X (some e) (tPart te) := by
  intro pins s σ H Q I hw
  rw [evalPart_some]
  refine thn (h pins s σ H _ I hw) fun u s1 ⟨x, H1, I1, r1, q1⟩ => ?_
  obtain ⟨i, rfl, q⟩ := q1
  obtain ⟨t, rfl⟩ := r1
  exact ⟨some i, H1, I1, .int i t, q⟩

/-- what a slice of a value is, by values: the slice object stands at sl -/
def SlR (X : Cx) (r : V → Option Int → Option Int → Hp → VK → Prop) : Prop :=
  ∀ (pins : List (Addr × Obj)) (s : Shared) (σ : St) (H : Hp) (x : V) (v vl vu : Value) (lo hi : Option Int) (sl : Addr) (Q : VK), Inv X pins σ H s → RelV x v → s.heap.IsSliceOf sl vl vu .none → IsPart vl lo → IsPart vu hi → r x lo hi H Q →
    ∃ T id, typeLookup (.type T) "__getitem__" = pure (some (.builtin id)) ∧ s.TypeIs v T ∧ wpAny (model X.prog X.w) X.A (getItem v (.ref sl)) (EP X pins σ Q) X.xe s
theorem SlR.or {r r' : V → Option Int → Option Int → Hp → VK → Prop} (h : SlR X r) (h' : SlR X r') : SlR X (fun x lo hi H Q => r x lo hi H Q ∨ r' x lo hi H Q) := by
  intro pins s σ H x v vl vu lo hi sl Q I rx hs pl pu q
  rcases q with q | q
  · exact h pins s σ H x v vl vu lo hi sl Q I rx hs pl pu q
  · exact h' pins s σ H x v vl vu lo hi sl Q I rx hs pl pu q
def tSl (r : V → Option Int → Option Int → Hp → VK → Prop) (te : TE) (tl th : TO) : TE := fun σ H Q => te σ H fun x H1 => tl σ H1 fun l H2 => th σ H2 fun u H3 => r x l u H3 Q
/-- a[lo:hi], any a -/
theorem pe_slice {r : V → Option Int → Option Int → Hp → VK → Prop} (hr : SlR X r) (he : PE X e te) (hl : PO X lo tl) (hu : PO X hi th) : PE X (.Subscript e (.Slice lo hi none p2) pos) (tSl r te tl th) := by
  intro pins s σ H Q I h
  refine Subscript_ (thn (he pins s σ H _ I h) fun v s1 ⟨x, H1, I1, r1, q1⟩ => ?_)
  refine wpAny_Slice (thn (hl pins s1 σ H1 _ I1 q1) fun vl s2 ⟨l, H2, I2, pl, q2⟩ => thn (hu pins s2 σ H2 _ I2 q2) fun vu s3 ⟨u, H3, I3, pu, q3⟩ => ?_)
  rw [evalPart_none]
  refine wpAny_pure ?_
  have I4 : Inv X pins σ H3 { s3 with heap := s3.heap.push { cls := .type "slice", data := .fields #[vl, vu, .none] } } := I3.kept (t' := s3.toks) fun b ob q => Heap.get?_push_of_some _ q
  obtain ⟨T, id, hT, ht, hg⟩ := hr pins { s3 with heap := s3.heap.push { cls := .type "slice", data := .fields #[vl, vu, .none] } } σ H3 x v vl vu l u s3.heap.objs.size Q I4 r1 (Heap.IsSliceOf.new ..) pl pu q3
  show wpAny (model X.prog X.w) X.A (subscriptTail e (.Slice lo hi none p2) v (.ref s3.heap.objs.size)) (EP X pins σ Q) X.xe { s3 with heap := s3.heap.push { cls := .type "slice", data := .fields #[vl, vu, .none] } }
  exact tail_any (ops := [.ref s3.heap.objs.size, v]) ht hT hg (by with_unfolding_all rfl)

/-- the items of xs[lo:hi] -/
def cutV (xs : List V) (lo hi : Option Int) : List V := (xs.drop (HT.sIx xs.length 0 lo)).take (HT.sIx xs.length xs.length hi - HT.sIx xs.length 0 lo)
theorem cutV_length (xs : List V) (lo hi : Option Int) : (cutV xs lo hi).length ≤ xs.length := by
  unfold cutV
  rw [List.length_take, List.length_drop]
  omega
/-- t[lo:hi], not the whole of it (the whole would be t itself) -/
def rSlT (K : PySem.W.Frag) : V → Option Int → Option Int → Hp → VK → Prop := fun x lo hi H Q => ∃ a xs, x = .ref a ∧ SqT K H a xs ∧
  ¬ (HT.sIx xs.length 0 lo = 0 ∧ HT.sIx xs.length xs.length hi = xs.length) ∧ ∀ p, H p = none → Q (.ref p) (upd H p (.tup (cutV xs lo hi)))
theorem sl_tup : SlR X (rSlT X.K) := by
  intro pins s σ H x v vl vu lo hi sl Q I rx hs pl pu h
  obtain ⟨a, xs, rfl, hx, hw, q⟩ := h
  cases rx
  obtain ⟨its, r, ht, hz⟩ := I.tuple hx
  have hlen : its.toArray.size = xs.length := by rw [List.size_toArray]; exact r.length.symm
  refine ⟨"tuple", _, PyProof.Rows.slot_tuple_getitem.lookup, ht.typeIs, ?_⟩
  refine HT.getItem_tuple_cut ht hs pl pu (by rw [hlen]; exact hw) ?_ (by rw [hlen]; exact hz)
  rw [hlen]
  refine ⟨.ref s.heap.objs.size, _, I.laid (t' := s.toks) (o := .tup (cutV xs lo hi)) (fun b ob q => Heap.get?_push_of_some _ q) (Nat.le_refl _) ?_, rfl, q _ (I.hok.fresh (Nat.le_refl _))⟩
  exact ⟨Nat.le_trans (cutV_length xs lo hi) hz, _, (r.drop (HT.sIx xs.length 0 lo)).take (HT.sIx xs.length xs.length hi - HT.sIx xs.length 0 lo), IsTup.new _ _⟩

/-! ### t < u, t + u -/
end
end L2

namespace L2
open PySem PySem.Spec PyProof.Rows

/-! ### places -/
/-- the place that an index of any sign means -/
def ixN (n : Nat) (i : Int) : Option Nat := if 0 ≤ i then (if i < n then some i.toNat else none) else if -(n : Int) ≤ i then some (i + n).toNat else none
def atI {α : Type} (xs : List α) (i : Int) : Option α := (ixN xs.length i).bind fun j => xs[j]?
theorem ixN_seq {n : Nat} {i : Int} {j : Nat} (h : ixN n i = some j) : seqIndex? i n = some j ∧ j < n ∧ -(n : Int) ≤ i ∧ i < n := by
  unfold ixN at h
  by_cases h0 : 0 ≤ i
  · rw [if_pos h0] at h
    by_cases h1 : i < n
    · rw [if_pos h1] at h
      have e : i.toNat = j := Option.some.inj h
      exact ⟨by rw [seqIndex_of h0 h1, e], by omega, by omega, h1⟩
    · rw [if_neg h1] at h; cases h
  · rw [if_neg h0] at h
    by_cases h1 : -(n : Int) ≤ i
    · rw [if_pos h1] at h
      have e : (i + n).toNat = j := Option.some.inj h
      exact ⟨by rw [seqIndex_neg (by omega) h1, e], by omega, h1, by omega⟩
    · rw [if_neg h1] at h; cases h
theorem atI_get {α : Type} {xs : List α} {i : Int} {v : α} (h : atI xs i = some v) : ∃ j, seqIndex? i xs.length = some j ∧ xs[j]? = some v ∧ j < xs.length ∧ -(xs.length : Int) ≤ i ∧ i < xs.length := by
  unfold atI at h
  cases e : ixN xs.length i with
  | none => rw [e] at h; cases h
  | some j =>
    rw [e] at h
    obtain ⟨h1, h2, h3, h4⟩ := ixN_seq e
    exact ⟨j, h1, h, h2, h3, h4⟩
theorem atI_nat {α : Type} {xs : List α} {j : Nat} {v : α} (h : xs[j]? = some v) : atI xs (j : Int) = some v := by
  have hj : j < xs.length := (List.getElem?_eq_some_iff.mp h).1
  have e : ixN xs.length (j : Int) = some j := by
    unfold ixN
    rw [if_pos (by omega), if_pos (by omega)]; simp
  unfold atI; rw [e]; exact h
/-! ### what may be subscripted -/
/-- what stands as an index of a plain subscript -/
def PlainIx (b : Expr) : Prop := ∀ o i, subscripted b false o i = operate [o, i] (getItem o i)
/-- a subscript by values -/
def IxR (X : Cx) (r : R2) : Prop :=
  ∀ (value slice : Expr) (pins : List (Addr × Obj)) (s : Shared) (σ : St) (H : Hp) (x y : V) (v u : Value) (Q : VK), Inv X pins σ H s → RelV x v → RelV y u → r x y H Q →
    subscripted slice false v u = operate [v, u] (getItem v u) → wpAny (model X.prog X.w) X.A (subscriptTail value slice v u) (EP X pins σ Q) X.xe s
/-- a call of a builtin's method by values: the receiver, the arguments -/
def MtR (X : Cx) (id : String) (r : V → List V → Hp → VK → Prop) : Prop :=
  ∀ (pins : List (Addr × Obj)) (s : Shared) (σ : St) (H : Hp) (x : V) (xs : List V) (v : Value) (us : List Value) (Q : VK), Inv X pins σ H s → RelV x v → Vals xs us → r x xs H Q →
    wpAny (model X.prog X.w) X.A (call (.builtin id) (v :: us)) (EP X pins σ Q) X.xe s
section
variable {X : Cx} {a b : Expr} {ta tb : TE} {pos : Pos}
theorem IxR.or {r r' : R2} (h : IxR X r) (h' : IxR X r') : IxR X (fun x y H Q => r x y H Q ∨ r' x y H Q) := by
  intro value slice pins s σ H x y v u Q I rx ry q hs
  rcases q with q | q
  · exact h value slice pins s σ H x y v u Q I rx ry q hs
  · exact h' value slice pins s σ H x y v u Q I rx ry q hs
theorem MtR.or {id : String} {r r' : V → List V → Hp → VK → Prop} (h : MtR X id r) (h' : MtR X id r') : MtR X id (fun x xs H Q => r x xs H Q ∨ r' x xs H Q) := by
  intro pins s σ H x xs v us Q I rx rs q
  rcases q with q | q
  · exact h pins s σ H x xs v us Q I rx rs q
  · exact h' pins s σ H x xs v us Q I rx rs q
/-- a[b] -/
theorem pe_ix {r : R2} (hr : IxR X r) (ha : PE X a ta) (hb : PE X b tb) (hs : PlainIx b) : PE X (.Subscript a b pos) (tOp r ta tb) := by
  intro pins s σ H Q I h
  exact Subscript_ (binT ha hb I h fun v u s2 x y H2 I2 rx ry q => hr a b pins s2 σ H2 x y v u Q I2 rx ry q (hs _ _))

def rIxL (K : PySem.W.Frag) : R2 := fun x y H Q => ∃ p xs i v, x = .ref p ∧ y = .int i ∧ SqL K H p xs ∧ atI xs i = some v ∧ Q v H
def rIxT (K : PySem.W.Frag) : R2 := fun x y H Q => ∃ p xs i v, x = .ref p ∧ y = .int i ∧ SqT K H p xs ∧ atI xs i = some v ∧ Q v H
theorem ix_list : IxR X (rIxL X.K) := by
  intro value slice pins s σ H x y v u Q I rx ry h hs
  obtain ⟨p, xs, i, z, rfl, rfl, hq, he, q⟩ := h
  cases rx
  obtain ⟨t, rfl⟩ := ry
  obtain ⟨its, r, pl, hz⟩ := I.list hq
  obtain ⟨j, h1, h2, h3, h4, h5⟩ := atI_get he
  obtain ⟨w, ew, rw'⟩ := r.get h2
  have hl := r.length
  have hn := line63
  have fin : EP X pins σ Q w s := ⟨z, H, I, rw', q⟩
  by_cases h0 : 0 ≤ i
  · have hj : i.toNat = j := by
      rw [seqIndex_of h0 h5] at h1
      exact Option.some.inj h1
    exact item_listR pl.isList h0 (by omega) (by rw [hj]; simpa using ew) fin hs
  · have hj : (i + (its.toArray.size : Int)).toNat = j := by
      rw [seqIndex_neg (by omega) h4] at h1
      rw [List.size_toArray, ← hl]
      exact Option.some.inj h1
    exact subscriptTail_builtinR (x := w) pl.isList.typeIs slot_list_getitem.lookup
      (wpAny_getItem_list_neg (Q := fun r s' => r = w ∧ EP X pins σ Q r s') pl.isList (by omega) (by rw [List.size_toArray] <;> omega) (by omega) (by rw [hj]; simpa using ew) ⟨rfl, fin⟩) hs
theorem ix_tup : IxR X (rIxT X.K) := by
  intro value slice pins s σ H x y v u Q I rx ry h hs
  obtain ⟨p, xs, i, z, rfl, rfl, hq, he, q⟩ := h
  cases rx
  obtain ⟨t, rfl⟩ := ry
  obtain ⟨its, r, pl, hz⟩ := I.tuple hq
  obtain ⟨j, h1, h2, h3, h4, h5⟩ := atI_get he
  obtain ⟨w, ew, rw'⟩ := r.get h2
  have hl := r.length
  have hn := line63
  have fin : EP X pins σ Q w s := ⟨z, H, I, rw', q⟩
  exact subscriptTail_builtinR (x := w) pl.typeIs slot_tuple_getitem.lookup
    (getItem_tuple (j := j) (Q := fun r s' => r = w ∧ EP X pins σ Q r s') pl (by omega) (by omega) (by rw [List.size_toArray, ← hl]; exact h1) (by simpa using ew) ⟨rfl, fin⟩) hs
/-! ### xs[i] = v, any sign -/
/-- the list's object behind a store -/
theorem mapSeq_set (its : List Value) (n j : Nat) (u : Value) : Obj.mapSeq (·.setIfInBounds j u) { cls := .type "list", data := .seq its.toArray n } = { cls := .type "list", data := .seq (its.set j u).toArray n } := by
  simp [Obj.mapSeq]
theorem Inv.lst {pins : List (Addr × Obj)} {σ : St} {H : Hp} {s : Shared} {p : Addr} {xs : List V} (I : Inv X pins σ H s) (h : H p = some (.lst xs)) :
    ∃ (its : List Value) (n : Nat), Vals xs its ∧ s.heap.get? p = some { cls := .type "list", data := .seq its.toArray n } ∧ xs.length ≤ sizeLine := by
  obtain ⟨z, its, n, r, e⟩ := I.hok p _ h
  exact ⟨its, n, r, e, z⟩
/-- the list at p is written by an update of its object -/
theorem Inv.lstUpd {pins : List (Addr × Obj)} {σ : St} {H : Hp} {s : Shared} {p : Addr} {xs ys : List V} {its its' : List Value} {n n' : Nat} {f : Obj → Obj} (I : Inv X pins σ H s) (h : H p = some (.lst xs))
    (ho : s.heap.get? p = some { cls := .type "list", data := .seq its.toArray n }) (hf : f { cls := .type "list", data := .seq its.toArray n } = { cls := .type "list", data := .seq its'.toArray n' }) (r : Vals ys its') (hz : ys.length ≤ sizeLine) (t : Nat) :
    Inv X pins σ (upd H p (.lst ys)) { s with heap := s.heap.update p f, toks := t } := by
  have e : (s.heap.update p f).get? p = some { cls := .type "list", data := .seq its'.toArray n' } := by
    rw [Heap.get?_update_self f ho (by rw [hf] <;> rfl), hf]
  refine I.write (x := p) (e := p) (by rw [h]; trivial) (.inl rfl) (fun b u hb q => (Heap.get?_update_other _ _ (Ne.symm hb)).trans q) ⟨_, e⟩ ?_
  exact ⟨hz, its', n', r, e⟩
def rSetL : V → V → V → Hp → (Hp → Prop) → Prop := fun o i v H Q => ∃ p xs k j, o = .ref p ∧ i = .int k ∧ H p = some (.lst xs) ∧ ixN xs.length k = some j ∧ Q (upd H p (.lst (xs.set j v)))
theorem set_list : PSet X rSetL := by
  intro pins s σ H o i v ov iv u Q I ro ri rv h
  obtain ⟨p, xs, k, j, rfl, rfl, hp, hj, q⟩ := h
  cases ro
  obtain ⟨t, rfl⟩ := ri
  obtain ⟨its, n, r, ho, hz⟩ := I.lst hp
  obtain ⟨h1, h2, h3, h4⟩ := ixN_seq hj
  have hl := r.length
  have hn := line63
  have I' : Inv X pins σ (upd H p (.lst (xs.set j v))) { s with heap := s.heap.update p (Obj.mapSeq (·.setIfInBounds j u)) } :=
    I.lstUpd hp ho (mapSeq_set its n j u) (r.set rv j) (by rw [List.length_set]; exact hz) s.toks
  by_cases h0 : 0 ≤ k
  · have hk : k.toNat = j := by
      rw [seqIndex_of h0 h4] at h1
      exact Option.some.inj h1
    exact PySem.W.ki_setAt ho h0 (by omega) (by rw [List.size_toArray, ← hl]; exact h4) (by rw [hk]; exact ⟨_, I', q⟩)
  · have hk : (k + (its.toArray.size : Int)).toNat = j := by
      rw [seqIndex_neg (by omega) h3] at h1
      rw [List.size_toArray, ← hl]
      exact Option.some.inj h1
    exact PySem.W.ki_setBack ho (by omega) (by rw [List.size_toArray, ← hl]; exact h3) (by omega) (by rw [hk]; exact ⟨_, I', q⟩)

/-! ### slices -/
theorem slice_bounds (lo hi : Option Int) (n : Nat) : (sliceBounds lo hi none n).1 = ((HT.sIx n 0 lo : Nat) : Int) ∧ (sliceBounds lo hi none n).2.1 = ((HT.sIx n n hi : Nat) : Int) ∧ (sliceBounds lo hi none n).2.2 = 1 := by
  refine ⟨?_, ?_, rfl⟩
  · cases lo with
    | none => simp [sliceBounds, HT.sIx]
    | some i =>
      simp only [sliceBounds, HT.sIx, Option.getD_none, show (1 : Int) > 0 by decide, if_true]
      by_cases h : i < 0
      · simp only [h, if_true] <;> omega
      · simp only [h, if_false] <;> omega
  · cases hi with
    | none => simp [sliceBounds, HT.sIx]
    | some i =>
      simp only [sliceBounds, HT.sIx, Option.getD_none, show (1 : Int) > 0 by decide, if_true]
      by_cases h : i < 0
      · simp only [h, if_true] <;> omega
      · simp only [h, if_false] <;> omega
theorem slicePick_cut (its : List Value) (lo hi : Option Int) : slicePick its.toArray lo hi none = ((its.drop (HT.sIx its.length 0 lo)).take (HT.sIx its.length its.length hi - HT.sIx its.length 0 lo)).toArray := by
  obtain ⟨h1, h2, h3⟩ := slice_bounds lo hi its.toArray.size
  unfold slicePick
  rw [h1, h2, h3]
  simp only [sliceRange_one, pick_run, List.size_toArray] <;> rfl
/-- xs[lo:hi] of a list: a new list -/
def rSlL (K : PySem.W.Frag) : V → Option Int → Option Int → Hp → VK → Prop := fun x lo hi H Q => ∃ a xs, x = .ref a ∧ SqL K H a xs ∧ ∀ p, H p = none → Q (.ref p) (upd H p (.lst (cutV xs lo hi)))
theorem sl_list : SlR X (rSlL X.K) := by
  intro pins s σ H x v vl vu lo hi sl Q I rx hs pl pu h
  obtain ⟨a, xs, rfl, hx, q⟩ := h
  cases rx
  obtain ⟨its, r, ht, hz⟩ := I.list hx
  have hlen := r.length
  refine ⟨"list", _, slot_list_getitem.lookup, ht.isList.typeIs, ?_⟩
  refine wpAny_getItem_list_slice ht.isList hs pl pu .none (by simp) ?_ (by rw [List.size_toArray] <;> omega)
  rw [slicePick_cut, ← hlen]
  refine ⟨.ref s.heap.objs.size, _, I.laid (t' := s.toks) (o := .lst (cutV xs lo hi)) (fun b ob q => Heap.get?_push_of_some _ q) (Nat.le_refl _) ?_, rfl, q _ (I.hok.fresh (Nat.le_refl _))⟩
  exact ⟨Nat.le_trans (cutV_length xs lo hi) hz, _, 0, (r.drop (HT.sIx xs.length 0 lo)).take (HT.sIx xs.length xs.length hi - HT.sIx xs.length 0 lo), Heap.get?_push_size _ rfl⟩

/-! ### in, not in: flat items -/
def flatV : V → Bool
  | .non => true
  | .bl _ => true
  | .int _ => true
  | .str _ => true
  | _ => false
/-- == of flat values -/
def eqV : V → V → Bool
  | .non, .non => true
  | .bl a, .bl b => a == b
  | .bl a, .int b => (if a then 1 else 0) == b
  | .int a, .bl b => a == (if b then 1 else 0)
  | .int a, .int b => a == b
  | .str a, .str b => a == b
  | _, _ => false
theorem eqAt_V {A : Around} {s : Shared} {y x : V} {u v : Value} (ry : RelV y u) (rx : RelV x v) (fy : flatV y = true) (fx : flatV x = true) : SeqAt.EqAt A s u v (eqV y x) := by
  cases y with
  | non =>
    cases ry
    cases x with
    | non => cases rx; exact SeqAt.EqAt.same _
    | bl b => cases rx; exact SeqAt.EqAt.none_bool b
    | int b => obtain ⟨t, rfl⟩ := rx; exact SeqAt.EqAt.none_int b t
    | str b => obtain ⟨t, rfl⟩ := rx; exact SeqAt.EqAt.none_str b t
    | _ => exact absurd (show false = true from fx) Bool.false_ne_true
  | bl a =>
    cases ry
    cases x with
    | non => cases rx; exact SeqAt.EqAt.bool_none a
    | bl b => cases rx; exact SeqAt.EqAt.bool_bool a b
    | int b => obtain ⟨t, rfl⟩ := rx; exact SeqAt.EqAt.bool_int a b t
    | str b => obtain ⟨t, rfl⟩ := rx; exact SeqAt.EqAt.bool_str a b t
    | _ => exact absurd (show false = true from fx) Bool.false_ne_true
  | int a =>
    obtain ⟨t', rfl⟩ := ry
    cases x with
    | non => cases rx; exact SeqAt.EqAt.int_none a t'
    | bl b => cases rx; exact SeqAt.EqAt.int_bool a t' b
    | int b => obtain ⟨t, rfl⟩ := rx; exact SeqAt.EqAt.int_int a t' b t
    | str b => obtain ⟨t, rfl⟩ := rx; exact SeqAt.EqAt.int_str a t' b t
    | _ => exact absurd (show false = true from fx) Bool.false_ne_true
  | str a =>
    obtain ⟨t', rfl⟩ := ry
    cases x with
    | non => cases rx; exact SeqAt.EqAt.str_none a t'
    | bl b => cases rx; exact SeqAt.EqAt.str_bool a t' b
    | int b => obtain ⟨t, rfl⟩ := rx; exact SeqAt.EqAt.str_int a t' b t
    | str b => obtain ⟨t, rfl⟩ := rx; exact SeqAt.EqAt.str_str a t' b t
    | _ => exact absurd (show false = true from fx) Bool.false_ne_true
  | _ => exact absurd (show false = true from fy) Bool.false_ne_true
/-- the items' answers, read off the values (a value's own answer does not lean on its token) -/
def eqU (x : V) (u : Value) : Bool := match u with
  | .none => eqV .non x
  | .bool b => eqV (.bl b) x
  | .int i _ => eqV (.int i) x
  | .str z _ => eqV (.str z) x
  | _ => false
theorem eqU_of {x y : V} {u : Value} (r : RelV y u) (f : flatV y = true) : eqU x u = eqV y x := by
  cases y with
  | non => cases r; rfl
  | bl b => cases r; rfl
  | int i => obtain ⟨t, rfl⟩ := r; rfl
  | str z => obtain ⟨t, rfl⟩ := r; rfl
  | _ => exact absurd (show false = true from f) Bool.false_ne_true
theorem any_eqU {x : V} : ∀ {xs : List V} {us : List Value}, Vals xs us → xs.all flatV = true → us.any (eqU x) = xs.any fun y => eqV y x
  | _, _, .nil, _ => rfl
  | y :: xs, u :: us, .cons r t, f => by
    rw [List.all_cons, Bool.and_eq_true] at f
    rw [List.any_cons, List.any_cons, eqU_of r f.1, any_eqU t f.2]
theorem mem_eqAt {A : Around} {s : Shared} {x : V} {v : Value} (rx : RelV x v) (fx : flatV x = true) : ∀ {xs : List V} {us : List Value}, Vals xs us → xs.all flatV = true → ∀ u ∈ us, SeqAt.EqAt A s u v (eqU x u)
  | _, _, .nil, _ => fun u hu => by cases hu
  | y :: xs, u :: us, .cons r t, f => fun u' hu => by
    rw [List.all_cons, Bool.and_eq_true] at f
    rcases List.mem_cons.mp hu with rfl | hu
    · rw [eqU_of r f.1]; exact eqAt_V r rx f.1 fx
    · exact mem_eqAt rx fx t f.2 u' hu
def inV (x : V) (xs : List V) : Bool := xs.any fun y => eqV y x
/-- x in a list or tuple of flat items -/
def rIn (K : PySem.W.Frag) (neg : Bool) : R2 := fun x y H Q => ∃ p xs, y = .ref p ∧ (SqL K H p xs ∨ SqT K H p xs) ∧ flatV x = true ∧ xs.all flatV = true ∧ Q (.bl (if neg then !inV x xs else inV x xs)) H
theorem op_in_seq : OpR X (compareOp .In) (rIn X.K false) := by
  intro pins s σ H x y v u Q I rx ry h
  obtain ⟨p, xs, rfl, hq, fx, fs, q⟩ := h
  cases ry
  rcases hq with hq | hq
  · obtain ⟨its, r, pl, hz⟩ := I.list hq
    refine SeqAt.in_listAt (eqU x) pl.isList (fun w hw => mem_eqAt rx fx r fs w (by simpa using hw)) ⟨.bl _, H, I, rfl, ?_⟩
    rw [show its.toArray.any (eqU x) = its.any (eqU x) by simp, any_eqU r fs]
    exact q
  · obtain ⟨its, r, pl, hz⟩ := I.tuple hq
    refine SeqAt.in_tupleAt (eqU x) pl (fun w hw => mem_eqAt rx fx r fs w (by simpa using hw)) ⟨.bl _, H, I, rfl, ?_⟩
    rw [show its.toArray.any (eqU x) = its.any (eqU x) by simp, any_eqU r fs]
    exact q
/-! ### len, list(x), tuple(x) of any list or tuple that is read -/
theorem call_len_seq : CallR X (.builtin "len") (fun xs H Q => ∃ p ys, xs = [.ref p] ∧ (SqL X.K H p ys ∨ SqT X.K H p ys) ∧ Q (.int ys.length) H) := by
  intro pins s σ H xs us Q I r h
  obtain ⟨p, ys, rfl, hq, q⟩ := h
  obtain ⟨u, rfl, rx⟩ := vals1 r
  cases rx
  have hn := line63
  rcases hq with hq | hq
  · obtain ⟨its, r', pl, hz⟩ := I.list hq
    have hlen := r'.length
    exact Calls.call_len_list pl.isList (by simp only [List.size_toArray] <;> omega) ⟨.int ys.length, H, I.tok _, ⟨s.toks + 1, by rw [List.size_toArray, hlen]⟩, q⟩
  · obtain ⟨its, r', pl, hz⟩ := I.tuple hq
    have hlen := r'.length
    exact len_tuple pl (by simp only [List.size_toArray] <;> omega) ⟨.int ys.length, H, I.tok _, ⟨s.toks + 1, by rw [List.size_toArray, hlen]⟩, q⟩
theorem CallR.or {f : Value} {r r' : List V → Hp → VK → Prop} (h : CallR X f r) (h' : CallR X f r') : CallR X f (fun xs H Q => r xs H Q ∨ r' xs H Q) := by
  intro pins s σ H xs us Q I rs q
  rcases q with q | q
  · exact h pins s σ H xs us Q I rs q
  · exact h' pins s σ H xs us Q I rs q
theorem call_list_of : CallR X (.type "list") (fun xs H Q => ∃ p ys, xs = [.ref p] ∧ (SqL X.K H p ys ∨ SqT X.K H p ys) ∧ ∀ l, H l = none → Q (.ref l) (upd H l (.lst ys))) := by
  intro pins s σ H xs us Q I r h
  obtain ⟨p, ys, rfl, hq, q⟩ := h
  obtain ⟨u, rfl, rx⟩ := vals1 r
  cases rx
  have fin : ∀ (its : List Value), Vals ys its → ys.length ≤ sizeLine → ∀ (h' : Heap) (c' : Nat), (∀ b o', s.heap.get? b = some o' → h'.get? b = some o') →
      h'.get? s.heap.objs.size = some { cls := .type "list", dict := none, data := .seq its.toArray c', slots := #[] } → EP X pins σ Q (.ref s.heap.objs.size) { s with heap := h' } := fun its r' hz h' c' kp e =>
    ⟨.ref s.heap.objs.size, _, I.laid (t' := s.toks) kp (Nat.le_refl _) (show ObjOk X.prog X.w _ h' _ (.lst ys) from ⟨hz, its, c', r', e⟩), rfl, q _ (I.hok.fresh (Nat.le_refl _))⟩
  rcases hq with hq | hq
  · obtain ⟨its, r', pl, hz⟩ := I.list hq
    have hlen := r'.length
    obtain ⟨o, ho, hc, n, hd⟩ := pl.isList
    exact call_list_seq p (.inl rfl) ho hc hd (fun h' c' kp e => fin its r' hz h' c' kp e) (by simp only [List.size_toArray] <;> omega)
  · obtain ⟨its, r', pl, hz⟩ := I.tuple hq
    have hlen := r'.length
    obtain ⟨o, ho, hc, n, hd⟩ := pl
    exact call_list_seq p (.inr rfl) ho hc hd (fun h' c' kp e => fin its r' hz h' c' kp e) (by simp only [List.size_toArray] <;> omega)
theorem call_tuple_of : CallR X (.type "tuple") (fun xs H Q => ∃ p ys, xs = [.ref p] ∧ ((SqL X.K H p ys ∧ ∀ l, H l = none → Q (.ref l) (upd H l (.tup ys))) ∨ (SqT X.K H p ys ∧ Q (.ref p) H))) := by
  intro pins s σ H xs us Q I r h
  obtain ⟨p, ys, rfl, h⟩ := h
  obtain ⟨u, rfl, rx⟩ := vals1 r
  cases rx
  rcases h with ⟨hq, q⟩ | ⟨hq, q⟩
  · obtain ⟨its, r', pl, hz⟩ := I.list hq
    have hlen := r'.length
    refine call_tuple_list pl.isList (fun h' kp => ?_) (by simp only [List.size_toArray] <;> omega)
    have I1 : Inv X pins σ H { s with heap := h' } := I.kept (t' := s.toks) kp
    have I2 : Inv X pins σ (upd H h'.objs.size (.tup ys)) { s with heap := h'.push { cls := .type "tuple", data := .seq its.toArray } } :=
      I1.laid (t' := s.toks) (fun b o e => Heap.get?_push_of_some _ e) (Nat.le_refl _) (show ObjOk X.prog X.w _ _ _ (.tup ys) from ⟨hz, its, r', IsTup.new _ _⟩)
    exact ⟨.ref h'.objs.size, _, I2, rfl, q _ (I1.hok.fresh (Nat.le_refl _))⟩
  · obtain ⟨its, r', pl, hz⟩ := I.tuple hq
    exact call_tuple_same pl ⟨.ref p, H, I, rfl, q⟩

/-! ### the call of a builtin's method: o.m(..) -/
/-- the value is of that builtin type -/
def tyV (K : PySem.W.Frag) (T : String) (x : V) (H : Hp) : Prop := match x with
  | .str _ => T = "str"
  | .int _ => T = "int"
  | .ref p => (T = "list" ∧ ∃ xs, SqL K H p xs) ∨ (T = "tuple" ∧ ∃ o, K.lookup p = some o ∧ o.cls = .type "tuple" ∧ o.dict = none) ∨
      (T = "dict" ∧ ((∃ kvs, H p = some (.dK kvs)) ∨ ∃ kvs, H p = some (.dT kvs))) ∨ (T = "set" ∧ ∃ S n, H p = some (.set S n))
  | _ => False
theorem tyV_is {pins : List (Addr × Obj)} {σ : St} {H : Hp} {s : Shared} {T : String} {x : V} {v : Value} (I : Inv X pins σ H s) (r : RelV x v) (ty : tyV X.K T x H) :
    s.TypeIs v T ∧ ∀ a, v = .ref a → ∃ ob, s.heap.get? a = some ob ∧ ob.dict = none := by
  cases x with
  | str z =>
    obtain ⟨t, rfl⟩ := r
    cases (show T = "str" from ty)
    exact ⟨typeIs_str s z t, fun _ e => nomatch e⟩
  | int i =>
    obtain ⟨t, rfl⟩ := r
    cases (show T = "int" from ty)
    exact ⟨typeIs_int s i t, fun _ e => nomatch e⟩
  | ref p =>
    cases r
    rcases ty with ⟨rfl, xs, hq⟩ | ⟨rfl, o, hk, hc, hd⟩ | ⟨rfl, hk⟩ | ⟨rfl, S, n, hk⟩
    · obtain ⟨its, _, pl, _⟩ := I.list hq
      refine ⟨pl.isList.typeIs, fun a e => ?_⟩
      cases e
      obtain ⟨o, n, e, c, hd, _⟩ := pl
      exact ⟨o, e, hd⟩
    · refine ⟨⟨o, I.kIn p o hk, hc⟩, fun a e => ?_⟩
      cases e
      exact ⟨o, I.kIn _ o hk, hd⟩
    · have z : ∃ o, s.heap.get? p = some o ∧ o.ExactDict := by
        rcases hk with ⟨kvs, hk⟩ | ⟨kvs, hk⟩
        · obtain ⟨_, _, _, _, o, _, _, e, ex, _⟩ := I.hok p _ hk
          exact ⟨o, e, ex⟩
        · obtain ⟨_, _, _, _, o, _, _, e, ex, _⟩ := I.hok p _ hk
          exact ⟨o, e, ex⟩
      obtain ⟨o, e, ex⟩ := z
      refine ⟨⟨o, e, ex.1⟩, fun a e2 => ?_⟩
      cases e2
      exact ⟨o, e, ex.2.1⟩
    · obtain ⟨o, _, _, _, e, ex, _⟩ := I.hok p _ hk
      refine ⟨⟨o, e, ex.1⟩, fun a e2 => ?_⟩
      cases e2
      exact ⟨o, e, ex.2.1⟩
  | _ => exact False.elim ty
def tBM (K : PySem.W.Frag) (T : String) (r : V → List V → Hp → VK → Prop) (to : TE) (t : TA) : TE := fun σ H Q => to σ H fun x H1 => tyV K T x H1 ∧ t σ H1 fun xs H2 => r x xs H2 Q
variable {o e : Expr} {es : List Expr} {to : TE} {t : TA} {name : Str} {apos cpos : Pos} {T id : String} {r : V → List V → Hp → VK → Prop}
theorem pe_bm (pa : PlainAttrs T) (slot : Slot T name id) (hty : typeOf (.builtin id) = pure (.type "method_descriptor")) (hm : MtR X id r) (ho : PE X o to) (ha : PA X (e :: es) t)
    (hbase : attributeBase o name X.env (eval o X.env) = eval o X.env := by rfl)
    (hfew : ((backTo cpos (starEach (e :: es) X.env)).all (fun x => !x.1) && (backToKw cpos (keywordEach [] X.env)).all (fun x => x.1.isSome)
      && decide ((e :: es).length + ([] : List Keyword).length + (if ([] : List Keyword).isEmpty then 0 else 1) < 30)) = true := by rfl)
    (hline : (apos.endLine == cpos.line) = true := by rfl) (hs : starEach (e :: es) X.env = (false, eval e X.env) :: starEach es X.env := by rfl) (hplain : (backTo cpos (starEach es X.env)).any (·.1) = false := by rfl) :
    PE X (.Call (.Attribute o name apos) (e :: es) [] cpos) (tBM X.K T r to t) := by
  intro pins s σ H Q I h
  refine wpAny_Call_method_late hbase hfew hline rfl (thn (ho pins s σ H _ I h) fun v s1 ⟨x, H1, I1, r1, ty, q1⟩ => ?_)
  obtain ⟨h1, h2⟩ := tyV_is I1 r1 ty
  refine ⟨T, id, pa, slot, hty, h1, h2, ?_⟩
  have hA := ha cpos pins s1 σ H1 _ I1 q1
  rw [hs] at hA ⊢
  refine Calls.callWith_builtin (by show (false || (backTo cpos (starEach es X.env)).any (·.1)) = false; rw [hplain] <;> rfl) (Calls.evalArgs_plain ?_)
  exact thn hA fun us s2 ⟨vs, H2, I2, r2, q2⟩ => hm pins s2 σ H2 x vs v us Q I2 r1 r2 q2
/- xs.append(e), list.index on a module's tuple .. are MtR facts of 06m -/
end
end L2

namespace L2
open PySem PySem.Spec PyProof.Rows

def MtM (X : Cx) (id : String) (r : V → List V → Hp → VK → Prop) : Prop :=
  ∀ (pins : List (Addr × Obj)) (s : Shared) (σ : St) (H : Hp) (x : V) (xs : List V) (v : Value) (us : List Value) (Q : VK), Inv X pins σ H s → RelV x v → Vals xs us → r x xs H Q →
    wpAny (model X.prog X.w) X.A (call (.builtin id) (v :: us)) (EP X pins σ Q) X.xe s

/-! ### lists of values -/
theorem Vals.one : ∀ {x : V} {us : List Value}, Vals [x] us → ∃ u, us = [u] ∧ RelV x u
  | _, _, .cons r .nil => ⟨_, rfl, r⟩
theorem Vals.two : ∀ {x y : V} {us : List Value}, Vals [x, y] us → ∃ u v, us = [u, v] ∧ RelV x u ∧ RelV y v
  | _, _, _, .cons r (.cons q .nil) => ⟨_, _, rfl, r, q⟩
theorem Vals.zero : ∀ {us : List Value}, Vals [] us → us = []
  | _, .nil => rfl
theorem Vals.eraseIdx : ∀ {xs : List V} {us : List Value} (i : Nat), Vals xs us → Vals (xs.eraseIdx i) (us.eraseIdx i)
  | _, _, _, .nil => .nil
  | _, _, 0, .cons _ t => t
  | _, _, i + 1, .cons r t => .cons r (Vals.eraseIdx i t)
theorem Vals.reverse {xs : List V} {us : List Value} (h : Vals xs us) : Vals xs.reverse us.reverse := by
  induction h with
  | nil => exact .nil
  | cons r t ih => rw [List.reverse_cons, List.reverse_cons]; exact Vals.append ih (.cons r .nil)
section
variable {X : Cx} {pins : List (Addr × Obj)} {σ : St} {H : Hp} {s : Shared} {l b : Addr} {xs ys zs : List V}

/-! ### the two steps: a tracked list is rewritten, a new list is laid -/
theorem Inv.lset {its its' : List Value} {n : Nat} {f : Array Value → Array Value} {t' : Nat} (I : Inv X pins σ H s) (hH : H l = some (.lst xs))
    (e : s.heap.get? l = some { cls := .type "list", data := .seq its.toArray n }) (hf : f its.toArray = its'.toArray) (hv : Vals ys its') (hz : ys.length ≤ sizeLine) :
    Inv X pins σ (upd H l (.lst ys)) { s with heap := s.heap.update l (Obj.mapSeq f), toks := t' } := by
  have q := PySem.IsL.update e f
  rw [hf] at q
  refine I.write (x := l) (e := l) (by rw [hH]; exact trivial) (.inl rfl) (fun b' u hb hu => (Heap.get?_update_other s.heap (Obj.mapSeq f) (Ne.symm hb)).trans hu) ⟨_, q⟩ ?_
  exact ⟨hz, its', _, hv, q⟩
theorem Inv.lnew {its : List Value} {t' : Nat} (I : Inv X pins σ H s) (hv : Vals ys its) (hz : ys.length ≤ sizeLine) :
    Inv X pins σ (upd H s.heap.objs.size (.lst ys)) { s with heap := s.heap.push { cls := .type "list", data := .seq its.toArray }, toks := t' } :=
  I.laid (fun _ _ q => Heap.get?_push_of_some _ q) (Nat.le_refl _) ⟨hz, its, 0, hv, Heap.get?_push_size _ rfl⟩
theorem Inv.fresh (I : Inv X pins σ H s) : H s.heap.objs.size = none := I.hok.fresh (Nat.le_refl _)
theorem Inv.lstM (I : Inv X pins σ H s) (hH : H l = some (.lst xs)) : xs.length ≤ sizeLine ∧ ∃ (its : List Value) (n : Nat), Vals xs its ∧ xs.length = its.length ∧ s.heap.get? l = some { cls := .type "list", data := .seq its.toArray n } := by
  obtain ⟨z, its, n, r, e⟩ := I.hok l _ hH
  exact ⟨z, its, n, r, r.length, e⟩

end

section
variable {X : Cx}

/-! ### methods -/
def rAppend : V → List V → Hp → VK → Prop := fun x vs H Q => ∃ l xs y, x = .ref l ∧ vs = [y] ∧ H l = some (.lst xs) ∧ xs.length < sizeLine ∧ Q .non (upd H l (.lst (xs ++ [y])))
theorem mt_append : MtM X "list.append" rAppend := by
  intro pins s σ H x vs v us Q I rx rv h
  obtain ⟨l, xs, y, rfl, rfl, hH, hz, q⟩ := h
  cases rx
  obtain ⟨u, rfl, ru⟩ := rv.one
  obtain ⟨z, its, n, r, hl, e⟩ := I.lstM hH
  refine call_meets F.slot_list_append ⟨_, e, rfl⟩ F.entry_list_append (F.args_list_append_2 _ _) (PySem.list_append l its.toArray n u (by rw [List.size_toArray]; omega)) ⟨e, ?_⟩
  refine ⟨.non, _, I.lset (its' := its ++ [u]) hH e (by simp) (r.append (.cons ru .nil)) ?_, rfl, q⟩
  rw [List.length_append, List.length_singleton]
  omega

/-! ### list + list, list += list, list * int -/
def rCat : R2 := fun x y H Q => ∃ l b xs zs, x = .ref l ∧ y = .ref b ∧ H l = some (.lst xs) ∧ H b = some (.lst zs) ∧ xs.length + zs.length ≤ sizeLine ∧ ∀ p, H p = none → Q (.ref p) (upd H p (.lst (xs ++ zs)))
theorem op_cat : OpR X (binaryOp .Add) rCat := by
  intro pins s σ H x y v u Q I rx ry h
  obtain ⟨l, b, xs, zs, rfl, rfl, hH, hB, hz, q⟩ := h
  cases rx
  cases ry
  obtain ⟨z, its, n, r, hl, e⟩ := I.lstM hH
  obtain ⟨z2, its2, n2, r2, hl2, e2⟩ := I.lstM hB
  refine PySem.P.add_list e e2 ?_ (by rw [List.size_toArray, List.size_toArray]; omega)
  have ea : its.toArray ++ its2.toArray = (its ++ its2).toArray := by simp
  rw [ea]
  exact ⟨.ref _, _, I.lnew (t' := s.toks) (r.append r2) (by rw [List.length_append]; omega), rfl, q _ I.fresh⟩
/-! ### del xs[i] -/
end

/-! ### xs[a:b] = ys -/
section
variable {prog : Program} {w : World} {A : Around} {E : Value → Shared → Prop} {s : Shared}
end

section
variable {X : Cx}
end
end L2

namespace Att
open PySem PySem.W PySem.Calls PyProof.Rows

/-! ### the script -/
theorem ints_of_wellAll {P : Params} {h : Heap} : ∀ (ns : List Int) (vs : List Value), WellAll P h vs (ns.map WData.int) → IntsAre vs ns := by
  intro ns
  induction ns with
  | nil =>
    intro vs w
    rw [List.map_nil] at w
    cases w
    exact .nil
  | cons n ns ih =>
    intro vs w
    rw [List.map_cons] at w
    cases w with
    | cons a b =>
      cases a
      exact .cons _ _ (ih _ b)

theorem script_of {l : OpenLaw} {n : Nat} (hn : l.most = some n) {P : Params} {h : Heap} {args : List WData} {vals : List Value}
    (hpre : l.row.toRowW.claim.pre args = true) (hwl : WellAll P h vals args) :
    ∃ a vs ns, vals = [Value.ref a] ∧ args = [WData.list (ns.map WData.int)] ∧ h.get? a = some { cls := .type "list", data := .seq vs.toArray } ∧ IntsAre vs ns ∧ ns.length ≤ n := by
  have hsh : WShape.hasAll [] args [.list .int] = true := (pre_splitW hpre).1
  have hc : l.pre.holds [] { args := args } = true := (pre_splitW hpre).2
  obtain ⟨d, r, rfl, h1, h2⟩ := hasAllW_cons hsh
  obtain rfl := hasAllW_nil h2
  obtain ⟨xs, rfl, h3⟩ := hasW_list h1
  obtain ⟨ns, rfl⟩ := items_int h3
  have hlen : ns.length ≤ n := by
    unfold OpenLaw.pre at hc
    have h4 : (WTm.not (.lt (.lit (.int (n : Int))) (.len (.arg 0)))).holds [] { args := [.list (ns.map .int)] } = true := by
      have h4 := (holds_andW hc).1
      rw [hn] at h4
      exact h4
    have h5 := condW_of h4 (w_not (w_lt w_lit (w_len_list (w_arg rfl))))
    rw [List.length_map] at h5
    refine Nat.le_of_not_lt fun q => ?_
    have q' : (n : Int) < ((ns.length : Nat) : Int) := by omega
    first
      | (rw [decide_eq_true q'] at h5; exact absurd h5 (by decide))
      | (simp at h5; omega)
  cases hwl with
  | cons w1 w2 =>
    cases w2
    cases w1 with
    | list ho hall => exact ⟨_, _, ns, rfl, rfl, ho, ints_of_wellAll ns _ hall, hlen⟩

theorem post_true (l : OpenLaw) (args : List WData) : l.row.toRowW.claim.post args (.bool true) args = true :=
  postW_of (r := l.row.toRowW) (X := (true == true))
    (show WShape.has [] (.bool true) .bool = true by first | rfl | decide | simp [WShape.has, WShape.arms, WShape.armsAll])
    (show (WTm.eq .res (.lit (.bool true))).value [] { args := args, res := some (.bool true), after := args } = some (.bool (true == true)) from w_eq_bool (w_res rfl) w_lit) rfl

/-! ### the attachment: holds_open's last premise (the goal 'hc' behind k_head) from a wpAny of the law's body -/
/-- the same from a codeAny of the CALL (for a layer whose function contracts speak of calls) -/
theorem attach_call {l : OpenLaw} {n : Nat} {q : Program} {loose : List Str} {XP : (Str → Option Value) → Heap → Prop} {YP : World → Heap → Prop} {d : DefRec}
    (hn : l.most = some n) (hdf : d.params.defaults = [])
    (call : ∀ (w : World) (s₀ s₁ : Shared) (mg mb : Str → Option Value) (fa : Addr) (o : Obj) (pm cd doc : Value) (a : Addr) (vs : List Value) (ns : List Int),
      Ground q loose [] XP w s₀ mg mb s₁.heap → YP w s₁.heap →
      s₁.heap.get? fa = some o → o.data = .func (docDef d.name d.params d.body d.scope pm cd doc) → s₁.heap.CodeRec cd d.name → mg d.name = some (.ref fa) →
      s₁.heap.get? a = some { cls := .type "list", data := .seq vs.toArray } → IntsAre vs ns → ns.length ≤ n → s₁.gens = #[] →
      codeAny (model l.prog w) callerA (.call (.ref fa) ⟨[.ref a], []⟩) (fun r s' => r = .ok (.ret (.bool true)) ∧ OldK s₁.heap s'.heap ∧ s'.os = s₁.os ∧ AllBare s'.gens) s₁) :
    WalkO q loose XP YP l.row.toRowW d [] (fun f vs => PySem.call f vs) := by
  intro w s₀ s₁ mg mb G Y fa o pm cd doc dV kV ho hd hcd hD hmg hg args vals as hpre hlay hrd hwl hlo
  obtain rfl : dV = .none := Dflts.none hD hdf
  obtain rfl : kV = .none := Dflts.noKw hD
  obtain ⟨a, vs, ns, rfl, rfl, hobj, hints, hlen⟩ := script_of hn hpre hwl
  refine enter_call (codeAny_mono (call w s₀ s₁ mg mb fa o pm cd doc a vs ns G Y ho (fd_plain hd) hcd hmg hobj hints hlen hg) fun r s' hq => ?_)
  obtain ⟨rfl, h2, h3, h4⟩ := hq
  exact ⟨.inl ⟨.bool true, .bool true, [], rfl, fun _ => rfl, .bool true, post_true l _, fun _ => ⟨List.Pairwise.nil, fun _ hm => (nomatch hm)⟩⟩, h2, h3, h4⟩

/-! ### rules over ANY heap (no ledger) from facts about the written part K: the library's own take a ledger (News) for what they write -/
section
variable {prog : Program} {w : World} {A : Around} {E : Value → Shared → Prop} {s : Shared} {K : Frag}

/-! the whole heap as the ledger: makes every rule that writes through a ledger a rule over any heap -/
def ledger (h : Heap) (L d : Addr) : List (Addr × Obj) := (List.range h.objs.size).filterMap fun a => if a = L ∨ a = d then none else (h.get? a).map fun o => (a, o)
end
end Att

namespace L2
open PySem PySem.Spec PyProof.Rows

theorem vals_ints : ∀ {vs : List Value} {ns : List Int}, IntsAre vs ns → Vals (ns.map V.int) vs
  | _, _, .nil => .nil
  | _, _, .cons n t h => .cons ⟨t, rfl⟩ (vals_ints h)

/-- nothing is tracked but the script, known to the object (or it is an object of the module) -/
def Only (H : Hp) : Prop := ∀ b, H b = none ∨ ∃ o xs, H b = some (.frz o (.lst xs))

/-- THE HEAD: the law's promise, at the heap behind the top. F, the promise of the law's def, may use that base is part of the heap (so K.In base, base.Ns mainGlobals mg stand in Mod) -/
theorem law_call {P : Program} {w : World} {K : PySem.W.Frag} {mg mb : Str → Option Value} {CX : CXT} {k : Nat} {fa a : Addr} {fd : FuncData} {x : Str} {sp : Sp} {s₁ : Shared} {vs : List Value} {ns : List Int}
    (KX : K.In s₁.heap) (hns : s₁.heap.Ns mainGlobals mg) (hb : s₁.heap.Ns builtinsNs mb) (hbb : ∀ x : Str, x ≠ "__name__" → mb x = bootBuiltins x) (hlim : s₁.heap.NoLimit) (hg : s₁.gens = #[])
    (ha : s₁.heap.get? a = some { cls := .type "list", data := .seq vs.toArray }) (hi : IntsAre vs ns) (hl : ns.length ≤ sizeLine) (hr : Room k callerA)
    (F : ∀ base : Heap, K.In base → base.Ns mainGlobals mg → FnOk P w K mg base CX k fa fd [x] sp) (hbind : ∀ (s : Shared) (u : Value), BindsTo s fd ⟨[u], []⟩ [(x, u)])
    (hsp : ∀ H : Hp, Only H → SqL K H a (ns.map V.int) → sp [.ref a] H (fun v _ => v = .bl true) fun _ _ _ => False)
    (hCX : ∀ H e s', CX [] H s₁ (fun _ _ _ => False) e s' → False) :
    codeAny (model P w) callerA (.call (.ref fa) ⟨[.ref a], []⟩) (fun r s' => r = .ok (.ret (.bool true)) ∧ OldK s₁.heap s'.heap ∧ s'.os = s₁.os ∧ AllBare s'.gens) s₁ := by
  have rv := vals_ints hi
  have lenV := hi.length
  -- from an abstract heap in which nothing but the script may be tracked
  have core : ∀ H : Hp, Only H → SqL K H a (ns.map V.int) → HOk P w H s₁.heap → (∀ b, H b ≠ none → b = a) → (H a ≠ none → K.lookup a = none) →
      codeAny (model P w) callerA (.call (.ref fa) ⟨[.ref a], []⟩) (fun r s' => r = .ok (.ret (.bool true)) ∧ OldK s₁.heap s'.heap ∧ s'.os = s₁.os ∧ AllBare s'.gens) s₁ := by
    intro H hO hS hok hA hK
    have base_of : ∀ {b : Addr} {o : Obj}, s₁.heap.get? b = some o → H b = none → (hidT s₁.heap H).get? b = some o := fun e n => hidT_get e n
    have noA : ∀ {b : Addr} {o : Obj} {es : Array DictEntry} {ep : Nat}, s₁.heap.get? b = some o → o.data = .dict es ep → H b = none := fun {b o es ep} e d => by
      cases q : H b with
      | none => rfl
      | some u =>
        have e' : b = a := hA b (by rw [q]; simp)
        subst e'
        rw [ha] at e; cases e
        have d' : Data.seq vs.toArray _ = Data.dict es ep := d
        cases d'
    have nsK : ∀ {b : Addr} {m : Str → Option Value}, s₁.heap.Ns b m → (hidT s₁.heap H).Ns b m := fun {b m} ⟨o, es, ep, e, d, r⟩ => ⟨o, es, ep, base_of e (noA e d), d, r⟩
    have hKb : K.In (hidT s₁.heap H) := fun b o e => base_of (KX b o e) (by
      cases q : H b with
      | none => rfl
      | some u =>
        have e' : b = a := hA b (by rw [q]; simp)
        subst e'
        rw [hK (by rw [q]; simp)] at e; cases e)
    have hM : Mod K mg (hidT s₁.heap H) := ⟨hKb, nsK hns, ⟨mb, nsK hb, hbb⟩, let ⟨mc, h1, h2⟩ := hlim; ⟨mc, nsK h1, h2⟩⟩
    have e0 : Env0 P w K mg (hidT s₁.heap H) callerA [] s₁ H := ⟨rfl, hM, fun b o e => of_hidT e, Nat.le_of_eq (hidT_size _ _), trivial, fun b hb => absurd (show b ∈ ([] : List Addr) from hb) (by simp), hok, .of_eq hg⟩
    refine codeAny_mono ((F _ hKb (nsK hns)).run callerA [] s₁ H ⟨[.ref a], []⟩ [.ref a] [.ref a] _ _ hr e0 (hbind s₁ (.ref a)) (.cons rfl .nil) (hsp H hO hS)) fun r s' h => ?_
    cases r with
    | error e => exact (hCX H e s' h).elim
    | ok fl =>
      cases fl with
      | next => exact False.elim h
      | brk => exact False.elim h
      | cont => exact False.elim h
      | ret u =>
        obtain ⟨v, H', os, bare, un, hok', r', q⟩ := h
        have q' : v = .bl true := q
        subst q'
        obtain rfl : u = Value.bool true := r'
        refine ⟨rfl, OldK.of_keep fun b o e => ?_, os, bare⟩
        cases q : H b with
        | none => exact un.keep b o e q (by intro z; exact absurd (show b ∈ ([] : List Addr) from z) (by simp)) (by simp)
        | some u =>
          rcases hO b with z | ⟨ob, xs, z⟩
          · rw [q] at z; cases z
          · have z2 := un.frzs b ob _ z
            obtain ⟨e1, _⟩ := hok b _ z
            obtain ⟨e2, _⟩ := hok' b _ z2
            rw [e] at e1; cases e1
            exact e2
  cases hk : K.lookup a with
  | some o =>
    -- the script is one of the module's own objects
    have e := KX a o hk
    rw [ha] at e
    cases e
    refine core (fun _ => none) (fun _ => .inl rfl) (.inr ⟨_, vs.toArray, _, hk, rfl, rfl, rfl, by rw [List.size_toArray, lenV]; exact hl, by simpa using rv⟩) (fun b u z => by have z' : (none : Option HO) = some u := z; cases z') (fun b z => absurd rfl z) fun z => absurd rfl z
  | none =>
    refine core (fun b => if b = a then some (.frz { cls := .type "list", data := .seq vs.toArray } (.lst (ns.map V.int))) else none) (fun b => ?_) (.inl (.inr ⟨{ cls := .type "list", data := .seq vs.toArray }, if_pos rfl⟩)) (fun b u z => ?_) (fun b z => ?_) fun _ => hk
    · by_cases hb : b = a
      · exact .inr ⟨_, _, if_pos hb⟩
      · exact .inl (if_neg hb)
    · by_cases hb : b = a
      · have z' := (if_pos hb).symm.trans z
        cases z'
        subst hb
        exact ⟨ha, by rw [List.length_map]; exact hl, vs, _, rv, ha⟩
      · have z' := (if_neg hb).symm.trans z
        cases z'
    · by_cases hb : b = a
      · exact hb
      · exact absurd (if_neg hb) z
end L2

namespace L2
open PySem PySem.Spec PyProof.Rows

abbrev KOf {K : PySem.W.Frag} {h : Heap} (_ : K.In h) : PySem.W.Frag := K

/-- the goal that k_head leaves (case hc), from the law's promise. F gives the function object fd (K's own) once, then the promise over every base -/
theorem walk_of {l : PySem.W.OpenLaw} {n k : Nat} {q : Program} {loose : List Str} {XP : (Str → Option Value) → Heap → Prop} {YP : World → Heap → Prop} {d : DefRec} {K : Params → PySem.W.Frag} {CX : World → CXT} {sp : World → Sp} {x : Str}
    (hn : l.most = some n) (hn2 : n ≤ sizeLine) (hdf : d.params.defaults = []) (hr : Room k callerA)
    (hY : ∀ (w : World) (h : Heap), YP w h → (K w.params).In h)
    (F : ∀ (w : World) (mg : Str → Option Value) (fa : Addr) (h : Heap), (K w.params).In h → h.Ns mainGlobals mg → mg d.name = some (.ref fa) →
      ∃ fd : FuncData, (∀ (s : Shared) (u : Value), BindsTo s fd ⟨[u], []⟩ [(x, u)]) ∧
        ∀ base : Heap, (K w.params).In base → base.Ns mainGlobals mg → FnOk l.prog w (K w.params) mg base (CX w) k fa fd [x] (sp w))
    (hsp : ∀ (w : World) (H : Hp) (a : Addr) (ns : List Int), ns.length ≤ n → Only H → SqL (K w.params) H a (ns.map V.int) → sp w [.ref a] H (fun v _ => v = .bl true) fun _ _ _ => False)
    (hCX : ∀ (w : World) (H : Hp) (s : Shared) (e : Value) (s' : Shared), CX w [] H s (fun _ _ _ => False) e s' → False) :
    PySem.W.WalkO q loose XP YP l.row.toRowW d [] (fun f vs => PySem.call f vs) := by
  refine Att.attach_call hn hdf fun w s₀ s₁ mg mb fa o pm cd doc a vs ns G Y ho hd hcd hmg hobj hints hlen hg => ?_
  have KX := hY w _ Y
  obtain ⟨fd, hb, hF⟩ := F w mg fa _ KX G.T.g hmg
  exact law_call KX G.T.g G.T.b G.T.builtins G.T.nolimit hg hobj hints (Nat.le_trans hlen hn2) hr hF hb (fun H hO hS => hsp w H a ns hlen hO hS) fun H e s' => hCX w H s₁ e s'
end L2

/- THE LAST THEOREM (shape; LID, My.* are yours):
   My.Adr: a structure of the addresses that your layer names (classes, functions); My.Txt K t: a structure (Prop) of the equations over K;
   My.txt_mk : {K} {implicit addresses ..} (e1 : nsIn K mainGlobals "law" = some (some (.ref f))) (e2 : K.lookup f = some ⟨oc, od, .func (fnOf "law" "law" params body scope dV kV doc pm an cdv ct), sl⟩) (e3 : codeIn K cdv "law" = true) .. : ∃ t, My.Txt K t

set_option maxRecDepth 100000 in
set_option maxHeartbeats 0 in
theorem PySem.Challenge.cw_LID_holds : PySem.Challenge.rw_LID.Holds := by
  w_on; o_law; k_head; (case hw => w_witness2)
  k_fill
  refine L2.walk_of (l := PySem.Challenge.rw_LID) (n := 63) (k := 40) (x := "script") (CX := fun w => ..) (sp := fun _ => My.sp_law) rfl (by decide) rfl ⟨rfl, by decide, by decide⟩ (fun w h Y => PySem.W.kIn_of Y) ?F ?S ?C
  case F =>
    intro w mg fa h KX G hmg
    have T : ∃ t, My.Txt (L2.KOf KX) t := by
      dsimp only [L2.KOf]                          -- K must stand as «<heap const> w.params» for k_is
      refine' My.txt_mk ?e1 ?e2 ?e3 ..
      (case e1 => PySem.W.k_is)                    -- in the order: a name -> its address -> its object -> its parts
      (case e2 => PySem.W.k_is)
      ..
    obtain ⟨t, T⟩ := T
    have e0 := hmg.symm.trans (PySem.W.mg_of KX G T.law)
    cases e0                                       -- fa is the law's own address
    exact ⟨_, fun s u => .of_eq rfl, fun base kb nb => My.law_fn T kb nb⟩     -- if «.of_eq rfl» comes too early: refine' ⟨_, ?b, fun base kb nb => My.law_fn T kb nb⟩; exact fun s u => .of_eq rfl
  case S => exact fun w H a ns hl hO hS => ..
  case C => exact ..
(the tactic k_is has no namespace: write k_is) -/

/-! SHORT WORDS over the layer: a def of the text, its body, what a loop and a test want. -/
namespace L2
open PySem PySem.Spec PyProof.Rows

/-! ### the text by places -/
def defArgs (s : Stmt) : Arguments := match s with
  | .FunctionDef _ a _ _ _ _ _ _ _ _ => a
  | _ => { posonlyargs := [], args := [], vararg := none, kwonlyargs := [], kw_defaults := [], kwarg := none, defaults := [] }
def defBody (s : Stmt) : List Stmt := match s with
  | .FunctionDef _ _ b _ _ _ _ _ _ _ => b
  | _ => []
def defScope (s : Stmt) : Scope := match s with
  | .FunctionDef _ _ _ _ _ _ sc _ _ _ => sc
  | _ => { kind := .function, names := [], isGenerator := false, isCoroutine := false }

/-! ### no exception leaves a def -/
abbrev CX0 : CXT := fun _ _ _ _ _ _ => False
abbrev E0 : XK := fun _ _ _ => False
theorem pass0 {X : Cx} : Passes CX0 X E0 := fun _ _ _ _ _ _ _ h => h.elim

/-! ### a def (or method) of the text as it stands behind the top -/
structure Fun (K : PySem.W.Frag) (x qual : Str) (st : Stmt) (f : Addr) (fd : FuncData) : Prop where
  ex : ∃ (oc : Value) (od : Option Addr) (kV doc pm : Value) (an : Option Addr) (cdv ct : Value) (osl : Array (Option Value)),
    fd = PySem.W.fnOf x qual (defArgs st) (defBody st) (defScope st) .none kV doc pm an cdv ct ∧ K.lookup f = some ⟨oc, od, .func fd, osl⟩ ∧ PySem.W.codeIn K cdv qual = true
  kp : PySem.W.keepIn K (.ref f) = true
section
variable {P : Program} {w : World} {K : PySem.W.Frag} {mg : Str → Option Value} {base : Heap}
/-- THE RULE for a def: its body as a term of rules, and the reading of that term -/
theorem Fun.ok {x qual : Str} {st : Stmt} {f : Addr} {fd : FuncData} {N ps : List Str} {k : Nat} {sp : Sp} (F : Fun K x qual st f fd) (S : FnScope N ps (defScope st)) (len : ∀ vs H Q E, sp vs H Q E → vs.length = ps.length)
    (hbody : ∀ (cdv : Value) (A : Around) (outer : List Env) (s : Shared) (H : Hp) (vs : List V) (Q : VK) (E : XK), Room k (A.deeper (envOfC qual (defScope st) s.heap.objs.size f cdv)) → sp vs H Q E →
      ∃ t, PSs (cxOf CX0 P w K mg base N qual (defScope st) f cdv A outer s H E).nox (defBody st) t ∧ t { nx := fun _ H' => Q .non H', rt := Q } (start N vs) H) : FnOk P w K mg base CX0 (k + 1) f fd ps sp := by
  obtain ⟨oc, od, kV, doc, pm, an, cdv, ct, osl, rfl, lk, hcd⟩ := F.ex
  refine fn_of lk hcd S len fun A outer s H vs Q E hr hsp => ?_
  obtain ⟨t, h, q⟩ := hbody cdv A outer s H vs Q E hr hsp
  exact ⟨t, h.nox, q⟩
/-- how its arguments bind (no defaults): h is «fun _ _ _ _ _ _ us hl => match us, hl with | [_, _], _ => rfl», one _ a parameter -/
theorem Fun.binds {x qual : Str} {st : Stmt} {f : Addr} {fd : FuncData} {ps : List Str} (F : Fun K x qual st f fd)
    (h : ∀ (kV doc pm : Value) (an : Option Addr) (cdv ct : Value) (us : List Value), us.length = ps.length → bindArgs (PySem.W.fnOf x qual (defArgs st) (defBody st) (defScope st) .none kV doc pm an cdv ct) ⟨us, []⟩ = pure (ps.zip us)) : Binds K fd ps [] := by
  obtain ⟨oc, od, kV, doc, pm, an, cdv, ct, osl, rfl, lk, hcd⟩ := F.ex
  exact .all (h kV doc pm an cdv ct)
theorem fun_mk {x qual : Str} {st : Stmt} {f : Addr} {oc : Value} {od an : Option Addr} {osl : Array (Option Value)} {kV doc pm cdv ct : Value} (l : K.lookup f = some ⟨oc, od, .func (PySem.W.fnOf x qual (defArgs st) (defBody st) (defScope st) .none kV doc pm an cdv ct), osl⟩)
    (c : PySem.W.codeIn K cdv qual = true) (k : PySem.W.keepIn K (.ref f) = true) : Fun K x qual st f (PySem.W.fnOf x qual (defArgs st) (defBody st) (defScope st) .none kV doc pm an cdv ct) := ⟨⟨oc, od, kV, doc, pm, an, cdv, ct, osl, rfl, l, c⟩, k⟩
end
theorem small1000 {n : Nat} (h : n ≤ 1000) : n < sizeLine := Nat.lt_of_le_of_lt h (by decide)

/-! ### expressions in short: the name that stands in the i-th slot -/
section
variable {X : Cx}
theorem pv (i : Nat) {x : Str} {pos : Pos} (hN : X.N[i]? = some x := by rfl) (hv : Vis X.env.scope x := by first | exact Or.inl rfl | exact Or.inr (Or.inl rfl) | exact Or.inr (Or.inr rfl)) (hd : (x == ("__debug__" : Str)) = false := by decide)
    (hcd : (x == ("__classdict__" : Str)) = false := by decide) : PE X (.Name x pos) (tVar i) := pe_var hN hv hd hcd
end

/-! ### tests -/
theorem iteF {A B : Prop} (h : B) : if false = true then A else B := by
  rw [if_neg Bool.false_ne_true]
  exact h
theorem iteT {A B : Prop} (h : A) : if true = true then A else B := by
  rw [if_pos rfl]
  exact h
theorem ite2 {c A B : Prop} [Decidable c] (h1 : c → A) (h2 : ¬ c → B) : if c then A else B := by
  by_cases h : c
  · rw [if_pos h]
    exact h1 h
  · rw [if_neg h]
    exact h2 h
/-! ### heaps -/
/-- all that was tracked is as it was -/
def Same (H H' : Hp) : Prop := ∀ b o, H b = some o → H' b = some o
theorem Same.refl (H : Hp) : Same H H := fun _ _ h => h
theorem Same.trans {H H1 H2 : Hp} (a : Same H H1) (b : Same H1 H2) : Same H H2 := fun c o h => b c o (a c o h)
theorem Same.free {H H' : Hp} (e : Same H H') {l : Addr} (h : H' l = Option.none) : H l = Option.none := by
  cases q : H l with
  | none => rfl
  | some o =>
    rw [e l o q] at h
    cases h
theorem Same.seq {K : PySem.W.Frag} {H H' : Hp} {a : Addr} {xs : List V} (e : Same H H') (h : SqL K H a xs) : SqL K H' a xs := by
  rcases h with (h | ⟨o, h⟩) | h
  · exact .inl (.inl (e _ _ h))
  · exact .inl (.inr ⟨o, e _ _ h⟩)
  · exact .inr h

end L2

namespace Oh
open PySem PySem.Spec PyProof.Rows L2
abbrev St := L2.St
theorem compLoop_any {prog : Program} {w : World} {A : Around} {R : Result → Shared → Prop} {s : Shared} {elt target iter : Expr} {ifs : List Expr} {scope : Scope} {pos : Pos} {it acc : Value} {env : Env} (I : Nat → Shared → Prop)
    (turn : ∀ n s, I n s → wpAny (model prog w) A (pyNext it) (fun r s₁ => match r with
      | none => R (.ok .next) s₁
      | some v => wpAny (model prog w) A (letOwnedTupleGo target it v) (fun _ s₁' => wpAny (model prog w) A (assign target env v) (fun _ s₂ =>
          wpAny (model prog w) A (forIn ifs true fun c r => if r = true then do let ok ← isTrue c env (eval c env); pure (ForInStep.yield ok) else pure (ForInStep.yield r)) (fun ok s₃ =>
            if ok = true then wpAny (model prog w) A (eval elt env) (fun x s₄ =>
              wpAny (model prog w) A (call (.builtin "list.append") [acc, x]) (fun _ s₅ => ∃ m, m < n ∧ I m s₅) (fun _ _ => False) s₄) (fun _ _ => False) s₃
            else ∃ m, m < n ∧ I m s₃) (fun _ _ => False) s₂) (fun _ _ => False) s₁') (fun _ _ => False) s₁) (fun _ _ => False) s)
    (n : Nat) (h : I n s) :
    codeAny (model prog w) A (.compLoop (.ListComp elt [⟨target, iter, ifs, 0⟩] scope pos) 0 it acc env) R s := by
  refine codeAny_loop rfl I (fun n s hI => ?_) n h
  show wpAny _ A ((compTurn (.ListComp elt [⟨target, iter, ifs, 0⟩] scope pos) 0 it acc env).onRaise (fun x => do noteFrame x env; theTreesLotGoes x)) _ _ s
  refine wpAny_noted ?_
  rw [compTurn_list]
  refine wpAny_bind (wpAny_standAt (wpAny_bind (wpAny_mono (turn n s hI) (fun r s₁ h₁ => ?_) fun _ _ h' => h'.elim)))
  cases r with
  | none => exact wpAny_pure h₁
  | some v =>
    refine wpAny_bind (wpAny_mono h₁ (fun _ s₁' h₁' => ?_) fun _ _ h' => h'.elim)
    refine wpAny_bind (wpAny_mono h₁' (fun _ s₂ h₂ => wpAny_bind (wpAny_mono h₂ (fun ok s₃ h₃ => ?_) fun _ _ h' => h'.elim)) fun _ _ h' => h'.elim)
    cases ok with
    | false => exact wpAny_pure ⟨rfl, h₃⟩
    | true =>
      exact wpAny_bind (wpAny_bind (wpAny_mono h₃ (fun x s₄ h₄ => wpAny_bind (wpAny_mono h₄ (fun _ s₅ h₅ => wpAny_pure (wpAny_pure ⟨rfl, h₅⟩)) fun _ _ h' => h'.elim)) fun _ _ h' => h'.elim))

def clOf (cells : List (Str × Addr)) : List (Str × NameKind) → List (Str × Addr) → List (Str × Addr)
  | [], cs => cs
  | (n, k) :: r, cs => if k == .free then clOf cells r ((n, (cells.lookup n).getD 0) :: cs) else clOf cells r cs
theorem closureFor_eq {scope : Scope} {env : Env} (h : ∀ y ∈ scope.names, y.2 = .free → ∃ c, env.cells.lookup y.1 = some c) : closureFor scope env = pure (clOf env.cells scope.names []) := by
  unfold closureFor
  generalize hl : scope.names = l at h
  clear hl
  suffices go : ∀ (l : List (Str × NameKind)) (cs : List (Str × Addr)), (∀ y ∈ l, y.2 = .free → ∃ c, env.cells.lookup y.1 = some c) →
      (forIn l cs fun (x : Str × NameKind) (r : List (Str × Addr)) => match x with | (name, kind) => if (kind == NameKind.free) = true then do let c ← cellOf env name; pure (ForInStep.yield ((name, c) :: r)) else pure (ForInStep.yield r) : Sem _) = pure (clOf env.cells l cs) by
    have := go l [] h
    simp only [] at this ⊢
    rw [this]; rfl
  intro l
  induction l with
  | nil => intro cs _; rfl
  | cons y r ih =>
    intro cs hy
    obtain ⟨n, k⟩ := y
    rw [List.forIn_cons]
    by_cases hk : k = .free
    · subst hk
      obtain ⟨c, hc⟩ := hy (n, .free) List.mem_cons_self rfl
      have hc' : env.cells.lookup n = some c := hc
      simp only [beq_self_eq_true, if_true]
      have e : cellOf env n = pure c := by unfold cellOf; rw [hc']
      rw [e]
      simp only [pure_bind]
      rw [ih _ fun z hz => hy z (List.mem_cons_of_mem _ hz)]
      simp [clOf, hc']
    · have hb : (k == NameKind.free) = false := by simpa using hk
      simp only [hb, Bool.false_eq_true, if_false, pure_bind]
      rw [ih _ fun z hz => hy z (List.mem_cons_of_mem _ hz)]
      simp [clOf, hb]
theorem clOf_mem {cells : List (Str × Addr)} : ∀ {l : List (Str × NameKind)} {cs : List (Str × Addr)} {p : Str × Addr}, p ∈ clOf cells l cs → p ∈ cs ∨ ((p.1, NameKind.free) ∈ l ∧ p.2 = (cells.lookup p.1).getD 0)
  | [], _, _, h => .inl h
  | (n, k) :: r, cs, p, h => by
    unfold clOf at h
    split at h
    · rename_i hk
      have hk' : k = .free := by simpa using hk
      subst hk'
      rcases clOf_mem h with q | ⟨q1, q2⟩
      · rcases List.mem_cons.mp q with q | q
        · subst q; exact .inr ⟨List.mem_cons_self, rfl⟩
        · exact .inl q
      · exact .inr ⟨List.mem_cons_of_mem _ q1, q2⟩
    · rcases clOf_mem h with q | ⟨q1, q2⟩
      · exact .inl q
      · exact .inr ⟨List.mem_cons_of_mem _ q1, q2⟩
theorem clOf_old {cells : List (Str × Addr)} : ∀ {l : List (Str × NameKind)} {cs : List (Str × Addr)} {p : Str × Addr}, p ∈ cs → p ∈ clOf cells l cs
  | [], _, _, h => h
  | (n, k) :: r, cs, p, h => by
    unfold clOf
    split
    · exact clOf_old (List.mem_cons_of_mem _ h)
    · exact clOf_old h
theorem clOf_has {cells : List (Str × Addr)} {x : Str} : ∀ {l : List (Str × NameKind)} {cs : List (Str × Addr)}, (x, NameKind.free) ∈ l → (x, (cells.lookup x).getD 0) ∈ clOf cells l cs
  | (n, k) :: r, cs, h => by
    unfold clOf
    rcases List.mem_cons.mp h with q | q
    · obtain ⟨rfl, rfl⟩ := Prod.mk.inj q
      simp only [beq_self_eq_true, if_true]
      exact clOf_old List.mem_cons_self
    · split
      · exact clOf_has q
      · exact clOf_has q
theorem lookup_mem {α : Type} {x : Str} {c : α} : ∀ {l : List (Str × α)}, l.lookup x = some c → (x, c) ∈ l
  | (n, k) :: r, h => by
    rw [List.lookup_cons] at h
    cases hx : x == n with
    | true =>
      rw [hx] at h
      have e := eq_of_beq hx
      simp at h
      subst h; subst e
      exact List.mem_cons_self
    | false =>
      rw [hx] at h
      exact List.mem_cons_of_mem _ (lookup_mem h)
theorem mem_lookup {α : Type} {x : Str} {c : α} : ∀ {l : List (Str × α)}, (x, c) ∈ l → ∃ d, l.lookup x = some d
  | (n, k) :: r, h => by
    rw [List.lookup_cons]
    cases hx : x == n with
    | true => exact ⟨k, rfl⟩
    | false =>
      rcases List.mem_cons.mp h with q | q
      · obtain ⟨rfl, rfl⟩ := Prod.mk.inj q
        simp at hx
      · exact mem_lookup q

/-! ### an object that lies there untracked is tracked from now on -/
section
variable {X : Cx} {pins : List (Addr × Obj)} {σ : St} {H : Hp} {s : Shared} {D : Addr} {o : HO}
theorem HOk_track {P : Program} {w : World} {H : Hp} {h : Heap} {a : Addr} {o : HO} (x : HOk P w H h) (hn : H a = none) (new : ObjOk P w (upd H a o) h a o) : HOk P w (upd H a o) h := fun b u e => by
  by_cases hb : b = a
  · subst hb; rw [upd_same] at e; cases e; exact new
  · rw [upd_ne hb] at e
    exact (x b u e).stay (fun c v _ q => q) (fun c q => by rw [upd_ne (ne_of_none q hn)]; exact q) fun c xs q => by rw [upd_ne (ne_of_none q hn)]; exact q
theorem Inv_track (I : Inv X pins σ H s) (f : FpOk X pins H D) (new : ObjOk X.prog X.w (upd H D o) s.heap D o) : Inv X pins σ (upd H D o) s := by
  obtain ⟨f0, f1, f2, f3, f4, f5⟩ := f
  have J := I.step (g' := s.gens) (d' := s.drawn) (t' := s.toks) (h' := s.heap) (H' := upd H D o) (ch := [D]) (fun b hb => by
      have e : b = D := by simpa using hb
      subst e; exact ⟨f3, f1, f4, f5⟩) (fun b ob _ _ _ e _ => e) (fun b ob _ _ _ e _ => ⟨ob.slots, e⟩)
    (fun b ob hb e n => by rw [upd_ne (by simpa using hb)]; exact n) (fun b ob _ e => ⟨ob, e⟩) (fun b xs e => by rw [upd_ne (ne_of_none e f0)]; exact e) (fun b ob u e => by rw [upd_ne (ne_of_none e f0)]; exact e)
    (fun b ps e => ⟨#[], by rw [upd_ne (ne_of_none e f0), e]; simp⟩) (fun m hm => hm) (HOk_track I.hok f0 new) I.bare
  exact J
end

/-! ### comprehensions -/
structure CompOk (X : Cx) (N' : List Str) (mp : List (Option Nat)) (scope : Scope) : Prop where
  kind : scope.kind = .function
  hcell : ∀ y ∈ scope.names, y.2 ≠ .cell
  names : ∀ y ∈ scope.names, y.2 = .local → scope.names.lookup y.1 = some .local
  free : ∀ y ∈ scope.names, y.2 = .free → X.env.kindOf y.1 = some .cell ∨ X.env.kindOf y.1 = some .free
  len : mp.length = N'.length
  vars : ∀ (i j : Nat) (x : Str), N'[i]? = some x → mp[i]? = some (some j) → X.N[j]? = some x ∧ scope.names.lookup x = some .free
def compOkB (N : List Str) (sc : Scope) (N' : List Str) (mp : List (Option Nat)) (scope : Scope) : Bool :=
  decide (scope.kind = .function) && scope.names.all (fun y => decide (y.2 ≠ .cell)) && scope.names.all (fun y => decide (y.2 = .local → scope.names.lookup y.1 = some .local)) &&
  scope.names.all (fun y => decide (y.2 = .free → sc.names.lookup y.1 = some .cell ∨ sc.names.lookup y.1 = some .free)) && decide (mp.length = N'.length) &&
  (mp.zip N').all fun p => match p.1 with
    | none => true
    | some j => decide (N[j]? = some p.2) && decide (scope.names.lookup p.2 = some .free)
theorem CompOk.of {X : Cx} {N' : List Str} {mp : List (Option Nat)} {scope : Scope} (h : compOkB X.N X.env.scope N' mp scope = true) : CompOk X N' mp scope := by
  unfold compOkB at h
  simp only [Bool.and_eq_true, List.all_eq_true, decide_eq_true_eq] at h
  obtain ⟨⟨⟨⟨⟨h1, h2⟩, h3⟩, h4⟩, h5⟩, h6⟩ := h
  refine ⟨h1, h2, h3, h4, h5, fun i j x a b => ?_⟩
  have hm : (some j, x) ∈ mp.zip N' := List.mem_of_getElem? (i := i) (by rw [List.getElem?_zip_eq_some]; exact ⟨b, a⟩)
  have q := h6 _ hm
  simp only [Bool.and_eq_true, decide_eq_true_eq] at q
  exact q

def compSt (mp : List (Option Nat)) (σ : St) : St := mp.map fun o => o.bind fun j => (σ[j]?).join

def compCx (X : Cx) (N' : List Str) (scope : Scope) (C : Addr) (s : Shared) (H : Hp) (fp : List Addr) : Cx where
  prog := X.prog
  w := X.w
  K := X.K
  mg := X.mg
  base := X.base
  A := X.A
  N := N'
  s₀ := s
  H₀ := H
  env := compEnvC scope (clOf X.env.cells scope.names []) C X.env
  outer := X.stack
  stack := X.stack
  ex := fp
  fn := fun _ => false
  calm := X.calm
  pn := []
  xe := fun _ _ => False

theorem relabel_free {env : Env} {x : Str} : ∀ {names : List (Str × NameKind)}, names.lookup x = some .free →
    (names.map fun (n, k) => if (k == NameKind.free && env.scope.kind == .function && env.kindOf n == some .cell) then (n, NameKind.cell) else (n, k)).lookup x = some .cell ∨
    (names.map fun (n, k) => if (k == NameKind.free && env.scope.kind == .function && env.kindOf n == some .cell) then (n, NameKind.cell) else (n, k)).lookup x = some .free
  | [], h => by simp at h
  | (n, k) :: r, h => by
    have ih := @relabel_free env x r
    rw [List.map_cons]
    rw [List.lookup_cons] at h
    by_cases hc : (k == NameKind.free && env.scope.kind == .function && env.kindOf n == some .cell) = true
    · simp only [hc, if_true, List.lookup_cons]
      cases hx : x == n with
      | true => exact .inl rfl
      | false => rw [hx] at h; exact ih h
    · simp only [hc, Bool.false_eq_true, if_false, List.lookup_cons]
      cases hx : x == n with
      | true => rw [hx] at h; exact .inr h
      | false => rw [hx] at h; exact ih h
theorem relabel_back {env : Env} {x : Str} : ∀ {names : List (Str × NameKind)}, (∀ y ∈ names, y.2 ≠ .cell) →
    ((names.map fun (n, k) => if (k == NameKind.free && env.scope.kind == .function && env.kindOf n == some .cell) then (n, NameKind.cell) else (n, k)).lookup x = some .cell ∨
    (names.map fun (n, k) => if (k == NameKind.free && env.scope.kind == .function && env.kindOf n == some .cell) then (n, NameKind.cell) else (n, k)).lookup x = some .free) → (x, NameKind.free) ∈ names
  | [], _, h => by simp at h
  | (n, k) :: r, hn, h => by
    have ih := @relabel_back env x r fun y hy => hn y (List.mem_cons_of_mem _ hy)
    rw [List.map_cons] at h
    by_cases hc : (k == NameKind.free && env.scope.kind == .function && env.kindOf n == some .cell) = true
    · simp only [hc, if_true, List.lookup_cons] at h
      have hk : k = .free := by
        have := hc
        simp only [Bool.and_eq_true, beq_iff_eq] at this
        exact this.1.1
      cases hx : x == n with
      | true => rw [eq_of_beq hx, hk]; exact List.mem_cons_self
      | false => rw [hx] at h; exact List.mem_cons_of_mem _ (ih h)
    · simp only [hc, Bool.false_eq_true, if_false, List.lookup_cons] at h
      cases hx : x == n with
      | true =>
        rw [hx] at h
        rcases h with h | h
        · have : k = .cell := by simpa using h
          exact absurd this (hn (n, k) List.mem_cons_self)
        · have : k = .free := by simpa using h
          rw [eq_of_beq hx, this]; exact List.mem_cons_self
      | false => rw [hx] at h; exact List.mem_cons_of_mem _ (ih h)

section
variable {X : Cx} {pins : List (Addr × Obj)} {σ : St} {H : Hp} {s : Shared} {N' : List Str} {mp : List (Option Nat)} {scope : Scope} {C D : Addr} {fp : List Addr}
theorem cl_back (ok : CompOk X N' mp scope) (I : Inv X pins σ H s) {x : Str} {c : Addr} (h : (clOf X.env.cells scope.names []).lookup x = some c) : X.env.cells.lookup x = some c ∧ (x, NameKind.free) ∈ scope.names := by
  rcases clOf_mem (lookup_mem h) with q | ⟨q1, q2⟩
  · exact absurd q (by simp)
  · obtain ⟨c', hc'⟩ := I.ok.has x (ok.free _ q1 rfl)
    have q2' : c = (X.env.cells.lookup x).getD 0 := q2
    rw [hc'] at q2' ⊢
    exact ⟨by rw [q2']; rfl, q1⟩
theorem cl_has (ok : CompOk X N' mp scope) {x : Str} (h : (x, NameKind.free) ∈ scope.names) : ∃ c, (clOf X.env.cells scope.names []).lookup x = some c := mem_lookup (clOf_has h)

theorem compCx_ok (ok : CompOk X N' mp scope) (I : Inv X pins σ H s) (hf : ∀ b ∈ fp, FpOk X pins H b) (hlt : ∀ b ∈ fp, b < s.heap.objs.size) (hC : s.heap.objs.size ≤ C) : (compCx X N' scope C s H fp).Ok where
  mod := I.ok.mod
  kind := ok.kind
  glob := I.ok.glob
  blt := I.ok.blt
  above := hC
  inj := fun x y c h1 h2 => I.ok.inj x y c (cl_back ok I h1).1 (cl_back ok I h2).1
  has := fun x hx => cl_has ok (relabel_back ok.hcell hx)
  cab := fun x c h => nomatch h
  hd := I.ok.hd
  frames := I.ok.frames
  stk := .inl rfl
  exf := fun b hb => ⟨Nat.ne_of_lt (Nat.lt_of_lt_of_le (hlt b hb) hC), fun x c h => (hf b hb).2.2.2.2.1 x c (cl_back ok I h).1⟩
  bs := I.bs
  bsz := Nat.le_trans I.ok.bsz I.sz
  noex := fun b o e hb => by
    rcases (hf b hb).2.2.2.1 with z | z
    · exact I.ok.noex b o e z
    · exact absurd (Nat.lt_of_lt_of_le (Heap.lt_size e) (Nat.le_trans I.ok.bsz z)) (Nat.lt_irrefl _)
  exfs := fun b hb hfs => by
    rcases List.mem_cons.mp (I.stkSub b hfs) with e | e
    · exact (hf b hb).2.1 e
    · exact (hf b hb).2.2.1 e
  funs := I.stack
  frf := I.stkFree

theorem new_nofs (I : Inv X pins σ H s) (h : s.heap.objs.size ≤ D) : D ∉ frs X.stack := fun z => by
  rcases List.mem_cons.mp (I.stkSub D z) with e | e
  · exact absurd (Nat.lt_of_lt_of_le I.lt (e ▸ h)) (Nat.lt_irrefl _)
  · exact I.nofs h e

theorem comp_start (ok : CompOk X N' mp scope) (I : Inv X pins σ H s) (hf : ∀ b ∈ fp, FpOk X pins H b) (hlt : ∀ b ∈ fp, b < s.heap.objs.size) (hC : s.heap.objs.size ≤ C) (hD : s.heap.objs.size ≤ D) (hDC : D ≠ C)
    {h₁ : Heap} {tk : Nat} {m₀ : Str → Option Value} {od : Obj} (hns : h₁.Ns C m₀) (old : ∀ b o, s.heap.get? b = some o → h₁.get? b = some o) (hd : h₁.get? D = some od) (hod : ∀ v, od.data ≠ .cell v) :
    Inv (compCx X N' scope C s H fp) [(D, od)] (compSt mp σ) H { s with heap := h₁, toks := tk } := by
  refine ⟨compCx_ok ok I hf hlt hC, rfl, I.bare, Un.kept old, ⟨m₀, hns, fun i x v e1 e2 e3 => ?_⟩, fun x c h => ?_, I.hok.fresh hC, fun x c h => ?_, fun p hp => ?_, I.hok.kept old, ?_⟩
  · have e2' : ((mp[i]?).map fun o => o.bind fun j => (σ[j]?).join) = some (some v) := by rw [← List.getElem?_map]; exact e2
    cases hm : mp[i]? with
    | none => rw [hm] at e2'; cases e2'
    | some o =>
      rw [hm] at e2'
      cases o with
      | none => cases e2'
      | some j =>
        have e2'' : (σ[j]?).join = some v := Option.some.inj e2'
        have hσ : σ[j]? = some (some v) := by
          cases q : σ[j]? with
          | none => rw [q] at e2''; cases e2''
          | some z => rw [q] at e2''; exact congrArg some e2''
        obtain ⟨hN, hx⟩ := ok.vars i j x e1 hm
        have hmem : (x, NameKind.free) ∈ scope.names := lookup_mem hx
        have hk := ok.free _ hmem rfl
        obtain ⟨m, hn, hl⟩ := I.loc
        obtain ⟨u, r, l⟩ := hl j x v hN hσ (.inr hk)
        refine ⟨u, r, .inr ⟨relabel_free hx, ?_⟩⟩
        obtain ⟨c, hc⟩ := cl_has ok hmem
        have hc' := (cl_back ok I hc).1
        rcases l with ⟨hloc, _⟩ | ⟨_, c', e', z⟩
        · rcases hk with hk | hk
          · rw [hloc] at hk; cases hk
          · rw [hloc] at hk; cases hk
        · rw [hc'] at e'
          cases e'
          obtain ⟨oc, ho, hdc⟩ := z
          exact ⟨c, hc, oc, old _ _ ho, hdc⟩
  · obtain ⟨v, oc, ho, hdc⟩ := I.cell x c (cl_back ok I h).1
    exact ⟨v, oc, old _ _ ho, hdc⟩
  · exact I.freeC x c (cl_back ok I h).1
  · have e : p = (D, od) := by
      have hp' : p ∈ ([] : List (Addr × Obj)) ++ [(D, od)] := hp
      simpa using hp'
    subst e
    exact ⟨hd, I.hok.fresh hD, hDC, new_nofs I hD, hod⟩
  · show (compSt mp σ).length = N'.length
    unfold compSt
    rw [List.length_map]
    exact ok.len
end

def PTs (X : Cx) (ifs : List Expr) (t : TT) : Prop :=
  ∀ (pins : List (Addr × Obj)) (s : Shared) (σ : St) (H : Hp) (Q : Bool → Hp → Prop), Inv X pins σ H s → t σ H Q →
    wpAny (model X.prog X.w) X.A (forIn ifs true fun c r => if r = true then do let ok ← isTrue c X.env (eval c X.env); pure (ForInStep.yield ok) else pure (ForInStep.yield r)) (TP X pins σ Q) X.xe s
def tYes : TT := fun _ H Q => Q true H
theorem pts_nil {X : Cx} : PTs X [] tYes := fun _ _ _ H _ I h => wpAny_tests_nil ⟨H, I, h⟩
theorem pts_one {X : Cx} {c : Expr} {t : TT} (h : PT X c t) : PTs X [c] t := fun pins s σ H Q I hw => wpAny_tests_one (h pins s σ H Q I hw)

/-- [te for g in wi if tt]: W by the turn, a measure, the block's names, the heap, what was gathered -/
def CompW (J : It) (g : TG) (tt : TT) (te : TE) (Fin : List V → Hp → Prop) (W : Nat → Nat → St → Hp → List V → Prop) : Prop := ∀ i m σ H acc, W i m σ H acc →
  (J.stop i H ∧ Fin acc H) ∨ (J.go i H ∧ acc.length < sizeLine ∧ ∃ N : St → Hp → List V → Prop, (∀ σ' H' acc', N σ' H' acc' → ∃ m', m' < m ∧ W (i + 1) m' σ' H' acc') ∧
    ∀ x H', J.yld i H x H' → g x σ H' fun σ2 H2 => tt σ2 H2 fun b H3 => if b = true then te σ2 H3 fun y H4 => N σ2 H4 (acc ++ [y]) else N σ2 H3 acc)
def tComp (mp : List (Option Nat)) (wi : TI) (g : TG) (tt : TT) (te : TE) : TE := fun σ H Q => wi σ H fun J H1 => ∃ W : Nat → Nat → St → Hp → List V → Prop, (∃ m, W 0 m (compSt mp σ) H1 []) ∧
  CompW J g tt te (fun acc H => ∀ p, H p = none → Q (.ref p) (upd H p (.lst acc))) W

section
variable {X : Cx} {elt target iter : Expr} {ifs : List Expr} {scope : Scope} {pos : Pos} {N' : List Str} {mp : List (Option Nat)} {wi : TI} {g : TG} {tt : TT} {te : TE}
theorem comp_block {pins : List (Addr × Obj)} {σ : St} {H2 : Hp} {s2 : Shared} {it : Addr} {fp : List Addr} {tn : Nat → Heap → Prop} {J : It} {W : Nat → Nat → St → Hp → List V → Prop} {m0 : Nat} {Fin : List V → Hp → Prop}
    {RR : Value → Addr → Result → Shared → Prop} {E : Value → Shared → Prop}
    (ok : CompOk X N' mp scope) (hc : X.calm = true) (hg : ∀ C s H fp, PG (compCx X N' scope C s H fp) target g) (ht : ∀ C s H fp, PTs (compCx X N' scope C s H fp) ifs tt) (he : ∀ C s H fp, PE (compCx X N' scope C s H fp) elt te)
    (I2 : Inv X pins σ H2 s2) (T : Turn X.prog X.w X.K target J fp it tn) (st2 : tn 0 s2.heap) (f2 : ∀ b ∈ fp, FpOk X pins H2 b) (w0 : W 0 m0 (compSt mp σ) H2 []) (turn : CompW J g tt te Fin W)
    (hRR : ∀ (D C : Addr) (H' : Hp) (s' : Shared) (acc : List V), Inv X pins σ (upd H' D (.lst acc)) s' → H' D = none → H' C = none → D ≠ C → s2.heap.objs.size ≤ C → (∃ m, s'.heap.Ns C m) → Fin acc H' → RR (.ref D) C (.ok .next) s') :
    wpAny (model X.prog X.w) X.A (newList []) (fun acc s₃ => wpAny (model X.prog X.w) X.A (newFunctionEnv scope X.env.globals (clOf X.env.cells scope.names []) [] X.env.qual none .none (some X.env)) (fun cenv s₄ =>
      codeAny (model X.prog X.w) X.A (.compStart (.ListComp elt [⟨target, iter, ifs, 0⟩] scope pos) 0 (.ref it) acc { cenv with scope := relabel scope X.env }) (RR acc cenv.locals) s₄) E s₃) E s2 := by
  have hlt : ∀ b ∈ fp, b < s2.heap.objs.size := fun b hb => by
    obtain ⟨o, e, _⟩ := T.obj 0 _ st2 b hb
    exact Heap.lt_size e
  refine wpAny_newObj_type (wpAny_newFunctionEnv ok.hcell (by intro y hy; simp at hy) (fun h₁ hns₁ hsb₁ => ?_) ok.kind)
  dsimp only at hns₁ hsb₁ ⊢
  generalize hG : s2.heap.push { cls := .type "list", dict := none, data := .seq ([] : List Value).toArray } = G2 at hns₁ hsb₁ ⊢
  have hCs : G2.objs.size = s2.heap.objs.size + 1 := by rw [← hG, Heap.size_push]
  have hDC : s2.heap.objs.size ≠ G2.objs.size := by rw [hCs]; exact Nat.ne_of_lt (Nat.lt_succ_self _)
  have hCle : s2.heap.objs.size ≤ G2.objs.size := by rw [hCs]; exact Nat.le_succ _
  have below : ∀ b, b < s2.heap.objs.size → b ≠ G2.objs.size := fun b hb => by rw [hCs]; exact Nat.ne_of_lt (Nat.lt_succ_of_lt hb)
  have old : ∀ b o, s2.heap.get? b = some o → h₁.get? b = some o := fun b o e => hsb₁.extBut b o (below b (Heap.lt_size e)) (Heap.get?_push_of_some _ (hG ▸ Heap.get?_push_of_some _ e))
  have hacc : h₁.get? s2.heap.objs.size = some { cls := .type "list", data := .seq ([] : List Value).toArray 0 } := hsb₁.extBut _ _ hDC (Heap.get?_push_of_some _ (hG ▸ Heap.get?_push_size _ rfl))
  have hDf : s2.heap.objs.size ∉ fp := fun hm => Nat.lt_irrefl _ (hlt _ hm)
  have hCf : G2.objs.size ∉ fp := fun hm => by have h1 := hlt _ hm; rw [hCs] at h1; exact absurd h1 (Nat.not_lt.mpr (Nat.le_succ _))
  have st1 : tn 0 h₁ := T.keep 0 _ _ st2 fun b _ o e => old b o e
  generalize hD : s2.heap.objs.size = D at hDC hDf hacc hlt below
  generalize hCC : G2.objs.size = C at hDC hCf hCle below hns₁ hsb₁
  have cells_ne : ∀ (a : Addr), s2.heap.objs.size ≤ a → ∀ x c, (compCx X N' scope C s2 H2 fp).env.cells.lookup x = some c → c ≠ a := fun a ha x c h z => by
    obtain ⟨v, oc, ho, _⟩ := I2.cell x c (cl_back ok I2 h).1
    exact absurd (Nat.lt_of_lt_of_le (Heap.lt_size ho) (z ▸ ha)) (Nat.lt_irrefl _)
  have loop : ∀ s₃ : Shared, s₃ = { s2 with heap := h₁, toks := s2.toks + ([] : List (Str × Value)).length } →
      codeAny (model X.prog X.w) X.A (.compLoop (.ListComp elt [⟨target, iter, ifs, 0⟩] scope pos) 0 (.ref it) (.ref D) (compEnvC scope (clOf X.env.cells scope.names []) C X.env)) (RR (.ref D) C) s₃ := by
    rintro s₃ rfl
    have I0 : Inv (compCx X N' scope C s2 H2 fp) [(D, { cls := .type "list", data := .seq ([] : List Value).toArray 0 })] (compSt mp σ) H2 { s2 with heap := h₁, toks := s2.toks + ([] : List (Str × Value)).length } :=
      comp_start ok I2 f2 (by rw [hD]; exact hlt) (by rw [hD] at hCle ⊢; exact hCle) (by rw [hD]; exact Nat.le_refl _) hDC hns₁ old hacc (fun v z => by cases z)
    refine compLoop_any (fun n s' => ∃ i σ' H' acc, ∃ (its : List Value) (k : Nat), Inv (compCx X N' scope C s2 H2 fp) [(D, { cls := .type "list", data := .seq its.toArray k })] σ' H' s' ∧ Vals acc its ∧ acc.length ≤ sizeLine ∧ tn i s'.heap ∧
      (∀ b ∈ fp, H' b = none) ∧ W i n σ' H' acc) ?_ m0 ⟨0, compSt mp σ, H2, [], [], 0, I0, .nil, Nat.zero_le _, st1, fun b hb => (f2 b hb).1, w0⟩
    rintro n s3 ⟨i, σ3, H3, acc, its, k, I3, rv, hz, st3, fr3, w3⟩
    have stat : ∀ {H' : Hp} {pn : List (Addr × Obj)}, (∀ b ∈ fp, H' b = none) → (∀ p ∈ pn, p.1 = D) → ∀ b ∈ fp, FpOk (compCx X N' scope C s2 H2 fp) pn H' b := fun {H' pn} hn hp b hb =>
      ⟨hn b hb, below b (hlt b hb), fun z => by
          rcases List.mem_cons.mp (I2.stkSub b z) with e | e
          · exact (f2 b hb).2.1 e
          · exact (f2 b hb).2.2.1 e, .inl hb, fun x c h => (f2 b hb).2.2.2.2.1 x c (cl_back ok I2 h).1, fun p hp' z => by
          have hp'' : p ∈ ([] : List (Addr × Obj)) ++ pn := hp'
          rw [List.nil_append] at hp''
          exact hDf (by rw [← hp p hp'', z]; exact hb)⟩
    have oneD : ∀ {od : Obj}, ∀ p ∈ [(D, od)], p.1 = D := fun {od} p hp => by
      have e : p = (D, od) := by simpa using hp
      rw [e]
    rcases turn i n σ3 H3 acc w3 with ⟨stop, qn⟩ | ⟨go, hz', N, hN, step⟩
    · refine thn (T.done (compCx X N' scope C s2 H2 fp) rfl rfl rfl hc i _ s3 σ3 H3 (fun _ _ => False) I3 (stat fr3 oneD) st3 stop) fun r s4 ⟨hr, I4⟩ => ?_
      subst hr
      have pD := I4.pin (D, _) (List.mem_append_right _ List.mem_cons_self)
      have I5 : Inv X pins σ H3 s4 := I2.call' (ch := fp) I4.os I4.base I4.hok I4.bare fun b hb => ⟨(f2 b hb).2.2.2.1, (f2 b hb).2.1, (f2 b hb).2.2.2.2.1, (f2 b hb).2.2.2.2.2⟩
      have fD : FpOk X pins H3 D := I2.fpOk (by rw [hD]; exact Nat.le_refl _) pD.2.1
      have I6 : Inv X pins σ (upd H3 D (.lst acc)) s4 := Inv_track I5 fD ⟨hz, its, k, rv, pD.1⟩
      obtain ⟨m4, hn4, _⟩ := I4.loc
      exact hRR D C H3 s4 acc I6 pD.2.1 I4.free hDC (by rw [hD] at hCle ⊢; exact hCle) ⟨m4, hn4⟩ qn
    · refine thn (T.item (compCx X N' scope C s2 H2 fp) rfl rfl rfl hc i _ s3 σ3 H3 (fun _ _ => False) I3 (stat fr3 oneD) st3 go) fun r s4 ⟨u, hr, h4⟩ => ?_
      subst hr
      refine thn h4 fun _ s5 ⟨x, H5, I5, r5, y5, st5, fr5⟩ => ?_
      have I5' := I5.pinned (stat fr5 oneD) (T.obj _ _ st5)
      have fin : ∀ {σ7 : St} {H7 : Hp} {s7 : Shared} {its7 : List Value} {k7 : Nat}, Inv (compCx X N' scope C s2 H2 fp) ([(D, { cls := .type "list", data := .seq its7.toArray k7 })] ++ pinsAt fp s5.heap) σ7 H7 s7 →
          Inv (compCx X N' scope C s2 H2 fp) [(D, { cls := .type "list", data := .seq its7.toArray k7 })] σ7 H7 s7 ∧ tn (i + 1) s7.heap ∧ ∀ b ∈ fp, H7 b = none := fun {σ7 H7 s7 its7 k7} I7 => by
        refine ⟨I7.unpinned, T.keep _ _ _ st5 fun b hb o e => (I7.pin (b, o) (List.mem_append_right _ (List.mem_append_right _ (mem_pinsAt hb e)))).1, fun b hb => ?_⟩
        obtain ⟨o, e, d⟩ := T.obj _ _ st5 b hb
        exact (I7.pin (b, o) (List.mem_append_right _ (List.mem_append_right _ (mem_pinsAt hb e)))).2.1
      refine thn (hg C s2 H2 fp _ s5 σ3 H5 x u _ I5' r5 (step x H5 y5)) fun _ s6 ⟨σ6, H6, I6, q6⟩ => ?_
      refine thn (ht C s2 H2 fp _ s6 σ6 H6 _ I6 q6) fun b s7 ⟨H7, I7, q7⟩ => ?_
      cases b with
      | false =>
        rw [if_neg (by simp)] at q7 ⊢
        obtain ⟨m', hm, w7⟩ := hN _ _ _ q7
        obtain ⟨a1, a2, a3⟩ := fin I7
        exact ⟨m', hm, i + 1, σ6, H7, acc, its, k, a1, rv, hz, a2, a3, w7⟩
      | true =>
        rw [if_pos rfl] at q7 ⊢
        refine thn (he C s2 H2 fp _ s7 σ6 H7 _ I7 q7) fun y s8 ⟨v, H8, I8, r8, q8⟩ => ?_
        obtain ⟨m', hm, w8⟩ := hN _ _ _ q8
        obtain ⟨a1, a2, a3⟩ := fin I8
        have pD := I8.pin (D, _) (List.mem_append_right _ (List.mem_append_left _ List.mem_cons_self))
        have hl := rv.length
        refine call_meets F.slot_list_append ⟨_, pD.1, rfl⟩ F.entry_list_append (F.args_list_append_2 _ _) (PySem.list_append D its.toArray k y (by rw [List.size_toArray]; omega)) ⟨pD.1, ?_⟩
        have up : ∀ b o, b ≠ D → s8.heap.get? b = some o → (s8.heap.update D (Obj.mapSeq (·.push y))).get? b = some o := fun b o hb e => (Heap.get?_update_other _ _ (Ne.symm hb)).trans e
        have I9 : Inv (compCx X N' scope C s2 H2 fp) [] σ6 H8 { s8 with heap := s8.heap.update D (Obj.mapSeq (·.push y)), toks := s8.toks } :=
          (I8.pins_of (pins' := []) (fun p hp => absurd hp (by simp))).turned (fun b o hb e => up b o hb e) pD.2.1 hDC (.inr (by show s2.heap.objs.size ≤ D; rw [hD]; exact Nat.le_refl _)) (cells_ne D (by rw [hD]; exact Nat.le_refl _)) (fun p hp => absurd hp (by
            have : p ∈ ([] : List (Addr × Obj)) ++ [] → False := by simp
            exact this))
        have ey : its.toArray.push y = (its ++ [y]).toArray := by simp
        have qD : ∃ k', (s8.heap.update D (Obj.mapSeq (·.push y))).get? D = some { cls := .type "list", data := .seq (its ++ [y]).toArray k' } := ⟨_, by rw [← ey]; exact PySem.IsL.update pD.1 (·.push y)⟩
        obtain ⟨k', qD⟩ := qD
        refine ⟨m', hm, i + 1, σ6, H8, acc ++ [v], its ++ [y], k', I9.pins_of (pins' := [(D, { cls := .type "list", data := .seq (its ++ [y]).toArray k' })]) (fun p hp => ?_), rv.append (.cons r8 .nil), by rw [List.length_append, List.length_singleton]; omega, ?_, a3, w8⟩
        · have e : p = (D, { cls := .type "list", data := .seq (its ++ [y]).toArray k' }) := by simpa using hp
          subst e
          exact ⟨qD, pD.2.1, pD.2.2.1, pD.2.2.2.1, fun v z => by cases z⟩
        · exact T.keep _ _ _ a2 fun b hb o e => up b o (fun z => hDf (z ▸ hb)) e
  exact codeAny_compStart_list (loop _ rfl) (T.self X.A 0 _ _ _ st1 (loop _ rfl))

theorem pe_comp (ok : CompOk X N' mp scope) (hc : X.calm = true) (hi : PI X target iter wi) (hg : ∀ C s H fp, PG (compCx X N' scope C s H fp) target g) (ht : ∀ C s H fp, PTs (compCx X N' scope C s H fp) ifs tt)
    (he : ∀ C s H fp, PE (compCx X N' scope C s H fp) elt te) (hs : ∀ x, foldedSetIterable iter X.env x = pure x := by intro _; rfl) : PE X (.ListComp elt [⟨target, iter, ifs, 0⟩] scope pos) (tComp mp wi g tt te) := by
  intro pins s σ H Q I hw
  rw [eval_ListComp]
  refine wpAny_comprehension_free (use := none) rfl hs (closureFor_eq fun y hy hk => I.ok.has y.1 (ok.free y hy hk)) ok.kind ok.names ?_
  show wpAny _ _ (eval iter X.env) _ _ s
  refine thn (hi pins s σ H _ I hw) fun v s1 h1 => thn h1 fun itv s2 h2 => ?_
  obtain ⟨it, fp, tn, J, H2, e, I2, T, st2, f2, W, ⟨m0, w0⟩, turn⟩ := h2
  subst e
  refine comp_block (RR := fun acc C => compPost (model X.prog X.w) X.A X.xe none (EP X pins σ Q) acc C) ok hc hg ht he I2 T st2 f2 w0 turn fun D C H' s' acc I' hD hC hDC hCl hns q => ?_
  obtain ⟨m, hn⟩ := hns
  refine ⟨m, hn, fun h' sb => ?_⟩
  have fC : FpOk X pins (upd H' D (.lst acc)) C := I2.fpOk hCl (by rw [upd_ne (Ne.symm hDC)]; exact hC)
  obtain ⟨f0, f1, f2, f3, f4, f5⟩ := fC
  exact ⟨.ref D, _, I'.turned (t' := s'.toks) (fun b o hb e => (sb.2 b hb).trans e) f0 f1 f3 f4 f5, rfl, q D hD⟩

/-- name = [..]: the store stands ahead of the block's end -/
theorem ps_setComp {i : Nat} {x : Str} {pos' spos : Pos} (hN : X.N.Nodup) (hi' : X.N[i]? = some x) (hx : Loc X.env.scope x) (ok : CompOk X N' mp scope) (hc : X.calm = true) (hi : PI X target iter wi)
    (hg : ∀ C s H fp, PG (compCx X N' scope C s H fp) target g) (ht : ∀ C s H fp, PTs (compCx X N' scope C s H fp) ifs tt) (he : ∀ C s H fp, PE (compCx X N' scope C s H fp) elt te)
    (hsw : swapsWith (.ListComp elt [⟨target, iter, ifs, 0⟩] scope pos) (some (.Name x pos')) spos.line X.env = pure true := by rfl)
    (hf : X.fn x = true ∨ X.env.scope.names.lookup x = some .local := by first | exact .inl rfl | exact .inr rfl | assumption) (hs : ∀ x, foldedSetIterable iter X.env x = pure x := by intro _; rfl) :
    PS X (.Assign [.Name x pos'] (.ListComp elt [⟨target, iter, ifs, 0⟩] scope pos) spos) (tAsg (tComp mp wi g tt te) (gName i)) := by
  intro pins s σ H D I hw
  rw [exec_Assign_Name_used _ _ _ _ hsw]
  refine wpAny_bind (wpAny_standAt (wpAny_bind ?_))
  show wpAny _ X.A (do let _ ← comprehension (.ListComp elt [⟨target, iter, ifs, 0⟩] scope pos) scope X.env _ (newList []) false (eval iter X.env) (some (assign (.Name x pos') X.env))) _ _ s
  refine wpAny_bind (wpAny_mono (wpAny_comprehension_free (use := some (assign (.Name x pos') X.env)) (Q := fun _ s' => SP X pins D .next s') rfl hs (closureFor_eq fun y hy hk => I.ok.has y.1 (ok.free y hy hk)) ok.kind ok.names ?_)
    (fun _ s' hq => wpAny_pure (wpAny_pure hq)) fun _ _ e => e)
  refine thn (hi pins s σ H _ I hw) fun v s1 h1 => thn h1 fun itv s2 h2 => ?_
  obtain ⟨it, fp, tn, J, H2, e, I2, T, st2, f2, W, ⟨m0, w0⟩, turn⟩ := h2
  subst e
  refine comp_block (RR := fun acc C => compPost (model X.prog X.w) X.A X.xe (some (assign (.Name x pos') X.env)) (fun _ s' => SP X pins D .next s') acc C) ok hc hg ht he I2 T st2 f2 w0 turn fun L C H' s' acc I' hD hC hDC hCl hns q => ?_
  obtain ⟨m, oC, es, ep, hoC, hdC, rC⟩ := hns
  have fC : FpOk X pins (upd H' L (.lst acc)) C := I2.fpOk hCl (by rw [upd_ne (Ne.symm hDC)]; exact hC)
  obtain ⟨f0, f1, f2', f3, f4, f5⟩ := fC
  have I3 : Inv X (pins ++ [(C, oC)]) σ (upd H' L (.lst acc)) s' := I'.pins_of fun p hp => (List.mem_append.mp hp).elim (fun z => I'.pin p (List.mem_append_right _ z)) fun z => by
    have e : p = (C, oC) := by simpa using z
    subst e
    exact ⟨hoC, f0, f1, f2', fun v z => by rw [hdC] at z; cases z⟩
  show wpAny _ X.A (assign (.Name x pos') X.env (.ref L)) _ _ _
  refine wpAny_assign_Name (store_ok (v := .ref L) I3 hN hi' hx rfl (fun s4 I4 => ?_) hf)
  have pC := I4.pin (C, oC) (List.mem_append_right _ (List.mem_append_right _ List.mem_cons_self))
  refine ⟨m, ⟨oC, es, ep, pC.1, hdC, rC⟩, fun h' sb => ?_⟩
  have I5 : Inv X pins (σ.set i (some (.ref L))) (upd H' L (.lst acc)) s4 := I4.unpinned
  exact ⟨_, _, I5.turned (t' := s4.toks) (fun b o hb e => (sb.2 b hb).trans e) pC.2.1 f1 f3 f4 f5, q L hD⟩
end

/-! ### the forms one uses -/
theorem comp_list {K : PySem.W.Frag} {a : Addr} {xs : List V} {g : TG} {tt : TT} {te : TE} {Fin : List V → Hp → Prop} {σ₀ : St} {H₀ : Hp} (Pv : Nat → St → Hp → List V → Prop) (h0 : Pv 0 σ₀ H₀ [])
    (hl : ∀ i σ H acc, i ≤ xs.length → Pv i σ H acc → SqL K H a xs ∧ acc.length ≤ i) (hz : xs.length ≤ sizeLine)
    (hs : ∀ i x σ H acc, xs[i]? = some x → Pv i σ H acc → g x σ H fun σ2 H2 => tt σ2 H2 fun b H3 => if b = true then te σ2 H3 fun y H4 => Pv (i + 1) σ2 H4 (acc ++ [y]) else Pv (i + 1) σ2 H3 acc)
    (hd : ∀ σ H acc, Pv xs.length σ H acc → Fin acc H) : ∃ W : Nat → Nat → St → Hp → List V → Prop, (∃ m, W 0 m σ₀ H₀ []) ∧ CompW (Itl K a) g tt te Fin W := by
  refine ⟨fun i m σ H acc => m = xs.length - i ∧ i ≤ xs.length ∧ Pv i σ H acc, ⟨xs.length, by simp, Nat.zero_le _, h0⟩, ?_⟩
  rintro i m σ H acc ⟨rfl, hi, p⟩
  obtain ⟨q, hacc⟩ := hl i σ H acc hi p
  by_cases hlt : i < xs.length
  · refine .inr ⟨⟨xs, xs[i], q, by simp [hlt]⟩, by omega, fun σ' H' acc' => Pv (i + 1) σ' H' acc', fun σ' H' acc' p' => ⟨xs.length - (i + 1), by omega, rfl, hlt, p'⟩, fun x H' y => ?_⟩
    obtain ⟨e, y⟩ := y
    subst e
    exact hs i x σ _ acc (y xs q) p
  · have e : i = xs.length := by omega
    subst e
    exact .inl ⟨⟨xs, q, Nat.le_refl _⟩, hd σ H acc p⟩
theorem comp_tup {K : PySem.W.Frag} {a : Addr} {xs : List V} {g : TG} {tt : TT} {te : TE} {Fin : List V → Hp → Prop} {σ₀ : St} {H₀ : Hp} (Pv : Nat → St → Hp → List V → Prop) (h0 : Pv 0 σ₀ H₀ [])
    (hl : ∀ i σ H acc, i ≤ xs.length → Pv i σ H acc → SqT K H a xs ∧ acc.length ≤ i) (hz : xs.length ≤ sizeLine)
    (hs : ∀ i x σ H acc, xs[i]? = some x → Pv i σ H acc → g x σ H fun σ2 H2 => tt σ2 H2 fun b H3 => if b = true then te σ2 H3 fun y H4 => Pv (i + 1) σ2 H4 (acc ++ [y]) else Pv (i + 1) σ2 H3 acc)
    (hd : ∀ σ H acc, Pv xs.length σ H acc → Fin acc H) : ∃ W : Nat → Nat → St → Hp → List V → Prop, (∃ m, W 0 m σ₀ H₀ []) ∧ CompW (Itt K a) g tt te Fin W := by
  refine ⟨fun i m σ H acc => m = xs.length - i ∧ i ≤ xs.length ∧ Pv i σ H acc, ⟨xs.length, by simp, Nat.zero_le _, h0⟩, ?_⟩
  rintro i m σ H acc ⟨rfl, hi, p⟩
  obtain ⟨q, hacc⟩ := hl i σ H acc hi p
  by_cases hlt : i < xs.length
  · refine .inr ⟨⟨xs, xs[i], q, by simp [hlt]⟩, by omega, fun σ' H' acc' => Pv (i + 1) σ' H' acc', fun σ' H' acc' p' => ⟨xs.length - (i + 1), by omega, rfl, hlt, p'⟩, fun x H' y => ?_⟩
    obtain ⟨e, y⟩ := y
    subst e
    exact hs i x σ _ acc (y xs q) p
  · have e : i = xs.length := by omega
    subst e
    exact .inl ⟨⟨xs, q, Nat.le_refl _⟩, hd σ H acc p⟩
theorem comp_range {lo : Int} {n : Nat} {g : TG} {tt : TT} {te : TE} {Fin : List V → Hp → Prop} {σ₀ : St} {H₀ : Hp} (Pv : Nat → St → Hp → List V → Prop) (h0 : Pv 0 σ₀ H₀ [])
    (hl : ∀ i σ H acc, i ≤ n → Pv i σ H acc → acc.length ≤ i) (hz : n ≤ sizeLine)
    (hs : ∀ i σ H acc, i < n → Pv i σ H acc → g (.int (lo + i)) σ H fun σ2 H2 => tt σ2 H2 fun b H3 => if b = true then te σ2 H3 fun y H4 => Pv (i + 1) σ2 H4 (acc ++ [y]) else Pv (i + 1) σ2 H3 acc)
    (hd : ∀ σ H acc, Pv n σ H acc → Fin acc H) : ∃ W : Nat → Nat → St → Hp → List V → Prop, (∃ m, W 0 m σ₀ H₀ []) ∧ CompW (Itr lo n) g tt te Fin W := by
  refine ⟨fun i m σ H acc => m = n - i ∧ i ≤ n ∧ Pv i σ H acc, ⟨n, by simp, Nat.zero_le _, h0⟩, ?_⟩
  rintro i m σ H acc ⟨rfl, hi, p⟩
  have hacc := hl i σ H acc hi p
  by_cases hlt : i < n
  · refine .inr ⟨hlt, by omega, fun σ' H' acc' => Pv (i + 1) σ' H' acc', fun σ' H' acc' p' => ⟨n - (i + 1), by omega, rfl, hlt, p'⟩, fun x H' y => ?_⟩
    obtain ⟨e, y⟩ := y
    subst e y
    exact hs i σ _ acc hlt p
  · have e : i = n := by omega
    subst e
    exact .inl ⟨Nat.le_refl _, hd σ H acc p⟩

/-! ### a def that one may call -/
structure Cal (P : Program) (w : World) (K : PySem.W.Frag) (mg : Str → Option Value) (base : Heap) (k : Nat) (x : Str) (ps : List Str) (sp : Sp) : Prop where
  ex : ∃ f fd, FnOk P w K mg base CX0 k f fd ps sp ∧ Binds K fd ps [] ∧ PySem.W.keepIn K (.ref f) = true ∧ mg x = some (.ref f)
theorem Cal.mono {P : Program} {w : World} {K : PySem.W.Frag} {mg : Str → Option Value} {base : Heap} {j k : Nat} {x : Str} {ps : List Str} {sp : Sp} (c : Cal P w K mg base j x ps sp) (h : j ≤ k) : Cal P w K mg base k x ps sp := by
  obtain ⟨f, fd, a, b, d, e⟩ := c.ex
  exact ⟨f, fd, a.mono h, b, d, e⟩
theorem pe_cal {X : Cx} {k : Nat} {x : Str} {ps : List Str} {sp : Sp} {p pos : Pos} {e : Expr} {es : List Expr} {t : TA} (c : Cal X.prog X.w X.K X.mg X.base k x ps sp) (hr : Room k X.A) (hg : Gl X x) (ha : PA X (e :: es) t)
    (hdb : (x == ("__debug__" : Str)) = false := by decide) (he : starEach (e :: es) X.env = (false, eval e X.env) :: starEach es X.env := by rfl) (hpl : (backTo pos (starEach es X.env)).any (·.1) = false := by rfl) :
    PE X (.Call (.Name x p) (e :: es) [] pos) (tCall sp [] E0 t) := by
  obtain ⟨f, fd, a, b, d, m⟩ := c.ex
  exact pe_call a hr hg m d b .nil pass0 ha hdb he hpl

/-! ### built-in calls -/
section
variable {X : Cx}
theorem call_sum (hc : X.calm = true) : CallR X (.builtin "sum") (fun xs H Q => ∃ (p : Addr) (ns : List Int), xs = [.ref p] ∧ SqL X.K H p (ns.map V.int) ∧ Q (.int ns.sum) H) := by
  intro pins s σ H xs us Q I r h
  obtain ⟨p, ns, rfl, hq, q⟩ := h
  obtain ⟨u, rfl, rx⟩ := vals1 r
  cases rx
  obtain ⟨its, r', pl, hz⟩ := I.list hq
  have hi : IntsAre its ns := intsAre_of r'
  obtain ⟨zs, hzs⟩ := hi.allInts.items
  refine sum_intListG (xs := zs) (I.ok.hd hc) (by rw [← hzs]; exact pl.isList) fun h' tk t' hk => ?_
  have e : preSum (numAt zs) zs.size = ns.sum := by
    rw [preSum_eq, List.take_of_length_le (by simp), ← nums_intItems, ← hzs]
    exact congrArg List.sum hi.numsOf
  rw [e]
  exact ⟨.int ns.sum, H, I.kept hk, ⟨_, rfl⟩, q⟩
def rMinT (K : PySem.W.Frag) : List V → Hp → VK → Prop := fun xs H Q => ∃ (p : Addr) (a b : Int), xs = [.ref p] ∧ SqT K H p [.int a, .int b] ∧ Q (.int (if b < a then b else a)) H
def rMaxT (K : PySem.W.Frag) : List V → Hp → VK → Prop := fun xs H Q => ∃ (p : Addr) (a b : Int), xs = [.ref p] ∧ SqT K H p [.int a, .int b] ∧ Q (.int (if b > a then b else a)) H
theorem call_min_tup (hc : X.calm = true) : CallR X (.builtin "min") (rMinT X.K) := by
  intro pins s σ H xs us Q I r h
  obtain ⟨p, a, b, rfl, hq, q⟩ := h
  obtain ⟨u, rfl, rx⟩ := vals1 r
  cases rx
  obtain ⟨its, r', pl, hz⟩ := I.tuple hq
  obtain ⟨u1, u2, rfl, ⟨t, rfl⟩, ⟨t', rfl⟩⟩ := vals2 r'
  have hT : s.heap.IsTuple p (intItems #[(a, t), (b, t')]) := by
    have : s.heap.IsTuple p [Value.int a t, Value.int b t'].toArray := pl
    simpa [intItems] using this
  have hlt : p < s.heap.objs.size := by obtain ⟨_, e, _⟩ := hT; exact Heap.lt_size e
  refine call_min_walk (wpAny_pyIter_tuple hT ?_)
  refine ⟨_, [_, p], [_], _, _, _, _, rfl, Walks.tuple (A := X.A.in1) (I.ok.hd hc) _ p (Nat.ne_of_lt hlt) (intItems #[(a, t), (b, t')]),
    ⟨⟨_, Heap.get?_push_size _ rfl, rfl, rfl⟩, hT.push _⟩, fun c hc' => ?_, by simp [intItems], CmpOf.ints_lt (numAt #[(a, t), (b, t')]) (fun _ _ => intItems_at), fun v h' tk hP hk => ?_⟩
  · show c < (s.heap.push _).objs.size
    rw [Heap.size_push]
    rcases List.mem_cons.mp hc' with rfl | hc'
    · exact Nat.lt_succ_self _
    · rcases List.mem_cons.mp hc' with rfl | hc'
      · exact Nat.lt_succ_of_lt hlt
      · cases hc'
  · have hold : ∀ c o, s.heap.get? c = some o → h'.get? c = some o := fun c o e => by
      refine hk c o (fun hm => ?_) (Heap.get?_push_of_some _ e)
      rcases List.mem_cons.mp hm with e1 | hm
      · exact absurd (e1 ▸ Heap.lt_size e) (Nat.lt_irrefl _)
      · cases hm
    have hP' : (intItems #[(a, t), (b, t')])[argBest (fun i j => decide (numAt #[(a, t), (b, t')] i < numAt #[(a, t), (b, t')] j)) 1]? = some v := by
      have hsz2 : (intItems #[(a, t), (b, t')]).size - 1 = 1 := by simp [intItems]
      rw [← hsz2]; exact hP
    by_cases hba : b < a
    · have e : argBest (fun i j => decide (numAt #[(a, t), (b, t')] i < numAt #[(a, t), (b, t')] j)) 1 = 1 := by simp [argBest, numAt, hba]
      rw [e] at hP'
      have hv : v = .int b t' := by simpa [intItems] using hP'.symm
      rw [hv]
      rw [if_pos hba] at q
      exact ⟨.int b, H, I.kept hold, ⟨_, rfl⟩, q⟩
    · have e : argBest (fun i j => decide (numAt #[(a, t), (b, t')] i < numAt #[(a, t), (b, t')] j)) 1 = 0 := by simp [argBest, numAt, hba]
      rw [e] at hP'
      have hv : v = .int a t := by simpa [intItems] using hP'.symm
      rw [hv]
      rw [if_neg hba] at q
      exact ⟨.int a, H, I.kept hold, ⟨_, rfl⟩, q⟩
theorem call_max_tup (hc : X.calm = true) : CallR X (.builtin "max") (rMaxT X.K) := by
  intro pins s σ H xs us Q I r h
  obtain ⟨p, a, b, rfl, hq, q⟩ := h
  obtain ⟨u, rfl, rx⟩ := vals1 r
  cases rx
  obtain ⟨its, r', pl, hz⟩ := I.tuple hq
  obtain ⟨u1, u2, rfl, ⟨t, rfl⟩, ⟨t', rfl⟩⟩ := vals2 r'
  have hT : s.heap.IsTuple p (intItems #[(a, t), (b, t')]) := by
    have : s.heap.IsTuple p [Value.int a t, Value.int b t'].toArray := pl
    simpa [intItems] using this
  have hlt : p < s.heap.objs.size := by obtain ⟨_, e, _⟩ := hT; exact Heap.lt_size e
  refine call_max_walk (wpAny_pyIter_tuple hT ?_)
  refine ⟨_, [_, p], [_], _, _, _, _, rfl, Walks.tuple (A := X.A.in1) (I.ok.hd hc) _ p (Nat.ne_of_lt hlt) (intItems #[(a, t), (b, t')]),
    ⟨⟨_, Heap.get?_push_size _ rfl, rfl, rfl⟩, hT.push _⟩, fun c hc' => ?_, by simp [intItems], CmpOf.ints_gt (numAt #[(a, t), (b, t')]) (fun _ _ => intItems_at), fun v h' tk hP hk => ?_⟩
  · show c < (s.heap.push _).objs.size
    rw [Heap.size_push]
    rcases List.mem_cons.mp hc' with rfl | hc'
    · exact Nat.lt_succ_self _
    · rcases List.mem_cons.mp hc' with rfl | hc'
      · exact Nat.lt_succ_of_lt hlt
      · cases hc'
  · have hold : ∀ c o, s.heap.get? c = some o → h'.get? c = some o := fun c o e => by
      refine hk c o (fun hm => ?_) (Heap.get?_push_of_some _ e)
      rcases List.mem_cons.mp hm with e1 | hm
      · exact absurd (e1 ▸ Heap.lt_size e) (Nat.lt_irrefl _)
      · cases hm
    have hP' : (intItems #[(a, t), (b, t')])[argBest (fun i j => decide (numAt #[(a, t), (b, t')] i > numAt #[(a, t), (b, t')] j)) 1]? = some v := by
      have hsz2 : (intItems #[(a, t), (b, t')]).size - 1 = 1 := by simp [intItems]
      rw [← hsz2]; exact hP
    by_cases hba : b > a
    · have e : argBest (fun i j => decide (numAt #[(a, t), (b, t')] i > numAt #[(a, t), (b, t')] j)) 1 = 1 := by simp [argBest, numAt, hba]
      rw [e] at hP'
      have hv : v = .int b t' := by simpa [intItems] using hP'.symm
      rw [hv]
      rw [if_pos hba] at q
      exact ⟨.int b, H, I.kept hold, ⟨_, rfl⟩, q⟩
    · have e : argBest (fun i j => decide (numAt #[(a, t), (b, t')] i > numAt #[(a, t), (b, t')] j)) 1 = 0 := by simp [argBest, numAt, hba]
      rw [e] at hP'
      have hv : v = .int a t := by simpa [intItems] using hP'.symm
      rw [hv]
      rw [if_neg hba] at q
      exact ⟨.int a, H, I.kept hold, ⟨_, rfl⟩, q⟩
def rInsert : V → List V → Hp → VK → Prop := fun x vs H Q => ∃ l xs k y, x = .ref l ∧ vs = [.int k, y] ∧ H l = some (.lst xs) ∧ 0 ≤ k ∧ k ≤ (xs.length : Int) ∧ xs.length < sizeLine ∧ Q .non (upd H l (.lst (xs.take k.toNat ++ y :: xs.drop k.toNat)))
theorem mt_insert : MtM X "list.insert" rInsert := by
  intro pins s σ H x vs v us Q I rx rv h
  obtain ⟨l, xs, k, y, rfl, rfl, hH, k0, k1, hz, q⟩ := h
  cases rx
  obtain ⟨u1, u, rfl, ⟨t, rfl⟩, ru⟩ := rv.two
  obtain ⟨z, its, n, r, hl, e⟩ := I.lstM hH
  have hs : sizeLine = 16777216 := sizeLine_eq
  have hfit : ¬ (!Builtin.List.listFitsIndex k) = true := by
    have : Builtin.List.listFitsIndex k = true := by
      unfold Builtin.List.listFitsIndex
      simp only [Bool.and_eq_true, decide_eq_true_eq]
      omega
    simp [this]
  refine call_meets F.slot_list_insert ⟨_, e, rfl⟩ F.entry_list_insert (F.args_list_insert_3 _ _ _) (AutoSeq1.list_insert_list_int_val_1 l its.toArray n k t u hfit (by rw [List.size_toArray]; omega)) ⟨e, ?_⟩
  refine ⟨.non, _, I.lset (its' := its.take k.toNat ++ u :: its.drop k.toNat) hH e ?_ ((r.take _).append (.cons ru (r.drop _))) ?_, rfl, q⟩
  · have hk : (if k < 0 then (k + (its.toArray.size : Int)).toNat else min k.toNat its.toArray.size) = k.toNat := by
      rw [if_neg (by omega), List.size_toArray]; omega
    show (its.toArray.extract 0 (if k < 0 then (k + (its.toArray.size : Int)).toNat else min k.toNat its.toArray.size)).push u ++ its.toArray.extract (if k < 0 then (k + (its.toArray.size : Int)).toNat else min k.toNat its.toArray.size) = _
    rw [hk]
    apply Array.toList_inj.mp
    simp [List.extract_eq_drop_take]
    exact List.take_of_length_le (by rw [List.length_drop]; exact Nat.le_refl _)
  · rw [List.length_append, List.length_cons, List.length_take, List.length_drop]
    omega
/-- isinstance(x, a built-in type) -/
theorem call_isinst : CallR X (.builtin "isinstance") (fun xs H Q => ∃ x n t b, xs = [x, .ty n] ∧ TyOf X.K H x t ∧ PySem.W.kitOne X.K t (.type n) = some b ∧ Q (.bl b) H) := by
  intro pins s σ H xs us Q I r h
  obtain ⟨x, n, t, b, rfl, ty, e, q⟩ := h
  obtain ⟨u, u', rfl, ru, rn⟩ := vals2 r
  cases (show u' = Value.type n from rn)
  exact isinst_ok I ru ty e fun tk => ⟨.bl b, H, I.tok _, rfl, q⟩
def CPowB (i j : Int) : Prop := 0 ≤ j ∧ (Builtin.Int.intBits i : Int) * j ≤ 2 ^ 27
theorem op_powB : OpR X (binaryOp .Pow) (rI CPowB fun i j => .int (i ^ j.toNat)) := opI fun _ _ _ _ _ _ _ hc q => pow_int hc.1 hc.2 q
end
end Oh

namespace Oh
open PySem.W PyProof.Rows

def kgo {α : Type} (lt : Nat → Nat → Bool) : KasT α → α
  | .ret a => a
  | .ask i j k => kgo lt (k (lt i j))
theorem kgo_bind {α β : Type} (lt : Nat → Nat → Bool) (f : α → KasT β) : ∀ t : KasT α, kgo lt (t.bind f) = kgo lt (f (kgo lt t))
  | .ret a => rfl
  | .ask i j k => kgo_bind lt f (k (lt i j))

def ltc (c : Nat → Int) (i j : Nat) : Bool := decide (c i < c j)
def kk (c : Nat → Int) (p : Array Nat) (i : Nat) : Int := c (p[i]?.getD 0)
theorem kk_getD (c : Nat → Int) (p : Array Nat) (i : Nat) : c (p.getD i 0) = kk c p i := by unfold kk; simp [Array.getD_eq_getD_getElem?]
def SortTo (c : Nat → Int) (p : Array Nat) (k : Nat) : Prop := ∀ i j, i ≤ j → j < k → kk c p i ≤ kk c p j
def NonInc (c : Nat → Int) (p : Array Nat) (k : Nat) : Prop := ∀ i j, i ≤ j → j < k → kk c p j ≤ kk c p i
section
variable {c : Nat → Int}
theorem kk_congr {xs ys : Array Nat} {i j : Nat} (h : xs[i]? = ys[j]?) : kk c xs i = kk c ys j := by unfold kk; rw [h]
theorem kk_bubble {xs : Array Nat} {src d : Nat} (hs : src < xs.size) (hd : d ≤ src) (k : Nat) :
    kk c (bubble xs src d) k = if k = src - d then kk c xs src else if src - d < k ∧ k ≤ src then kk c xs (k - 1) else kk c xs k := by
  have e := getElem?_bubble hs d hd k
  by_cases h1 : k = src - d
  · rw [if_pos h1] at e ⊢; exact kk_congr e
  · rw [if_neg h1] at e ⊢
    by_cases h2 : src - d < k ∧ k ≤ src
    · rw [if_pos h2] at e ⊢; exact kk_congr e
    · rw [if_neg h2] at e ⊢; exact kk_congr e
theorem kk_mirror {xs : Array Nat} {i j : Nat} (hj : j ≤ xs.size) (k : Nat) :
    kk c (mirror xs i j ((j - i) / 2)) k = if i ≤ k ∧ k < j then kk c xs (i + j - 1 - k) else kk c xs k := by
  have e := getElem?_mirror_all (i := i) hj k
  by_cases h1 : i ≤ k ∧ k < j
  · rw [if_pos h1] at e ⊢; exact kk_congr e
  · rw [if_neg h1] at e ⊢; exact kk_congr e
theorem kk_mirror_equal {xs : Array Nat} {i j : Nat} (hj : j ≤ xs.size) (heq : ∀ k, i ≤ k → k < j → kk c xs k = kk c xs (j - 1)) (k : Nat) :
    kk c (mirror xs i j ((j - i) / 2)) k = kk c xs k := by
  rw [kk_mirror hj]
  split
  · rw [heq _ (by omega) (by omega), heq k (by omega) (by omega)]
  · rfl

theorem ltc_kk (p : Array Nat) (i j : Nat) : ltc c (p.getD i 0) (p.getD j 0) = decide (kk c p i < kk c p j) := by
  unfold ltc; rw [kk_getD c p i, kk_getD c p j]

theorem asc_ok (p : Array Nat) : ∀ (f n : Nat), 1 ≤ n → SortTo c p n → n ≤ kgo (ltc c) (kas_asc p f n) ∧ kgo (ltc c) (kas_asc p f n) ≤ n + f ∧ SortTo c p (kgo (ltc c) (kas_asc p f n)) ∧
    (kgo (ltc c) (kas_asc p f n) = n + f ∨ kk c p (kgo (ltc c) (kas_asc p f n)) < kk c p (kgo (ltc c) (kas_asc p f n) - 1))
  | 0, n, h1, hs => ⟨Nat.le_refl _, Nat.le_refl _, hs, .inl rfl⟩
  | f + 1, n, h1, hs => by
    show n ≤ kgo (ltc c) (if ltc c (p.getD n 0) (p.getD (n - 1) 0) = true then .ret n else kas_asc p f (n + 1)) ∧ kgo (ltc c) (if ltc c (p.getD n 0) (p.getD (n - 1) 0) = true then .ret n else kas_asc p f (n + 1)) ≤ _ ∧
      SortTo c p (kgo (ltc c) (if ltc c (p.getD n 0) (p.getD (n - 1) 0) = true then .ret n else kas_asc p f (n + 1))) ∧ (kgo (ltc c) (if ltc c (p.getD n 0) (p.getD (n - 1) 0) = true then .ret n else kas_asc p f (n + 1)) = _ ∨
       kk c p (kgo (ltc c) (if ltc c (p.getD n 0) (p.getD (n - 1) 0) = true then .ret n else kas_asc p f (n + 1))) < kk c p (kgo (ltc c) (if ltc c (p.getD n 0) (p.getD (n - 1) 0) = true then .ret n else kas_asc p f (n + 1)) - 1))
    rw [ltc_kk]
    by_cases hl : kk c p n < kk c p (n - 1)
    · rw [if_pos (decide_eq_true hl)]
      exact ⟨Nat.le_refl _, by show n ≤ _; omega, hs, .inr hl⟩
    · rw [if_neg (by simpa using hl)]
      have hs' : SortTo c p (n + 1) := fun i j hij hj => by
        by_cases hjx : j < n
        · exact hs i j hij hjx
        · have hj' : j = n := by omega
          subst hj'
          by_cases hi' : i = j
          · subst hi'; exact Int.le_refl _
          · have := hs i (j - 1) (by omega) (by omega); omega
      obtain ⟨a1, a2, a3, a4⟩ := asc_ok p f (n + 1) (by omega) hs'
      refine ⟨by omega, by omega, a3, ?_⟩
      rcases a4 with a4 | a4
      · exact .inl (by omega)
      · exact .inr a4

theorem tail3_ok {p : Array Nat} {n nrem : Nat} (h1 : 1 ≤ n) (hn : n ≤ nrem) (hz : nrem ≤ p.size) (hs : NonInc c p n) :
    (kgo (ltc c) (kas_tail3 n nrem p)).2.Perm p ∧ 1 ≤ (kgo (ltc c) (kas_tail3 n nrem p)).1 ∧ (kgo (ltc c) (kas_tail3 n nrem p)).1 ≤ nrem ∧ SortTo c (kgo (ltc c) (kas_tail3 n nrem p)).2 (kgo (ltc c) (kas_tail3 n nrem p)).1 := by
  unfold kas_tail3
  rw [kgo_bind]
  have hs' : SortTo c (kas_rev p 0 n) n := by
    intro i j hij hj
    unfold kas_rev
    rw [kk_mirror (by omega), kk_mirror (by omega), if_pos (by omega), if_pos (by omega)]
    exact hs _ _ (by omega) (by omega)
  obtain ⟨a1, a2, a3, _⟩ := asc_ok (c := c) (kas_rev p 0 n) (nrem - n) n h1 hs'
  exact ⟨mirror_perm _ _ _ _, by show 1 ≤ kgo _ _; omega, by show kgo _ _ ≤ _; omega, a3⟩

theorem desc_ok : ∀ (f : Nat) (p : Array Nat) (n q : Nat), n + f ≤ p.size → 1 ≤ n → NonInc c p n → q + 1 ≤ n → (∀ i, n - (q + 1) ≤ i → i < n → kk c p i = kk c p (n - 1)) →
    ∃ p' m q', kgo (ltc c) (kas_desc f p n q) = (p', m, q') ∧ p'.Perm p ∧ n ≤ m ∧ m ≤ n + f ∧ NonInc c p' m ∧ q' + 1 ≤ m ∧ ∀ i, m - (q' + 1) ≤ i → i < m → kk c p' i = kk c p' (m - 1)
  | 0, p, n, q, hz, h1, hs, hq, he => ⟨p, n, q, rfl, Array.Perm.refl _, Nat.le_refl _, Nat.le_refl _, hs, hq, he⟩
  | f + 1, p, n, q, hz, h1, hs, hq, he => by
    show ∃ p' m q', kgo (ltc c) (if ltc c (p.getD n 0) (p.getD (n - 1) 0) = true then (if q > 0 then kas_desc f (kas_rev p (n - (q + 1)) n) (n + 1) 0 else kas_desc f p (n + 1) 0)
      else .ask (p.getD (n - 1) 0) (p.getD n 0) fun d => if d = true then .ret (p, n, q) else kas_desc f p (n + 1) (q + 1)) = (p', m, q') ∧ _
    rw [ltc_kk]
    by_cases hl : kk c p n < kk c p (n - 1)
    · rw [if_pos (decide_eq_true hl)]
      have step1 : ∀ xs : Array Nat, (∀ k, kk c xs k = kk c p k) → NonInc c xs (n + 1) := by
        intro xs hk i j hij hj
        rw [hk, hk]
        by_cases hjx : j < n
        · exact hs i j hij hjx
        · have hj' : j = n := by omega
          subst hj'
          by_cases hi' : i = j
          · subst hi'; exact Int.le_refl _
          · have := hs i (j - 1) (by omega) (by omega); omega
      by_cases hq0 : q > 0
      · rw [if_pos hq0]
        have hp : (kas_rev p (n - (q + 1)) n).Perm p := mirror_perm _ _ _ _
        obtain ⟨p', m, q', e1, e2, e3, e4, e5, e6, e7⟩ := desc_ok f (kas_rev p (n - (q + 1)) n) (n + 1) 0 (by rw [hp.size_eq]; omega) (by omega) (step1 _ (kk_mirror_equal (by omega) he)) (by omega) (fun i _ _ => by congr 1; omega)
        exact ⟨p', m, q', e1, e2.trans hp, by omega, by omega, e5, e6, e7⟩
      · rw [if_neg hq0]
        obtain ⟨p', m, q', e1, e2, e3, e4, e5, e6, e7⟩ := desc_ok f p (n + 1) 0 (by omega) (by omega) (step1 _ (fun _ => rfl)) (by omega) (fun i _ _ => by congr 1; omega)
        exact ⟨p', m, q', e1, e2, by omega, by omega, e5, e6, e7⟩
    · rw [if_neg (by simpa using hl)]
      show ∃ p' m q', kgo (ltc c) (if ltc c (p.getD (n - 1) 0) (p.getD n 0) = true then .ret (p, n, q) else kas_desc f p (n + 1) (q + 1)) = (p', m, q') ∧ _
      rw [ltc_kk]
      by_cases hg : kk c p (n - 1) < kk c p n
      · rw [if_pos (decide_eq_true hg)]
        exact ⟨p, n, q, rfl, Array.Perm.refl _, Nat.le_refl _, by omega, hs, hq, he⟩
      · rw [if_neg (by simpa using hg)]
        have heq : kk c p n = kk c p (n - 1) := by omega
        obtain ⟨p', m, q', e1, e2, e3, e4, e5, e6, e7⟩ := desc_ok f p (n + 1) (q + 1) (by omega) (by omega) (fun i j hij hj => by
            by_cases hjx : j < n
            · exact hs i j hij hjx
            · have hj' : j = n := by omega
              subst hj'
              by_cases hi' : i = j
              · subst hi'; exact Int.le_refl _
              · rw [heq]; exact hs i (j - 1) (by omega) (by omega)) (by omega) (fun i a1 a2 => by
            rw [show n + 1 - 1 = n by omega]
            by_cases hix : i = n
            · subst hix; rfl
            · rw [heq]; exact he i (by omega) (by omega))
        exact ⟨p', m, q', e1, e2, by omega, by omega, e5, e6, e7⟩

theorem descPart_ok {p : Array Nat} {n nrem : Nat} (hn : n + 1 ≤ nrem) (hz : nrem ≤ p.size) (hs : NonInc c p (n + 1)) :
    (kgo (ltc c) (kas_descPart n nrem p)).2.Perm p ∧ 1 ≤ (kgo (ltc c) (kas_descPart n nrem p)).1 ∧ (kgo (ltc c) (kas_descPart n nrem p)).1 ≤ nrem ∧ SortTo c (kgo (ltc c) (kas_descPart n nrem p)).2 (kgo (ltc c) (kas_descPart n nrem p)).1 := by
  unfold kas_descPart
  rw [kgo_bind]
  obtain ⟨p', m, q', e1, e2, e3, e4, e5, e6, e7⟩ := desc_ok (c := c) (nrem - (n + 1)) p (n + 1) 0 (by omega) (by omega) hs (by omega) (fun i _ _ => by congr 1; omega)
  have hz' := e2.size_eq
  rw [e1]
  dsimp only
  by_cases hq : q' > 0
  · rw [if_pos hq]
    have hp : (kas_rev p' (m - (q' + 1)) m).Perm p' := mirror_perm _ _ _ _
    have hs' : NonInc c (kas_rev p' (m - (q' + 1)) m) m := by
      intro i j hij hj
      unfold kas_rev
      rw [kk_mirror_equal (by omega) e7, kk_mirror_equal (by omega) e7]
      exact e5 i j hij hj
    obtain ⟨a1, a2, a3, a4⟩ := tail3_ok (c := c) (nrem := nrem) (by omega) (by omega) (by rw [hp.size_eq]; omega) hs'
    exact ⟨a1.trans (hp.trans e2), a2, a3, a4⟩
  · rw [if_neg hq]
    obtain ⟨a1, a2, a3, a4⟩ := tail3_ok (c := c) (nrem := nrem) (by omega) (by omega) (by omega) e5
    exact ⟨a1.trans e2, a2, a3, a4⟩

theorem count_ok {p : Array Nat} {nrem : Nat} (h1 : 1 ≤ nrem) (hz : nrem ≤ p.size) :
    (kgo (ltc c) (kas_count nrem p)).2.Perm p ∧ 1 ≤ (kgo (ltc c) (kas_count nrem p)).1 ∧ (kgo (ltc c) (kas_count nrem p)).1 ≤ nrem ∧ SortTo c (kgo (ltc c) (kas_count nrem p)).2 (kgo (ltc c) (kas_count nrem p)).1 := by
  unfold kas_count
  rw [kgo_bind]
  obtain ⟨a1, a2, a3, a4⟩ := asc_ok (c := c) p (nrem - 1) 1 (by omega) (fun i j hij hj => by have : i = j := (by omega); subst this; exact Int.le_refl _)
  generalize kgo (ltc c) (kas_asc p (nrem - 1) 1) = n at a1 a2 a3 a4
  by_cases hnn : n = nrem
  · rw [if_pos (by simpa using hnn)]
    exact ⟨Array.Perm.refl _, by show 1 ≤ n; omega, by show n ≤ _; omega, a3⟩
  · rw [if_neg (by simpa using hnn)]
    have hlt : kk c p n < kk c p (n - 1) := a4.resolve_left (by omega)
    by_cases hgt : n > 1
    · rw [if_pos hgt]
      show (kgo (ltc c) (if ltc c (p.getD 0 0) (p.getD (n - 1) 0) = true then .ret (n, p) else kas_descPart n nrem (kas_rev p 0 n))).2.Perm p ∧ 1 ≤ (kgo (ltc c) (if ltc c (p.getD 0 0) (p.getD (n - 1) 0) = true then .ret (n, p) else kas_descPart n nrem (kas_rev p 0 n))).1 ∧
        (kgo (ltc c) (if ltc c (p.getD 0 0) (p.getD (n - 1) 0) = true then .ret (n, p) else kas_descPart n nrem (kas_rev p 0 n))).1 ≤ nrem ∧ SortTo c (kgo (ltc c) (if ltc c (p.getD 0 0) (p.getD (n - 1) 0) = true then .ret (n, p) else kas_descPart n nrem (kas_rev p 0 n))).2 (kgo (ltc c) (if ltc c (p.getD 0 0) (p.getD (n - 1) 0) = true then .ret (n, p) else kas_descPart n nrem (kas_rev p 0 n))).1
      rw [ltc_kk]
      by_cases hr : kk c p 0 < kk c p (n - 1)
      · rw [if_pos (decide_eq_true hr)]
        exact ⟨Array.Perm.refl _, by show 1 ≤ n; omega, by show n ≤ _; omega, a3⟩
      · rw [if_neg (by simpa using hr)]
        have hall : ∀ k, 0 ≤ k → k < n → kk c p k = kk c p (n - 1) := by
          intro k _ hk
          have b1 := a3 0 k (by omega) hk
          have b2 := a3 k (n - 1) (by omega) (by omega)
          omega
        have hp : (kas_rev p 0 n).Perm p := mirror_perm _ _ _ _
        have hs' : NonInc c (kas_rev p 0 n) (n + 1) := by
          intro i j hij hj
          unfold kas_rev
          rw [kk_mirror_equal (by omega) hall, kk_mirror_equal (by omega) hall]
          by_cases hjn : j < n
          · rw [hall i (by omega) (by omega), hall j (by omega) hjn]; exact Int.le_refl _
          · have hj' : j = n := by omega
            subst hj'
            by_cases hi' : i = j
            · subst hi'; exact Int.le_refl _
            · rw [hall i (by omega) (by omega)]; omega
        obtain ⟨b1, b2, b3, b4⟩ := descPart_ok (c := c) (nrem := nrem) (by omega) (by rw [hp.size_eq]; omega) hs'
        exact ⟨b1.trans hp, b2, b3, b4⟩
    · rw [if_neg hgt]
      have hn1 : n = 1 := by omega
      subst hn1
      refine descPart_ok (by omega) hz ?_
      intro i j hij hj
      by_cases hi' : i = j
      · subst hi'; exact Int.le_refl _
      · have hi0 : i = 0 := by omega
        have hj1 : j = 1 := by omega
        subst hi0; subst hj1
        simp at hlt
        omega

theorem place_ok (p : Array Nat) (k : Nat) (hs : SortTo c p k) : ∀ (f l r : Nat), l ≤ r → r ≤ k → r - l ≤ f → (∀ i, i < l → kk c p i ≤ kk c p k) → (∀ i, r ≤ i → i < k → kk c p k < kk c p i) →
    kgo (ltc c) (kas_place p k f l r) ≤ k ∧ (∀ i, i < kgo (ltc c) (kas_place p k f l r) → kk c p i ≤ kk c p k) ∧ (∀ i, kgo (ltc c) (kas_place p k f l r) ≤ i → i < k → kk c p k < kk c p i)
  | 0, l, r, hlr, hrk, hf, hlo, hhi => by
    have : l = r := by omega
    subst this
    exact ⟨hrk, hlo, hhi⟩
  | f + 1, l, r, hlr, hrk, hf, hlo, hhi => by
    unfold kas_place
    by_cases hge : l ≥ r
    · rw [if_pos hge]
      have : l = r := by omega
      subst this
      exact ⟨hrk, hlo, hhi⟩
    · rw [if_neg hge]
      show kgo (ltc c) (if ltc c (p.getD k 0) (p.getD ((l + r) / 2) 0) = true then kas_place p k f l ((l + r) / 2) else kas_place p k f ((l + r) / 2 + 1) r) ≤ k ∧ (∀ i, i < kgo (ltc c) (if ltc c (p.getD k 0) (p.getD ((l + r) / 2) 0) = true then kas_place p k f l ((l + r) / 2) else kas_place p k f ((l + r) / 2 + 1) r) → _) ∧
        (∀ i, kgo (ltc c) (if ltc c (p.getD k 0) (p.getD ((l + r) / 2) 0) = true then kas_place p k f l ((l + r) / 2) else kas_place p k f ((l + r) / 2 + 1) r) ≤ i → _)
      rw [ltc_kk]
      by_cases hl : kk c p k < kk c p ((l + r) / 2)
      · rw [if_pos (decide_eq_true hl)]
        exact place_ok p k hs f l ((l + r) / 2) (by omega) (by omega) (by omega) hlo fun i h1 h2 => by have := hs _ _ h1 h2; omega
      · rw [if_neg (by simpa using hl)]
        exact place_ok p k hs f ((l + r) / 2 + 1) r (by omega) (by omega) (by omega) (fun i h1 => by have := hs i ((l + r) / 2) (by omega) (by omega); omega) hhi

theorem bin_ok : ∀ (f : Nat) (p : Array Nat) (k : Nat), k + f ≤ p.size → SortTo c p k → (kgo (ltc c) (kas_bin f p k)).Perm p ∧ SortTo c (kgo (ltc c) (kas_bin f p k)) (k + f)
  | 0, p, k, hz, hs => ⟨Array.Perm.refl _, hs⟩
  | f + 1, p, k, hz, hs => by
    unfold kas_bin
    rw [kgo_bind]
    obtain ⟨a1, a2, a3⟩ := place_ok (c := c) p k hs k 0 k (by omega) (by omega) (by omega) (fun i hi => by omega) (fun i h1 h2 => by omega)
    generalize kgo (ltc c) (kas_place p k k 0 k) = l at a1 a2 a3
    have hp : (bubble p k (k - l)).Perm p := bubble_perm _ _ _
    have hs' : SortTo c (bubble p k (k - l)) (k + 1) := by
      intro i j hij hj
      rw [kk_bubble (by omega) (by omega), kk_bubble (by omega) (by omega), show k - (k - l) = l by omega]
      repeat' split
      all_goals first
        | (exfalso; omega)
        | exact Int.le_refl _
        | exact a2 _ (by omega)
        | (have := a3 (j - 1) (by omega) (by omega); omega)
        | exact hs _ _ (by omega) (by omega)
    obtain ⟨b1, b2⟩ := bin_ok f (bubble p k (k - l)) (k + 1) (by rw [hp.size_eq]; omega) hs'
    exact ⟨b1.trans hp, fun i j hij hj => b2 i j hij (by omega)⟩

theorem ksort_ok (n : Nat) (h1 : 1 ≤ n) : (kgo (ltc c) (kas_sort n)).Perm (List.toArray (List.range n)) ∧ SortTo c (kgo (ltc c) (kas_sort n)) n := by
  unfold kas_sort
  rw [kgo_bind]
  obtain ⟨a1, a2, a3, a4⟩ := count_ok (c := c) (p := List.toArray (List.range n)) (nrem := n) h1 (by simp)
  have hz := a1.size_eq
  have hz' : (List.toArray (List.range n)).size = n := by simp
  by_cases hl : (kgo (ltc c) (kas_count n (List.toArray (List.range n)))).1 < n
  · rw [if_pos hl]
    obtain ⟨b1, b2⟩ := bin_ok (c := c) (n - max (kgo (ltc c) (kas_count n (List.toArray (List.range n)))).1 1) _ (max (kgo (ltc c) (kas_count n (List.toArray (List.range n)))).1 1) (by omega) (fun i j hij hj => a4 i j hij (by omega))
    exact ⟨b1.trans a1, fun i j hij hj => b2 i j hij (by omega)⟩
  · rw [if_neg hl]
    exact ⟨a1, fun i j hij hj => a4 i j hij (by omega)⟩
end

/-! every question is about items that are there -/
def kall {α : Type} (n : Nat) : KasT α → (α → Prop) → Prop
  | .ret a, P => P a
  | .ask i j k, P => i < n ∧ j < n ∧ ∀ b, kall n (k b) P
theorem kall_bind {α β : Type} {n : Nat} {f : α → KasT β} {P : β → Prop} : ∀ (t : KasT α), kall n t (fun a => kall n (f a) P) → kall n (t.bind f) P
  | .ret a, h => h
  | .ask i j k, h => ⟨h.1, h.2.1, fun b => kall_bind (k b) (h.2.2 b)⟩
theorem kall_mono {α : Type} {n : Nat} {P P' : α → Prop} (hp : ∀ a, P a → P' a) : ∀ (t : KasT α), kall n t P → kall n t P'
  | .ret a, h => hp a h
  | .ask i j k, h => ⟨h.1, h.2.1, fun b => kall_mono hp (k b) (h.2.2 b)⟩
def RR (n : Nat) (p : Array Nat) : Prop := 0 < n ∧ ∀ x ∈ p.toList, x < n
section
variable {n : Nat} {p : Array Nat}
theorem RR.get (h : RR n p) (i : Nat) : p.getD i 0 < n := by
  by_cases hi : i < p.size
  · have e : p.getD i 0 = p[i] := by simp [Array.getD, hi]
    rw [e]
    exact h.2 _ (by simp)
  · have e : p.getD i 0 = 0 := by simp [Array.getD, hi]
    rw [e]
    exact h.1
theorem RR.perm {q : Array Nat} (h : RR n p) (hp : q.Perm p) : RR n q := ⟨h.1, fun x hx => h.2 x ((Array.perm_iff_toList_perm.mp hp).mem_iff.mp hx)⟩
theorem asc_all (h : RR n p) : ∀ (f m : Nat), kall n (kas_asc p f m) (fun _ => True)
  | 0, _ => trivial
  | f + 1, m => ⟨h.get _, h.get _, fun b => by
      cases b
      · exact asc_all h f (m + 1)
      · exact trivial⟩
theorem desc_all : ∀ (f : Nat) (p : Array Nat) (m q : Nat), RR n p → kall n (kas_desc f p m q) (fun r => RR n r.1)
  | 0, p, _, _, h => h
  | f + 1, p, m, q, h => ⟨h.get _, h.get _, fun b => by
      cases b
      · show kall n (.ask (p.getD (m - 1) 0) (p.getD m 0) fun d => if d = true then .ret (p, m, q) else kas_desc f p (m + 1) (q + 1)) _
        refine ⟨h.get _, h.get _, fun b => ?_⟩
        cases b
        · exact desc_all f p (m + 1) (q + 1) h
        · exact h
      · show kall n (if q > 0 then kas_desc f (kas_rev p (m - (q + 1)) m) (m + 1) 0 else kas_desc f p (m + 1) 0) _
        split
        · exact desc_all f _ _ _ (h.perm (mirror_perm _ _ _ _))
        · exact desc_all f _ _ _ h⟩
theorem tail3_all (h : RR n p) (m nrem : Nat) : kall n (kas_tail3 m nrem p) (fun r => RR n r.2) := by
  unfold kas_tail3
  have h' : RR n (kas_rev p 0 m) := h.perm (mirror_perm _ _ _ _)
  exact kall_bind _ (kall_mono (fun _ _ => h') _ (asc_all h' _ _))
theorem descPart_all (h : RR n p) (m nrem : Nat) : kall n (kas_descPart m nrem p) (fun r => RR n r.2) := by
  unfold kas_descPart
  refine kall_bind _ (kall_mono (fun r hr => ?_) _ (desc_all _ p _ _ h))
  split
  · exact tail3_all (hr.perm (mirror_perm _ _ _ _)) _ _
  · exact tail3_all hr _ _
theorem count_all (h : RR n p) (nrem : Nat) : kall n (kas_count nrem p) (fun r => RR n r.2) := by
  unfold kas_count
  refine kall_bind _ (kall_mono (fun m _ => ?_) _ (asc_all h _ _))
  split
  · exact h
  · split
    · refine ⟨h.get _, h.get _, fun b => ?_⟩
      cases b
      · exact descPart_all (h.perm (mirror_perm _ _ _ _)) _ _
      · exact h
    · exact descPart_all h _ _
theorem place_all (h : RR n p) (k : Nat) : ∀ (f l r : Nat), kall n (kas_place p k f l r) (fun _ => True)
  | 0, _, _ => trivial
  | f + 1, l, r => by
    unfold kas_place
    split
    · trivial
    · refine ⟨h.get _, h.get _, fun b => ?_⟩
      cases b
      · exact place_all h k f _ _
      · exact place_all h k f _ _
theorem bin_all : ∀ (f : Nat) (p : Array Nat) (k : Nat), RR n p → kall n (kas_bin f p k) (fun _ => True)
  | 0, _, _, _ => trivial
  | f + 1, p, k, h => by
    unfold kas_bin
    exact kall_bind _ (kall_mono (fun l _ => bin_all f _ _ (h.perm (bubble_perm _ _ _))) _ (place_all h k _ _ _))
theorem ksort_all (h1 : 0 < n) : kall n (kas_sort n) (fun _ => True) := by
  unfold kas_sort
  have h : RR n (List.toArray (List.range n)) := ⟨h1, fun x hx => by simpa using hx⟩
  refine kall_bind _ (kall_mono (fun r hr => ?_) _ (count_all h n))
  split
  · exact bin_all _ _ _ hr
  · trivial
end
end Oh
namespace Oh
open PySem PySem.Spec PyProof.Rows L2 PySem.W

def code (t : Int × Int) : Int := 8 * t.1 + t.2
def TupsAre (h : Heap) (vs : List Value) (ts : List (Int × Int)) : Prop := Paired (fun v (t : Int × Int) => ∃ (b : Addr) (o : Obj) (n : Nat) (u w : Tok), v = Value.ref b ∧ h.get? b = some o ∧ o.cls = .type "tuple" ∧ o.data = .seq #[.int t.1 u, .int t.2 w] n) vs ts
theorem paired_get {α β : Type} {F : α → β → Prop} : ∀ {l : List α} {m : List β} {i : Nat}, Paired F l m → i < l.length → ∃ a b, l[i]? = some a ∧ m[i]? = some b ∧ F a b
  | _, _, _, .nil, h => by simp at h
  | _, _, 0, .cons r _, _ => ⟨_, _, rfl, rfl, r⟩
  | _, _, i + 1, .cons _ t, h => by
    obtain ⟨a, b, e1, e2, r⟩ := paired_get (i := i) t (by simpa using h)
    exact ⟨a, b, by simpa using e1, by simpa using e2, r⟩
theorem tups_kat {h : Heap} : ∀ {vs : List Value} {ts : List (Int × Int)}, TupsAre h vs ts → ∃ fs, KatTups h vs fs ∧ fs.length = vs.length ∧ ∀ v ∈ fs, ∃ i t, v = Value.int i t
  | _, _, .nil => ⟨[], trivial, rfl, fun _ h => nomatch h⟩
  | _, _, .cons (b := t) r rs => by
    obtain ⟨b, o, n, u, w, rfl, e, c, d⟩ := r
    obtain ⟨fs, k, l, a⟩ := tups_kat rs
    refine ⟨Value.int t.1 u :: fs, ⟨⟨b, o, _, n, rfl, e, c, d, rfl⟩, k⟩, by simp [l], fun v hv => ?_⟩
    rcases List.mem_cons.mp hv with rfl | hv
    · exact ⟨_, _, rfl⟩
    · exact a v hv
theorem kas_pure {n : Nat} {cmp : Nat → Nat → (Bool → Shared → Prop) → Shared → Prop} {s : Shared} {lt : Nat → Nat → Bool} {G : Array Nat → Shared → Prop} (hc : ∀ i j C, i < n → j < n → C (lt i j) s → cmp i j C s) :
    ∀ (t : KasT (Array Nat)), kall n t (fun _ => True) → G (kgo lt t) s → t.kasWp cmp G s
  | .ret _, _, h => h
  | .ask i j k, ha, h => hc i j _ ha.1 ha.2.1 (kas_pure hc (k (lt i j)) (ha.2.2 _) h)

section
variable {prog : Program} {w : World} {A : Around} {E : Value → Shared → Prop} {s : Shared}
theorem ask_tup {vs : List Value} {ts : List (Int × Int)} (ht : TupsAre s.heap vs ts) (hb : ∀ t ∈ ts, 0 ≤ t.2 ∧ t.2 < 8) {i j : Nat} {C : Bool → Shared → Prop} (hi : i < vs.length) (hj : j < vs.length)
    (h : C (ltc (fun i => code (ts.getD i (0, 0))) i j) s) : kas_ask prog w A (tuples' true) vs i j C s := by
  obtain ⟨v1, t1, a1, a2, b1, o1, n1, u1, w1, rfl, c1, d1, e1⟩ := paired_get ht hi
  obtain ⟨v2, t2, f1, f2, b2, o2, n2, u2, w2, rfl, c2, d2, e2⟩ := paired_get ht hj
  have g1 : vs.getD i Value.none = .ref b1 := by rw [List.getD_eq_getElem?_getD, a1]; rfl
  have g2 : vs.getD j Value.none = .ref b2 := by rw [List.getD_eq_getElem?_getD, f1]; rfl
  have k1 : ts.getD i (0, 0) = t1 := by rw [List.getD_eq_getElem?_getD, a2]; rfl
  have k2 : ts.getD j (0, 0) = t2 := by rw [List.getD_eq_getElem?_getD, f2]; rfl
  have r1 := hb t1 (List.mem_of_getElem? a2)
  have r2 := hb t2 (List.mem_of_getElem? f2)
  have hl : ltc (fun i => code (ts.getD i (0, 0))) i j = decide (8 * t1.1 + t1.2 < 8 * t2.1 + t2.2) := by
    show decide (code (ts.getD i (0, 0)) < code (ts.getD j (0, 0))) = _
    rw [k1, k2]
    rfl
  rw [hl] at h
  unfold kas_ask
  rw [g1, g2]
  refine kat_lt c1 e1 c2 e2 ?_
  show KatLex prog w A true _ C [(Value.int t1.1 u1, Value.int t2.1 u2), (Value.int t1.2 w1, Value.int t2.2 w2)] 0 s
  refine kat_cons (wpAny_eqBool_int ?_)
  by_cases q1 : t1.1 = t2.1
  · rw [show (t1.1 == t2.1) = true by simpa using q1]
    refine kat_yes (kat_cons (wpAny_eqBool_int ?_))
    by_cases q2 : t1.2 = t2.2
    · rw [show (t1.2 == t2.2) = true by simpa using q2]
      refine kat_yes (kat_nil ?_)
      rw [show decide (8 * t1.1 + t1.2 < 8 * t2.1 + t2.2) = false by rw [q1, q2]; simp] at h
      exact h
    · rw [show (t1.2 == t2.2) = false by simpa using q2]
      refine kat_no ?_
      show wpAny (model prog w) A (oneLt' false _ _) C _ s
      refine kat_one _ _ (lt_int ?_)
      show C (decide (t1.2 < t2.2)) s
      rw [show decide (8 * t1.1 + t1.2 < 8 * t2.1 + t2.2) = decide (t1.2 < t2.2) by rw [q1]; exact decide_eq_decide.mpr (by omega)] at h
      exact h
  · rw [show (t1.1 == t2.1) = false by simpa using q1]
    refine kat_no ?_
    show wpAny (model prog w) A (oneLt' true _ _) C _ s
    refine oneLt_int ?_
    rw [show decide (8 * t1.1 + t1.2 < 8 * t2.1 + t2.2) = decide (t1.1 < t2.1) by exact decide_eq_decide.mpr (by omega)] at h
    exact h

theorem tups_keep {h h' : Heap} {vs : List Value} {ts : List (Int × Int)} (ht : TupsAre h vs ts) (k : ∀ b o, o.cls = .type "tuple" → h.get? b = some o → h'.get? b = some o) : TupsAre h' vs ts :=
  L2.Paired.mapP ht fun v t ⟨b, o, n, u, w, e, g, c, d⟩ => ⟨b, o, n, u, w, e, k b o c g, c, d⟩

theorem list_sort_tup {a : Addr} {vs : List Value} {ts : List (Int × Int)} {n : Nat} {P : PySem.Fin → Shared → Prop} (ho : s.heap.get? a = some (seqObj "list" vs.toArray n)) (ht : TupsAre s.heap vs ts) (hb : ∀ t ∈ ts, 0 ≤ t.2 ∧ t.2 < 8) (h64 : vs.length < 64)
    (h : ∀ p : List Nat, p.Perm (List.range vs.length) → (p.map fun i => code (ts.getD i (0, 0))).Pairwise (· ≤ ·) → P (.done (.ret .none)) { s with heap := sortedHeap s.heap a vs (p.map fun i => vs.getD i Value.none).toArray }) :
    wpAny (model prog w) A (Builtin.«list.sort» ⟨[.ref a], []⟩) P E s := by
  rw [list_sort_plain]
  have ha : a < s.heap.objs.size := Heap.lt_size ho
  have hs16 : sizeLine = 16777216 := sizeLine_eq
  refine wpAny_bind (listItems_at ho rfl ?_)
  refine wpAny_bind (listUpdate_at ho rfl ?_ (by rw [List.size_toArray]; omega) (Nat.zero_le _))
  obtain ⟨e1, ho1⟩ : ∃ e1, (s.heap.update a (Obj.mapSeq fun _ => #[])).get? a = some (seqObj "list" #[] e1) := ⟨_, get?_update_seq ho (fun _ => #[])⟩
  refine wpAny_bind (seqEpoch_at ho1 rfl ?_)
  refine wpAny_bind (wpAny_newTuple ?_ (by show vs.length ≤ _; omega))
  refine wpAny_bind (wpAny_newList ?_ (Nat.zero_le _))
  refine wpAny_holding ?_
  have ho6 : (((s.heap.update a (Obj.mapSeq fun _ => #[])).push (seqObj "tuple" vs.toArray 0)).push (seqObj "list" #[] 0)).get? a = some (seqObj "list" #[] e1) := Heap.get?_push_of_some _ (Heap.get?_push_of_some _ ho1)
  show wpAny (model prog w) A _ P E { s with heap := ((s.heap.update a (Obj.mapSeq fun _ => #[])).push (seqObj "tuple" vs.toArray 0)).push (seqObj "list" #[] 0) }
  dsimp only
  have ht6 : TupsAre (((s.heap.update a (Obj.mapSeq fun _ => #[])).push (seqObj "tuple" vs.toArray 0)).push (seqObj "list" #[] 0)) vs ts := tups_keep ht fun b o c e => by
    refine Heap.get?_push_of_some _ (Heap.get?_push_of_some _ ?_)
    refine (Heap.get?_update_other _ _ ?_).trans e
    intro z
    subst z
    rw [ho] at e
    cases e
    have c' : Value.type "list" = Value.type "tuple" := c
    injection c' with c''
    exact absurd c'' (by decide)
  have hsz : vs.toArray.size = vs.length := by simp
  by_cases h2 : vs.toArray.size < 2
  · rw [if_pos h2, if_pos h2]
    refine wpAny_bind (wpAny_pure ?_)
    rw [StateT.run_pure]
    refine wpAny_bind (wpAny_pure ?_)
    dsimp only
    refine wpAny_bind (seqEpoch_at ho6 rfl ?_)
    refine wpAny_bind (listUpdate_at ho6 rfl ?_ (hsz2 := by rw [Array.size_map]; show (pairsOf vs).size ≤ _; rw [pairsOf_size, sizeLine_eq]; omega))
    simp only [bne_self_eq_false, Bool.false_eq_true, if_false]
    have h2n : vs.length < 2 := by rw [← hsz]; exact h2
    have q := h (List.range vs.length) (List.Perm.refl _) (by
      have z : vs.length = 0 ∨ vs.length = 1 := by omega
      rcases z with z | z <;> rw [z] <;> simp)
    have e : (List.map (fun i => vs.getD i Value.none) (List.range vs.length)).toArray = (vs.toArray.zip vs.toArray).map (·.2) := by
      clear h ht ho ho1 ho6 ht6 q
      rcases vs with _ | ⟨v, _ | ⟨v2, r⟩⟩
      · simp
      · simp
      · rw [List.length_cons, List.length_cons] at h2n; omega
    rw [e] at q
    exact wpAny_pure q
  · rw [if_neg h2, if_neg h2]
    have h2' : 2 ≤ vs.length := by omega
    obtain ⟨fs, kt, kl, ka⟩ := tups_kat ht6
    refine wpAny_bind (kat_kind (T := .type "int") kt (by omega) (fun v hv => ?_) rfl ?_)
    · obtain ⟨i, t, rfl⟩ := ka v hv
      exact Looks.now
    have ek : tuples' (Value.type "int" != Value.type "tuple") = tuples' true := rfl
    rw [ek]
    refine wpAny_bind (wpAny_mono (kat_run (ks := vs) (Q := fun st' s' => s' = { s with heap := ((s.heap.update a (Obj.mapSeq fun _ => #[])).push (seqObj "tuple" vs.toArray 0)).push (seqObj "list" #[] 0) } ∧ ∃ p : Array Nat, p = kgo (ltc fun i => code (ts.getD i (0, 0))) (kas_sort vs.length) ∧ arrOf st' = p.map (kas_item (vs.toArray.zip vs.toArray)) ∧ failedOf st' = none)
      (G := fun p s' => s' = { s with heap := ((s.heap.update a (Obj.mapSeq fun _ => #[])).push (seqObj "tuple" vs.toArray 0)).push (seqObj "list" #[] 0) } ∧ p = kgo (ltc fun i => code (ts.getD i (0, 0))) (kas_sort vs.length))
      rfl h2' h64 (fun p st' s' b1 b2 b3 b4 => ⟨b4.1, p, b4.2, b2, b3⟩) (kas_pure (fun i j C hi hj hC => ask_tup ht6 hb hi hj hC) _ (ksort_all (by omega)) ⟨rfl, rfl⟩)) ?_ fun _ _ e => e)
    rintro ⟨⟨⟩, st'⟩ s' ⟨rfl, p, hp, har, hf⟩
    obtain ⟨pp, ps⟩ := ksort_ok (c := fun i => code (ts.getD i (0, 0))) vs.length (by omega)
    rw [← hp] at pp ps
    dsimp only
    refine wpAny_bind (seqEpoch_at ho6 rfl ?_)
    have es := kat_snds (ks := vs) (vs := vs) rfl har
    have pl : p.size = vs.length := by rw [pp.size_eq]; simp
    refine wpAny_bind (listUpdate_at ho6 rfl ?_ (hsz2 := by
      show ((arrOf st').map (·.2)).size ≤ _
      rw [es, List.size_toArray, List.length_map, Array.length_toList, pl]; omega))
    rw [hf]
    simp only [bne_self_eq_false, Bool.false_eq_true, if_false]
    have q := h p.toList (by simpa using Array.perm_iff_toList_perm.mp pp) (by
      rw [List.pairwise_map, List.pairwise_iff_getElem]
      intro i j hi hj hij
      have b := ps i j (Nat.le_of_lt hij) (by rw [← pl]; simpa using hj)
      have hi' : i < p.size := by simpa using hi
      have hj' : j < p.size := by simpa using hj
      have e1 : kk (fun i => code (ts.getD i (0, 0))) p i = code (ts.getD p.toList[i] (0, 0)) := by unfold kk; simp [hi']
      have e2 : kk (fun i => code (ts.getD i (0, 0))) p j = code (ts.getD p.toList[j] (0, 0)) := by unfold kk; simp [hj']
      rw [e1, e2] at b
      exact b)
    rw [← es] at q
    exact wpAny_pure q
theorem sorted_tup {l : Addr} {vs : List Value} {ts : List (Int × Int)} {Q : Value → Shared → Prop} (hl : s.heap.IsList l vs.toArray) (ht : TupsAre s.heap vs ts) (hb : ∀ t ∈ ts, 0 ≤ t.2 ∧ t.2 < 8) (h64 : vs.length < 64)
    (h : ∀ p : List Nat, p.Perm (List.range vs.length) → (p.map fun i => code (ts.getD i (0, 0))).Pairwise (· ≤ ·) → Q (.ref (s.heap.objs.size + 1)) { s with heap := sortedAll s.heap vs (p.map fun i => vs.getD i Value.none).toArray }) :
    wpAny (model prog w) A (call (.builtin "sorted") [.ref l]) Q E s := by
  have hs16 : sizeLine = 16777216 := sizeLine_eq
  refine Calls.call_function_entry kind_sorted plain_sorted entry_sorted (args_sorted1 _) ?_
  unfold Builtin.«sorted»
  refine wpAny_bind (m := checkCount "sorted" 1 1 _) (wpAny_pure ?_)
  refine wpAny_bind (collect_list hl ?_ (by omega))
  refine wpAny_bind (wpAny_newList ?_ (by omega))
  have hsz : ((s.heap.push (seqObj "list" #[] 0)).update s.heap.objs.size (Obj.mapSeq (· ++ vs.toArray))).objs.size = s.heap.objs.size + 1 := by
    rw [Heap.size_update, size_push']
  have hoL : (((s.heap.push (seqObj "list" #[] 0)).update s.heap.objs.size (Obj.mapSeq (· ++ vs.toArray))).push (seqObj "list" vs.toArray 0)).get? (s.heap.objs.size + 1) = some (seqObj "list" vs.toArray 0) := by
    rw [← hsz]; exact Heap.get?_push_size _ rfl
  show wpAny _ _ _ _ _ { s with heap := ((s.heap.push (seqObj "list" #[] 0)).update s.heap.objs.size (Obj.mapSeq (· ++ vs.toArray))).push (seqObj "list" vs.toArray 0) }
  rw [hsz]
  have ht' : TupsAre (((s.heap.push (seqObj "list" #[] 0)).update s.heap.objs.size (Obj.mapSeq (· ++ vs.toArray))).push (seqObj "list" vs.toArray 0)) vs ts := tups_keep ht fun b o _ e =>
    Heap.get?_push_of_some _ ((Heap.get?_update_other _ _ (Ne.symm (Nat.ne_of_lt (Heap.lt_size e)))).trans (Heap.get?_push_of_some _ e))
  refine wpAny_bind (wpAny_holding (wpAny_call_entry slot_list_sort ⟨_, hoL, rfl⟩ entry_list_sort (list_sort_tup hoL ht' hb h64 fun p a1 a2 => ⟨_, rfl, ?_⟩) (args_list_sort _)))
  exact wpAny_pure ⟨_, rfl, h p a1 a2⟩
end

def isPair (H : Hp) (v : V) (t : Int × Int) : Prop := ∃ r, v = .ref r ∧ H r = some (.tup [.int t.1, .int t.2])
def Pairs (H : Hp) (vs : List V) (T : List (Int × Int)) : Prop := Paired (isPair H) vs T
theorem Pairs.same {H H' : Hp} {vs : List V} {T : List (Int × Int)} (p : Pairs H vs T) (e : Same H H') : Pairs H' vs T := L2.Paired.mapP p fun v t ⟨r, a, b⟩ => ⟨r, a, e _ _ b⟩
theorem Pairs.length {H : Hp} {vs : List V} {T : List (Int × Int)} (p : Pairs H vs T) : vs.length = T.length := Paired.length p
theorem Pairs.get {H : Hp} {vs : List V} {T : List (Int × Int)} {i : Nat} {v : V} (p : Pairs H vs T) (h : vs[i]? = some v) : ∃ t, T[i]? = some t ∧ isPair H v t := by
  have hi : i < vs.length := by
    obtain ⟨q, _⟩ := List.getElem?_eq_some_iff.mp h
    exact q
  obtain ⟨a, b, e1, e2, r⟩ := paired_get p hi
  rw [h] at e1
  cases e1
  exact ⟨b, e2, r⟩
theorem Pairs.append {H : Hp} {vs ws : List V} {T U : List (Int × Int)} (p : Pairs H vs T) (q : Pairs H ws U) : Pairs H (vs ++ ws) (T ++ U) := by
  induction p with
  | nil => exact q
  | cons r _ ih => exact .cons r ih
theorem Pairs.one {H : Hp} {v : V} {t : Int × Int} (p : isPair H v t) : Pairs H [v] [t] := .cons p .nil
theorem Pairs.pick {H : Hp} {vs : List V} {T : List (Int × Int)} (p : Pairs H vs T) : ∀ (is : List Nat), (∀ i ∈ is, i < vs.length) → Pairs H (is.map fun i => vs.getD i .non) (is.map fun i => T.getD i (0, 0))
  | [], _ => .nil
  | i :: r, h => by
    obtain ⟨a, b, e1, e2, q⟩ := paired_get p (h i List.mem_cons_self)
    refine .cons ?_ (Pairs.pick p r fun j hj => h j (List.mem_cons_of_mem _ hj))
    show isPair H (vs.getD i .non) (T.getD i (0, 0))
    rw [List.getD_eq_getElem?_getD, List.getD_eq_getElem?_getD, e1, e2]
    exact q
theorem Pairs.tups {P : Program} {w : World} {H : Hp} {h : Heap} (ok : HOk P w H h) : ∀ {vs : List V} {T : List (Int × Int)} {us : List Value}, Pairs H vs T → Vals vs us → TupsAre h us T
  | _, _, _, .nil, .nil => .nil
  | _, _, _, .cons (b := t) r rs, .cons ru rus => by
    obtain ⟨a, rfl, e⟩ := r
    cases ru
    obtain ⟨_, its, rv, ob, e1, e2, n, e3⟩ := (show ObjOk P w H h a (.tup [.int t.1, .int t.2]) from ok a _ e)
    obtain ⟨u1, u2, rfl, ⟨x, rfl⟩, ⟨y, rfl⟩⟩ := vals2 rv
    exact .cons ⟨a, ob, n, x, y, rfl, e1, e2, e3⟩ (Pairs.tups ok rs rus)
theorem vals_pick {xs : List V} {us : List Value} (r : Vals xs us) : ∀ (is : List Nat), (∀ i ∈ is, i < xs.length) → Vals (is.map fun i => xs.getD i .non) (is.map fun i => us.getD i Value.none)
  | [], _ => .nil
  | i :: t, h => by
    obtain ⟨a, b, e1, e2, q⟩ := paired_get r (h i List.mem_cons_self)
    refine .cons ?_ (vals_pick r t fun j hj => h j (List.mem_cons_of_mem _ hj))
    show RelV (xs.getD i .non) (us.getD i Value.none)
    rw [List.getD_eq_getElem?_getD, List.getD_eq_getElem?_getD, e1, e2]
    exact q
/-- sorted of a list of pairs -/
theorem call_sorted {X : Cx} : CallR X (.builtin "sorted") (fun xs H Q => ∃ p ys T, xs = [.ref p] ∧ SqL X.K H p ys ∧ Pairs H ys T ∧ (∀ t ∈ T, 0 ≤ t.2 ∧ t.2 < 8) ∧ ys.length < 64 ∧
    ∀ (is : List Nat) (l : Addr), is.Perm (List.range ys.length) → (is.map fun i => code (T.getD i (0, 0))).Pairwise (· ≤ ·) → H l = none → Q (.ref l) (upd H l (.lst (is.map fun i => ys.getD i .non)))) := by
  intro pins s σ H xs us Q I r h
  obtain ⟨p, ys, T, rfl, hq, hp, hb, hz, q⟩ := h
  obtain ⟨u, rfl, rx⟩ := vals1 r
  cases rx
  obtain ⟨its, r', pl, hz'⟩ := I.list hq
  have hl := r'.length
  have hs16 : sizeLine = 16777216 := sizeLine_eq
  refine sorted_tup pl.isList (hp.tups I.hok r') hb (by omega) fun is a1 a2 => ?_
  obtain ⟨e, he⟩ := sortedAll_at s.heap its (is.map fun i => its.getD i Value.none).toArray
  rw [← hl] at a1
  have hm : ∀ i ∈ is, i < ys.length := fun i hi => List.mem_range.mp (a1.mem_iff.mp hi)
  have hn : H (s.heap.objs.size + 1) = none := I.hok.fresh (Nat.le_succ _)
  refine ⟨.ref (s.heap.objs.size + 1), _, I.laid (t' := s.toks) (fun b o e => sortedAll_old e) (Nat.le_succ _) ?_, rfl, q is _ a1 a2 hn⟩
  refine ⟨?_, _, e, vals_pick r' is hm, he⟩
  rw [List.length_map, a1.length_eq, List.length_range]
  omega
end Oh

namespace Oh

theorem ins_perm {α : Type} (xs : List α) (k : Nat) (y : α) : (xs.take k ++ y :: xs.drop k).Perm (y :: xs) := by
  have h := List.perm_middle (a := y) (l₁ := xs.take k) (l₂ := xs.drop k)
  rw [List.take_append_drop] at h
  exact h

/-- the houses 0, 1, .. -/
def hs (n : Nat) : List Int := (List.range n).map fun i : Nat => (i : Int)
theorem hs_succ (n : Nat) : hs (n + 1) = hs n ++ [(n : Int)] := by unfold hs; rw [List.range_succ, List.map_append]; rfl
theorem mem_hs {n : Nat} {x : Int} : x ∈ hs n ↔ 0 ≤ x ∧ x < n := by
  unfold hs
  rw [List.mem_map]
  constructor
  · rintro ⟨i, hi, rfl⟩
    have := List.mem_range.mp hi
    omega
  · rintro ⟨h0, h1⟩
    exact ⟨x.toNat, List.mem_range.mpr (by omega), by omega⟩
theorem hs_length (n : Nat) : (hs n).length = n := by unfold hs; simp
theorem hs_nodup (n : Nat) : (hs n).Nodup := by
  unfold hs
  rw [List.nodup_iff_pairwise_ne, List.pairwise_map]
  exact (List.nodup_iff_pairwise_ne.mp List.nodup_range).imp fun h e => h (by omega)

def inb (h : Int) (t : Int × Int) : Prop := 0 ≤ t.1 ∧ t.1 < h ∧ 0 ≤ t.2 ∧ t.2 < h ∧ t.1 ≠ t.2
def Conn (h : Int) (T : List (Int × Int)) : Prop := ∀ S : Int → Prop, (∃ x, 0 ≤ x ∧ x < h ∧ S x) → (∀ t ∈ T, S t.1 ↔ S t.2) → ∀ x, 0 ≤ x → x < h → S x
structure Good (h : Int) (T : List (Int × Int)) : Prop where
  len : T.length ≤ 16
  rng : ∀ t ∈ T, inb h t
  conn : Conn h T

theorem conn_tree {h : Int} {T : List (Int × Int)} (tree : ∀ k, 1 ≤ k → k < h → ∃ p, 0 ≤ p ∧ p < k ∧ (p, k) ∈ T) : Conn h T := by
  intro S ⟨x0, a0, a1, s0⟩ cl
  have down : ∀ (n : Nat) (x : Int), x.toNat = n → 0 ≤ x → x < h → S x → S 0 := by
    intro n
    induction n using Nat.strongRecOn with
    | ind n ih =>
      intro x hn h0 h1 hx
      by_cases e : x = 0
      · rw [← e]; exact hx
      · obtain ⟨p, p0, p1, hm⟩ := tree x (by omega) h1
        exact ih p.toNat (by omega) p rfl p0 (by omega) ((cl _ hm).mpr hx)
  have s00 : S 0 := down _ x0 rfl a0 a1 s0
  have up : ∀ (n : Nat) (x : Int), x.toNat = n → 0 ≤ x → x < h → S x := by
    intro n
    induction n using Nat.strongRecOn with
    | ind n ih =>
      intro x hn h0 h1
      by_cases e : x = 0
      · rw [e]; exact s00
      · obtain ⟨p, p0, p1, hm⟩ := tree x (by omega) h1
        exact (cl _ hm).mp (ih p.toNat (by omega) p rfl p0 (by omega))
  exact fun x h0 h1 => up _ x rfl h0 h1

theorem Conn.mono {h : Int} {T T' : List (Int × Int)} (c : Conn h T) (sub : ∀ t ∈ T, t ∈ T' ∨ (t.2, t.1) ∈ T') : Conn h T' := by
  intro S hx cl
  refine c S hx fun t ht => ?_
  rcases sub t ht with q | q
  · exact cl t q
  · exact (cl _ q).symm

def ren (o : List Int) (t : Int × Int) : Int × Int := (o.getD t.1.toNat 0, o.getD t.2.toNat 0)
section
variable {n : Nat} {o : List Int}
theorem perm_get (hp : o.Perm (hs n)) {x : Int} (h0 : 0 ≤ x) (h1 : x < n) : o[x.toNat]? = some (o.getD x.toNat 0) ∧ 0 ≤ o.getD x.toNat 0 ∧ o.getD x.toNat 0 < n := by
  have hl : o.length = n := by rw [hp.length_eq, hs_length]
  have hi : x.toNat < o.length := by omega
  have e : o.getD x.toNat 0 = o[x.toNat] := by simp [hi]
  rw [e]
  refine ⟨by simp [hi], ?_⟩
  exact mem_hs.mp (hp.mem_iff.mp (List.getElem_mem hi))
theorem perm_ne (hp : o.Perm (hs n)) {x y : Int} (h0 : 0 ≤ x) (h1 : x < n) (g0 : 0 ≤ y) (g1 : y < n) (hne : x ≠ y) : o.getD x.toNat 0 ≠ o.getD y.toNat 0 := by
  have hl : o.length = n := by rw [hp.length_eq, hs_length]
  have nd : o.Nodup := hp.nodup_iff.mpr (hs_nodup n)
  have hi : x.toNat < o.length := by omega
  have hj : y.toNat < o.length := by omega
  have e1 : o.getD x.toNat 0 = o[x.toNat] := by simp [hi]
  have e2 : o.getD y.toNat 0 = o[y.toNat] := by simp [hj]
  rw [e1, e2]
  intro e
  have pw := List.pairwise_iff_getElem.mp nd
  rcases Nat.lt_trichotomy x.toNat y.toNat with q | q | q
  · exact pw _ _ hi hj q e
  · omega
  · exact pw _ _ hj hi q e.symm
theorem perm_onto (hp : o.Perm (hs n)) {x : Int} (h0 : 0 ≤ x) (h1 : x < n) : ∃ j : Int, 0 ≤ j ∧ j < n ∧ o.getD j.toNat 0 = x := by
  have hl : o.length = n := by rw [hp.length_eq, hs_length]
  have hm : x ∈ o := hp.mem_iff.mpr (mem_hs.mpr ⟨h0, h1⟩)
  obtain ⟨i, hi, e⟩ := List.getElem_of_mem hm
  refine ⟨(i : Int), by omega, by omega, ?_⟩
  simp [hi, e]
theorem good_ren {T : List (Int × Int)} (hp : o.Perm (hs n)) (g : Good n T) : Good n (T.map (ren o)) where
  len := by rw [List.length_map]; exact g.len
  rng := fun t ht => by
    obtain ⟨u, hu, rfl⟩ := List.mem_map.mp ht
    obtain ⟨a, b, c, d, e⟩ := g.rng u hu
    have q1 := perm_get hp a b
    have q2 := perm_get hp c d
    exact ⟨q1.2.1, q1.2.2, q2.2.1, q2.2.2, perm_ne hp a b c d e⟩
  conn := by
    intro S ⟨x0, a0, a1, s0⟩ cl x h0 h1
    obtain ⟨j0, b0, b1, e0⟩ := perm_onto hp a0 a1
    have all := g.conn (fun j => S (o.getD j.toNat 0)) ⟨j0, b0, b1, by show S _; rw [e0]; exact s0⟩ fun t ht => cl (ren o t) (List.mem_map.mpr ⟨t, ht, rfl⟩)
    obtain ⟨j, c0, c1, e⟩ := perm_onto hp h0 h1
    rw [← e]
    exact all j c0 c1
end

/-- (the lesser, the greater) -/
def nrm (t : Int × Int) : Int × Int := (if t.2 < t.1 then t.2 else t.1, if t.2 > t.1 then t.2 else t.1)
theorem nrm_or (t : Int × Int) : (nrm t = t ∧ t.1 ≤ t.2) ∨ (nrm t = (t.2, t.1) ∧ t.2 < t.1) := by
  unfold nrm
  by_cases h : t.2 < t.1
  · right; rw [if_pos h, if_neg (by omega)]; exact ⟨rfl, h⟩
  · left
    rw [if_neg h]
    by_cases h' : t.2 > t.1
    · rw [if_pos h']; exact ⟨rfl, by omega⟩
    · rw [if_neg h']
      have e : t.1 = t.2 := by omega
      refine ⟨?_, by omega⟩
      rw [e]
      exact Prod.ext e.symm rfl
theorem inb_nrm {h : Int} {t : Int × Int} (g : inb h t) : inb h (nrm t) := by
  obtain ⟨a, b, c, d, e⟩ := g
  rcases nrm_or t with ⟨q, _⟩ | ⟨q, _⟩ <;> rw [q]
  · exact ⟨a, b, c, d, e⟩
  · exact ⟨c, d, a, b, fun z => e z.symm⟩
theorem good_sub {h : Int} {T T' : List (Int × Int)} (g : Good h T) (hl : T'.length = T.length) (s1 : ∀ t ∈ T', t ∈ T ∨ (t.2, t.1) ∈ T) (s2 : ∀ t ∈ T, t ∈ T' ∨ (t.2, t.1) ∈ T') : Good h T' where
  len := by rw [hl]; exact g.len
  rng := fun t ht => by
    rcases s1 t ht with q | q
    · exact g.rng t q
    · obtain ⟨a, b, c, d, e⟩ := g.rng _ q
      exact ⟨c, d, a, b, fun z => e z.symm⟩
  conn := g.conn.mono s2
theorem good_nrm {h : Int} {T T' : List (Int × Int)} (g : Good h T) (hp : T'.Perm (T.map nrm)) : Good h T' := by
  refine good_sub g (by rw [hp.length_eq, List.length_map]) (fun t ht => ?_) fun t ht => ?_
  · obtain ⟨u, hu, rfl⟩ := List.mem_map.mp (hp.mem_iff.mp ht)
    rcases nrm_or u with ⟨q, _⟩ | ⟨q, _⟩ <;> rw [q]
    · exact .inl hu
    · exact .inr hu
  · have hm : nrm t ∈ T' := hp.mem_iff.mpr (List.mem_map.mpr ⟨t, ht, rfl⟩)
    rcases nrm_or t with ⟨q, _⟩ | ⟨q, _⟩ <;> rw [q] at hm
    · exact .inl hm
    · exact .inr hm

theorem nodup_le : ∀ {l m : List Int}, l.Nodup → (∀ x ∈ l, x ∈ m) → l.length ≤ m.length
  | [], _, _, _ => Nat.zero_le _
  | a :: l, m, nd, sub => by
    obtain ⟨na, nd'⟩ := List.nodup_cons.mp nd
    have ha : a ∈ m := sub a List.mem_cons_self
    have := nodup_le (l := l) (m := m.erase a) nd' fun x hx => (List.mem_erase_of_ne (fun (e : x = a) => na (e ▸ hx))).mpr (sub x (List.mem_cons_of_mem _ hx))
    rw [List.length_erase_of_mem ha] at this
    have hp := List.length_pos_of_mem ha
    rw [List.length_cons]
    omega
/-- what is come to, is all -/
theorem all_met {n : Nat} {T : List (Int × Int)} (g : Good n T) {met : List Int} (h0 : (0 : Int) ∈ met) (hn : 1 ≤ n) (cl : ∀ t ∈ T, (t.1 ∈ met ↔ t.2 ∈ met)) : n ≤ met.length := by
  have all : ∀ x, 0 ≤ x → x < (n : Int) → x ∈ met := g.conn (fun x => x ∈ met) ⟨0, Int.le_refl 0, by omega, h0⟩ cl
  have := nodup_le (hs_nodup n) (m := met) fun x hx => by
    have := mem_hs.mp hx
    exact all x this.1 this.2
  rwa [hs_length] at this

/-! ### the drawn ties -/
theorem other_ne {h one q : Int} (h0 : 0 ≤ one) (h1 : one < h) (q0 : 0 ≤ q) (q1 : q < h - 1) : inb h (one, (one + 1 + q) % h) := by
  have a : 0 ≤ (one + 1 + q) % h := Int.emod_nonneg _ (by omega)
  have b : (one + 1 + q) % h < h := Int.emod_lt_of_pos _ (by omega)
  refine ⟨h0, h1, a, b, ?_⟩
  show one ≠ (one + 1 + q) % h
  by_cases c : one + 1 + q < h
  · rw [Int.emod_eq_of_lt (by omega) c]; omega
  · have e : one + 1 + q = (one + 1 + q - h) + h := by omega
    rw [e, Int.add_emod_right, Int.emod_eq_of_lt (by omega) (by omega)]
    omega

/-! ### lendings -/
def mv (sc : List Int) (t : Int × Int) : Int := sc.getD t.1.toNat 0 - sc.getD t.2.toNat 0
def step1 (sc b : List Int) (t : Int × Int) : List Int := (b.set t.1.toNat (b.getD t.1.toNat 0 - mv sc t))
def step2 (sc b : List Int) (t : Int × Int) : List Int := (step1 sc b t).set t.2.toNat ((step1 sc b t).getD t.2.toNat 0 + mv sc t)
def lentL (T : List (Int × Int)) (st sc : List Int) : List Int := T.foldl (step2 sc) st
def dl (sc : List Int) (t : Int × Int) (i : Nat) : Int := if t.1.toNat = i then - mv sc t else if t.2.toNat = i then mv sc t else 0
def delta (T : List (Int × Int)) (sc : List Int) (i : Nat) : Int := (T.map fun t => dl sc t i).sum

theorem getD_set (l : List Int) (i j : Nat) (v : Int) (h : i < l.length) : (l.set i v).getD j 0 = if i = j then v else l.getD j 0 := by
  by_cases e : i = j
  · subst e; simp [h]
  · simp [e, List.getElem?_set]
theorem len_step2 (sc b : List Int) (t : Int × Int) : (step2 sc b t).length = b.length := by simp [step2, step1]
theorem len_lentL : ∀ (T : List (Int × Int)) (st sc : List Int), (lentL T st sc).length = st.length
  | [], st, sc => rfl
  | t :: T, st, sc => by
    show (lentL T (step2 sc st t) sc).length = _
    rw [len_lentL, len_step2]
theorem get_step2 {n : Nat} {sc b : List Int} {t : Int × Int} (hb : b.length = n) (ht : inb n t) (i : Nat) : (step2 sc b t).getD i 0 = b.getD i 0 + dl sc t i := by
  obtain ⟨a1, a2, a3, a4, a5⟩ := ht
  have l1 : t.1.toNat < b.length := by omega
  have l2 : t.2.toNat < (step1 sc b t).length := by simp [step1]; omega
  unfold step2
  rw [getD_set _ _ _ _ l2]
  unfold dl
  have hne : t.1.toNat ≠ t.2.toNat := by omega
  by_cases e2 : t.2.toNat = i
  · rw [if_pos e2]
    have e1 : ¬ t.1.toNat = i := by omega
    rw [if_neg e1, if_pos e2]
    unfold step1
    rw [getD_set _ _ _ _ l1, if_neg (by omega), e2]
  · rw [if_neg e2]
    unfold step1
    rw [getD_set _ _ _ _ l1]
    by_cases e1 : t.1.toNat = i
    · rw [if_pos e1, if_pos e1, e1]; omega
    · rw [if_neg e1, if_neg e1, if_neg e2]; omega
theorem get_lentL {n : Nat} : ∀ {T : List (Int × Int)} {st sc : List Int}, st.length = n → (∀ t ∈ T, inb n t) → ∀ i, (lentL T st sc).getD i 0 = st.getD i 0 + delta T sc i
  | [], st, sc, _, _, i => by simp [lentL, delta]
  | t :: T, st, sc, hl, hT, i => by
    show (lentL T (step2 sc st t) sc).getD i 0 = _
    rw [get_lentL (by rw [len_step2]; exact hl) (fun u hu => hT u (List.mem_cons_of_mem _ hu)), get_step2 hl (hT t List.mem_cons_self)]
    simp only [delta, List.map_cons, List.sum_cons]
    omega
theorem sum_set : ∀ (l : List Int) (i : Nat) (v : Int), i < l.length → (l.set i v).sum = l.sum - l.getD i 0 + v
  | [], _, _, h => by simp at h
  | x :: l, 0, v, _ => by simp; omega
  | x :: l, i + 1, v, h => by
    have := sum_set l i v (by simpa using h)
    simp only [List.set_cons_succ, List.sum_cons, List.getD_cons_succ]
    omega
theorem sum_step2 {n : Nat} {sc b : List Int} {t : Int × Int} (hb : b.length = n) (ht : inb n t) : (step2 sc b t).sum = b.sum := by
  obtain ⟨a1, a2, a3, a4, a5⟩ := ht
  have l1 : t.1.toNat < b.length := by omega
  have l2 : t.2.toNat < (step1 sc b t).length := by simp [step1]; omega
  unfold step2
  rw [sum_set _ _ _ l2]
  unfold step1
  rw [sum_set _ _ _ l1]
  omega
theorem sum_lentL {n : Nat} : ∀ {T : List (Int × Int)} {st sc : List Int}, st.length = n → (∀ t ∈ T, inb n t) → (lentL T st sc).sum = st.sum
  | [], st, sc, _, _ => rfl
  | t :: T, st, sc, hl, hT => by
    show (lentL T (step2 sc st t) sc).sum = _
    rw [sum_lentL (by rw [len_step2]; exact hl) (fun u hu => hT u (List.mem_cons_of_mem _ hu)), sum_step2 hl (hT t List.mem_cons_self)]
/-- the script of one lending; what a row of lendings counts -/
def unit (n : Nat) (p : Int × Int) : List Int := (List.replicate n (0 : Int)).set p.1.toNat p.2
def walked (T : List (Int × Int)) (n : Nat) (st : List Int) (row : List (Int × Int)) : List Int := row.foldl (fun s p => lentL T s (unit n p)) st
def many (row : List (Int × Int)) (i : Nat) : Int := (row.map fun p => if p.1.toNat = i then p.2 else 0).sum
theorem sum_perm : ∀ {a b : List Int}, a.Perm b → a.sum = b.sum := by
  intro a b h
  induction h with
  | nil => rfl
  | cons x _ ih => simp [ih]
  | swap x y l => simp only [List.sum_cons]; omega
  | trans _ _ h1 h2 => rw [h1, h2]
end Oh

namespace Oh
open PySem PySem.Spec PyProof.Rows L2

theorem iteD {c A B : Prop} [Decidable c] (hc : ¬ c) (h : B) : if decide c = true then A else B := by rw [decide_eq_false hc]; exact iteF h
theorem iteDT {c A B : Prop} [Decidable c] (hc : c) (h : A) : if decide c = true then A else B := by rw [decide_eq_true hc]; exact iteT h
theorem iteB {b : Bool} {A B : Prop} (hb : b = false) (h : B) : if b = true then A else B := by rw [hb]; exact iteF h
theorem iteBT {b : Bool} {A B : Prop} (hb : b = true) (h : A) : if b = true then A else B := by rw [hb]; exact iteT h
theorem ite2B {b : Bool} {A B : Prop} (h1 : b = true → A) (h2 : b = false → B) : if b = true then A else B := by
  cases b
  · exact iteF (h2 rfl)
  · exact iteT (h1 rfl)
theorem same_new {H : Hp} {p : Addr} (h : H p = none) (o : HO) : Same H (upd H p o) := fun b u q => by rw [upd_ne (ne_of_none q h)]; exact q
theorem same_upd {H H' : Hp} {p : Addr} (h : H p = none) (e : Same H H') (o : HO) : Same H (upd H' p o) := fun b u q => by rw [upd_ne (ne_of_none q h)]; exact e _ _ q
theorem pairs_upd {H : Hp} {vs ys : List V} {T : List (Int × Int)} {p : Addr} (h : Pairs H vs T) (hp : H p = some (.lst ys)) (o : HO) : Pairs (upd H p o) vs T :=
  L2.Paired.mapP h fun v t ⟨r, a, b⟩ => ⟨r, a, by rw [upd_ne (ne_of b hp (by intro z; cases z))]; exact b⟩
theorem SqT_same {K : PySem.W.Frag} {H H' : Hp} {a : Addr} {xs : List V} (e : Same H H') (h : SqT K H a xs) : SqT K H' a xs := by
  rcases h with (h | ⟨o, h⟩) | h
  · exact .inl (.inl (e _ _ h))
  · exact .inl (.inr ⟨o, e _ _ h⟩)
  · exact .inr h
theorem atI_ints {ns : List Int} {k : Int} (h0 : 0 ≤ k) (h1 : k < (ns.length : Int)) : atI (ns.map V.int) k = some (.int (ns.getD k.toNat 0)) := by
  have hk : k.toNat < ns.length := by omega
  have q : atI (ns.map V.int) ((k.toNat : Nat) : Int) = some (.int (ns.getD k.toNat 0)) := atI_nat (by rw [List.getElem?_map]; simp [hk])
  rwa [show ((k.toNat : Nat) : Int) = k by omega] at q
theorem ixN_nat {n : Nat} {k : Int} (h0 : 0 ≤ k) (h1 : k < (n : Int)) : ixN n k = some k.toNat := by unfold ixN; rw [if_pos h0, if_pos h1]
theorem map_set (ns : List Int) (i : Nat) (v : Int) : (ns.map V.int).set i (.int v) = (ns.set i v).map V.int := by rw [List.map_set]
theorem inV_int {x : Int} : ∀ {ms : List Int}, inV (.int x) (ms.map V.int) = decide (x ∈ ms)
  | [] => by simp [inV]
  | m :: ms => by
    have ih := inV_int (x := x) (ms := ms)
    unfold inV at ih ⊢
    rw [List.map_cons, List.any_cons, ih]
    show (m == x || decide (x ∈ ms)) = decide (x ∈ m :: ms)
    by_cases e : m = x
    · subst e; simp
    · have : (m == x) = false := by simpa using e
      rw [this, Bool.false_or]
      simp [List.mem_cons, Ne.symm e]
theorem flat_ints (ms : List Int) : (ms.map V.int).all flatV = true := by
  rw [List.all_map, List.all_eq_true]
  intro _ _; rfl
theorem pick_perm {α : Type} (d : α) {L : List α} {is : List Nat} (h : is.Perm (List.range L.length)) : (is.map fun i => L.getD i d).Perm L := by
  have e : (List.range L.length).map (fun i => L.getD i d) = L := by
    apply List.ext_getElem (by simp)
    intro i h1 h2
    simp [h2]
  have := h.map fun i => L.getD i d
  rwa [e] at this
theorem take_one {α : Type} {l : List α} {i : Nat} {x : α} (h : l[i]? = some x) : l.take (i + 1) = l.take i ++ [x] := by rw [List.take_add_one, h]; rfl
theorem getD_some {ns : List Int} {i : Nat} {x : Int} (h : ns[i]? = some x) : ns.getD i 0 = x := by rw [List.getD_eq_getElem?_getD, h]; rfl
theorem mapI_get {ns : List Int} {i : Nat} {v : V} (h : (ns.map V.int)[i]? = some v) : ∃ x, ns[i]? = some x ∧ v = .int x := by
  rw [List.getElem?_map] at h
  cases q : ns[i]? with
  | none => rw [q] at h; cases h
  | some x => rw [q] at h; exact ⟨x, rfl, (Option.some.inj h).symm⟩
section
variable {X : Cx}
end
theorem kit_ll (K : PySem.W.Frag) : PySem.W.kitOne K (.type "list") (.type "list") = some true := by kernel_rfl
theorem kit_tt (K : PySem.W.Frag) : PySem.W.kitOne K (.type "tuple") (.type "tuple") = some true := by kernel_rfl
theorem kit_ii (K : PySem.W.Frag) : PySem.W.kitOne K (.type "int") (.type "int") = some true := by kernel_rfl
theorem kit_ib (K : PySem.W.Frag) : PySem.W.kitOne K (.type "int") (.type "bool") = some false := by kernel_rfl

/-! ### the law's own call: the script's ints have a size -/
open PySem.W in
theorem bits_of {d : WData} : ∀ {ns : List Int}, WData.weightAll (ns.map WData.int) ≤ 2 ^ 20 → ∀ n ∈ ns, Builtin.Int.intBits n ≤ 2 ^ 20
  | [], _, _, h => nomatch h
  | m :: ns, hw, n, h => by
    have e : WData.weightAll ((m :: ns).map WData.int) = (if m == 0 then 0 else m.natAbs.log2 + 1) + 1 + WData.weightAll (ns.map WData.int) := by
      rw [List.map_cons]; simp [WData.weightAll, WData.weight]
    rw [e] at hw
    rcases List.mem_cons.mp h with rfl | h
    · have : Builtin.Int.intBits n = if n == 0 then 0 else n.natAbs.log2 + 1 := by
        unfold Builtin.Int.intBits
        by_cases hz : n = 0
        · subst hz; simp
        · have h2 : ¬ (n == 0) = true := by simpa using hz
          rw [if_neg h2]
      rw [this]; omega
    · exact bits_of (d := d) (by omega) n h
def Small (ns : List Int) : Prop := ∀ n ∈ ns, Builtin.Int.intBits n ≤ 2 ^ 20
theorem Small.get {ns : List Int} (h : Small ns) (i : Nat) : Builtin.Int.intBits (ns.getD i 0) ≤ 2 ^ 20 := by
  rw [List.getD_eq_getElem?_getD]
  cases q : ns[i]? with
  | none => show Builtin.Int.intBits 0 ≤ 2 ^ 20; simp [Builtin.Int.intBits]
  | some x => exact h x (List.mem_of_getElem? q)
open PySem.W PySem.Calls Att in
theorem attach_callB {l : OpenLaw} {n : Nat} {q : Program} {loose : List Str} {XP : (Str → Option Value) → Heap → Prop} {YP : World → Heap → Prop} {d : DefRec}
    (hn : l.most = some n) (hdf : d.params.defaults = [])
    (call : ∀ (w : World) (s₀ s₁ : Shared) (mg mb : Str → Option Value) (fa : Addr) (o : Obj) (pm cd doc : Value) (a : Addr) (vs : List Value) (ns : List Int),
      Ground q loose [] XP w s₀ mg mb s₁.heap → YP w s₁.heap →
      s₁.heap.get? fa = some o → o.data = .func (docDef d.name d.params d.body d.scope pm cd doc) → s₁.heap.CodeRec cd d.name → mg d.name = some (.ref fa) →
      s₁.heap.get? a = some { cls := .type "list", data := .seq vs.toArray } → IntsAre vs ns → ns.length ≤ n → Small ns → s₁.gens = #[] →
      codeAny (model l.prog w) callerA (.call (.ref fa) ⟨[.ref a], []⟩) (fun r s' => r = .ok (.ret (.bool true)) ∧ OldK s₁.heap s'.heap ∧ s'.os = s₁.os ∧ AllBare s'.gens) s₁) :
    WalkO q loose XP YP l.row.toRowW d [] (fun f vs => PySem.call f vs) := by
  intro w s₀ s₁ mg mb G Y fa o pm cd doc dV kV ho hd hcd hD hmg hg args vals as hpre hlay hrd hwl hlo
  obtain rfl : dV = .none := Dflts.none hD hdf
  obtain rfl : kV = .none := Dflts.noKw hD
  obtain ⟨a, vs, ns, rfl, rfl, hobj, hints, hlen⟩ := script_of hn hpre hwl
  have hsm : Small ns := by
    have h1 : WData.layable (WData.list (ns.map WData.int)) = true := by
      have := hlay
      unfold WData.layableAll at this
      exact List.all_eq_true.mp this _ List.mem_cons_self
    unfold WData.layable at h1
    simp only [Bool.and_eq_true, decide_eq_true_eq] at h1
    exact bits_of (d := .none) (by simpa [WData.weight] using h1.2)
  refine enter_call (codeAny_mono (call w s₀ s₁ mg mb fa o pm cd doc a vs ns G Y ho (fd_plain hd) hcd hmg hobj hints hlen hsm hg) fun r s' hq => ?_)
  obtain ⟨rfl, h2, h3, h4⟩ := hq
  exact ⟨.inl ⟨.bool true, .bool true, [], rfl, fun _ => rfl, .bool true, post_true l _, fun _ => ⟨List.Pairwise.nil, fun _ hm => (nomatch hm)⟩⟩, h2, h3, h4⟩
/-- what law(script) promises: for a list of at most 63 ints the answer is True -/
def spLaw (K : PySem.W.Frag) : Sp := fun vs H Q _ => ∃ (a : Addr) (ns : List Int), vs = [.ref a] ∧ SqL K H a (ns.map V.int) ∧ ns.length ≤ 63 ∧ Small ns ∧ ∀ H', Q (.bl true) H'
theorem walkB {l : PySem.W.OpenLaw} {k : Nat} {q : Program} {loose : List Str} {XP : (Str → Option Value) → Heap → Prop} {YP : World → Heap → Prop} {d : DefRec} {K : Params → PySem.W.Frag} {CX : World → CXT}
    (hn : l.most = some 63) (hdf : d.params.defaults = []) (hr : Room k callerA)
    (hY : ∀ (w : World) (h : Heap), YP w h → (K w.params).In h)
    (F : ∀ (w : World) (mg : Str → Option Value) (fa : Addr) (h : Heap), (K w.params).In h → h.Ns mainGlobals mg → mg d.name = some (.ref fa) →
      ∃ fd : FuncData, (∀ (s : Shared) (u : Value), BindsTo s fd ⟨[u], []⟩ [("script", u)]) ∧
        ∀ base : Heap, (K w.params).In base → base.Ns mainGlobals mg → FnOk l.prog w (K w.params) mg base (CX w) k fa fd ["script"] (spLaw (K w.params)))
    (hCX : ∀ (w : World) (H : Hp) (s : Shared) (e : Value) (s' : Shared), CX w [] H s (fun _ _ _ => False) e s' → False) :
    PySem.W.WalkO q loose XP YP l.row.toRowW d [] (fun f vs => PySem.call f vs) := by
  refine attach_callB hn hdf fun w s₀ s₁ mg mb fa o pm cd doc a vs ns G Y ho hd hcd hmg hobj hints hlen hsm hg => ?_
  have KX := hY w _ Y
  obtain ⟨fd, hb, hF⟩ := F w mg fa _ KX G.T.g hmg
  exact law_call KX G.T.g G.T.b G.T.builtins G.T.nolimit hg hobj hints (Nat.le_trans hlen (by decide)) hr hF hb (fun H hO hS => ⟨a, ns, rfl, hS, hlen, hsm, fun _ => rfl⟩) fun H e s' => hCX w H s₁ e s'
end Oh

namespace Oh
open PySem PySem.Spec PyProof.Rows L2

/-! ### == of lists and tuples that hold the same -/
def okV : V → Bool
  | .non => true | .bl _ => true | .int _ => true | .str _ => true | .ref _ => true | _ => false
def EqS (K : PySem.W.Frag) (H : Hp) : Nat → V → V → Prop
  | 0, x, y => x = y ∧ okV x = true
  | n + 1, x, y => (x = y ∧ okV x = true) ∨ ∃ a b xs ys, x = .ref a ∧ y = .ref b ∧ ((SqL K H a xs ∧ SqL K H b ys) ∨ (SqT K H a xs ∧ SqT K H b ys)) ∧ Paired (EqS K H n) xs ys
theorem eq_same {A : Around} {s : Shared} {x : V} {u v : Value} (ok : okV x = true) (ru : RelV x u) (rv : RelV x v) : SeqAt.EqAt A s u v true := by
  cases x with
  | non => cases (show u = Value.none from ru); cases (show v = Value.none from rv); exact SeqAt.EqAt.same _
  | bl b => cases (show u = Value.bool b from ru); cases (show v = Value.bool b from rv); exact SeqAt.EqAt.same _
  | int i =>
    obtain ⟨t, rfl⟩ := ru; obtain ⟨t', rfl⟩ := rv
    have := SeqAt.EqAt.int_int (A := A) (s := s) i t i t'
    rwa [beq_self_eq_true] at this
  | str z =>
    obtain ⟨t, rfl⟩ := ru; obtain ⟨t', rfl⟩ := rv
    have := SeqAt.EqAt.str_str (A := A) (s := s) z t z t'
    rwa [beq_self_eq_true] at this
  | ref a => cases (show u = Value.ref a from ru); cases (show v = Value.ref a from rv); exact SeqAt.EqAt.same _
  | byt _ => exact absurd ok (by simp [okV])
  | flt _ => exact absurd ok (by simp [okV])
  | ty _ => exact absurd ok (by simp [okV])
theorem all_true (n : Nat) : (List.range n).all (fun _ => true) = true := by rw [List.all_eq_true]; intro _ _; rfl
section
variable {X : Cx} {pins : List (Addr × Obj)} {σ : St} {H : Hp} {s : Shared}
theorem eqS_items {A : Around} {n : Nat} (ih : ∀ (A : Around) (x y : V) (u v : Value), A.units + n < cLine → EqS X.K H n x y → RelV x u → RelV y v → SeqAt.EqAt A s u v true) (hu : A.units + (n + 1) < cLine) {xs ys : List V} {us vs : List Value} (p : Paired (EqS X.K H n) xs ys) (ru : Vals xs us) (rv : Vals ys vs) :
    ∀ j (h1 : j < us.toArray.size) (h2 : j < vs.toArray.size), SeqAt.EqAt A.in1 s us.toArray[j] vs.toArray[j] true := by
  intro j h1 h2
  have hl := ru.length
  have h1' : j < us.length := by simpa using h1
  have h2' : j < vs.length := by simpa using h2
  obtain ⟨a, b, e1, e2, q⟩ := paired_get p (i := j) (by omega)
  obtain ⟨u, eu, qu⟩ := ru.get e1
  obtain ⟨v, ev, qv⟩ := rv.get e2
  have eu' : us.toArray[j] = u := by
    rw [List.getElem_toArray]
    exact Option.some.inj ((List.getElem?_eq_getElem h1').symm.trans eu)
  have ev' : vs.toArray[j] = v := by
    rw [List.getElem_toArray]
    exact Option.some.inj ((List.getElem?_eq_getElem h2').symm.trans ev)
  rw [eu', ev']
  exact ih A.in1 a b u v (by show A.units + 1 + n < cLine; omega) q qu qv
theorem eqS_at (I : Inv X pins σ H s) : ∀ (n : Nat) (A : Around) (x y : V) (u v : Value), A.units + n < cLine → EqS X.K H n x y → RelV x u → RelV y v → SeqAt.EqAt A s u v true
  | 0, A, x, y, u, v, _, e, ru, rv => by
    obtain ⟨rfl, ok⟩ := e
    exact eq_same ok ru rv
  | n + 1, A, x, y, u, v, hu, e, ru, rv => by
    rcases e with ⟨rfl, ok⟩ | ⟨a, b, xs, ys, rfl, rfl, hq, p⟩
    · exact eq_same ok ru rv
    · cases (show u = Value.ref a from ru)
      cases (show v = Value.ref b from rv)
      by_cases hab : a = b
      · subst hab; exact SeqAt.EqAt.same _
      · have hp := Paired.length p
        rcases hq with ⟨h1, h2⟩ | ⟨h1, h2⟩
        · obtain ⟨us, r1, p1, _⟩ := I.list h1
          obtain ⟨vs, r2, p2, _⟩ := I.list h2
          have l1 := r1.length
          have l2 := r2.length
          have := SeqAt.RcAt.lists (A := A) (s := s) (e := fun _ => true) p1.isList p2.isList (by rw [List.size_toArray, List.size_toArray]; omega) (by omega) (eqS_items (eqS_at I n) hu p r1 r2)
          rw [all_true] at this
          exact SeqAt.EqAt.of_refs hab this
        · obtain ⟨us, r1, p1, _⟩ := I.tuple h1
          obtain ⟨vs, r2, p2, _⟩ := I.tuple h2
          have l1 := r1.length
          have l2 := r2.length
          have := SeqAt.RcAt.tuples (A := A) (s := s) (e := fun _ => true) p1 p2 (by omega) (eqS_items (eqS_at I n) hu p r1 r2)
          have hz : us.toArray.size = vs.toArray.size := by rw [List.size_toArray, List.size_toArray]; omega
          rw [all_true, hz, beq_self_eq_true] at this
          exact SeqAt.EqAt.of_refs hab this
theorem op_neL (n : Nat) (hu : X.A.units + (n + 1) < cLine) : OpR X (compareOp .NotEq) (fun x y H Q => ∃ a b xs ys, x = .ref a ∧ y = .ref b ∧ SqL X.K H a xs ∧ SqL X.K H b ys ∧ Paired (EqS X.K H n) xs ys ∧ Q (.bl false) H) := by
  intro pins s σ H x y v u Q I rx ry h
  obtain ⟨a, b, xs, ys, rfl, rfl, h1, h2, p, q⟩ := h
  cases rx
  cases ry
  obtain ⟨us, r1, p1, _⟩ := I.list h1
  obtain ⟨vs, r2, p2, _⟩ := I.list h2
  have l1 := r1.length
  have l2 := r2.length
  have hp := Paired.length p
  have := SeqAt.RcNeAt.lists (A := X.A) (s := s) (e := fun _ => true) p1.isList p2.isList (by rw [List.size_toArray, List.size_toArray]; omega) (by omega) (eqS_items (eqS_at I n) hu p r1 r2)
  rw [all_true] at this
  exact this X.prog X.w X.xe _ ⟨.bl false, H, I, rfl, q⟩
end
theorem paired_refl {K : PySem.W.Frag} {H : Hp} {n : Nat} : ∀ {xs : List V}, xs.all okV = true → Paired (EqS K H n) xs xs
  | [], _ => .nil
  | x :: xs, h => by
    rw [List.all_cons, Bool.and_eq_true] at h
    refine .cons ?_ (paired_refl h.2)
    cases n
    · exact ⟨rfl, h.1⟩
    · exact .inl ⟨rfl, h.1⟩
theorem ok_ints (ns : List Int) : (ns.map V.int).all okV = true := by rw [List.all_map, List.all_eq_true]; intro _ _; rfl
/-! ### for i, x in enumerate(a list) -/
def Ite (K : PySem.W.Frag) (a : Addr) : It :=
  ⟨fun i H => ∃ xs x, SqL K H a xs ∧ xs[i]? = some x, fun i H x H' => ∃ t v, H t = none ∧ x = .ref t ∧ H' = upd H t (.tup [.int i, v]) ∧ ∀ xs, SqL K H a xs → xs[i]? = some v, fun i H => ∃ xs, SqL K H a xs ∧ xs.length ≤ i⟩
theorem turn_enum {P : Program} {w : World} {K : PySem.W.Frag} {elts : List Expr} {k : Nat} {tp : Pos} (a it e : Addr) (hei : e ≠ it) :
    Turn P w K (.Tuple elts k tp) (Ite K a) [e, it] e (fun i h => (∃ old, IsEnum h e it i old) ∧ h.IsListIter it a i) where
  mem := by simp
  obj := fun i h st b hb => by
    obtain ⟨⟨old, he⟩, hit⟩ := st
    rcases List.mem_cons.mp hb with rfl | hb
    · exact ⟨_, he, fun v z => by cases z⟩
    · have e' : b = it := by simpa using hb
      subst e'
      obtain ⟨o, e, c, d⟩ := hit
      exact ⟨o, e, fun v z => by rw [d] at z; cases z⟩
  keep := fun i h h' st kp => by
    obtain ⟨⟨old, he⟩, hit⟩ := st
    exact ⟨⟨old, kp e (by simp) _ he⟩, hit.at fun o z => kp it (by simp) o z⟩
  item := by
    intro X hP hw hK hc i pins s σ H E I hf st hg
    subst hP hw hK
    obtain ⟨xs, x, hq, hx⟩ := hg
    obtain ⟨its, rv, p, hz⟩ := I.list hq
    obtain ⟨u, hu, ru⟩ := rv.get hx
    have fe := hf e (by simp)
    have fi := hf it (by simp)
    have hlen := rv.length
    have hi : i < its.toArray.size := by
      obtain ⟨z, _⟩ := List.getElem?_eq_some_iff.mp hu
      simpa using z
    have hae : a ≠ e := fun z => by
      obtain ⟨⟨old, he⟩, _⟩ := st
      obtain ⟨o, ho, hc', _⟩ := p.isList
      rw [z, he] at ho
      cases ho
      have c' : Value.type "enumerate" = Value.type "list" := hc'
      injection c' with c''
      exact absurd c'' (by decide)
    have hai : a ≠ it := fun z => by
      obtain ⟨_, ⟨o', ho', hc'', _⟩⟩ := st
      obtain ⟨o, ho, hc', _⟩ := p.isList
      rw [z, ho'] at ho
      cases ho
      rw [hc''] at hc'
      injection hc' with c3
      exact absurd c3 (by decide)
    have W := WalksT.enumerate (prog := X.prog) (w := X.w) (I.ok.hd hc) e it a hei hae hai its.toArray
    refine W.item i s _ _ hi ⟨st.1, st.2, p.isList⟩ fun T vals h' tk hv hT hTt hmid hk => ?_
    refine ⟨_, rfl, W.go elts k tp i T _ _ _ hmid fun h'' hst hk' => ?_⟩
    obtain ⟨t0, x0, hx0, rfl⟩ := hv
    have hx0' : x0 = u := by
      have : its[i]? = some x0 := by simpa using hx0
      rw [hu] at this
      exact (Option.some.inj this).symm
    subst hx0'
    have hTn : H T = none := I.hok.fresh hT
    have kept : ∀ b o, b ≠ e → b ≠ it → s.heap.get? b = some o → h''.get? b = some o := fun b o hb1 hb2 e' => hk' b o (by simp [hb1, hb2]) (hk b o (by simp [hb1, hb2]) e')
    have I1 : Inv X pins σ H { s with heap := h'', toks := tk } := by
      refine I.step (g' := s.gens) (d' := s.drawn) (ch := [e, it]) (fun b hb => ?_) (fun b o _ _ hb e' _ => ?_) (fun b o _ _ hb e' _ => ⟨o.slots, ?_⟩) (fun _ _ _ _ n => n) (fun b o hb e' => ⟨o, ?_⟩) (fun _ _ e' => e') (fun _ _ _ e' => e') (fun b ps e' => ⟨#[], by rw [e']; simp⟩) (fun m hm => ?_) (fun b o e' => ?_) I.bare
      · rcases List.mem_cons.mp hb with rfl | hb
        · exact ⟨fe.2.2.2.1, fe.2.1, fe.2.2.2.2.1, fe.2.2.2.2.2⟩
        · have e' : b = it := by simpa using hb
          subst e'
          exact ⟨fi.2.2.2.1, fi.2.1, fi.2.2.2.2.1, fi.2.2.2.2.2⟩
      · exact kept b o (fun z => hb (by simp [z])) (fun z => hb (by simp [z])) e'
      · exact kept b o (fun z => hb (by simp [z])) (fun z => hb (by simp [z])) e'
      · exact kept b o (fun z => hb (by simp [z])) (fun z => hb (by simp [z])) e'
      · obtain ⟨o, es, ep, ho, r⟩ := hm
        exact ⟨o, es, ep, kept _ o (Ne.symm fe.2.1) (Ne.symm fi.2.1) ho, r⟩
      · refine (I.hok b o e').stay (fun c v hc q => kept c v ?_ ?_ q) (fun _ q => q) fun _ _ q => q
        · rintro rfl
          rcases hc with z | z
          · have q1 := fe.1; rw [z, e'] at q1; cases q1
          · have q1 := fe.1; rw [z] at q1; cases q1
        · rintro rfl
          rcases hc with z | z
          · have q1 := fi.1; rw [z, e'] at q1; cases q1
          · have q1 := fi.1; rw [z] at q1; cases q1
    have hTe : T ≠ e ∧ T ≠ it := ⟨fun z => by
        obtain ⟨⟨old, he⟩, _⟩ := st
        have := Heap.lt_size he
        exact Nat.lt_irrefl _ (Nat.lt_of_le_of_lt hT (by rw [z]; exact this)), fun z => by
        obtain ⟨_, ⟨o', ho', _⟩⟩ := st
        have := Heap.lt_size ho'
        exact Nat.lt_irrefl _ (Nat.lt_of_le_of_lt hT (by rw [z]; exact this))⟩
    have fT : FpOk X pins H T := I.fpOk hT hTn
    have hTt'' : IsTup h'' T #[Value.int (i : Int) t0, x0] := by
      obtain ⟨o, ho, r⟩ := hTt
      exact ⟨o, hk' T o (by simp [hTe.1, hTe.2]) ho, r⟩
    have I2 : Inv X pins σ (upd H T (.tup [.int i, x])) { s with heap := h'', toks := tk } := Inv_track I1 fT ⟨by show 2 ≤ sizeLine; decide, [Value.int (i : Int) t0, x0], .cons ⟨t0, rfl⟩ (.cons ru .nil), hTt''⟩
    refine ⟨.ref T, _, I2, rfl, ⟨T, x, hTn, rfl, rfl, fun ys hy => by rw [I.list_inj hy hq]; exact hx⟩, ⟨hst.1, hst.2.1⟩, fun b hb => ?_⟩
    rcases List.mem_cons.mp hb with rfl | hb
    · rw [upd_ne (Ne.symm hTe.1)]; exact fe.1
    · have e' : b = it := by simpa using hb
      subst e'
      rw [upd_ne (Ne.symm hTe.2)]; exact fi.1
  done := by
    intro X hP hw hK hc i pins s σ H E I hf st hg
    subst hP hw hK
    obtain ⟨xs, hq, hx⟩ := hg
    obtain ⟨its, rv, p, hz⟩ := I.list hq
    have fe := hf e (by simp)
    have fi := hf it (by simp)
    have hl := rv.length
    obtain ⟨⟨old, he⟩, hit⟩ := st
    refine wpAny_pyNext_enum_end (I.ok.hd hc) he hit p.isList (by simp; omega) fun h' kx => ⟨rfl, ?_⟩
    refine I.step (g' := s.gens) (d' := s.drawn) (t' := s.toks) (ch := [e, it]) (fun b hb => ?_) (fun b o _ _ hb e' _ => ?_) (fun b o _ _ hb e' _ => ⟨o.slots, ?_⟩) (fun _ _ _ _ n => n) (fun b o hb e' => ⟨o, ?_⟩) (fun _ _ e' => e') (fun _ _ _ e' => e') (fun b ps e' => ⟨#[], by rw [e']; simp⟩) (fun m hm => ?_) (fun b o e' => ?_) I.bare
    · rcases List.mem_cons.mp hb with rfl | hb
      · exact ⟨fe.2.2.2.1, fe.2.1, fe.2.2.2.2.1, fe.2.2.2.2.2⟩
      · have e' : b = it := by simpa using hb
        subst e'
        exact ⟨fi.2.2.2.1, fi.2.1, fi.2.2.2.2.1, fi.2.2.2.2.2⟩
    · exact kx b o (fun z => hb (by simp [z])) e'
    · exact kx b o (fun z => hb (by simp [z])) e'
    · exact kx b o (fun z => hb (by simp [z])) e'
    · obtain ⟨o, es, ep, ho, r⟩ := hm
      exact ⟨o, es, ep, kx _ o (Ne.symm fi.2.1) ho, r⟩
    · refine (I.hok b o e').stay (fun c v hc q => kx c v ?_ q) (fun _ q => q) fun _ _ q => q
      rintro rfl
      rcases hc with z | z
      · have q1 := fi.1; rw [z, e'] at q1; cases q1
      · have q1 := fi.1; rw [z] at q1; cases q1
  self := fun _ _ _ _ _ st h => by
    obtain ⟨⟨old, he⟩, _⟩ := st
    exact wpAny_pyIter_enum he h

def iEnum (K : PySem.W.Frag) (ta : TA) : TI := fun σ H R => ta σ H fun vs H1 => ∃ a xs, vs = [.ref a] ∧ H1 a = some (.lst xs) ∧ R (Ite K a) H1
theorem pi_enum {X : Cx} {elts : List Expr} {k : Nat} {tp p pos : Pos} {e : Expr} {ta : TA} (hg : Gl X "enumerate") (hm : X.mg "enumerate" = none) (ha : PA X [e] ta) (hs : starEach [e] X.env = [(false, eval e X.env)] := by rfl) :
    PI X (.Tuple elts k tp) (.Call (.Name "enumerate" p) [e] [] pos) (iEnum X.K ta) := by
  intro pins s σ H R I h
  refine Call_ (ld_blt I hg hm PyProof.Rows.boot_enumerate (PyProof.Rows.callWith_type1 (thn (ha pos pins s σ H _ I h) fun us s1 ⟨vs, H1, I1, r1, q1⟩ => ?_) hs rfl))
  obtain ⟨a, xs, rfl, ha, q⟩ := q1
  obtain ⟨u, rfl, ru⟩ := vals1 r1
  cases ru
  obtain ⟨z, its, n, r, hl, e1⟩ := I1.lstM ha
  refine call_enumerate_1 e1 fun h' hE hI hsz hk => ?_
  refine wpAny_pyIter_enum hE ?_
  have I2 : Inv X pins σ H1 { s1 with heap := h' } := I1.kept (t' := s1.toks) hk
  refine ⟨s1.heap.objs.size + 1, [s1.heap.objs.size + 1, s1.heap.objs.size], _, _, H1, rfl, I2, turn_enum a s1.heap.objs.size (s1.heap.objs.size + 1) (Nat.succ_ne_self _), ⟨⟨_, hE⟩, hI⟩, fun b hb => ?_, q⟩
  rcases List.mem_cons.mp hb with rfl | hb
  · exact I1.fpOk (Nat.le_succ _) (I1.hok.fresh (Nat.le_succ _))
  · have e' : b = s1.heap.objs.size := by simpa using hb
    subst e'
    exact I1.fpOk (Nat.le_refl _) (I1.hok.fresh (Nat.le_refl _))
theorem for_enum {K : PySem.W.Frag} {a : Addr} {xs : List V} {g : TG} {tb : TS} {D : Ends} {σ : St} {H : Hp} (Pv : Nat → St → Hp → Prop) (h0 : Pv 0 σ H) (hl : ∀ i σ H, i ≤ xs.length → Pv i σ H → SqL K H a xs)
    (hs : ∀ i x t σ H, xs[i]? = some x → H t = none → Pv i σ H → g (.ref t) σ (upd H t (.tup [.int i, x])) fun σ2 H2 => tb { D with nx := Pv (i + 1), ct := Pv (i + 1), bk := D.nx } σ2 H2) (hd : ∀ σ H, Pv xs.length σ H → D.nx σ H) :
    ∃ W : Nat → Nat → St → Hp → Prop, (∃ m, W 0 m σ H) ∧ ∀ i m σ H, W i m σ H →
      ((Ite K a).stop i H ∧ D.nx σ H) ∨ ((Ite K a).go i H ∧ ∃ N : St → Hp → Prop, (∀ σ' H', N σ' H' → ∃ m', m' < m ∧ W (i + 1) m' σ' H') ∧ ∀ x H', (Ite K a).yld i H x H' → g x σ H' fun σ2 H2 => tb { D with nx := N, ct := N, bk := D.nx } σ2 H2) := by
  refine ⟨fun i m σ H => m = xs.length - i ∧ i ≤ xs.length ∧ Pv i σ H, ⟨xs.length, by simp, Nat.zero_le _, h0⟩, ?_⟩
  rintro i m σ H ⟨rfl, hi, p⟩
  have q := hl i σ H hi p
  by_cases hlt : i < xs.length
  · refine .inr ⟨⟨xs, xs[i], q, by simp [hlt]⟩, Pv (i + 1), fun σ' H' p' => ⟨xs.length - (i + 1), by omega, rfl, hlt, p'⟩, fun x H' y => ?_⟩
    obtain ⟨t, v, ht, e1, e2, y⟩ := y
    subst e1 e2
    exact hs i v t σ H (y xs q) ht p
  · have e : i = xs.length := by omega
    subst e
    exact .inl ⟨⟨xs, q, Nat.le_refl _⟩, hd σ H p⟩
end Oh

namespace Oh
open PySem PySem.Spec PyProof.Rows L2

/-! ### an exception that flies: the heap B without the frames, the exception and its traces stays as it is -/
structure FlyB (X : Cx) (H : Hp) (B : Heap) : Prop where
  keep : ∀ b o, X.s₀.heap.get? b = some o → X.H₀ b = none → b ∉ X.fs → b ∉ X.ex → B.get? b = some o
  there : ∀ b o, X.s₀.heap.get? b = some o → b ∉ X.fs → b ∉ X.ex → ∃ o', B.get? b = some o'
  pin : ∀ p ∈ X.pn, B.get? p.1 = some p.2
  hok : HOk X.prog X.w H B

theorem ObjOk_there {P : Program} {w : World} {H : Hp} {h : Heap} {a : Addr} {o : HO} (x : ObjOk P w H h a o) : ∃ u, h.get? a = some u := by
  cases o with
  | lst xs => obtain ⟨_, _, _, _, e⟩ := x; exact ⟨_, e⟩
  | tup xs => obtain ⟨_, _, _, o, e, _⟩ := x; exact ⟨_, e⟩
  | dK kvs => obtain ⟨_, _, _, _, o, _, _, e, _⟩ := x; exact ⟨_, e⟩
  | dT kvs => obtain ⟨_, _, _, _, o, _, _, e, _⟩ := x; exact ⟨_, e⟩
  | set S n => obtain ⟨o, _, _, _, e, _⟩ := x; exact ⟨_, e⟩
  | ins C dx fs => obtain ⟨_, _, _, e, _⟩ := x; exact ⟨_, e⟩
  | own y => exact x
  | xd fs => obtain ⟨_, ⟨_, _, _, e, _⟩, _⟩ := x; exact ⟨_, e⟩
  | rng lo hi => obtain ⟨_, _, _, e⟩ := x; exact ⟨_, e⟩
  | frz ob u => obtain ⟨e, _⟩ := x; exact ⟨_, e⟩
  | tbl ps => exact ⟨_, x⟩
  | met f y => exact ⟨_, x⟩
  | ext φ => obtain ⟨_, e, _⟩ := x; exact e

section
variable {X : Cx} {pins : List (Addr × Obj)} {σ : St} {H : Hp} {s : Shared} {B h' : Heap}
theorem Inv_flown {t' : Nat} (I : Inv X pins σ H s) (f : FlyB X H B) (st : B.StaysIn h') (up : s.heap.UpToSlots h') : Inv X [] σ H { s with heap := h', toks := t' } := by
  have cellK : ∀ c v, s.heap.IsCell c v → h'.IsCell c v := fun c v ⟨o, ho, hd⟩ => by
    obtain ⟨sl, e⟩ := up c o ho fun vs q => by rw [hd] at q; cases q
    exact ⟨_, e, hd⟩
  have frK : ∀ b ∈ X.fs, ∀ o, s.heap.get? b = some o → ∃ sl, h'.get? b = some { o with slots := sl } := fun b hb o e => by
    obtain ⟨_, o2, ho2, hd⟩ := I.funs.mem hb
    rw [e] at ho2; cases ho2
    exact up b o e hd
  refine ⟨I.ok, I.os, I.bare, ⟨fun b o q n hb hx => st b o (f.keep b o q n hb hx), fun b o q n hb hx => ?_, I.base.free, fun b o q hx => ?_, I.base.tups, I.base.frzs, I.base.tbls⟩, ?_, fun x c e => ?_, I.free, I.freeC, fun p hp => ?_, f.hok.kept st, I.len⟩
  · obtain ⟨sl, e1⟩ := I.base.slot b o q n hb hx
    obtain ⟨sl', e2⟩ := frK b hb _ e1
    exact ⟨sl', e2⟩
  · by_cases hb : b ∈ X.fs
    · obtain ⟨o', e1⟩ := I.base.there b o q hx
      obtain ⟨sl', e2⟩ := frK b hb _ e1
      exact ⟨_, e2⟩
    · obtain ⟨o', e⟩ := f.there b o q hb hx
      exact ⟨o', st b o' e⟩
  · obtain ⟨m, hn, hl⟩ := I.loc
    refine ⟨m, up.ns hn, fun i x v e1 e2 e3 => ?_⟩
    obtain ⟨u, r, l⟩ := hl i x v e1 e2 e3
    refine ⟨u, r, ?_⟩
    rcases l with l | ⟨k, c, e, z⟩
    · exact .inl l
    · exact .inr ⟨k, c, e, cellK _ _ z⟩
  · obtain ⟨v, z⟩ := I.cell x c e
    exact ⟨v, cellK c v z⟩
  · have hp' : p ∈ X.pn := by simpa using hp
    obtain ⟨_, n, ne, nf, d⟩ := I.pin p (List.mem_append_left _ hp')
    exact ⟨st _ _ (f.pin p hp'), n, ne, nf, d⟩

/-- how an exception of an own class lies behind a call -/
def CXF (P : Program) (w : World) : CXT := fun outer H s E e s' => ∃ (ea : Addr) (C a0 : Value) (H' : Hp) (B : Heap), e = .ref ea ∧ s'.os = s.os ∧ AllBare s'.gens ∧ Un (frs outer) [] H H' s.heap s'.heap ∧
  (∀ b o, s.heap.get? b = some o → H b = none → b ∉ frs outer → B.get? b = some o) ∧ (∀ b o, s.heap.get? b = some o → b ∉ frs outer → ∃ o', B.get? b = some o') ∧ HOk P w H' B ∧ Heap.FlyingW B outer ea C a0 s'.heap ∧ E C none H'
/-- an exception may leave this body: ES is what is wanted of it -/
def Thr (X : Cx) (ES : St → Value → Hp → Prop) : Prop := ∀ (pins : List (Addr × Obj)) (σ : St) (H' : Hp) (s' : Shared) (B : Heap) (ea : Addr) (C a0 : Value),
  Inv X pins σ H' s' → FlyB X H' B → Heap.FlyingW B X.stack ea C a0 s'.heap → ES σ C H' → X.xe (.ref ea) s'
/-- .. raised in it -/
def Thr0 (X : Cx) (ES : St → Value → Hp → Prop) : Prop := ∀ (pins : List (Addr × Obj)) (σ : St) (H' : Hp) (s' : Shared) (h' : Heap) (ea : Addr) (C : Value) (vs : List Value),
  Inv X pins σ H' s' → Heap.MadeExcOf s'.heap h' ea C vs → ES σ C H' → X.xe (.ref ea) { s' with heap := h' }

theorem nstack (I : Inv X pins σ H s) {b : Addr} (h1 : b ≠ X.env.locals) (h2 : b ∉ X.fs) : b ∉ frs X.stack := fun z => (List.mem_cons.mp (I.stkSub b z)).elim h1 h2
theorem old_ne (I : Inv X pins σ H s) {b : Addr} {o : Obj} (e : X.s₀.heap.get? b = some o) : b ≠ X.env.locals := Nat.ne_of_lt (Nat.lt_of_lt_of_le (Heap.lt_size e) I.ok.above)

/-- a callee's exception reaches the wish -/
theorem thr_call {ES : St → Value → Hp → Prop} {e : Value} {s' : Shared} (T : Thr X ES) (I : Inv X pins σ H s) (h : CXF X.prog X.w X.stack H s (fun C _ H' => ES σ C H') e s') : X.xe e s' := by
  obtain ⟨ea, C, a0, H', B, rfl, os, bare, un, bk, bt, hok, fl, q⟩ := h
  refine T pins σ H' s' B ea C a0 (I.call' (ch := []) os un (hok.kept fl.1) bare (fun b z => absurd z (by simp))) ⟨fun b o q n hb hx => ?_, fun b o q hb hx => ?_, fun p hp => ?_, hok⟩ fl q
  · exact bk b o (I.base.keep b o q n hb hx) (I.base.free b o q n hx) (nstack I (old_ne I q) hb)
  · obtain ⟨o', e⟩ := I.base.there b o q hx
    exact bt b o' e (nstack I (old_ne I q) hb)
  · obtain ⟨e, n, ne, nf, _⟩ := I.pin p (List.mem_append_left _ hp)
    exact bk p.1 p.2 e n (nstack I ne nf)

/-- all but the frames, at a raise -/
theorem flyB_here (I : Inv X pins σ H s) : FlyB X H (PySem.W.hideAll s.heap (frs X.stack)) where
  keep := fun b o q n hb hx => PySem.W.hideAll_get _ (I.base.keep b o q n hb hx) (nstack I (old_ne I q) hb)
  there := fun b o q hb hx => by
    obtain ⟨o', e⟩ := I.base.there b o q hx
    exact ⟨o', PySem.W.hideAll_get _ e (nstack I (old_ne I q) hb)⟩
  pin := fun p hp => by
    obtain ⟨e, n, ne, nf, _⟩ := I.pin p (List.mem_append_left _ hp)
    exact PySem.W.hideAll_get _ e (nstack I ne nf)
  hok := fun a o e => (I.hok a o e).stay (fun b u hb q => PySem.W.hideAll_get _ q fun z => by
    have n := I.stkFree b z
    rcases hb with rfl | hb
    · rw [n] at e; cases e
    · rw [n] at hb; cases hb) (fun _ q => q) fun _ _ q => q
end

section
variable {P : Program} {w : World} {K : PySem.W.Frag} {mg : Str → Option Value} {base : Heap} {N : List Str} {qual : Str} {scope : Scope} {f : Addr} {cd : Value} {A : Around} {outer : List Env} {s : Shared} {H : Hp} {E : XK}
theorem thr_cx : Thr (cxOf (CXF P w) P w K mg base N qual scope f cd A outer s H E) (fun _ C H' => E C none H') := by
  intro pins σ H' s' B ea C a0 I fb fl q
  show wpAny _ _ (leaving _ _) _ _ _
  refine wpAny_leaves_onW I.ok.frames rfl fl fun h'' fl' up => ?_
  have J := Inv_flown (t' := s'.toks) I fb fl'.1 up
  exact ⟨ea, C, a0, H', B, rfl, J.os, J.bare, J.base, fun b o q n hb => fb.keep b o q n hb (by intro z; exact absurd (show b ∈ ([] : List Addr) from z) (by simp)), fun b o q hb => fb.there b o q hb (by intro z; exact absurd (show b ∈ ([] : List Addr) from z) (by simp)), fb.hok, fl', q⟩
theorem thr0_cx : Thr0 (cxOf (CXF P w) P w K mg base N qual scope f cd A outer s H E) (fun _ C H' => E C none H') := by
  intro pins σ H' s' h' ea C vs I hx q
  show wpAny _ _ (leaving _ _) _ _ _
  have fb := flyB_here I
  have hin : ∀ env ∈ (cxOf (CXF P w) P w K mg base N qual scope f cd A outer s H E).stack, ∀ b, env.frame = some b → b ∈ frs (cxOf (CXF P w) P w K mg base N qual scope f cd A outer s H E).stack := fun env he b hb => List.mem_filterMap.mpr ⟨env, he, hb⟩
  refine wpAny_leaves_madeW I.ok.frames rfl (fun b o q => PySem.W.of_hideAll _ q) (PySem.W.funFrames_hide I.stack hin) hx fun h'' t fl tup hn up => ?_
  have J := Inv_flown (t' := s'.toks) I fb fl.1 ((Heap.UpToSlots.of_keeps hx.keeps).trans up)
  exact ⟨ea, C, _, H', _, rfl, J.os, J.bare, J.base, fun b o q n hb => fb.keep b o q n hb (by intro z; exact absurd (show b ∈ ([] : List Addr) from z) (by simp)), fun b o q hb => fb.there b o q hb (by intro z; exact absurd (show b ∈ ([] : List Addr) from z) (by simp)), fb.hok, fl, q⟩
/-- a def that may raise -/
theorem Fun_okX {x : Str} {st : Stmt} {fd : FuncData} {ps : List Str} {k : Nat} {sp : Sp} (F : Fun K x qual st f fd) (S : FnScope N ps (defScope st)) (len : ∀ vs H Q E, sp vs H Q E → vs.length = ps.length)
    (hbody : ∀ (cdv : Value) (A : Around) (outer : List Env) (s : Shared) (H : Hp) (vs : List V) (Q : VK) (E : XK), Room k (A.deeper (envOfC qual (defScope st) s.heap.objs.size f cdv)) → sp vs H Q E →
      ∃ t, PSs (cxOf (CXF P w) P w K mg base N qual (defScope st) f cdv A outer s H E) (defBody st) t ∧ t { nx := fun _ H' => Q .non H', rt := Q } (start N vs) H) : FnOk P w K mg base (CXF P w) (k + 1) f fd ps sp := by
  obtain ⟨oc, od, kV, doc, pm, an, cdv, ct, osl, rfl, lk, hcd⟩ := F.ex
  exact fn_of lk hcd S len fun A outer s H vs Q E hr hsp => hbody cdv A outer s H vs Q E hr hsp
theorem own_cx : PassesOwn (model P w) (cxOf (CXF P w) P w K mg base N qual scope f cd A outer s H E).A (cxOf (CXF P w) P w K mg base N qual scope f cd A outer s H E).env (cxOf (CXF P w) P w K mg base N qual scope f cd A outer s H E).xe := PassesOwn.leaving
end

/-! ### calls of a def that may raise -/
structure CalX (P : Program) (w : World) (K : PySem.W.Frag) (mg : Str → Option Value) (base : Heap) (k : Nat) (x : Str) (ps : List Str) (sp : Sp) : Prop where
  ex : ∃ f fd, FnOk P w K mg base (CXF P w) k f fd ps sp ∧ Binds K fd ps [] ∧ PySem.W.keepIn K (.ref f) = true ∧ mg x = some (.ref f)
theorem CalX.mono {P : Program} {w : World} {K : PySem.W.Frag} {mg : Str → Option Value} {base : Heap} {j k : Nat} {x : Str} {ps : List Str} {sp : Sp} (c : CalX P w K mg base j x ps sp) (h : j ≤ k) : CalX P w K mg base k x ps sp := by
  obtain ⟨f, fd, a, b, d, e⟩ := c.ex
  exact ⟨f, fd, a.mono h, b, d, e⟩
def tCallX (sp : Sp) (ES : St → Value → Hp → Prop) (t : TA) : TE := fun σ H Q => t σ H fun vs H1 => sp vs H1 Q fun C _ H' => ES σ C H'
theorem pe_calX {X : Cx} {k : Nat} {x : Str} {ps : List Str} {sp : Sp} {p pos : Pos} {e : Expr} {es : List Expr} {t : TA} {ES : St → Value → Hp → Prop} (T : Thr X ES) (c : CalX X.prog X.w X.K X.mg X.base k x ps sp) (hr : Room k X.A) (hg : Gl X x) (ha : PA X (e :: es) t)
    (hdb : (x == ("__debug__" : Str)) = false := by decide) (he : starEach (e :: es) X.env = (false, eval e X.env) :: starEach es X.env := by rfl) (hpl : (backTo pos (starEach es X.env)).any (·.1) = false := by rfl) :
    PE X (.Call (.Name x p) (e :: es) [] pos) (tCallX sp ES t) := by
  obtain ⟨f, fd, F, hb, hk, hm⟩ := c.ex
  intro pins s σ H Q I h
  refine wpAny_Call_Name_kw (ld_glob I hg hm ?_ hdb)
  refine PySem.W.callWith_K (h₀ := X.base) I.ok.mod.kin hk (thn (ha pos pins s σ H _ I h) fun us s1 ⟨vs, H1, I1, r, q⟩ => ⟨I1.kIn, ?_⟩) he hpl
  have hl : us.length = ps.length := by rw [← r.length]; exact F.len _ _ _ _ q
  have hb' := hb s1 us I1.kIn (by rw [List.append_nil]; exact hl)
  rw [List.append_nil] at hb'
  refine wpAny_call (codeAny_mono (F.run X.A X.stack s1 H1 ⟨us, []⟩ us vs Q _ hr I1.env0 hb' r q) fun r s' hq => ?_)
  cases r with
  | error e => exact thr_call T I1 hq
  | ok fl =>
    cases fl with
    | ret u => exact I1.after hq
    | next => exact False.elim hq
    | brk => exact False.elim hq
    | cont => exact False.elim hq

/-! ### raise C("..") -/
theorem ps_raise {X : Cx} {ES : St → Value → Hp → Prop} {x y : Str} {C : Addr} {bm : List Value} {newId initId B : String} {np cpos pos p0 : Pos} {j : Nat} (T : Thr0 X ES) (hc : X.calm = true) (O : OwnCls x C bm newId X.mg X.base) (FB : ExcBaseFacts B newId initId bm) (hg : Gl X x)
    (hd : (x == ("__debug__" : Str)) = false := by decide) (he : starEach [.Constant (.str y) j p0] X.env = (false, eval (.Constant (.str y) j p0) X.env) :: starEach [] X.env := by rfl) :
    PS X (.Raise (some (.Call (.Name x np) [.Constant (.str y) j p0] [] cpos)) none pos) (fun _ σ H => ES σ (.ref C) H) := by
  intro pins s σ H D I h
  obtain ⟨tl, N, nm, q, bs, hdct, sn, sub, ab, col, dd, k0, k1, k2, k3, k5, mN, hC, hN, hni, Tl⟩ := O.obj
  refine wpAny_Raise_call_subT (C := C) (nm := nm) (q := q) (N := N) (bs := bs) (bm := tl) (hdct := hdct) (sn := sn) (sub := sub) (ab := ab) (col := col) (dd := dd) (k0 := k0) (k1 := k1) (k2 := k2) (k3 := k3) (k5 := k5)
    FB (mN := mN) (Tl.hasType FB.hasBase) (I.ok.hd hc) (by rw [he]; rfl) hni (ld_glob I hg O.bound ⟨rfl, ?_⟩ hd)
  rw [he]
  have hp : PA X [.Constant (.str y) j p0] (tCons (tC (.str y)) tNil) := pa_cons pe_str pa_nil he
  have hw := hp cpos pins s σ H (fun us H' => us.length = 1 ∧ ES σ (.ref C) H') I ⟨rfl, h⟩
  rw [he] at hw
  refine Calls.evalArgs_plain (wpAny_mono hw (fun vs s₂ ⟨us, H', J, r, hl, q'⟩ => ?_) fun _ _ y => y)
  refine ⟨rfl, ?_, J.bk _ _ hC, hN.keeps J.bk, Tl.keeps J.bk, fun h' ea hm => T pins σ H' s₂ h' ea (.ref C) vs J hm q'⟩
  show vs.length ≤ sizeLine
  rw [← r.length, hl]
  decide

/-! ### try .. except C as n -/
abbrev tryC (X : Cx) (pins : List (Addr × Obj)) (E : Value → Shared → Prop) : Cx := { X with pn := X.pn ++ pins, xe := E }
abbrev suiteC (X : Cx) (pins : List (Addr × Obj)) (e : Addr) : Cx := { X with pn := X.pn ++ pins, A := X.A.mark (some (.ref e)), calm := false, xe := fun _ _ => False }
section
variable {X : Cx} {pins : List (Addr × Obj)} {σ : St} {H : Hp} {s : Shared} {E : Value → Shared → Prop} {e : Addr}
theorem Ok_try (ok : X.Ok) : (tryC X pins E).Ok := ⟨ok.mod, ok.kind, ok.glob, ok.blt, ok.above, ok.inj, ok.has, ok.cab, ok.hd, ok.frames, ok.stk, ok.exf, ok.bs, ok.bsz, ok.noex, ok.exfs, ok.funs, ok.frf⟩
theorem Ok_suite (ok : X.Ok) : (suiteC X pins e).Ok := ⟨ok.mod, ok.kind, ok.glob, ok.blt, ok.above, ok.inj, ok.has, ok.cab, (fun z => by cases z), ok.frames, ok.stk, ok.exf, ok.bs, ok.bsz, ok.noex, ok.exfs, ok.funs, ok.frf⟩
theorem Inv_try (I : Inv X pins σ H s) : Inv (tryC X pins E) [] σ H s := ⟨Ok_try I.ok, I.os, I.bare, I.base, I.loc, I.cell, I.free, I.freeC, fun p hp => I.pin p (by simpa using hp), I.hok, I.len⟩
theorem Ok_untry (ok : (tryC X pins E).Ok) : X.Ok := ⟨ok.mod, ok.kind, ok.glob, ok.blt, ok.above, ok.inj, ok.has, ok.cab, ok.hd, ok.frames, ok.stk, ok.exf, ok.bs, ok.bsz, ok.noex, ok.exfs, ok.funs, ok.frf⟩
theorem Inv_untry {pins' : List (Addr × Obj)} (I : Inv (tryC X pins E) pins' σ H s) : Inv X pins σ H s := ⟨Ok_untry I.ok, I.os, I.bare, I.base, I.loc, I.cell, I.free, I.freeC, fun p hp => I.pin p (List.mem_append_left _ hp), I.hok, I.len⟩
theorem Inv_tsuite {pins' : List (Addr × Obj)} (I : Inv (tryC X pins E) pins' σ H s) : Inv (suiteC X pins e) pins' σ H s := ⟨Ok_suite (Ok_untry I.ok), I.os, I.bare, I.base, I.loc, I.cell, I.free, I.freeC, fun p hp => I.pin p hp, I.hok, I.len⟩
theorem Inv_unsuite {pins' : List (Addr × Obj)} (ok : X.Ok) (I : Inv (suiteC X pins e) pins' σ H s) : Inv X pins σ H s := ⟨ok, I.os, I.bare, I.base, I.loc, I.cell, I.free, I.freeC, fun p hp => I.pin p (List.mem_append_left _ hp), I.hok, I.len⟩
theorem SP_untry {D : Ends} {f : Flow} {s' : Shared} (h : SP (tryC X pins E) [] D f s') : SP X pins D f s' := by
  cases f with
  | next => obtain ⟨σ', H', I, q⟩ := h; exact ⟨σ', H', Inv_untry I, q⟩
  | brk => obtain ⟨σ', H', I, q⟩ := h; exact ⟨σ', H', Inv_untry I, q⟩
  | cont => obtain ⟨σ', H', I, q⟩ := h; exact ⟨σ', H', Inv_untry I, q⟩
  | ret u => obtain ⟨v, σ', H', I, r, q⟩ := h; exact ⟨v, σ', H', Inv_untry I, r, q⟩

/-- an exception that was taken -/
def ExcAt (e : Addr) (C : Value) (h : Heap) : Prop := ∃ oe vs, h.get? e = some oe ∧ oe.cls = C ∧ oe.data = .fields vs
theorem excOk {P : Program} {w : World} {C : Value} {h : Heap} (x : ExcAt e C h) : ObjOk P w H h e (.ext (ExcAt e C)) := by
  obtain ⟨oe, vs, h1, h2, h3⟩ := id x
  exact ⟨x, ⟨oe, h1⟩, fun g1 g2 ⟨o, ws, a, b, c⟩ k => ⟨o, ws, k _ a, b, c⟩⟩
theorem Inv_seen {B : Heap} {C a0 : Value} (I : Inv X [] σ H s) (fb : FlyB X H B) (fl : Heap.FlyingW B X.stack e C a0 s.heap) : H e = none ∧ Inv X [] σ (upd H e (.ext (ExcAt e C))) s := by
  obtain ⟨f1, f2, f3, oe, vs, T, oT, ts, he, hc, hd, _⟩ := fl
  have xa : ExcAt e C s.heap := ⟨oe, vs, he, hc.1, hd⟩
  have hn : H e = none := by
    cases q : H e with
    | none => rfl
    | some o =>
      obtain ⟨u, z⟩ := ObjOk_there (fb.hok e o q)
      rw [f2] at z; cases z
  have nd : ∀ b, b ∈ frs X.stack → b ≠ e := fun b hb z => by
    obtain ⟨_, o, ho, hnf⟩ := f3.mem hb
    rw [z, he] at ho; cases ho
    exact hnf vs hd
  obtain ⟨m, hm, hl⟩ := I.loc
  have hL : e ≠ X.env.locals := fun z => by
    obtain ⟨o, es, ep, ho, hdd, _⟩ := hm
    rw [← z, he] at ho; cases ho
    rw [hd] at hdd; cases hdd
  have hcl : ∀ x c, X.env.cells.lookup x = some c → c ≠ e := fun x c q z => by
    obtain ⟨v, o, ho, hdd⟩ := I.cell x c q
    rw [z, he] at ho; cases ho
    rw [hd] at hdd; cases hdd
  have old : ∀ b o, X.s₀.heap.get? b = some o → b ∉ X.ex → b ≠ e := fun b o q hx z => by
    by_cases hb : b ∈ X.fs
    · obtain ⟨_, o2, ho2, hnf⟩ := I.funs.mem hb
      rw [z, he] at ho2; cases ho2
      exact hnf vs hd
    · obtain ⟨o', q'⟩ := fb.there b o q hb hx
      rw [z, f2] at q'; cases q'
  refine ⟨hn, I.ok, I.os, I.bare, ⟨I.base.keep, I.base.slot, fun b o q n hx => ?_, I.base.there, fun b xs q => ?_, fun b o u q => ?_, fun b ps q => ?_⟩, ⟨m, hm, hl⟩, I.cell, ?_, fun x c q => ?_, fun p hp => ?_, HOk_track I.hok hn (excOk xa), I.len⟩
  · rw [upd_ne (old b o q hx)]; exact I.base.free b o q n hx
  · have z := I.base.tups b xs q
    rw [upd_ne (ne_of_none z hn)]; exact z
  · have z := I.base.frzs b o u q
    rw [upd_ne (ne_of_none z hn)]; exact z
  · obtain ⟨mo, z⟩ := I.base.tbls b ps q
    exact ⟨mo, by rw [upd_ne (ne_of_none z hn)]; exact z⟩
  · rw [upd_ne (Ne.symm hL)]; exact I.free
  · rw [upd_ne (hcl x c q)]; exact I.freeC x c q
  · obtain ⟨q, n, ne, nf, d⟩ := I.pin p hp
    refine ⟨q, ?_, ne, nf, d⟩
    rw [upd_ne]; exact n
    intro z
    have hp' : p ∈ X.pn := by simpa using hp
    have := fb.pin p hp'
    rw [z, f2] at this; cases this

/-- the name of an except clause goes -/
theorem goes_ok {M : Model} {A : Around} {i : Nat} {x : Str} {pos : Pos} {Q : Unit → Shared → Prop} (I : Inv X pins σ H s) (hN : X.N.Nodup) (hi : X.N[i]? = some x) (hk : X.env.scope.names.lookup x = some .local)
    (h : ∀ s', Inv X pins (σ.set i none) H s' → Q () s') : wpAny M A (do bindName X.env x .none; unbindBehindTheSuite X.env x pos) Q E s := by
  obtain ⟨m, hn, hl⟩ := id I.loc
  have hcls : (X.env.scope.kind == .class || (X.env.scope.kind == .module && X.env.locals != X.env.globals)) = false := by rw [I.ok.kind]; rfl
  have hiσ : i < σ.length := by rw [I.len]; exact (List.getElem?_eq_some_iff.mp hi).1
  have cne := I.cne
  have tracked : ∀ {a : Addr} {h' : Heap}, (∃ o, s.heap.get? a = some o ∧ H a = none) → Heap.SameBut a s.heap h' → HOk X.prog X.w H h' := fun {a h'} ha hs b ob e => by
    obtain ⟨_, _, hfree⟩ := ha
    refine (I.hok b ob e).stay (fun c w' hc q => (hs.2 c ?_).trans q) (fun _ q => q) fun _ _ q => q
    rintro rfl
    rcases hc with rfl | hc
    · rw [hfree] at e; cases e
    · rw [hfree] at hc; cases hc
  refine wpAny_nameGoes_keeps hk hn hcls fun h' v hn' hs => ?_
  obtain ⟨oL, _, _, hoL, _⟩ := id hn
  refine h _ ⟨I.ok, I.os, I.bare, ⟨fun b o e n hb hx => ?_, fun b o e n hb hx => ?_, I.base.free, fun b o e hx => ?_, I.base.tups, I.base.frzs, I.base.tbls⟩, ⟨_, hn', fun j y v' e1 e2 e3 => ?_⟩, fun y c e => ?_, I.free, I.freeC, fun p hp => ?_, tracked ⟨oL, hoL, I.free⟩ hs, by simpa using I.len⟩
  · exact (hs.2 b (Nat.ne_of_lt (Nat.lt_of_lt_of_le (Heap.lt_size e) I.ok.above))).trans (I.base.keep b o e n hb hx)
  · obtain ⟨sl, e1⟩ := I.base.slot b o e n hb hx
    exact ⟨sl, (hs.2 b (Nat.ne_of_lt (Nat.lt_of_lt_of_le (Heap.lt_size e) I.ok.above))).trans e1⟩
  · obtain ⟨o', e1⟩ := I.base.there b o e hx
    exact ⟨o', (hs.2 b (Nat.ne_of_lt (Nat.lt_of_lt_of_le (Heap.lt_size e) I.ok.above))).trans e1⟩
  · by_cases hj : j = i
    · subst hj
      rw [List.getElem?_set_self hiσ] at e2
      cases e2
    · rw [List.getElem?_set_ne (Ne.symm hj)] at e2
      obtain ⟨u', r', q⟩ := hl j y v' e1 e2 e3
      refine ⟨u', r', ?_⟩
      rcases q with ⟨k, e⟩ | ⟨k, c, e, z⟩
      · refine .inl ⟨k, ?_⟩
        have : y ≠ x := fun e => hj (nodup_ix hN e1 (e ▸ hi))
        simp [this, e]
      · exact .inr ⟨k, c, e, z.sameBut hs (cne y c e)⟩
  · obtain ⟨w', z⟩ := I.cell y c e
    exact ⟨w', z.sameBut hs (cne y c e)⟩
  · obtain ⟨e, n, ne, nf, d⟩ := I.pin p hp
    exact ⟨(hs.2 p.1 ne).trans e, n, ne, nf, d⟩
end

def tTry (K : PySem.W.Frag) (C0 : Addr) (i : Nat) (tb : (St → Value → Hp → Prop) → TS) (ts : TS) : TS := fun D σ H => ∃ ES : St → Value → Hp → Prop, tb ES D σ H ∧
  ∀ σ' C H', ES σ' C H' → PySem.W.exmOne K C (.ref C0) = some true ∧ ∀ ea, H' ea = none → ts { nx := fun σ'' H'' => D.nx (σ''.set i none) H'', rt := fun _ _ => False } (σ'.set i (some (.ref ea))) (upd H' ea (.ext (ExcAt ea C)))
theorem ps_try {X : Cx} {body suite : List Stmt} {b₀ : Stmt} {n x : Str} {i : Nat} {C0 : Addr} {np hpos pos : Pos} {tb : (St → Value → Hp → Prop) → TS} {ts : TS}
    (hb : ∀ pins E ES, Thr (tryC X pins E) ES → PSs (tryC X pins E) body (tb ES)) (hs : ∀ pins e, PSs (suiteC X pins e) (b₀ :: suite) ts)
    (hN : X.N.Nodup) (hi : X.N[i]? = some n) (hk : X.env.scope.names.lookup n = some .local) (hg : Gl X x) (hm : X.mg x = some (.ref C0)) (hst : X.stack = X.env :: X.outer := by rfl) (hf : X.env.frame = some X.env.locals := by rfl) (hd : (x == ("__debug__" : Str)) = false := by decide) :
    PS X (.Try body [.ExceptHandler (some (.Name x np)) (some n) (b₀ :: suite) hpos] [] [] pos) (tTry X.K C0 i tb ts) := by
  intro pins s σ H D I h
  obtain ⟨ES, hB, hH⟩ := h
  refine wpAny_Try_except ?_
  refine wpAny_mono (hb pins _ ES ?_ [] s σ H D (Inv_try I) hB) (fun f s₁ q => ?_) (fun e s₁ q => q)
  · intro pins' σ' H' s' B ea C a0 J fb fl q
    obtain ⟨hx, hts⟩ := hH σ' C H' q
    have fl0 : Heap.FlyingW B (X.env :: X.outer) ea C a0 s'.heap := by rw [← hst]; exact fl
    have fr0 : X.A.frames = some (X.env :: X.outer) := by rw [← hst]; exact I.ok.frames
    refine wpAny_looks_onW fr0 hf fl0 fun h₄ held up₄ => ?_
    refine wpAny_landsW held fun h₅ fl₅ up₅ => ?_
    have J₅ := Inv_flown (t' := s'.toks) J fb fl₅.1 (up₄.trans up₅)
    have S₅ : Inv (suiteC X pins ea) [] σ' H' { s' with heap := h₅ } := Inv_tsuite J₅
    obtain ⟨oe, he, hec⟩ := fl₅.there
    refine wpAny_handleBy_cons (codeAny_handlers_test (ld_glob S₅ hg hm ?_ hd)) (by intro q; cases q)
    have LT : PySem.W.Looks (model X.prog X.w) h₅ (typeOf (.ref ea)) C := hec ▸ (PySem.W.Looks.ld he).andThen .now
    refine (PySem.W.exm_one S₅.kIn LT hx).here ?_
    show codeAny _ _ _ _ _
    refine codeAny_handlers_suite_as ?_
    refine lands_againW fl₅ fun h₆ fl₆ up₆ => ?_
    have J₆ := Inv_flown (t' := s'.toks) J₅ fb fl₆.1 up₆
    have S₆ : Inv (suiteC X pins ea) [] σ' H' { s' with heap := h₆ } := Inv_tsuite J₆
    obtain ⟨hn, S₇⟩ := Inv_seen (C := C) (a0 := a0) S₆ ⟨fb.keep, fb.there, fb.pin, fb.hok⟩ (by rw [show (suiteC X pins ea).stack = X.env :: X.outer from hst]; exact fl₆)
    refine store_ok (X := suiteC X pins ea) S₇ hN hi (Or.inl hk) (v := .ref ea) rfl (fun s₈ S₈ => ?_) (Or.inr hk)
    refine wpAny_mono (hs pins ea [] s₈ _ _ _ S₈ (hts ea hn)) (fun f s₉ q9 => ?_) (fun _ _ z => False.elim z)
    cases f with
    | next =>
      obtain ⟨σ'', H'', S₉, q⟩ := q9
      exact goes_ok (Inv_unsuite I.ok S₉) hN hi hk fun s' J => ⟨_, _, J, q⟩
    | brk => obtain ⟨_, _, _, z⟩ := q9; exact False.elim z
    | cont => obtain ⟨_, _, _, z⟩ := q9; exact False.elim z
    | ret u => obtain ⟨_, _, _, _, _, z⟩ := q9; exact False.elim z
  · have q' := SP_untry q
    cases f with
    | next => exact wpAny_execs_nil q'
    | brk => exact q'
    | cont => exact q'
    | ret u => exact q'
end Oh

namespace Oh
section
open PySem PySem.W PySem.Calls PyProof.Rows Builtin Builtin.ObjectAttr Builtin.Getset_descriptor

/-- what is asked of an own exception class -/
structure ExcK (K : Frag) (D : Addr) : Prop where
  ga : findIn K (.ref D) "__getattribute__" = some (some (.builtin "BaseException.__getattribute__"))
  gn : findIn K (.ref D) "__getattr__" = some none
  ha : findIn K (.ref D) "__class__" = some (some (.builtin "object.__class__"))
  hm : mroIn K D (.type "object") = some true
  hb : mroIn K D (.type "BaseException") = some true
  cl : (clsIn K D).isSome = true
theorem spec_cls (K : Frag) : specialIn K (.builtin "object.__class__") "__get__" = some (some (.builtin "getset_descriptor.__get__")) := by kernel_rfl
theorem takes_cls (K : Frag) : takesIn K (.builtin "object.__class__") = some true := by kernel_rfl

variable {prog : Program} {w : World} {A : Around} {E : Value → Shared → Prop} {s : Shared} {K : Frag} {x D : Addr}
theorem exc_gs {R : Result → Shared → Prop} {tp : Value} (X : K.In s.heap) (L0 : Looks (model prog w) s.heap (typeOf (.ref x)) (.ref D)) (hm : mroIn K D (.type "object") = some true)
    (h : R (.ok (.ret (.ref D))) s) : codeAny (model prog w) A (.call (.builtin "getset_descriptor.__get__") ⟨[.builtin "object.__class__", .ref x, tp], []⟩) R s := by
  obtain ⟨hh, g, dr, t, os⟩ := s
  have L1 := looks_mroIn (M := model prog w) X hm
  refine codeAny_call_builtin KF.slot_gs.plain KF.entry_gs (KF.slot_gs.check _ _ _ _ _ _ _ _ KF.type_class (KF.args_gs _ _ _) ?_)
  unfold Builtin.«getset_descriptor.__get__» descrGet
  rw [dga_obj]
  refine wpAny_bind (wpAny_pure ?_)
  unfold descrGetter descrCheckInstance descrNameAndClass isInstance
  simp only [KF.owner_class]
  repeat lk
  refine ⟨Code.quiet_builtin _ (by decide +kernel), codeAny_builtin KF.entry_class ?_⟩
  unfold Builtin.«object.__class__» shownTypeOf
  repeat lk
  exact h
theorem exc_find {M : Model} {h : Heap} (X : K.In h) (k : ExcK K D) : Looks M h (find (.ref x) (.ref D) "__class__") (.bind (.builtin "getset_descriptor.__get__") (.builtin "object.__class__")) := by
  have L1 := looks_findIn (M := M) X k.ha
  have L2 := looks_specialIn (M := M) X (spec_cls K)
  have L3 := looks_takesIn (M := M) X (takes_cls K)
  intro A Q E s kk q
  obtain ⟨hh, g, d, t, os⟩ := s
  have L1 := L1.keeps kk
  have L2 := L2.keeps kk
  have L3 := L3.keeps kk
  unfold find getOf dataDescriptor?
  repeat lk
  exact q
theorem exc_entry {tk : Tok} {Q : Fin → Shared → Prop} (X : K.In s.heap) (L0 : Looks (model prog w) s.heap (typeOf (.ref x)) (.ref D)) (k : ExcK K D) (h : Q (.done (.ret (.ref D))) s) :
    wpAny (model prog w) A (Builtin.«object.__getattribute__» ⟨[.ref x, .str "__class__" tk], []⟩) Q E s := by
  obtain ⟨hh, g, d, t, os⟩ := s
  have L1 := exc_find (x := x) (M := model prog w) X k
  unfold Builtin.«object.__getattribute__»
  refine wpAny_bind (wpAny_pure ?_)
  refine wpAny_bind (wpAny_pure ?_)
  refine wpAny_bind (L0.at ?_)
  refine wpAny_bind (L1.at ?_)
  show wpAny _ _ (holding [_] (call _ _) >>= ret) _ _ _
  refine wpAny_bind (wpAny_holding (wpAny_call (exc_gs X L0 k.hm ?_)))
  exact wpAny_pure h
theorem exc_check {M : Model} {nameV : Value} {Q : Unit → Shared → Prop} (X : K.In s.heap) (L0 : Looks M s.heap (typeOf (.ref x)) (.ref D)) (k : ExcK K D) (h : Q () s) : wpAny M A (checkBuiltinCall "BaseException.__getattribute__" ⟨[.ref x, nameV], []⟩) Q E s := by
  have hk : builtinKind "BaseException.__getattribute__" = some .slot := by decide +kernel
  have hsplit : splitId "BaseException.__getattribute__" = some ("BaseException", "__getattribute__") := by decide +kernel
  have ha := F.args_bexc_ga (.ref x) nameV
  have L1 := looks_mroIn (M := M) X k.hb
  obtain ⟨hh, g, d, t, os⟩ := s
  simp only [checkBuiltinCall, hk, hsplit]
  refine wpAny_bind ?_
  unfold isInstance
  refine wpAny_bind (L0.at ?_)
  refine L1.at ?_
  repeat (first | assumption | wp_step)
theorem exc_class {Q : Option Value → Shared → Prop} (X : K.In s.heap) (L0 : ∀ M, Looks M s.heap (typeOf (.ref x)) (.ref D)) (k : ExcK K D) (h : Q (some (.ref D)) { s with toks := s.toks + 1 }) :
    wpAny (model prog w) A (getAttr? (.ref x) "__class__") Q E s := by
  obtain ⟨hh, g, d, t, os⟩ := s
  have L1 := looks_findIn (M := model prog w) X k.ga
  have L2 := looks_findIn (M := model prog w) X k.gn
  have L0' := L0 (model prog w)
  have f3 := (PySem.F.attr_ValueError).ga.bind (.ref x)
  unfold getAttr? getAttrBy? getAttrBy
  refine wpAny_bind (wpAny_mkText (wpAny_bind (wpAny_attempt (wpAny_holding (wpAny_bind (L0'.at (wpAny_bind (L1.at ?_))))))))
  show wpAny _ _ (getAttrByItsOwn _ _ _ _ _ _) _ _ _
  unfold getAttrByItsOwn hookBefore callGetattribute boundAndCalled
  refine wpAny_bind (m := typeLookup (.ref D) "__getattr__") (L2.at ?_)
  refine wpAny_bind (wpAny_attempt (wpAny_holding ?_))
  show wpAny _ _ (bindSpecial _ _ >>= _) _ _ _
  rw [f3]
  refine wpAny_bind (wpAny_pure ?_)
  refine wpAny_call (codeAny_call_builtin PySem.F.attr_ValueError.ga.plain F.entry_bexc_ga (exc_check X (L0 _) k (exc_entry X (L0 _) k ?_)))
  exact handed_on rfl (wpAny_pure h)
theorem kitx_exc (k : ExcK K D) : KitX K (.ref x) (.ref D) (ExcAt x (.ref D)) where
  ty := fun M h _ ⟨oe, vs, h1, h2, _⟩ => h2 ▸ (Looks.ld h1).andThen .now
  it := fun _ _ X _ => by
    obtain ⟨cdD, hcD⟩ := Option.isSome_iff_exists.mp k.cl
    unfold clsIn at hcD
    split at hcD
    · rename_i c' d' cd' sl' ho
      intro A' Q' E' s' k q
      unfold isType loadHead
      exact wpAny_bind (wpAny_loadPart (k _ _ (X _ _ ho)) (wpAny_pure q))
    · cases hcD
  ne := fun h tp dd its n sl X htp => by
    obtain ⟨cdD, hcD⟩ := Option.isSome_iff_exists.mp k.cl
    refine Bool.eq_false_iff.mpr fun q => ?_
    have e : D = tp := Value.ref.inj (beq_iff_eq.mp q)
    subst e
    unfold clsIn at hcD
    split at hcD
    · rename_i c' d' cd' sl' ho
      have z := (X _ _ ho).symm.trans htp
      cases z
    · cases hcD
  ca := fun X ⟨oe, vs, h1, h2, _⟩ q => exc_class X (fun M => h2 ▸ (Looks.ld h1).andThen .now) k q
end

open PySem PySem.Spec PyProof.Rows L2
section
variable {X : Cx}
/-- a class as a value -/
def clsV : V → Option Value
  | .ty n => some (.type n)
  | .ref a => some (.ref a)
  | _ => none
def rExc (K : PySem.W.Frag) : List V → Hp → VK → Prop := fun xs H Q => ∃ x c u D b, xs = [.ref x, c] ∧ clsV c = some u ∧ H x = some (.ext (ExcAt x (.ref D))) ∧ ExcK K D ∧ PySem.W.kitOne K (.ref D) u = some b ∧ Q (.bl b) H
/-- isinstance(e, C) of a taken exception -/
theorem call_isExc : CallR X (.builtin "isinstance") (rExc X.K) := by
  intro pins s σ H xs us Q I r h
  obtain ⟨x, c, u, D, b, rfl, hc, hx, k, e, q⟩ := h
  obtain ⟨u1, u', rfl, ru, rn⟩ := vals2 r
  cases (show u1 = Value.ref x from ru)
  have hu : u' = u := by
    cases c with
    | ty n => cases hc; exact rn
    | ref a => cases hc; exact rn
    | _ => cases hc
  subst hu
  obtain ⟨p, _⟩ := (show ObjOk X.prog X.w H s.heap x (.ext (ExcAt x (.ref D))) from I.hok x _ hx)
  exact PySem.W.kia_one (kitx_exc k) I.kIn p e (fun z => nomatch z) fun tk => ⟨.bl b, H, I.tok _, rfl, q⟩
end
end Oh

namespace Oh
open PySem PySem.Spec PyProof.Rows L2

/-! ### records of an iterator have turned -/
theorem Inv_turned {X : Cx} {pins : List (Addr × Obj)} {σ : St} {H : Hp} {s : Shared} {h' : Heap} {t' : Nat} {ch : List Addr} (I : Inv X pins σ H s) (hf : ∀ b ∈ ch, FpOk X pins H b) (k : ∀ b o, b ∉ ch → s.heap.get? b = some o → h'.get? b = some o) :
    Inv X pins σ H { s with heap := h', toks := t' } := by
  refine I.step (g' := s.gens) (d' := s.drawn) (ch := ch) (fun b hb => ?_) (fun b o _ _ hb e' _ => k b o hb e') (fun b o _ _ hb e' _ => ⟨o.slots, k b o hb e'⟩) (fun _ _ _ _ n => n) (fun b o hb e' => ⟨o, k b o hb e'⟩) (fun _ _ e' => e') (fun _ _ _ e' => e') (fun b ps e' => ⟨#[], by rw [e']; simp⟩) (fun m hm => ?_) (fun b o e' => ?_) I.bare
  · have f := hf b hb
    exact ⟨f.2.2.2.1, f.2.1, f.2.2.2.2.1, f.2.2.2.2.2⟩
  · obtain ⟨o, es, ep, ho, r⟩ := hm
    exact ⟨o, es, ep, k _ o (fun z => (hf _ z).2.1 rfl) ho, r⟩
  · refine (I.hok b o e').stay (fun c v hc q => k c v (fun z => ?_) q) (fun _ q => q) fun _ _ q => q
    have q1 := (hf c z).1
    rcases hc with z | z
    · rw [z, e'] at q1; cases q1
    · rw [z] at q1; cases q1

/-! ### for x, y in zip(a list, a list) -/
def Itz (K : PySem.W.Frag) (a b : Addr) : It :=
  ⟨fun i H => ∃ xs ys x y, SqL K H a xs ∧ SqL K H b ys ∧ xs[i]? = some x ∧ ys[i]? = some y,
   fun i H x H' => ∃ t u v, H t = none ∧ x = .ref t ∧ H' = upd H t (.tup [u, v]) ∧ ∀ xs ys, SqL K H a xs → SqL K H b ys → xs[i]? = some u ∧ ys[i]? = some v,
   fun i H => ∃ xs ys, SqL K H a xs ∧ SqL K H b ys ∧ (xs.length ≤ i ∨ ys.length ≤ i)⟩
theorem turn_zip {P : Program} {w : World} {K : PySem.W.Frag} {elts : List Expr} {k : Nat} {tp : Pos} (a b z TI TO i1 i2 : Addr) (D : ZipApart z TI TO i1 i2 a b) :
    Turn P w K (.Tuple elts k tp) (Itz K a b) [z, TI, TO, i1, i2] z (fun i h => IsZip h z TI TO .none ∧ IsPair h TI (.ref i1) (.ref i2) ∧ (∃ u v, IsPair h TO u v) ∧ h.IsListIter i1 a i ∧ h.IsListIter i2 b i) where
  mem := by simp
  obj := fun i h st c hc => by
    obtain ⟨hz, hTI, ⟨u, v, hTO⟩, h1, h2⟩ := st
    simp only [List.mem_cons, List.not_mem_nil, or_false] at hc
    rcases hc with rfl | rfl | rfl | rfl | rfl
    · exact ⟨_, hz, fun v z => by cases z⟩
    · exact ⟨_, hTI, fun v z => by cases z⟩
    · exact ⟨_, hTO, fun v z => by cases z⟩
    · obtain ⟨o, e, c, d⟩ := h1
      exact ⟨o, e, fun v z => by rw [d] at z; cases z⟩
    · obtain ⟨o, e, c, d⟩ := h2
      exact ⟨o, e, fun v z => by rw [d] at z; cases z⟩
  keep := fun i h h' st kp => by
    obtain ⟨hz, hTI, ⟨u, v, hTO⟩, h1, h2⟩ := st
    exact ⟨kp z (by simp) _ hz, kp TI (by simp) _ hTI, ⟨u, v, kp TO (by simp) _ hTO⟩, h1.at fun o e => kp i1 (by simp) o e, h2.at fun o e => kp i2 (by simp) o e⟩
  item := by
    intro X hP hw hK hc i pins s σ H E I hf st hg
    subst hP hw hK
    obtain ⟨xs, ys, x, y, hqa, hqb, hx, hy⟩ := hg
    obtain ⟨its, rv, pa, hza⟩ := I.list hqa
    obtain ⟨jts, rw', pb, hzb⟩ := I.list hqb
    obtain ⟨u, hu, ru⟩ := rv.get hx
    obtain ⟨v, hv, rv'⟩ := rw'.get hy
    have hi : i < min its.toArray.size jts.toArray.size := by
      obtain ⟨z1, _⟩ := List.getElem?_eq_some_iff.mp hu
      obtain ⟨z2, _⟩ := List.getElem?_eq_some_iff.mp hv
      rw [List.size_toArray, List.size_toArray]; omega
    have W := WalksT.zip2 (prog := X.prog) (w := X.w) (I.ok.hd hc) z TI TO i1 i2 a b D its.toArray jts.toArray
    obtain ⟨hz, hTI, hTO, h1, h2⟩ := st
    refine W.item i s _ _ hi ⟨hz, hTI, hTO, h1, h2, pa.isList, pb.isList⟩ fun T vals h' tk hvl hT hTt hmid hk => ?_
    refine ⟨_, rfl, W.go elts k tp i T _ _ _ hmid fun h'' hst hk' => ?_⟩
    have hap := W.apart i T h' hmid
    obtain ⟨x0, y0, hx0, hy0, rfl⟩ := hvl
    have hx0' : x0 = u := by
      have : its[i]? = some x0 := by simpa using hx0
      rw [hu] at this
      exact (Option.some.inj this).symm
    have hy0' : y0 = v := by
      have : jts[i]? = some y0 := by simpa using hy0
      rw [hv] at this
      exact (Option.some.inj this).symm
    subst hx0' hy0'
    have hTn : H T = none := I.hok.fresh hT
    have I1 : Inv X pins σ H { s with heap := h'', toks := tk } := Inv_turned (ch := [z, TO, i1, i2]) I (fun c hc => hf c (by simp at hc ⊢; rcases hc with rfl | rfl | rfl | rfl <;> simp)) fun c o hc e => hk' c o hc (hk c o hc e)
    have fT : FpOk X pins H T := I.fpOk hT hTn
    have hTt'' : IsTup h'' T #[x0, y0] := by
      obtain ⟨o, ho, r⟩ := hTt
      exact ⟨o, hk' T o hap ho, r⟩
    have I2 : Inv X pins σ (upd H T (.tup [x, y])) { s with heap := h'', toks := tk } := Inv_track I1 fT ⟨by show 2 ≤ sizeLine; decide, [x0, y0], .cons ru (.cons rv' .nil), hTt''⟩
    refine ⟨.ref T, _, I2, rfl, ⟨T, x, y, hTn, rfl, rfl, fun xs' ys' h1 h2 => by rw [I.list_inj h1 hqa, I.list_inj h2 hqb]; exact ⟨hx, hy⟩⟩, ⟨hst.1, hst.2.1, hst.2.2.1, hst.2.2.2.1, hst.2.2.2.2.1⟩, fun c hc => ?_⟩
    have hTlt : c ≠ T := fun q => by
      simp only [List.mem_cons, List.not_mem_nil, or_false] at hc
      have lt : ∀ {o : Obj}, s.heap.get? c ≠ some o := fun {o} e => by
        have := Heap.lt_size e
        rw [q] at this
        exact Nat.lt_irrefl _ (Nat.lt_of_le_of_lt hT this)
      obtain ⟨u1, v1, hTO⟩ := hTO
      obtain ⟨o1, e1, _⟩ := h1
      obtain ⟨o2, e2, _⟩ := h2
      rcases hc with rfl | rfl | rfl | rfl | rfl
      · exact lt hz
      · exact lt hTI
      · exact lt hTO
      · exact lt e1
      · exact lt e2
    rw [upd_ne hTlt]; exact (hf c hc).1
  done := by
    intro X hP hw hK hc i pins s σ H E I hf st hg
    subst hP hw hK
    obtain ⟨xs, ys, hqa, hqb, he⟩ := hg
    obtain ⟨its, rv, pa, hza⟩ := I.list hqa
    obtain ⟨jts, rw', pb, hzb⟩ := I.list hqb
    obtain ⟨hz, hTI, ⟨u, v, hTO⟩, h1, h2⟩ := st
    have l1 := rv.length
    have l2 := rw'.length
    refine wpAny_pyNext_zip_end (I.ok.hd hc) D hz hTI hTO h1 h2 pa.isList pb.isList ?_ fun h' kx => ⟨rfl, ?_⟩
    · rcases he with he | he
      · exact .inl (Array.getElem?_eq_none (by simp; omega))
      · exact .inr (Array.getElem?_eq_none (by simp; omega))
    · exact Inv_turned (t' := s.toks) (ch := [z, TO, i1, i2]) I (fun c hc => hf c (by simp at hc ⊢; rcases hc with rfl | rfl | rfl | rfl <;> simp)) fun c o hc e => kx c o (fun q => hc (by simp [q])) (fun q => hc (by simp [q])) (fun q => hc (by simp [q])) (fun q => hc (by simp [q])) e
  self := fun _ _ _ _ _ st h => wpAny_pyIter_zip st.1 h
def iZip (K : PySem.W.Frag) (ta : TA) : TI := fun σ H R => ta σ H fun vs H1 => ∃ a b xs ys, vs = [.ref a, .ref b] ∧ SqL K H1 a xs ∧ SqL K H1 b ys ∧ R (Itz K a b) H1
theorem pi_zip {X : Cx} {elts : List Expr} {k : Nat} {tp p pos : Pos} {e e' : Expr} {ta : TA} (hg : Gl X "zip") (hm : X.mg "zip" = none) (ha : PA X [e, e'] ta) (hs : starEach [e, e'] X.env = (false, eval e X.env) :: starEach [e'] X.env := by rfl) (hpl : (backTo pos (starEach [e'] X.env)).any (·.1) = false := by rfl) :
    PI X (.Tuple elts k tp) (.Call (.Name "zip" p) [e, e'] [] pos) (iZip X.K ta) := by
  intro pins s σ H R I h
  refine Call_ (ld_blt I hg hm PyProof.Rows.boot_zip (PyProof.Rows.callWith_type1 (thn (ha pos pins s σ H _ I h) fun us s1 ⟨vs, H1, I1, r1, q1⟩ => ?_) hs hpl))
  obtain ⟨a, b, xs, ys, rfl, ha, hb, q⟩ := q1
  obtain ⟨u, u', rfl, ru, ru'⟩ := vals2 r1
  cases (show u = Value.ref a from ru)
  cases (show u' = Value.ref b from ru')
  obtain ⟨its, rv, pa, hza⟩ := I1.list ha
  obtain ⟨jts, rw', pb, hzb⟩ := I1.list hb
  have a1 : a < s1.heap.objs.size := by obtain ⟨_, e, _⟩ := pa.isList; exact Heap.lt_size e
  have a2 : b < s1.heap.objs.size := by obtain ⟨_, e, _⟩ := pb.isList; exact Heap.lt_size e
  refine call_zip_2 pa.isList pb.isList fun h' hz hTI hTO hi1 hi2 hsz hk => ?_
  refine wpAny_pyIter_zip hz ?_
  have I2 : Inv X pins σ H1 { s1 with heap := h' } := I1.kept (t' := s1.toks) hk
  refine ⟨_, _, _, _, H1, rfl, I2, turn_zip a b _ _ _ _ _ (zipApart_new a1 a2), ⟨hz, hTI, ⟨_, _, hTO⟩, hi1, hi2⟩, fun c hc => ?_, q⟩
  have hge : s1.heap.objs.size ≤ c := by
    simp only [List.mem_cons, List.not_mem_nil, or_false] at hc
    rcases hc with rfl | rfl | rfl | rfl | rfl <;> omega
  exact I1.fpOk hge (I1.hok.fresh hge)
theorem comp_zip {K : PySem.W.Frag} {a b : Addr} {xs ys : List V} {g : TG} {tt : TT} {te : TE} {Fin : List V → Hp → Prop} {σ₀ : St} {H₀ : Hp} (Pv : Nat → St → Hp → List V → Prop) (h0 : Pv 0 σ₀ H₀ []) (hxy : xs.length = ys.length)
    (hl : ∀ i σ H acc, i ≤ xs.length → Pv i σ H acc → SqL K H a xs ∧ SqL K H b ys ∧ acc.length ≤ i) (hz : xs.length ≤ sizeLine)
    (hs : ∀ i x y t σ H acc, xs[i]? = some x → ys[i]? = some y → H t = none → Pv i σ H acc → g (.ref t) σ (upd H t (.tup [x, y])) fun σ2 H2 => tt σ2 H2 fun b H3 => if b = true then te σ2 H3 fun y H4 => Pv (i + 1) σ2 H4 (acc ++ [y]) else Pv (i + 1) σ2 H3 acc)
    (hd : ∀ σ H acc, Pv xs.length σ H acc → Fin acc H) : ∃ W : Nat → Nat → St → Hp → List V → Prop, (∃ m, W 0 m σ₀ H₀ []) ∧ CompW (Itz K a b) g tt te Fin W := by
  refine ⟨fun i m σ H acc => m = xs.length - i ∧ i ≤ xs.length ∧ Pv i σ H acc, ⟨xs.length, by simp, Nat.zero_le _, h0⟩, ?_⟩
  rintro i m σ H acc ⟨rfl, hi, p⟩
  obtain ⟨qa, qb, hacc⟩ := hl i σ H acc hi p
  by_cases hlt : i < xs.length
  · refine .inr ⟨⟨xs, ys, xs[i], ys[i], qa, qb, by simp [hlt], by simp⟩, by omega, fun σ' H' acc' => Pv (i + 1) σ' H' acc', fun σ' H' acc' p' => ⟨xs.length - (i + 1), by omega, rfl, hlt, p'⟩, fun x H' y => ?_⟩
    obtain ⟨t, u, v, ht, rfl, rfl, y⟩ := y
    obtain ⟨y1, y2⟩ := y xs ys qa qb
    exact hs i u v t σ _ acc y1 y2 ht p
  · have e : i = xs.length := by omega
    subst e
    exact .inl ⟨⟨xs, ys, qa, qb, .inl (Nat.le_refl _)⟩, hd σ H acc p⟩

/-! ### xs[lo:hi:step] of whole numbers: some of them -/
section
variable {X : Cx} {e se : Expr} {te : TE} {lo hi : Option Expr} {tl th ts : TO} {pos p2 : Pos}
end
end Oh

namespace Oh
open PySem PySem.Spec PyProof.Rows L2

/-! ### the own refusals: straight under one class that stands under ValueError -/
abbrev bmVE : List Value := [.type "ValueError", .type "Exception", .type "BaseException", .type "object"]
theorem own_mk {K : PySem.W.Frag} {h : Heap} {mg : Str → Option Value} {x : Str} {C : Addr} {bmB : List Value} {newId : String} (X : K.In h) (g : mg x = some (.ref C)) (q : PySem.W.excIn K C bmB newId = true) : OwnCls x C bmB newId mg h := by
  refine ⟨g, ?_⟩
  unfold PySem.W.excIn at q
  split at q <;> try cases q
  rename_i D cls sl ho
  split at q <;> try cases q
  rename_i C1 bm a0 a1 a2 a3 n1 a5 hm hs
  rw [Bool.and_eq_true, Bool.and_eq_true, Bool.and_eq_true, Bool.and_eq_true, Bool.and_eq_true] at q
  obtain ⟨⟨⟨⟨⟨q1, q2⟩, q3⟩, q4⟩, q5⟩, q6⟩ := q
  cases eq_of_beq q1
  cases eq_of_beq q2
  obtain ⟨c1, c2, c3, c4, c5, c6, c7, c8, c9, c10, c11⟩ := cls
  have q3' : c11 = false := by simpa using q3
  have hm' : c3 = .ref C :: bm := hm
  subst q3' hm'
  have hsl : sl = #[a0, a1, a2, a3, some (.builtin newId), a5] := Array.toList_inj.mp hs
  subst hsl
  exact ⟨bm, c4, c1, c5, c2, c6, c7, c8, c9, c10, D, a0, a1, a2, a3, a5, _, X _ _ ho, .of_isNs (PySem.W.isNs_of_in X q5), PySem.W.nsMap_none_of_in X q5 (eq_of_beq q6), PySem.W.tail_of_in X q4⟩

def xOk (K : PySem.W.Frag) (C OE : Addr) : Bool :=
  PySem.W.excIn K C bmVE "ValueError.__new__" && (PySem.W.findIn K (.ref C) "__getattribute__" == some (some (.builtin "BaseException.__getattribute__")) && (PySem.W.findIn K (.ref C) "__getattr__" == some none &&
    (PySem.W.findIn K (.ref C) "__class__" == some (some (.builtin "object.__class__")) && (PySem.W.mroIn K C (.type "object") == some true && (PySem.W.mroIn K C (.type "BaseException") == some true && ((PySem.W.clsIn K C).isSome &&
      (PySem.W.exmOne K (.ref C) (.ref OE) == some true && PySem.W.kitOne K (.ref C) (.type "ValueError") == some true)))))))
structure XCls (K : PySem.W.Frag) (mg : Str → Option Value) (x : Str) (C OE : Addr) : Prop where
  g : mg x = some (.ref C)
  own : ∀ h : Heap, K.In h → OwnCls x C bmVE "ValueError.__new__" mg h
  k : ExcK K C
  ex : PySem.W.exmOne K (.ref C) (.ref OE) = some true
  ve : PySem.W.kitOne K (.ref C) (.type "ValueError") = some true
  me : PySem.W.kitOne K (.ref C) (.ref C) = some true
theorem xcls_mk {K : PySem.W.Frag} {mg : Str → Option Value} {x : Str} {C OE : Addr} (g : mg x = some (.ref C)) (q : xOk K C OE = true) : XCls K mg x C OE := by
  unfold xOk at q
  rw [Bool.and_eq_true, Bool.and_eq_true, Bool.and_eq_true, Bool.and_eq_true, Bool.and_eq_true, Bool.and_eq_true, Bool.and_eq_true, Bool.and_eq_true] at q
  obtain ⟨a, b, c, d, e, f, i, j, k⟩ := q
  exact ⟨g, fun h X => own_mk X g a, ⟨eq_of_beq b, eq_of_beq c, eq_of_beq d, eq_of_beq e, eq_of_beq f, i⟩, eq_of_beq j, eq_of_beq k, by unfold PySem.W.kitOne; rw [if_pos (beq_self_eq_true _)]⟩
end Oh

namespace Oh
open PySem PySem.Spec PyProof.Rows L2
theorem thr_no {X : Cx} : Thr X (fun _ _ _ => False) := fun _ _ _ _ _ _ _ _ _ _ _ h => h.elim
/-- ways that meet -/
def tJoin (t : TS) : TS := fun D σ H => ∃ M : St → Hp → Prop, t { D with nx := M } σ H ∧ ∀ σ' H', M σ' H' → D.nx σ' H'
theorem ps_join {X : Cx} {st : Stmt} {t : TS} (h : PS X st t) : PS X st (tJoin t) := fun pins s σ H D I ⟨M, hw, hm⟩ => by
  refine thn (h pins s σ H { D with nx := M } I hw) fun f s' q => ?_
  cases f with
  | next => obtain ⟨σ', H', J, z⟩ := q; exact ⟨σ', H', J, hm _ _ z⟩
  | brk => exact q
  | cont => exact q
  | ret u => exact q
/-! ### one house lends -/
theorem dl_nrm {n : Int} {sc : List Int} {t : Int × Int} (h : inb n t) (i : Nat) : dl sc (nrm t) i = dl sc t i := by
  obtain ⟨a0, a1, b0, b1, ne⟩ := h
  rcases nrm_or t with ⟨e, _⟩ | ⟨e, _⟩
  · rw [e]
  · rw [e]
    unfold dl mv
    dsimp only
    by_cases h1 : t.1.toNat = i
    · by_cases h2 : t.2.toNat = i
      · omega
      · rw [if_neg h2, if_pos h1, if_pos h1]; omega
    · by_cases h2 : t.2.toNat = i
      · rw [if_pos h2, if_neg h1, if_pos h2]; omega
      · rw [if_neg h2, if_neg h1, if_neg h1, if_neg h2]
theorem delta_nrm {n : Int} {sc : List Int} {T T' : List (Int × Int)} (hT : ∀ t ∈ T, inb n t) (hp : T'.Perm (T.map nrm)) (i : Nat) : delta T' sc i = delta T sc i := by
  unfold delta
  rw [sum_perm (hp.map fun t => dl sc t i), List.map_map]
  congr 1
  exact List.map_congr_left fun t ht => dl_nrm (hT t ht) i
end Oh

namespace Oh
open PySem PySem.Spec PyProof.Rows L2

/-! ### set(a list of whole numbers), its len -/
section
variable {X : Cx}
/-! ### a tuple that is known to its object; its count of a pair -/
theorem call_tuple_frz : CallR X (.type "tuple") (fun xs H Q => ∃ p ys, xs = [.ref p] ∧ SqL X.K H p ys ∧ ∀ l o, H l = none → o.dict = none → Q (.ref l) (upd H l (.frz o (.tup ys)))) := by
  intro pins s σ H xs us Q I r h
  obtain ⟨p, ys, rfl, hq, q⟩ := h
  obtain ⟨u, rfl, rx⟩ := vals1 r
  cases rx
  obtain ⟨its, r', pl, hz⟩ := I.list hq
  have hlen := r'.length
  refine call_tuple_list pl.isList (fun h' kp => ?_) (by simp only [List.size_toArray] <;> omega)
  have I1 : Inv X pins σ H { s with heap := h' } := I.kept (t' := s.toks) kp
  have I2 : Inv X pins σ (upd H h'.objs.size (.frz { cls := .type "tuple", data := .seq its.toArray } (.tup ys))) { s with heap := h'.push { cls := .type "tuple", data := .seq its.toArray } } :=
    I1.laid (t' := s.toks) (fun b o e => Heap.get?_push_of_some _ e) (Nat.le_refl _) (show ObjOk X.prog X.w _ _ _ (.frz _ (.tup ys)) from ⟨Heap.get?_push_size _ rfl, hz, its, r', IsTup.new _ _⟩)
  exact ⟨.ref h'.objs.size, _, I2, rfl, q _ _ (I1.hok.fresh (Nat.le_refl _)) rfl⟩
noncomputable def cntE (H : Hp) (t : Int × Int) : Value → Bool := fun y => @decide (∃ q, y = .ref q ∧ H q = some (.tup [.int t.1, .int t.2])) (Classical.propDecidable _)
theorem cntE_pair {H : Hp} {t u : Int × Int} {v : V} {y : Value} (p : isPair H v u) (r : RelV v y) : cntE H t y = decide (u = t) := by
  obtain ⟨q, rfl, hq⟩ := p
  cases (show y = Value.ref q from r)
  unfold cntE
  by_cases e : u = t
  · subst e
    rw [decide_eq_true rfl]
    exact @decide_eq_true _ (Classical.propDecidable _) ⟨q, rfl, hq⟩
  · rw [decide_eq_false e]
    refine @decide_eq_false _ (Classical.propDecidable _) ?_
    rintro ⟨q', e', h'⟩
    cases e'
    rw [hq] at h'
    injection h' with h'
    injection h' with h'
    injection h' with h1 h2
    injection h2 with h2 _
    exact e (Prod.ext (V.int.inj h1) (V.int.inj h2))
theorem cnt_all {H : Hp} {t : Int × Int} : ∀ {zs : List V} {T : List (Int × Int)} {its : List Value}, Pairs H zs T → Vals zs its → its.countP (cntE H t) = T.countP (fun u => decide (u = t))
  | _, _, _, .nil, .nil => rfl
  | _, _, _, .cons p ps, .cons r rs => by
    rw [List.countP_cons, List.countP_cons, cnt_all ps rs, cntE_pair p r]
def rCntT (K : PySem.W.Frag) : V → List V → Hp → VK → Prop := fun x vs H Q => ∃ p zs T r t, x = .ref p ∧ vs = [.ref r] ∧ SqT K H p zs ∧ Pairs H zs T ∧ H r = some (.tup [.int (Prod.fst t), .int (Prod.snd t)]) ∧ Q (.int (T.countP fun u => decide (u = t) : Nat)) H
theorem mt_countT (hu : X.A.units + 4 < cLine) : MtR X "tuple.count" (rCntT X.K) := by
  intro pins s σ H x vs v us Q I rx rv h
  obtain ⟨p, zs, T, r, t, rfl, rfl, hq, hP, hr, q⟩ := h
  cases rx
  obtain ⟨u, rfl, ru⟩ := vals1 rv
  cases ru
  obtain ⟨its, r', pl, hz⟩ := I.tuple hq
  obtain ⟨_, jts, rj, pj⟩ := (show ObjOk X.prog X.w H s.heap r (.tup [.int t.1, .int t.2]) from I.hok r _ hr)
  obtain ⟨⟨c0, d0, dt, sl⟩, ho, hcl, n, hd⟩ := id pl
  dsimp only at hcl hd
  subst hcl hd
  refine call_meets F.slot_tuple_count ⟨_, ho, rfl⟩ F.entry_tuple_count (F.args_tuple_count_2 _ _) (SeqAt.tuple_countAt p its.toArray n d0 sl (.ref r) (cntE H t)) ⟨ho, fun y hy => ?_, ?_⟩
  · have hy' : y ∈ its := by simpa using hy
    obtain ⟨i, hi, e⟩ := List.getElem_of_mem hy'
    have hzi : i < zs.length := by rw [r'.length]; exact hi
    obtain ⟨y', ey, ry⟩ := r'.get (i := i) (x := zs[i]) (List.getElem?_eq_getElem hzi)
    rw [List.getElem?_eq_getElem hi, e] at ey
    cases ey
    obtain ⟨u, hu', pu⟩ := hP.get (List.getElem?_eq_getElem hzi)
    rw [cntE_pair pu ry]
    obtain ⟨b, eb, hb⟩ := id pu
    rw [eb] at ry
    cases (show y = Value.ref b from ry)
    by_cases hbr : b = r
    · subst hbr
      rw [hr] at hb
      injection hb with hb
      injection hb with hb
      injection hb with h1 h2
      injection h2 with h2 _
      rw [decide_eq_true (show u = t from Prod.ext (V.int.inj h1).symm (V.int.inj h2).symm)]
      exact SeqAt.EqAt.same _
    · obtain ⟨_, kts, rk, pk⟩ := (show ObjOk X.prog X.w H s.heap b (.tup [.int u.1, .int u.2]) from I.hok b _ hb)
      obtain ⟨k1, k2, rfl, ⟨a1, rfl⟩, ⟨a2, rfl⟩⟩ := vals2 rk
      obtain ⟨j1, j2, rfl, ⟨b1, rfl⟩, ⟨b2, rfl⟩⟩ := vals2 rj
      have := SeqAt.RcAt.tuples (A := X.A.in1) (s := s) (e := fun j => if j = 0 then u.1 == t.1 else u.2 == t.2) pk pj (by show X.A.units + 1 < cLine; omega) (fun j h1 h2 => by
        have hj : j < 2 := by simpa using h1
        match j, hj with
        | 0, _ => exact SeqAt.EqAt.int_int _ _ _ _
        | 1, _ => exact SeqAt.EqAt.int_int _ _ _ _)
      have e2 : ((List.range (min 2 2)).all (fun j => if j = 0 then u.1 == t.1 else u.2 == t.2) && (2 : Nat) == 2) = decide (u = t) := by
        show ((List.range 2).all _ && true) = _
        rw [Bool.and_true]
        show ((u.1 == t.1) && ((u.2 == t.2) && true)) = _
        rw [Bool.and_true]
        by_cases e : u = t
        · subst e; simp
        · rw [decide_eq_false e]
          by_cases e1 : u.1 = t.1
          · have : ¬ u.2 = t.2 := fun z => e (Prod.ext e1 z)
            simp [this]
          · simp [e1]
      rw [← e2]
      exact SeqAt.EqAt.of_refs hbr this
  · refine ⟨.int _, H, I.tok _, ⟨_, rfl⟩, ?_⟩
    rw [List.toList_toArray, cnt_all hP r']
    exact q
def tBMT (r : V → List V → Hp → VK → Prop) (to : TE) (t : TA) : TE := fun σ H Q => to σ H fun x H1 => (∃ p ob ys, x = .ref p ∧ H1 p = some (.frz ob (.tup ys)) ∧ ob.dict = none) ∧ t σ H1 fun xs H2 => r x xs H2 Q
variable {o e : Expr} {es : List Expr} {to : TE} {t : TA} {name : Str} {apos cpos : Pos} {id : String} {r : V → List V → Hp → VK → Prop}
theorem pe_bmT (slot : Slot "tuple" name id) (hty : typeOf (.builtin id) = pure (.type "method_descriptor")) (hm : MtR X id r) (ho : PE X o to) (ha : PA X (e :: es) t)
    (hbase : attributeBase o name X.env (eval o X.env) = eval o X.env := by rfl)
    (hfew : ((backTo cpos (starEach (e :: es) X.env)).all (fun x => !x.1) && (backToKw cpos (keywordEach [] X.env)).all (fun x => x.1.isSome)
      && decide ((e :: es).length + ([] : List Keyword).length + (if ([] : List Keyword).isEmpty then 0 else 1) < 30)) = true := by rfl)
    (hline : (apos.endLine == cpos.line) = true := by rfl) (hs : starEach (e :: es) X.env = (false, eval e X.env) :: starEach es X.env := by rfl) (hplain : (backTo cpos (starEach es X.env)).any (·.1) = false := by rfl) :
    PE X (.Call (.Attribute o name apos) (e :: es) [] cpos) (tBMT r to t) := by
  intro pins s σ H Q I h
  refine wpAny_Call_method_late hbase hfew hline rfl (thn (ho pins s σ H _ I h) fun v s1 ⟨x, H1, I1, r1, ty, q1⟩ => ?_)
  obtain ⟨p, ob, ys, rfl, hp, hdn⟩ := ty
  cases (show v = Value.ref p from r1)
  obtain ⟨hob, _, its, _, ⟨o2, ho2, hc2, _⟩⟩ := (show ObjOk X.prog X.w H1 s1.heap p (.frz ob (.tup ys)) from I1.hok p _ hp)
  have h1 : s1.TypeIs (.ref p) "tuple" := ⟨o2, ho2, hc2⟩
  have h2 : ∀ a, Value.ref p = .ref a → ∃ ob, s1.heap.get? a = some ob ∧ ob.dict = none := fun a e => by cases e; exact ⟨ob, hob, hdn⟩
  refine ⟨"tuple", id, PySem.F.plainAttrs_tuple, slot, hty, h1, h2, ?_⟩
  have hA := ha cpos pins s1 σ H1 _ I1 q1
  rw [hs] at hA ⊢
  refine Calls.callWith_builtin (by show (false || (backTo cpos (starEach es X.env)).any (·.1)) = false; rw [hplain] <;> rfl) (Calls.evalArgs_plain ?_)
  exact thn hA fun us s2 ⟨vs, H2, I2, r2, q2⟩ => hm pins s2 σ H2 (.ref p) vs (.ref p) us Q I2 rfl r2 q2
end
end Oh

namespace Oh
open PySem PySem.Spec PyProof.Rows L2

/-! ### != of two lists of whole numbers, whatever is in them -/
section
variable {X : Cx}
end

/-! ### all(..), any(..) of a list of truths -/
section
variable {X : Cx}
end
def rSum (K : PySem.W.Frag) : List V → Hp → VK → Prop := fun xs H Q => ∃ (p : Addr) (ns : List Int), xs = [.ref p] ∧ SqL K H p (ns.map V.int) ∧ Q (.int ns.sum) H

/-! ### the first whole numbers -/
theorem hs_get {n i : Nat} (h : i < n) : (hs n)[i]? = some (i : Int) := by
  unfold hs
  rw [List.getElem?_map, List.getElem?_range h]
  rfl
theorem set_hs {α : Type} {n : Nat} {g : Int → α} {x : Int} {v : α} (h0 : 0 ≤ x) (h1 : x < (n : Int)) : ((hs n).map g).set x.toNat v = (hs n).map fun y => if y = x then v else g y := by
  refine List.ext_getElem? fun i => ?_
  rw [List.getElem?_set, List.length_map, hs_length]
  by_cases hi : i < n
  · have r : ((hs n).map fun y => if y = x then v else g y)[i]? = some (if (i : Int) = x then v else g i) := by rw [List.getElem?_map, hs_get hi]; rfl
    rw [r]
    by_cases e : x.toNat = i
    · rw [if_pos e, if_pos (by omega), if_pos (by omega)]
    · rw [if_neg e, List.getElem?_map, hs_get hi, if_neg (by omega)]
      rfl
  · rw [if_neg (by omega), List.getElem?_eq_none (by rw [List.length_map, hs_length]; omega), List.getElem?_eq_none (by rw [List.length_map, hs_length]; omega)]
theorem hs_congr {α : Type} {n : Nat} {f g : Int → α} (h : ∀ x, 0 ≤ x → x < (n : Int) → f x = g x) : (hs n).map f = (hs n).map g :=
  List.map_congr_left fun x hx => h x (mem_hs.mp hx).1 (mem_hs.mp hx).2
/-! ### a square table as a list of lists -/
structure Tab (H : Hp) (pr : Addr) (n : Nat) (f : Int → Int → Int) (rs : Int → Addr) : Prop where
  top : H pr = some (.lst ((hs n).map fun x => .ref (rs x)))
  apart : ∀ x y, 0 ≤ x → x < (n : Int) → 0 ≤ y → y < (n : Int) → rs x = rs y → x = y
  row : ∀ x, 0 ≤ x → x < (n : Int) → H (rs x) = some (.lst (((hs n).map (f x)).map V.int))
theorem Tab.same {H H' : Hp} {pr : Addr} {n : Nat} {f : Int → Int → Int} {rs : Int → Addr} (t : Tab H pr n f rs) (e : Same H H') : Tab H' pr n f rs :=
  ⟨e _ _ t.top, t.apart, fun x h0 h1 => e _ _ (t.row x h0 h1)⟩
theorem Tab.ne {H : Hp} {pr : Addr} {n : Nat} {f : Int → Int → Int} {rs : Int → Addr} (t : Tab H pr n f rs) {x : Int} (h0 : 0 ≤ x) (h1 : x < (n : Int)) : rs x ≠ pr := fun z => by
  have a := t.row x h0 h1
  rw [z, t.top] at a
  have b := HO.lst.inj (Option.some.inj a)
  have c := congrArg (fun l => l[0]?) b
  have hn : 0 < n := by omega
  simp only [List.getElem?_map, hs_get hn] at c
  cases c
theorem Tab.upd {H : Hp} {pr : Addr} {n : Nat} {f : Int → Int → Int} {rs : Int → Addr} (t : Tab H pr n f rs) {x y v : Int} (h0 : 0 ≤ x) (h1 : x < (n : Int)) (g0 : 0 ≤ y) (g1 : y < (n : Int)) :
    Tab (upd H (rs x) (.lst ((((hs n).map (f x)).map V.int).set y.toNat (.int v)))) pr n (fun a b => if a = x ∧ b = y then v else f a b) rs where
  top := by rw [upd_ne (Ne.symm (t.ne h0 h1))]; exact t.top
  apart := t.apart
  row := fun a a0 a1 => by
    by_cases e : a = x
    · subst e
      rw [upd_same, List.map_map, set_hs g0 g1, List.map_map]
      refine congrArg (fun l => some (HO.lst l)) (hs_congr fun b _ _ => ?_)
      by_cases e : b = y
      · rw [if_pos e]; show V.int v = V.int (if a = a ∧ b = y then v else f a b); rw [if_pos ⟨rfl, e⟩]
      · rw [if_neg e]; show V.int (f a b) = V.int (if a = a ∧ b = y then v else f a b); rw [if_neg fun z => e z.2]
    · rw [upd_ne (fun z => e (t.apart a x a0 a1 h0 h1 z)), t.row a a0 a1]
      refine congrArg (fun l => some (HO.lst (List.map V.int l))) (hs_congr fun b _ _ => ?_)
      rw [if_neg fun z => e z.1]

/-! ### queues -/
def bt (T : List (Int × Int)) (x y : Int) : Int := ((T.countP fun u => decide (u = nrm (x, y)) : Nat) : Int)
def tt' (T : List (Int × Int)) (x : Int) (ms : List Int) : Int := (ms.map fun y => bt T x y).sum
def joinB (T : List (Int × Int)) (st ms : List Int) (x : Int) : Bool := decide (x ∉ ms) && decide (st.getD x.toNat 0 < tt' T x ms)
def nextO (n : Nat) (T : List (Int × Int)) (st ms : List Int) : Option Int := (hs n).find? (joinB T st ms)
def qf (n : Nat) (T : List (Int × Int)) (st : List Int) : Nat → List Int → List Int
  | 0, ms => ms
  | k + 1, ms => match nextO n T st ms with
    | none => ms
    | some y => qf n T st k (ms ++ [y])
/-- a row of houses that a queue may begin with -/
structure Row (n : Nat) (ms : List Int) : Prop where
  nd : ms.Nodup
  rng : ∀ x ∈ ms, 0 ≤ x ∧ x < (n : Int)
theorem Row.le {n : Nat} {ms : List Int} (m : Row n ms) : ms.length ≤ n := by
  have := nodup_le m.nd (m := hs n) fun x hx => mem_hs.mpr (m.rng x hx)
  rwa [hs_length] at this
theorem Row.one {n : Nat} {x : Int} (h0 : 0 ≤ x) (h1 : x < (n : Int)) : Row n [x] := ⟨by simp, fun y hy => by
  rw [List.mem_singleton.mp hy]; exact ⟨h0, h1⟩⟩
theorem next_some {n : Nat} {T : List (Int × Int)} {st ms : List Int} {y : Int} (h : nextO n T st ms = some y) : (0 ≤ y ∧ y < (n : Int)) ∧ y ∉ ms ∧ st.getD y.toNat 0 < tt' T y ms := by
  have a := mem_hs.mp (List.mem_of_find?_eq_some h)
  have b := List.find?_some h
  unfold joinB at b
  rw [Bool.and_eq_true, decide_eq_true_iff, decide_eq_true_iff] at b
  exact ⟨a, b.1, b.2⟩
theorem next_none {n : Nat} {T : List (Int × Int)} {st ms : List Int} (h : nextO n T st ms = none) {y : Int} (h0 : 0 ≤ y) (h1 : y < (n : Int)) (hy : y ∉ ms) : tt' T y ms ≤ st.getD y.toNat 0 := by
  have b := List.find?_eq_none.mp h y (mem_hs.mpr ⟨h0, h1⟩)
  unfold joinB at b
  rw [Bool.and_eq_true, decide_eq_true_iff, decide_eq_true_iff] at b
  exact Int.not_lt.mp fun z => b ⟨hy, z⟩
theorem Row.more {n : Nat} {ms : List Int} (m : Row n ms) {y : Int} (h : 0 ≤ y ∧ y < (n : Int)) (hy : y ∉ ms) : Row n (ms ++ [y]) where
  nd := by
    rw [List.nodup_append]
    refine ⟨m.nd, by simp, fun a ha b hb' => ?_⟩
    have e : b = y := by simpa using hb'
    intro z
    exact hy (by rw [← e, ← z]; exact ha)
  rng := fun z hz => by
    rcases List.mem_append.mp hz with q | q
    · exact m.rng z q
    · rw [List.mem_singleton.mp q]; exact h
theorem qf_none {n : Nat} {T : List (Int × Int)} {st ms : List Int} (h : nextO n T st ms = none) : ∀ k, qf n T st k ms = ms
  | 0 => rfl
  | k + 1 => by unfold qf; rw [h]
theorem qf_some {n : Nat} {T : List (Int × Int)} {st ms : List Int} {y : Int} (h : nextO n T st ms = some y) (k : Nat) : qf n T st (k + 1) ms = qf n T st k (ms ++ [y]) := by
  rw [qf]; rw [h]
/-- what a whole queue is: its row, and that it has come to its end -/
theorem qf_row {n : Nat} {T : List (Int × Int)} {st : List Int} : ∀ (k : Nat) (ms : List Int), Row n ms → n ≤ k + ms.length → Row n (qf n T st k ms) ∧ nextO n T st (qf n T st k ms) = none
  | 0, ms, m, h => by
    refine ⟨m, ?_⟩
    show nextO n T st ms = none
    cases e : nextO n T st ms with
    | none => rfl
    | some y =>
      obtain ⟨a, b, _⟩ := next_some e
      have := (m.more a b).le
      rw [List.length_append, List.length_singleton] at this
      omega
  | k + 1, ms, m, h => by
    cases e : nextO n T st ms with
    | none => rw [qf_none e]; exact ⟨m, e⟩
    | some y =>
      obtain ⟨a, b, _⟩ := next_some e
      rw [qf_some e]
      exact qf_row k _ (m.more a b) (by rw [List.length_append, List.length_singleton]; omega)
/-- each next one is the one that may join -/
theorem qf_step {n : Nat} {T : List (Int × Int)} {st : List Int} : ∀ (k : Nat) (ms : List Int), Row n ms → n ≤ k + ms.length → (∃ r, qf n T st k ms = ms ++ r) ∧ ∀ j, ms.length ≤ j → j ≤ (qf n T st k ms).length → (qf n T st k ms)[j]? = nextO n T st ((qf n T st k ms).take j)
  | 0, ms, m, h => by
    have z := (qf_row (T := T) (st := st) 0 ms m h).2
    refine ⟨⟨[], by simp [qf]⟩, fun j h1 h2 => ?_⟩
    change ms[j]? = nextO n T st (ms.take j)
    change j ≤ ms.length at h2
    rw [List.take_of_length_le (by omega), List.getElem?_eq_none (by omega)]
    exact z.symm
  | k + 1, ms, m, h => by
    cases e : nextO n T st ms with
    | none =>
      rw [qf_none e]
      refine ⟨⟨[], by simp⟩, fun j h1 h2 => ?_⟩
      rw [List.take_of_length_le (by omega), List.getElem?_eq_none (by omega), e]
    | some y =>
      obtain ⟨a, b, _⟩ := next_some e
      rw [qf_some e]
      obtain ⟨⟨r, er⟩, ih⟩ := qf_step (T := T) (st := st) k _ (m.more a b) (by rw [List.length_append, List.length_singleton]; omega)
      refine ⟨⟨y :: r, by rw [er, List.append_assoc]; rfl⟩, fun j h1 h2 => ?_⟩
      rw [List.length_append, List.length_singleton] at ih
      by_cases hj : ms.length + 1 ≤ j
      · exact ih j hj h2
      · have ej : j = ms.length := by omega
        subst ej
        rw [er, List.append_assoc, List.take_left', List.getElem?_append_right (Nat.le_refl _), Nat.sub_self, e]
        · rfl
        · rfl
end Oh

namespace Oh
open PySem PySem.Spec PyProof.Rows L2

/-! ### great numbers -/
section
variable {X : Cx}
theorem bits_le {k : Int} {n : Nat} (h : k.natAbs < 2 ^ n) : Builtin.Int.intBits k ≤ n := by
  unfold Builtin.Int.intBits
  split
  · exact Nat.zero_le _
  · rename_i h0
    have hp : k.natAbs ≠ 0 := fun z => by
      have : k = 0 := by omega
      simp [this] at h0
    have := (Nat.log2_lt hp).mpr h
    omega
def CMulB (i j : Int) : Prop := i.natAbs < 2 ^ 9000 ∧ j.natAbs < 2 ^ 9000
theorem CMulB.ok {i j : Int} (h : CMulB i j) : IntMulOk i j := by
  have h1 := bits_le h.1
  have h2 := bits_le h.2
  unfold IntMulOk
  have e : Builtin.Int.intTooBig (((Builtin.Int.intBits i + Builtin.Int.intBits j : Nat)) : Int) = false := by
    unfold Builtin.Int.intTooBig
    rw [decide_eq_false_iff_not]
    have : bitsLine = 134217728 := rfl
    omega
  rw [show ((Builtin.Int.intBits i : Int) + (Builtin.Int.intBits j : Int)) = ((Builtin.Int.intBits i + Builtin.Int.intBits j : Nat) : Int) by omega, e]
  simp
theorem op_mulB : OpR X (binaryOp .Mult) (rI CMulB fun i j => .int (i * j)) := opI fun _ _ _ _ _ _ _ hc q => mul_int q hc.ok
def CDivB (i j : Int) : Prop := j ≠ 0 ∧ j.natAbs < 2 ^ 9000
theorem op_fdivB : OpR X (binaryOp .FloorDiv) (rI CDivB fun i j => .int (i.fdiv j)) := opI fun _ j _ _ _ _ _ hc q => floordiv_int hc.1 q (.inl (PyProof.noPylong_of_log2 ((Nat.log2_lt (by have := hc.1; omega)).mpr hc.2)))
end
/-! ### a list without one of its own -/
theorem cutV_take (xs : List V) (k : Nat) : cutV xs none (some (k : Int)) = xs.take k := by
  unfold cutV
  rw [HT.sIx_nat, HT.sIx_none, Nat.sub_zero, List.drop_zero, List.take_eq_take_iff.mpr (by omega : min (min k xs.length) xs.length = min k xs.length)]
theorem cutV_drop (xs : List V) (k : Nat) : cutV xs (some (k : Int)) none = xs.drop k := by
  unfold cutV
  rw [HT.sIx_nat, HT.sIx_none]
  by_cases h : k ≤ xs.length
  · rw [Nat.min_eq_left h, List.take_of_length_le (by rw [List.length_drop]; exact Nat.le_refl _)]
  · rw [Nat.min_eq_right (by omega), Nat.sub_self, List.take_zero, List.drop_of_length_le (by omega)]
theorem cutV_drop1 (xs : List V) : cutV xs (some 1) none = xs.drop 1 := cutV_drop xs 1
/-- a list of lists of whole numbers, at rows -/
def TabL (H : Hp) (p : Addr) (as : List Addr) (M : List (List Int)) : Prop := H p = some (.lst (as.map V.ref)) ∧ Paired (fun a m => H a = some (.lst (List.map V.int m))) as M
theorem TabL.same {H H' : Hp} {p : Addr} {as : List Addr} {M : List (List Int)} (t : TabL H p as M) (e : Same H H') : TabL H' p as M := ⟨e _ _ t.1, L2.Paired.mapP t.2 fun a m h => e _ _ h⟩
theorem Paired.mapMem {α β : Type} {R S : α → β → Prop} : ∀ {l : List α} {m : List β}, Paired R l m → (∀ a b, a ∈ l → R a b → S a b) → Paired S l m
  | _, _, .nil, _ => .nil
  | _, _, .cons r rs, h => .cons (h _ _ List.mem_cons_self r) (Paired.mapMem rs fun a b ha => h a b (List.mem_cons_of_mem _ ha))
theorem Paired.snoc {α β : Type} {R : α → β → Prop} : ∀ {l : List α} {m : List β} {a : α} {b : β}, Paired R l m → R a b → Paired R (l ++ [a]) (m ++ [b])
  | _, _, _, _, .nil, h => .cons h .nil
  | _, _, _, _, .cons r rs, h => .cons r (Paired.snoc rs h)
theorem Paired.erase {α β : Type} {R : α → β → Prop} : ∀ {l : List α} {m : List β} (k : Nat), Paired R l m → Paired R (l.eraseIdx k) (m.eraseIdx k)
  | _, _, _, .nil => .nil
  | _, _, 0, .cons _ rs => rs
  | _, _, k + 1, .cons r rs => .cons r (Paired.erase k rs)
theorem Paired.drop {α β : Type} {R : α → β → Prop} : ∀ {l : List α} {m : List β} (k : Nat), Paired R l m → Paired R (l.drop k) (m.drop k)
  | _, _, 0, p => p
  | _, _, _ + 1, .nil => .nil
  | _, _, k + 1, .cons _ rs => Paired.drop k rs
theorem Paired.at {α β : Type} {R : α → β → Prop} {l : List α} {m : List β} {i : Nat} {b : β} (p : Paired R l m) (h : m[i]? = some b) : ∃ a, l[i]? = some a ∧ R a b := by
  obtain ⟨hi, _⟩ := List.getElem?_eq_some_iff.mp h
  obtain ⟨a, b', ea, eb, r⟩ := paired_get p (i := i) (by rw [Paired.length p]; exact hi)
  rw [h] at eb
  cases eb
  exact ⟨a, ea, r⟩
end Oh

namespace Oh
/-! ### determinants -/
section
variable {α : Type}
/-- a row along a list of columns, signs by turns -/
def xp (a : α → Int) : (List α → Int) → List α → Int
  | _, [] => 0
  | w, c :: S => a c * w S - xp a (fun S' => w (c :: S')) S
def dt : List (α → Int) → List α → Int
  | [], [] => 1
  | [], _ :: _ => 0
  | a :: R, S => xp a (dt R) S
theorem xp_lin (a : α → Int) (p q : Int) : ∀ (S : List α) (w v : List α → Int), xp a (fun S => p * w S + q * v S) S = p * xp a w S + q * xp a v S
  | [], w, v => by simp [xp]
  | c :: S, w, v => by
    simp only [xp]
    rw [xp_lin a p q S (fun S' => w (c :: S')) (fun S' => v (c :: S'))]
    grind
theorem xp_zero (a : α → Int) : ∀ S : List α, xp a (fun _ => 0) S = 0
  | [] => rfl
  | c :: S => by simp only [xp]; rw [xp_zero a S]; omega
theorem xp_mul (a : α → Int) (p : Int) (w : List α → Int) (S : List α) : xp a (fun S => p * w S) S = p * xp a w S := by
  have := xp_lin a p 0 S w w
  simp only [Int.zero_mul, Int.add_zero] at this
  exact this
theorem xp_linL (a b : α → Int) (p q : Int) : ∀ (S : List α) (w : List α → Int), xp (fun j => p * a j + q * b j) w S = p * xp a w S + q * xp b w S
  | [], w => by simp [xp]
  | c :: S, w => by
    simp only [xp]
    rw [xp_linL a b p q S (fun S' => w (c :: S'))]
    grind
theorem xp_two (a b : α → Int) : ∀ (S : List α) (w : List α → Int), xp a (fun S' => xp b w S') S = - xp b (fun S' => xp a w S') S
  | [], w => by simp [xp]
  | c :: S, w => by
    simp only [xp]
    have e1 : (fun S' => b c * w S' - xp b (fun S'' => w (c :: S'')) S') = fun S' => b c * w S' + (-1) * xp b (fun S'' => w (c :: S'')) S' := by funext S'; omega
    have e2 : (fun S' => a c * w S' - xp a (fun S'' => w (c :: S'')) S') = fun S' => a c * w S' + (-1) * xp a (fun S'' => w (c :: S'')) S' := by funext S'; omega
    rw [e1, e2, xp_lin, xp_lin, xp_two a b S]
    grind
theorem xp_same (a : α → Int) (S : List α) (w : List α → Int) : xp a (fun S' => xp a w S') S = 0 := by
  have := xp_two a a S w
  omega
/-- two rows ahead exchanged -/
theorem dt_swap (a b : α → Int) (R : List (α → Int)) (S : List α) : dt (a :: b :: R) S = - dt (b :: a :: R) S := xp_two a b S (dt R)
def sg : Nat → Int
  | 0 => 1
  | n + 1 => - sg n
theorem sg_sq : ∀ n, sg n * sg n = 1
  | 0 => rfl
  | n + 1 => by
    have := sg_sq n
    simp only [sg]
    grind
theorem sg_add : ∀ m n, sg (m + n) = sg m * sg n
  | m, 0 => by simp [sg]
  | m, n + 1 => by
    rw [← Nat.add_assoc]
    simp only [sg]
    rw [sg_add m n]
    grind
/-- a row lifted over those ahead of it -/
theorem dt_lift (a : α → Int) (R : List (α → Int)) : ∀ (l : List (α → Int)) (S : List α), dt (l ++ a :: R) S = sg l.length * dt (a :: (l ++ R)) S
  | [], S => by simp [sg]
  | b :: l, S => by
    show xp b (dt (l ++ a :: R)) S = _
    have e : dt (l ++ a :: R) = fun S => sg l.length * dt (a :: (l ++ R)) S := by funext S'; exact dt_lift a R l S'
    rw [e, xp_mul]
    show sg l.length * dt (b :: a :: (l ++ R)) S = - sg l.length * dt (a :: b :: (l ++ R)) S
    rw [dt_swap]
    grind
/-- a row that stands behind already -/
theorem dt_kill {a : α → Int} {R : List (α → Int)} (h : a ∈ R) (S : List α) : dt (a :: R) S = 0 := by
  obtain ⟨l, r, rfl⟩ := List.append_of_mem h
  show xp a (dt (l ++ a :: r)) S = 0
  have e : dt (l ++ a :: r) = fun S => sg l.length * xp a (dt (l ++ r)) S := by funext S'; exact dt_lift a r l S'
  rw [e, xp_mul, xp_same]
  omega
/-- down a list of rows at one column -/
def xc (j : α) : (List (α → Int) → Int) → List (α → Int) → Int
  | _, [] => 0
  | w, a :: R => a j * w R - xc j (fun R' => w (a :: R')) R
theorem xc_lin (j : α) (p q : Int) : ∀ (R : List (α → Int)) (w v : List (α → Int) → Int), xc j (fun R => p * w R + q * v R) R = p * xc j w R + q * xc j v R
  | [], w, v => by simp [xc]
  | a :: R, w, v => by
    simp only [xc]
    rw [xc_lin j p q R (fun R' => w (a :: R')) (fun R' => v (a :: R'))]
    grind
theorem xp_xc (a : α → Int) (j : α) (S : List α) : ∀ (R : List (α → Int)) (w : List (α → Int) → List α → Int), xp a (fun S' => xc j (fun R' => w R' S') R) S = xc j (fun R' => xp a (fun S' => w R' S') S) R
  | [], w => xp_zero a S
  | b :: R, w => by
    simp only [xc]
    have e1 : (fun S' => b j * w R S' - xc j (fun R' => w (b :: R') S') R) = fun S' => b j * w R S' + (-1) * xc j (fun R' => w (b :: R') S') R := by funext S'; omega
    rw [e1, xp_lin, xp_xc a j S R (fun R' S' => w (b :: R') S')]
    grind
/-- the same along the first column -/
theorem dt_col (j : α) : ∀ (R : List (α → Int)) (S : List α), dt R (j :: S) = xc j (fun R' => dt R' S) R
  | [], S => rfl
  | a :: R, S => by
    show xp a (dt R) (j :: S) = _
    simp only [xp, xc]
    have e : (fun S' => dt R (j :: S')) = fun S' => xc j (fun R' => dt R' S') R := by funext S'; exact dt_col j R S'
    rw [e, xp_xc a j S R (fun R' S' => dt R' S')]
    rfl
theorem xc_two (i j : α) : ∀ (R : List (α → Int)) (w : List (α → Int) → Int), xc i (fun R' => xc j w R') R = - xc j (fun R' => xc i w R') R
  | [], w => by simp [xc]
  | a :: R, w => by
    simp only [xc]
    have e1 : (fun R' => a j * w R' - xc j (fun R'' => w (a :: R'')) R') = fun R' => a j * w R' + (-1) * xc j (fun R'' => w (a :: R'')) R' := by funext S'; omega
    have e2 : (fun R' => a i * w R' - xc i (fun R'' => w (a :: R'')) R') = fun R' => a i * w R' + (-1) * xc i (fun R'' => w (a :: R'')) R' := by funext S'; omega
    rw [e1, e2, xc_lin, xc_lin, xc_two i j R]
    grind
theorem xc_mul (j : α) (p : Int) (w : List (α → Int) → Int) (R : List (α → Int)) : xc j (fun S => p * w S) R = p * xc j w R := by
  have := xc_lin j p 0 R w w
  simp only [Int.zero_mul, Int.add_zero] at this
  exact this
theorem dc_swap (i j : α) (R : List (α → Int)) (S : List α) : dt R (i :: j :: S) = - dt R (j :: i :: S) := by
  rw [dt_col, dt_col]
  have e1 : (fun R' => dt R' (j :: S)) = fun R' => xc j (fun R'' => dt R'' S) R' := by funext R'; exact dt_col j R' S
  have e2 : (fun R' => dt R' (i :: S)) = fun R' => xc i (fun R'' => dt R'' S) R' := by funext R'; exact dt_col i R' S
  rw [e1, e2]
  exact xc_two i j R _
theorem dc_congr {S S' : List α} {p : Int} (h : ∀ R : List (α → Int), dt R S = p * dt R S') : ∀ (l : List α) (R : List (α → Int)), dt R (l ++ S) = p * dt R (l ++ S')
  | [], R => h R
  | j :: l, R => by
    show dt R (j :: (l ++ S)) = p * dt R (j :: (l ++ S'))
    rw [dt_col, dt_col]
    have e : (fun R' => dt R' (l ++ S)) = fun R' => p * dt R' (l ++ S') := by funext R'; exact dc_congr h l R'
    rw [e, xc_mul]
theorem dc_lift (j : α) (S : List α) : ∀ (l : List α) (R : List (α → Int)), dt R (l ++ j :: S) = sg l.length * dt R (j :: (l ++ S))
  | [], R => by simp [sg]
  | i :: l, R => by
    show dt R (i :: (l ++ j :: S)) = _
    rw [dt_col]
    have e : (fun R' => dt R' (l ++ j :: S)) = fun R' => sg l.length * dt R' (j :: (l ++ S)) := by funext R'; exact dc_lift j S l R'
    rw [e, xc_mul, ← dt_col i R (j :: (l ++ S)), dc_swap]
    show _ = - sg l.length * dt R (j :: i :: (l ++ S))
    grind
/-- a column that stands behind already -/
theorem dc_kill {j : α} {S : List α} (h : j ∈ S) (R : List (α → Int)) : dt R (j :: S) = 0 := by
  obtain ⟨l, r, rfl⟩ := List.append_of_mem h
  have e := dc_lift j (j :: r) (j :: l) R
  have e2 := dc_swap j j R (l ++ r)
  have e3 : dt R (j :: (l ++ j :: r)) = sg (l.length) * dt R (j :: j :: (l ++ r)) := by
    have := dc_congr (S := l ++ j :: r) (S' := j :: (l ++ r)) (p := sg l.length) (fun R => dc_lift j r l R) [j] R
    exact this
  rw [e3]
  have : dt R (j :: j :: (l ++ r)) = 0 := by omega
  rw [this]
  omega
/-! ### what the step of the reckoning makes of a row -/
/-- a row, bordered -/
def hat (P : List (α → Int)) (C : List α) (r : α → Int) : α → Int := fun j => dt (r :: P) (j :: C)
theorem hat_eq (P : List (α → Int)) (C : List α) (r : α → Int) (j : α) : hat P C r j = r j * dt P C - xp r (fun C' => xc j (fun R' => dt R' C') P) C := by
  show xp r (dt P) (j :: C) = _
  simp only [xp]
  have e : (fun S' => dt P (j :: S')) = fun C' => xc j (fun R' => dt R' C') P := by funext S'; exact dt_col j P S'
  rw [e]
theorem xp_span (v : List α → Int) (S : List α) : ∀ (P : List (α → Int)) (w : List (α → Int) → Int), (∀ p ∈ P, xp p v S = 0) → xp (fun j => xc j w P) v S = 0
  | [], w, _ => by
    have e : (fun j : α => xc j w []) = fun j => 0 * (fun _ => (0 : Int)) j + 0 * (fun _ => (0 : Int)) j := by funext j; simp [xc]
    rw [e, xp_linL]; omega
  | a :: P, w, h => by
    have e : (fun j => xc j w (a :: P)) = fun j => w P * a j + (-1) * xc j (fun R' => w (a :: R')) P := by funext j; simp only [xc]; grind
    rw [e, xp_linL, h a List.mem_cons_self, xp_span v S P (fun R' => w (a :: R')) fun p hp => h p (List.mem_cons_of_mem _ hp)]
    omega
theorem xp_sumL (v : List α → Int) (S : List α) : ∀ (C : List α) (r : α → Int) (u : List α → α → Int), (∀ C', xp (u C') v S = 0) → xp (fun j => xp r (fun C' => u C' j) C) v S = 0
  | [], r, u, _ => by
    have e : (fun j : α => xp r (fun C' => u C' j) []) = fun j => 0 * (fun _ => (0 : Int)) j + 0 * (fun _ => (0 : Int)) j := by funext j; simp [xp]
    rw [e, xp_linL]; omega
  | c :: C, r, u, h => by
    have e : (fun j => xp r (fun C' => u C' j) (c :: C)) = fun j => r c * u C j + (-1) * xp r (fun C' => u (c :: C') j) C := by funext j; simp only [xp]; omega
    rw [e, xp_linL, h, xp_sumL v S C r (fun C' => u (c :: C')) fun C' => h (c :: C')]
    omega
/-- ahead of rows among which P stands, the bordered row is the row as often as P's own -/
theorem dt_hat {P Q : List (α → Int)} {C : List α} {r : α → Int} (hs : ∀ p ∈ P, p ∈ Q) (S : List α) : dt (hat P C r :: Q) S = dt P C * dt (r :: Q) S := by
  show xp (hat P C r) (dt Q) S = dt P C * xp r (dt Q) S
  have e : hat P C r = fun j => dt P C * r j + (-1) * xp r (fun C' => xc j (fun R' => dt R' C') P) C := by funext j; rw [hat_eq]; grind
  rw [e, xp_linL]
  have z : xp (fun j => xp r (fun C' => xc j (fun R' => dt R' C') P) C) (dt Q) S = 0 :=
    xp_sumL (dt Q) S C r (fun C' j => xc j (fun R' => dt R' C') P) fun C' => xp_span (dt Q) S P (fun R' => dt R' C') fun p hp => dt_kill (hs p hp) S
  rw [z]
  omega
theorem hat_zero {P : List (α → Int)} {C : List α} (r : α → Int) {c : α} (h : c ∈ C) : hat P C r c = 0 := dc_kill h _
theorem xp_off {a : α → Int} : ∀ {S : List α} (w : List α → Int), (∀ c ∈ S, a c = 0) → xp a w S = 0
  | [], _, _ => rfl
  | c :: S, w, h => by
    simp only [xp]
    rw [h c List.mem_cons_self, xp_off (fun S' => w (c :: S')) fun d hd => h d (List.mem_cons_of_mem _ hd)]
    omega
/-- the step: two rows, two columns -/
theorem dt_step {P : List (α → Int)} {C : List α} (h0 : dt P C ≠ 0) (r t : α → Int) (j c : α) : dt P C * dt (r :: t :: P) (j :: c :: C) = hat P C t c * hat P C r j - hat P C r c * hat P C t j := by
  have e1 : dt (hat P C r :: hat P C t :: P) (j :: c :: C) = dt P C * (dt P C * dt (r :: t :: P) (j :: c :: C)) := by
    rw [dt_hat (fun p hp => List.mem_cons_of_mem _ hp), dt_swap, dt_hat (fun p hp => List.mem_cons_of_mem _ hp), dt_swap]
    grind
  have e2 : ∀ x : α, dt (hat P C t :: P) (x :: C) = hat P C t x * dt P C := fun x => by
    show xp (hat P C t) (dt P) (x :: C) = _
    simp only [xp]
    rw [xp_off _ fun d hd => hat_zero t hd]
    omega
  have e3 : dt (hat P C r :: hat P C t :: P) (j :: c :: C) = hat P C r j * (hat P C t c * dt P C) - hat P C r c * (hat P C t j * dt P C) := by
    show xp (hat P C r) (dt (hat P C t :: P)) (j :: c :: C) = _
    simp only [xp]
    rw [e2 c, e2 j, xp_off _ fun d hd => hat_zero r hd]
    omega
  have e4 : dt P C * (dt P C * dt (r :: t :: P) (j :: c :: C) - (hat P C t c * hat P C r j - hat P C r c * hat P C t j)) = 0 := by
    rw [e1] at e3
    grind
  rcases Int.mul_eq_zero.mp e4 with h | h
  · exact absurd h h0
  · omega
/-! ### too few columns -/
def nv (v : α → Bool) (S : List α) : Nat := S.countP fun c => !v c
theorem xp_few {v : α → Bool} {a : α → Int} (ha : ∀ c, v c = true → a c = 0) : ∀ (S : List α) (w : List α → Int), (∀ S', nv v S' + 1 = nv v S → w S' = 0) → xp a w S = 0
  | [], _, _ => rfl
  | c :: S, w, h => by
    simp only [xp]
    by_cases hc : v c = true
    · have e : ∀ S', nv v (c :: S') = nv v S' := fun S' => by unfold nv; rw [List.countP_cons, hc]; rfl
      rw [ha c hc, xp_few ha S (fun S' => w (c :: S')) fun S' h' => h (c :: S') (by rw [e, e]; exact h')]
      omega
    · have e : ∀ S', nv v (c :: S') = nv v S' + 1 := fun S' => by unfold nv; rw [List.countP_cons, Bool.eq_false_iff.mpr hc]; rfl
      rw [h S (e S).symm, xp_few ha S (fun S' => w (c :: S')) fun S' h' => h (c :: S') (by rw [e, e]; omega)]
      omega
theorem dt_few {v : α → Bool} (Q : List (α → Int)) : ∀ (R : List (α → Int)) (S : List α), (∀ a ∈ R, ∀ c, v c = true → a c = 0) → nv v S < R.length → dt (R ++ Q) S = 0
  | [], S, _, h => by simp at h
  | a :: R, S, ha, h => by
    show xp a (dt (R ++ Q)) S = 0
    refine xp_few (ha a List.mem_cons_self) S _ fun S' h' => dt_few Q R S' (fun b hb => ha b (List.mem_cons_of_mem _ hb)) ?_
    rw [List.length_cons] at h
    omega
def pw (b : Int) : Nat → Int
  | 0 => 1
  | n + 1 => b * pw b n
theorem pw_ne {b : Int} (h : b ≠ 0) : ∀ n, pw b n ≠ 0
  | 0 => by simp [pw]
  | n + 1 => Int.mul_ne_zero h (pw_ne h n)
/-- all rows bordered -/
theorem dt_hats {P : List (α → Int)} {C : List α} : ∀ (R l : List (α → Int)) (S : List α), dt (l ++ (R.map (hat P C) ++ P)) S = pw (dt P C) R.length * dt (l ++ (R ++ P)) S
  | [], l, S => by simp [pw]
  | r :: R, l, S => by
    have e1 : ∀ S, dt (hat P C r :: (R.map (hat P C) ++ P)) S = dt P C * dt (r :: (R.map (hat P C) ++ P)) S := fun S => dt_hat (fun p hp => List.mem_append_right _ hp) S
    have e2 : ∀ (l : List (α → Int)) (S : List α), dt (l ++ hat P C r :: (R.map (hat P C) ++ P)) S = dt P C * dt (l ++ r :: (R.map (hat P C) ++ P)) S := by
      intro l
      induction l with
      | nil => exact e1
      | cons b l ih =>
        intro S
        show xp b (dt (l ++ hat P C r :: (R.map (hat P C) ++ P))) S = dt P C * xp b (dt (l ++ r :: (R.map (hat P C) ++ P))) S
        have e : dt (l ++ hat P C r :: (R.map (hat P C) ++ P)) = fun S => dt P C * dt (l ++ r :: (R.map (hat P C) ++ P)) S := by funext S'; exact ih S'
        rw [e, xp_mul]
    show dt (l ++ hat P C r :: (R.map (hat P C) ++ P)) S = dt P C * pw (dt P C) R.length * dt (l ++ (r :: R ++ P)) S
    rw [e2, show l ++ r :: (R.map (hat P C) ++ P) = (l ++ [r]) ++ (R.map (hat P C) ++ P) by simp, dt_hats R (l ++ [r]) S, show (l ++ [r]) ++ (R ++ P) = l ++ (r :: R ++ P) by simp]
    grind
/-- no row of those left is filled in the column: nought -/
theorem dt_empty {P R : List (α → Int)} {C S : List α} {c : α} (h0 : dt P C ≠ 0) (hl : R.length = S.length + 1) (hz : ∀ r ∈ R, hat P C r c = 0) (hd : (c :: (S ++ C)).Nodup) [DecidableEq α] : dt (R ++ P) (c :: (S ++ C)) = 0 := by
  have e := dt_hats (P := P) (C := C) R [] (c :: (S ++ C))
  rw [List.nil_append, List.nil_append] at e
  have z : dt (R.map (hat P C) ++ P) (c :: (S ++ C)) = 0 := by
    refine dt_few (v := fun x => decide (x = c ∨ x ∈ C)) P _ _ ?_ ?_
    · intro a ha x hx
      obtain ⟨r, hr, rfl⟩ := List.mem_map.mp ha
      rcases of_decide_eq_true hx with h | h
      · rw [h]; exact hz r hr
      · exact hat_zero r h
    · rw [List.length_map]
      unfold nv
      rw [List.countP_cons, List.countP_append]
      have c1 : List.countP (fun x => !decide (x = c ∨ x ∈ C)) C = 0 := by
        rw [List.countP_eq_zero]
        intro x hx
        simp [hx]
      have c2 := List.countP_le_length (p := fun x => !decide (x = c ∨ x ∈ C)) (l := S)
      rw [c1]
      simp
      simp at c2
      omega
  rw [z] at e
  rcases Int.mul_eq_zero.mp e.symm with h | h
  · exact absurd h (pw_ne h0 _)
  · exact h
/-- turned about, rows and columns -/
def es : Nat → Int
  | 0 => 1
  | n + 1 => sg n * es n
theorem es_sq : ∀ n, es n * es n = 1
  | 0 => rfl
  | n + 1 => by
    have h1 := es_sq n
    have h2 := sg_sq n
    simp only [es]
    grind
theorem dt_rev : ∀ (R : List (α → Int)) (S : List α), dt R.reverse S = es R.length * dt R S
  | [], S => by simp [es]
  | a :: R, S => by
    rw [List.reverse_cons, dt_lift a [] R.reverse S, List.append_nil, List.length_reverse]
    show sg R.length * xp a (dt R.reverse) S = sg R.length * es R.length * xp a (dt R) S
    have e : dt R.reverse = fun S => es R.length * dt R S := by funext S'; exact dt_rev R S'
    rw [e, xp_mul]
    grind
theorem dc_rev : ∀ (S : List α) (R : List (α → Int)), dt R S.reverse = es S.length * dt R S
  | [], R => by simp [es]
  | c :: S, R => by
    rw [List.reverse_cons, dc_lift c [] S.reverse R, List.append_nil, List.length_reverse, dt_col]
    have e : (fun R' => dt R' S.reverse) = fun R' => es S.length * dt R' S := by funext R'; exact dc_rev S R'
    rw [e, xc_mul, ← dt_col]
    show _ = sg S.length * es S.length * dt R (c :: S)
    grind
theorem dt_turn {R : List (α → Int)} {S : List α} (h : R.length = S.length) : dt R.reverse S.reverse = dt R S := by
  rw [dt_rev, dc_rev, h]
  have := es_sq S.length
  grind
/-! ### how great it may be -/
theorem xp_le {a : α → Int} {b v : Nat} : ∀ (S : List α) (w : List α → Int), (∀ c ∈ S, (a c).natAbs ≤ b) → (∀ S', (∀ c ∈ S', c ∈ S) → (S'.length < S.length) → (w S').natAbs ≤ v) → (xp a w S).natAbs ≤ S.length * (b * v)
  | [], w, _, _ => by simp [xp]
  | c :: S, w, ha, hw => by
    simp only [xp]
    have h1 := ha c List.mem_cons_self
    have h2 := hw S (fun d hd => List.mem_cons_of_mem _ hd) (by simp)
    have h3 := xp_le S (fun S' => w (c :: S')) (fun d hd => ha d (List.mem_cons_of_mem _ hd)) fun S' hS hl => hw (c :: S') (fun d hd => by
      rcases List.mem_cons.mp hd with e | e
      · rw [e]; exact List.mem_cons_self
      · exact List.mem_cons_of_mem _ (hS d e)) (by simp; exact hl)
    have h4 : (a c * w S).natAbs ≤ b * v := by rw [Int.natAbs_mul]; exact Nat.mul_le_mul h1 h2
    have h5 := Int.natAbs_sub_le (a c * w S) (xp a (fun S' => w (c :: S')) S)
    rw [List.length_cons, Nat.add_mul, Nat.one_mul]
    omega
theorem dt_le {b m : Nat} (hb : 1 ≤ b) (hm : 1 ≤ m) : ∀ (R : List (α → Int)) (S : List α), (∀ a ∈ R, ∀ c ∈ S, (a c).natAbs ≤ b) → S.length ≤ m → (dt R S).natAbs ≤ (m * b) ^ R.length
  | [], [], _, _ => by simp [dt]
  | [], c :: S, _, _ => by simp [dt]
  | a :: R, S, ha, hS => by
    have := xp_le (a := a) (b := b) (v := (m * b) ^ R.length) S (dt R) (ha a List.mem_cons_self) fun S' h1 h2 => dt_le hb hm R S' (fun x hx c hc => ha x (List.mem_cons_of_mem _ hx) c (h1 c hc)) (by omega)
    refine Nat.le_trans this ?_
    rw [List.length_cons, Nat.pow_succ]
    calc S.length * (b * (m * b) ^ R.length) ≤ m * (b * (m * b) ^ R.length) := Nat.mul_le_mul_right _ hS
      _ = (m * b) ^ R.length * (m * b) := by rw [← Nat.mul_assoc, Nat.mul_comm]
end
end Oh

namespace Oh
section
variable {α : Type}
theorem dt_congrp {R R' : List (α → Int)} {p : Int} (h : ∀ S, dt R S = p * dt R' S) : ∀ (l : List (α → Int)) (S : List α), dt (l ++ R) S = p * dt (l ++ R') S
  | [], S => h S
  | a :: l, S => by
    show xp a (dt (l ++ R)) S = p * xp a (dt (l ++ R')) S
    have e : dt (l ++ R) = fun S => p * dt (l ++ R') S := by funext S'; exact dt_congrp h l S'
    rw [e, xp_mul]
theorem dt_perm {R R' : List (α → Int)} (h : R.Perm R') : ∃ p : Int, p * p = 1 ∧ ∀ S : List α, dt R S = p * dt R' S := by
  induction h with
  | nil => exact ⟨1, rfl, fun S => by omega⟩
  | cons a _ ih =>
    obtain ⟨p, hp, h⟩ := ih
    exact ⟨p, hp, fun S => dt_congrp h [a] S⟩
  | swap a b l => exact ⟨-1, rfl, fun S => by rw [dt_swap]; omega⟩
  | trans _ _ ih1 ih2 =>
    obtain ⟨p, hp, h⟩ := ih1
    obtain ⟨q, hq, g⟩ := ih2
    exact ⟨p * q, by grind, fun S => by rw [h, g]; grind⟩
theorem dc_perm {S S' : List α} (h : S.Perm S') : ∃ p : Int, p * p = 1 ∧ ∀ R : List (α → Int), dt R S = p * dt R S' := by
  induction h with
  | nil => exact ⟨1, rfl, fun S => by omega⟩
  | cons a _ ih =>
    obtain ⟨p, hp, h⟩ := ih
    exact ⟨p, hp, fun R => dc_congr h [a] R⟩
  | swap a b l => exact ⟨-1, rfl, fun S => by rw [dc_swap]; omega⟩
  | trans _ _ ih1 ih2 =>
    obtain ⟨p, hp, h⟩ := ih1
    obtain ⟨q, hq, g⟩ := ih2
    exact ⟨p * q, by grind, fun S => by rw [h, g]; grind⟩
theorem sg_mod : ∀ n, sg n = if n % 2 = 1 then -1 else 1
  | 0 => rfl
  | n + 1 => by
    simp only [sg]
    rw [sg_mod n]
    by_cases h : n % 2 = 1
    · rw [if_pos h, if_neg (by omega)]; rfl
    · rw [if_neg h, if_pos (by omega)]
/-- how far the reckoning has come -/
structure Bar (T0 : List (α → Int)) (cols : List α) (P R : List (α → Int)) (C S : List α) (sign : Int) : Prop where
  ne : dt P C ≠ 0
  len : R.length = S.length
  lenP : P.length = C.length
  nd : (S ++ C).Nodup
  val : dt T0 cols = sign * dt (P.reverse ++ R) (C.reverse ++ S)
  one : sign = 1 ∨ sign = -1
  ofT : ∀ r, r ∈ P ∨ r ∈ R → r ∈ T0
  ofC : ∀ c, c ∈ C ∨ c ∈ S → c ∈ cols
  lenT : P.length + R.length = T0.length
theorem Bar.start {T0 : List (α → Int)} {cols : List α} (hl : T0.length = cols.length) (hd : cols.Nodup) : Bar T0 cols [] T0 [] cols 1 where
  ne := by show (1 : Int) ≠ 0; decide
  len := hl
  lenP := rfl
  nd := by rw [List.append_nil]; exact hd
  val := by rw [List.reverse_nil, List.reverse_nil, List.nil_append, List.nil_append, Int.one_mul]
  one := .inl rfl
  ofT := fun r h => h.elim (fun z => nomatch z) id
  ofC := fun r h => h.elim (fun z => nomatch z) id
  lenT := by simp
theorem hat_start (r : α → Int) (j : α) : hat [] [] r j = r j := by
  show xp r (dt []) [j] = r j
  simp [xp, dt]
theorem Bar.done {T0 : List (α → Int)} {cols : List α} {P : List (α → Int)} {C : List α} {sign : Int} (b : Bar T0 cols P [] C [] sign) : dt T0 cols = sign * dt P C := by
  have := b.val
  rw [List.append_nil, List.append_nil, dt_turn b.lenP] at this
  exact this
theorem Bar.zero [DecidableEq α] {T0 : List (α → Int)} {cols : List α} {P R : List (α → Int)} {C S : List α} {c : α} {sign : Int} (b : Bar T0 cols P R C (c :: S) sign) (hz : ∀ r ∈ R, hat P C r c = 0) : dt T0 cols = 0 := by
  have e := dt_empty (S := S) b.ne (by have := b.len; simpa using this) hz b.nd
  obtain ⟨p, _, hp⟩ := dt_perm (show (P.reverse ++ R).Perm (R ++ P) from List.perm_append_comm.trans (List.Perm.append_left R (List.reverse_perm P)))
  obtain ⟨q, _, hq⟩ := dc_perm (show (C.reverse ++ c :: S).Perm (c :: (S ++ C)) from by
    have := List.perm_append_comm (l₁ := C.reverse) (l₂ := c :: S)
    refine this.trans ?_
    rw [List.cons_append]
    exact (List.Perm.append_left S (List.reverse_perm C)).cons c)
  rw [b.val, hp, hq, e]
  omega
theorem Bar.step {T0 : List (α → Int)} {cols : List α} {P l r : List (α → Int)} {t : α → Int} {C S : List α} {c : α} {sign : Int} (b : Bar T0 cols P (l ++ t :: r) C (c :: S) sign) (ht : hat P C t c ≠ 0) :
    Bar T0 cols (t :: P) (l ++ r) (c :: C) S (if l.length % 2 = 1 then -sign else sign) where
  ne := ht
  len := by
    have := b.len
    simp only [List.length_append, List.length_cons] at this ⊢
    omega
  lenP := by simp only [List.length_cons]; rw [b.lenP]
  nd := by
    have := b.nd
    refine List.Perm.nodup ?_ this
    rw [List.cons_append]
    exact List.perm_middle.symm
  val := by
    rw [b.val, dt_congrp (fun S => dt_lift t r l S) P.reverse, sg_mod]
    rw [show (t :: P).reverse ++ (l ++ r) = P.reverse ++ t :: (l ++ r) by simp, show (c :: C).reverse ++ S = C.reverse ++ c :: S by simp]
    split <;> grind
  one := by
    have := b.one
    split <;> omega
  ofT := fun x h => by
    refine b.ofT x ?_
    rcases h with h | h
    · rcases List.mem_cons.mp h with e | e
      · rw [e]; exact .inr (List.mem_append_right _ List.mem_cons_self)
      · exact .inl e
    · rcases List.mem_append.mp h with e | e
      · exact .inr (List.mem_append_left _ e)
      · exact .inr (List.mem_append_right _ (List.mem_cons_of_mem _ e))
  ofC := fun x h => by
    refine b.ofC x ?_
    rcases h with h | h
    · rcases List.mem_cons.mp h with e | e
      · rw [e]; exact .inr List.mem_cons_self
      · exact .inl e
    · exact .inr (List.mem_cons_of_mem _ h)
  lenT := by
    have := b.lenT
    simp only [List.length_append, List.length_cons] at this ⊢
    omega
/-- the told quotient -/
theorem hat_step {P : List (α → Int)} {C : List α} (h0 : dt P C ≠ 0) (r t : α → Int) (j c : α) : (hat P C t c * hat P C r j - hat P C r c * hat P C t j).fdiv (dt P C) = hat (t :: P) (c :: C) r j := by
  rw [← dt_step h0 r t j c]
  exact Int.mul_fdiv_cancel_left _ h0
theorem big_le {b k : Nat} (hb : b ≤ 2 ^ 1000) (hk : k ≤ 8) : (8 * b) ^ k ≤ 2 ^ 8024 := by
  have h1 : 8 * b ≤ 2 ^ 1003 := by
    rw [show (1003 : Nat) = 3 + 1000 from rfl, Nat.pow_add]
    exact Nat.mul_le_mul (by decide) hb
  calc (8 * b) ^ k ≤ (2 ^ 1003) ^ k := Nat.pow_le_pow_left h1 k
    _ ≤ (2 ^ 1003) ^ 8 := Nat.pow_le_pow_right (Nat.pow_pos (by decide)) hk
    _ = 2 ^ 8024 := by rw [← Nat.pow_mul]
theorem dt_big {R : List (α → Int)} {S : List α} {b : Nat} (h1 : 1 ≤ b) (hb : b ≤ 2 ^ 1000) (hR : R.length ≤ 8) (hS : S.length ≤ 8) (h : ∀ a ∈ R, ∀ c ∈ S, (a c).natAbs ≤ b) : (dt R S).natAbs ≤ 2 ^ 8024 :=
  Nat.le_trans (dt_le h1 (by decide : 1 ≤ 8) R S h hS) (big_le hb hR)
theorem Bar.big {T0 : List (α → Int)} {cols : List α} {P R : List (α → Int)} {C S : List α} {sign : Int} (b : Bar T0 cols P R C S sign) {B : Nat} (h1 : 1 ≤ B) (hB : B ≤ 2 ^ 1000) (h7 : T0.length ≤ 7) (h : ∀ a ∈ T0, ∀ c ∈ cols, (a c).natAbs ≤ B) :
    (dt P C).natAbs ≤ 2 ^ 8024 ∧ ∀ r ∈ R, ∀ j ∈ S, (hat P C r j).natAbs ≤ 2 ^ 8024 := by
  have lt := b.lenT
  have lp := b.lenP
  refine ⟨dt_big h1 hB (by omega) (by omega) fun a ha c hc => h a (b.ofT a (.inl ha)) c (b.ofC c (.inl hc)), fun r hr j hj => ?_⟩
  refine dt_big h1 hB (by simp only [List.length_cons]; omega) (by simp only [List.length_cons]; omega) fun a ha c hc => ?_
  refine h a ?_ c ?_
  · rcases List.mem_cons.mp ha with e | e
    · rw [e]; exact b.ofT r (.inr hr)
    · exact b.ofT a (.inl e)
  · rcases List.mem_cons.mp hc with e | e
    · rw [e]; exact b.ofC j (.inr hj)
    · exact b.ofC c (.inl e)
/-! ### a lower table times an upper one -/
theorem dt_col0 {R : List (α → Int)} {c : α} (h : ∀ r ∈ R, r c = 0) (S : List α) : dt R (c :: S) = 0 := by
  rw [dt_col]
  have : ∀ (R : List (α → Int)) (w : List (α → Int) → Int), (∀ r ∈ R, r c = 0) → xc c w R = 0 := by
    intro R
    induction R with
    | nil => intro w _; rfl
    | cons a R ih =>
      intro w h
      simp only [xc]
      rw [h a List.mem_cons_self, ih _ fun r hr => h r (List.mem_cons_of_mem _ hr)]
      omega
  exact this R _ h
inductive Tri : List (α → Int) → List α → Prop
  | nil : Tri [] []
  | cons {u : α → Int} {R : List (α → Int)} {c : α} {S : List α} : (∀ r ∈ R, r c = 0) → Tri R S → Tri (u :: R) (c :: S)
end
end Oh

namespace Oh
section
variable {α : Type}
theorem xp_ext {a b : α → Int} : ∀ (S : List α) (w v : List α → Int), (∀ c ∈ S, a c = b c) → (∀ S', (∀ c ∈ S', c ∈ S) → w S' = v S') → xp a w S = xp b v S
  | [], _, _, _, _ => rfl
  | c :: S, w, v, h1, h2 => by
    simp only [xp]
    rw [h1 c List.mem_cons_self, h2 S fun d hd => List.mem_cons_of_mem _ hd, xp_ext S (fun S' => w (c :: S')) (fun S' => v (c :: S')) (fun d hd => h1 d (List.mem_cons_of_mem _ hd)) fun S' hS => h2 (c :: S') fun d hd => by
      rcases List.mem_cons.mp hd with e | e
      · rw [e]; exact List.mem_cons_self
      · exact List.mem_cons_of_mem _ (hS d e)]
theorem dt_ext : ∀ (R R' : List (α → Int)) (S : List α), R.length = R'.length → (∀ (i : Nat) (a b : α → Int), R[i]? = some a → R'[i]? = some b → ∀ c ∈ S, a c = b c) → dt R S = dt R' S
  | [], [], _, _, _ => rfl
  | [], _ :: _, _, h, _ => by simp at h
  | _ :: _, [], _, h, _ => by simp at h
  | a :: R, b :: R', S, hl, h => by
    refine xp_ext S (dt R) (dt R') (h 0 a b rfl rfl) fun S' hS => dt_ext R R' S' (by simpa using hl) fun i x y hx hy c hc => h (i + 1) x y (by simpa using hx) (by simpa using hy) c (hS c hc)
theorem sum_mul_left (p : Int) : ∀ l : List Int, (l.map fun x => p * x).sum = p * l.sum
  | [] => by simp
  | x :: l => by rw [List.map_cons, List.sum_cons, List.sum_cons, sum_mul_left p l]; grind
/-- the same as a sum over the places -/
theorem xp_sum (d : α) (a : α → Int) : ∀ (S : List α) (w : List α → Int), xp a w S = ((List.range S.length).map fun j => sg j * (a (S.getD j d) * w (S.eraseIdx j))).sum
  | [], w => rfl
  | c :: S, w => by
    simp only [xp]
    rw [xp_sum d a S (fun S' => w (c :: S')), List.length_cons, List.range_succ_eq_map, List.map_cons, List.sum_cons, List.map_map]
    have e : ((List.range S.length).map ((fun j => sg j * (a ((c :: S).getD j d) * w ((c :: S).eraseIdx j))) ∘ Nat.succ)) = ((List.range S.length).map fun j => sg j * (a (S.getD j d) * w (c :: S.eraseIdx j))).map fun x => (-1) * x := by
      rw [List.map_map]
      refine List.map_congr_left fun j _ => ?_
      show - sg j * _ = (-1) * (sg j * _)
      have : (c :: S).getD j.succ d = S.getD j d := by simp [List.getD_eq_getElem?_getD]
      rw [this]
      show - sg j * (a (S.getD j d) * w (c :: S.eraseIdx j)) = _
      grind
    rw [e, sum_mul_left]
    show _ = 1 * (a c * w S) + _
    omega
def pr : List Int → Int
  | [] => 1
  | x :: l => x * pr l
end
/-! ### tables as lists -/
def fnOf' (r : List Int) : Nat → Int := fun j => r.getD j 0
def dtl (M : List (List Int)) : Int := dt (M.map fnOf') (List.range M.length)
end Oh

namespace Oh
open PySem PySem.Spec PyProof.Rows L2
/-! ### tables that grow -/
theorem TabL.push {H : Hp} {p r : Addr} {as : List Addr} {M : List (List Int)} {m : List Int} (t : TabL H p as M) (ha : ∀ a ∈ as, a ≠ p) (hr : H r = some (.lst (m.map V.int))) (hne : r ≠ p) : TabL (upd H p (.lst (as.map V.ref ++ [.ref r]))) p (as ++ [r]) (M ++ [m]) := by
  refine ⟨by rw [upd_same, List.map_append]; rfl, Paired.snoc (Paired.mapMem t.2 fun a m ha' h => ?_) ?_⟩
  · rw [upd_ne (ha a ha')]; exact h
  · rw [upd_ne hne]; exact hr
theorem TabL.other {H : Hp} {p q : Addr} {o : HO} {as : List Addr} {M : List (List Int)} (t : TabL H q as M) (h1 : q ≠ p) (h2 : ∀ a ∈ as, a ≠ p) : TabL (upd H p o) q as M :=
  ⟨by rw [upd_ne h1]; exact t.1, Paired.mapMem t.2 fun a m ha h => by rw [upd_ne (h2 a ha)]; exact h⟩
theorem TabL.row {H : Hp} {p : Addr} {as : List Addr} {M : List (List Int)} {i : Nat} {m : List Int} (t : TabL H p as M) (h : M[i]? = some m) : ∃ a, atI (as.map V.ref) (i : Int) = some (.ref a) ∧ as[i]? = some a ∧ H a = some (.lst (m.map V.int)) := by
  obtain ⟨a, ea, ha⟩ := Paired.at t.2 h
  exact ⟨a, atI_nat (by rw [List.getElem?_map, ea]; rfl), ea, ha⟩
theorem TabL.len {H : Hp} {p : Addr} {as : List Addr} {M : List (List Int)} (t : TabL H p as M) : as.length = M.length := Paired.length t.2
theorem Paired.set {α β : Type} {R : α → β → Prop} {a : α} {b : β} (h : R a b) : ∀ {l : List α} {m : List β} (i : Nat), Paired R l m → Paired R (l.set i a) (m.set i b)
  | _, _, _, .nil => .nil
  | _, _, 0, .cons _ rs => .cons h rs
  | _, _, i + 1, .cons r rs => .cons r (Paired.set h i rs)
theorem tab_fn {M : List (List Int)} {n : Nat} (hsq : ∀ m ∈ M, m.length = n) : ((M.map fnOf').map fun r => (List.range n).map r) = M := by
  rw [List.map_map]
  refine List.ext_getElem? fun i => ?_
  rw [List.getElem?_map]
  cases em : M[i]? with
  | none => rfl
  | some m =>
    have hm := List.mem_of_getElem? em
    refine congrArg some ?_
    refine List.ext_getElem? fun j => ?_
    show ((List.range n).map (fnOf' m))[j]? = m[j]?
    rw [List.getElem?_map]
    by_cases hj : j < n
    · rw [List.getElem?_range hj, List.getElem?_eq_getElem (by rw [hsq m hm]; exact hj)]
      refine congrArg some ?_
      unfold fnOf'
      rw [List.getD_eq_getElem?_getD, List.getElem?_eq_getElem (by rw [hsq m hm]; exact hj)]; rfl
    · rw [List.getElem?_eq_none (by rw [List.length_range]; omega), List.getElem?_eq_none (by rw [hsq m hm]; omega)]; rfl
end Oh

namespace Oh
open PySem PySem.Spec PyProof.Rows L2

/-! ### comprehensions whose own name is used by one inside -/
theorem cellsFrom_mem {x : Str} {c : Addr} : ∀ (names : List (Str × NameKind)) (n : Nat) (acc : List (Str × Addr)), (x, c) ∈ cellsFrom n names acc → (x, c) ∈ acc ∨ ((x, NameKind.cell) ∈ names ∧ n ≤ c)
  | [], n, acc, h => .inl h
  | (y, k) :: r, n, acc, h => by
    unfold cellsFrom at h
    by_cases hk : (k == .cell) = true
    · rw [if_pos hk] at h
      have ek : k = .cell := by simpa using hk
      rcases cellsFrom_mem r (n + 1) _ h with z | ⟨z1, z2⟩
      · rcases List.mem_cons.mp z with e | e
        · cases e
          exact .inr ⟨by rw [ek]; exact List.mem_cons_self, Nat.le_refl _⟩
        · exact .inl e
      · exact .inr ⟨List.mem_cons_of_mem _ z1, by omega⟩
    · rw [if_neg hk] at h
      rcases cellsFrom_mem r n _ h with z | ⟨z1, z2⟩
      · exact .inl z
      · exact .inr ⟨List.mem_cons_of_mem _ z1, z2⟩
theorem cellsFrom_skip {x : Str} : ∀ (names : List (Str × NameKind)) (n : Nat) (acc : List (Str × Addr)), (x, NameKind.cell) ∉ names → (cellsFrom n names acc).lookup x = acc.lookup x
  | [], n, acc, _ => rfl
  | (y, k) :: r, n, acc, h => by
    have hr : (x, NameKind.cell) ∉ r := fun z => h (List.mem_cons_of_mem _ z)
    unfold cellsFrom
    by_cases hk : (k == .cell) = true
    · rw [if_pos hk, cellsFrom_skip r _ _ hr, List.lookup_cons]
      have ek : k = .cell := by simpa using hk
      have : (x == y) = false := by
        rw [Bool.eq_false_iff]
        intro z
        exact h (by rw [eq_of_beq z, ek]; exact List.mem_cons_self)
      rw [this]
    · rw [if_neg hk]; exact cellsFrom_skip r _ _ hr
theorem cellsFrom_inj {n0 : Nat} : ∀ (names : List (Str × NameKind)) (n : Nat) (acc : List (Str × Addr)), n0 ≤ n → (∀ p ∈ acc, p.2 < n) → (∀ p ∈ acc, ∀ q ∈ acc, n0 ≤ p.2 → p.2 = q.2 → p.1 = q.1) →
    ∀ p ∈ cellsFrom n names acc, ∀ q ∈ cellsFrom n names acc, n0 ≤ p.2 → p.2 = q.2 → p.1 = q.1
  | [], n, acc, _, _, h => h
  | (y, k) :: r, n, acc, hn, hl, h => by
    unfold cellsFrom
    split
    · refine cellsFrom_inj r (n + 1) _ (by omega) (fun p hp => ?_) fun p hp q hq h0 e => ?_
      · rcases List.mem_cons.mp hp with z | z
        · rw [z]; exact Nat.lt_succ_self _
        · exact Nat.lt_succ_of_lt (hl p z)
      · rcases List.mem_cons.mp hp with z | z <;> rcases List.mem_cons.mp hq with z' | z'
        · rw [z, z']
        · have := hl q z'
          rw [z] at e
          have e' : n = q.2 := e
          rw [← e'] at this
          exact absurd this (Nat.lt_irrefl _)
        · have := hl p z
          rw [z'] at e
          have e' : p.2 = n := e
          rw [e'] at this
          exact absurd this (Nat.lt_irrefl _)
        · exact h p z q z' h0 e
    · exact cellsFrom_inj r n acc hn hl h
theorem pushCells_new {x : Str} {c : Addr} : ∀ (names : List (Str × NameKind)) (h : Heap) (acc : List (Str × Addr)), (x, c) ∈ cellsFrom h.objs.size names acc → (x, c) ∈ acc ∨ (pushCells h names).IsCell c none
  | [], h, acc, z => .inl z
  | (y, k) :: r, h, acc, z => by
    unfold cellsFrom at z
    unfold pushCells
    by_cases hk : (k == .cell) = true
    · rw [if_pos hk] at z ⊢
      have := pushCells_new (x := x) (c := c) r (h.push { cls := .type "cell", data := .cell none }) ((y, h.objs.size) :: acc) (by rw [Heap.size_push]; exact z)
      rcases this with e | e
      · rcases List.mem_cons.mp e with e | e
        · cases e
          exact .inr ⟨_, pushCells_keeps r _ _ _ (Heap.get?_push_size _ rfl), rfl⟩
        · exact .inl e
      · exact .inr e
    · rw [if_neg hk] at z ⊢
      exact pushCells_new r h acc z
theorem newEnv_comp {M : Model} {A : Around} {E : Value → Shared → Prop} {s : Shared} {scope : Scope} {globals : Addr} {cl : List (Str × Addr)} {qual : Str} {env : Env} {Q : Env → Shared → Prop}
    (hQ : ∀ h' : Heap, h'.Ns s.heap.objs.size (fun _ => none) → (∀ b o, s.heap.get? b = some o → h'.get? b = some o) → (∀ x c, (x, c) ∈ cellsFrom (s.heap.objs.size + 1) scope.names cl → (x, c) ∈ cl ∨ h'.IsCell c none) →
      Q { scope := scope, locals := s.heap.objs.size, globals := globals, cells := cellsFrom (s.heap.objs.size + 1) scope.names cl, qual := qual, func := none, code := env.code, frame := env.frame, builtins := env.builtins } { s with heap := h' }) :
    wpAny M A (newFunctionEnv scope globals cl [] qual none .none (some env)) Q E s := by
  simp only [newFunctionEnv, Option.isSome_some, if_true]
  refine wpAny_bind (wpAny_alloc ?_)
  refine wpAny_bind (wpAny_layCells _ (fun name kind cells => by cases hkc : kind == NameKind.cell <;> simp [hkc]) _ _ _ _ ?_)
  have hz : ({ s with heap := s.heap.push { cls := .type "dict", data := .dict #[] } } : Shared).heap.objs.size = s.heap.objs.size + 1 := Heap.size_push ..
  rw [hz]
  rw [List.forIn_nil]
  refine wpAny_bind (wpAny_pure (wpAny_pure (hQ _ ((Heap.Ns.new s.heap (.type "dict")).keeps (pushCells_keeps _ _)) (fun b o e => pushCells_keeps _ _ b o (Heap.get?_push_of_some _ e)) fun x c hx => ?_)))
  refine pushCells_new scope.names (s.heap.push { cls := .type "dict", data := .dict #[] }) cl ?_
  rw [Heap.size_push]
  exact hx
structure CompOkC (X : Cx) (N' : List Str) (mp : List (Option Nat)) (scope : Scope) : Prop where
  kind : scope.kind = .function
  uniq : ∀ y ∈ scope.names, scope.names.lookup y.1 = some y.2
  free : ∀ y ∈ scope.names, y.2 = .free → X.env.kindOf y.1 = some .cell ∨ X.env.kindOf y.1 = some .free
  len : mp.length = N'.length
  vars : ∀ (i j : Nat) (x : Str), N'[i]? = some x → mp[i]? = some (some j) → X.N[j]? = some x ∧ scope.names.lookup x = some .free
theorem CompOkC.names {X : Cx} {N' : List Str} {mp : List (Option Nat)} {scope : Scope} (ok : CompOkC X N' mp scope) : ∀ y ∈ scope.names, y.2 = .local → scope.names.lookup y.1 = some .local := fun y hy e => by rw [ok.uniq y hy, e]
def compOkCB (N : List Str) (sc : Scope) (N' : List Str) (mp : List (Option Nat)) (scope : Scope) : Bool :=
  decide (scope.kind = .function) && scope.names.all (fun y => decide (scope.names.lookup y.1 = some y.2)) &&
  scope.names.all (fun y => decide (y.2 = .free → sc.names.lookup y.1 = some .cell ∨ sc.names.lookup y.1 = some .free)) && decide (mp.length = N'.length) &&
  (mp.zip N').all fun p => match p.1 with
    | none => true
    | some j => decide (N[j]? = some p.2) && decide (scope.names.lookup p.2 = some .free)
theorem CompOkC.of {X : Cx} {N' : List Str} {mp : List (Option Nat)} {scope : Scope} (h : compOkCB X.N X.env.scope N' mp scope = true) : CompOkC X N' mp scope := by
  unfold compOkCB at h
  simp only [Bool.and_eq_true, List.all_eq_true, decide_eq_true_eq] at h
  obtain ⟨⟨⟨⟨h1, h2⟩, h4⟩, h5⟩, h6⟩ := h
  refine ⟨h1, h2, h4, h5, fun i j x a b => ?_⟩
  have hm : (some j, x) ∈ mp.zip N' := List.mem_of_getElem? (i := i) (by rw [List.getElem?_zip_eq_some]; exact ⟨b, a⟩)
  have q := h6 _ hm
  simp only [Bool.and_eq_true, decide_eq_true_eq] at q
  exact q
def clC (X : Cx) (scope : Scope) (C : Addr) : List (Str × Addr) := cellsFrom (C + 1) scope.names (clOf X.env.cells scope.names [])
def compCxC (X : Cx) (N' : List Str) (scope : Scope) (C : Addr) (s : Shared) (H : Hp) (fp : List Addr) : Cx where
  prog := X.prog
  w := X.w
  K := X.K
  mg := X.mg
  base := X.base
  A := X.A
  N := N'
  s₀ := s
  H₀ := H
  env := compEnvC scope (clC X scope C) C X.env
  outer := X.stack
  stack := X.stack
  ex := fp
  fn := fun x => scope.names.lookup x == some .cell
  calm := X.calm
  pn := []
  xe := fun _ _ => False
theorem relabel_backC {env : Env} {x : Str} : ∀ {names : List (Str × NameKind)},
    ((names.map fun (n, k) => if (k == NameKind.free && env.scope.kind == .function && env.kindOf n == some .cell) then (n, NameKind.cell) else (n, k)).lookup x = some .cell ∨
    (names.map fun (n, k) => if (k == NameKind.free && env.scope.kind == .function && env.kindOf n == some .cell) then (n, NameKind.cell) else (n, k)).lookup x = some .free) → (x, NameKind.free) ∈ names ∨ (x, NameKind.cell) ∈ names
  | [], h => by simp at h
  | (n, k) :: r, h => by
    have ih := @relabel_backC env x r
    rw [List.map_cons] at h
    by_cases hc : (k == NameKind.free && env.scope.kind == .function && env.kindOf n == some .cell) = true
    · simp only [hc, if_true, List.lookup_cons] at h
      have hk : k = .free := by
        have := hc
        simp only [Bool.and_eq_true, beq_iff_eq] at this
        exact this.1.1
      cases hx : x == n with
      | true => rw [eq_of_beq hx, hk]; exact .inl List.mem_cons_self
      | false => rw [hx] at h; exact (ih h).imp (List.mem_cons_of_mem _) (List.mem_cons_of_mem _)
    · simp only [hc, Bool.false_eq_true, if_false, List.lookup_cons] at h
      cases hx : x == n with
      | true =>
        rw [hx] at h
        rcases h with h | h
        · have : k = .cell := by simpa using h
          rw [eq_of_beq hx, this]; exact .inr List.mem_cons_self
        · have : k = .free := by simpa using h
          rw [eq_of_beq hx, this]; exact .inl List.mem_cons_self
      | false => rw [hx] at h; exact (ih h).imp (List.mem_cons_of_mem _) (List.mem_cons_of_mem _)
section
variable {X : Cx} {pins : List (Addr × Obj)} {σ : St} {H : Hp} {s : Shared} {N' : List Str} {mp : List (Option Nat)} {scope : Scope} {C D : Addr} {fp : List Addr}
theorem clOf_backC (ok : CompOkC X N' mp scope) (I : Inv X pins σ H s) {x : Str} {c : Addr} (h : (x, c) ∈ clOf X.env.cells scope.names []) : X.env.cells.lookup x = some c ∧ (x, NameKind.free) ∈ scope.names := by
  rcases clOf_mem h with q | ⟨q1, q2⟩
  · exact absurd q (by simp)
  · obtain ⟨c', hc'⟩ := I.ok.has x (ok.free _ q1 rfl)
    have q2' : c = (X.env.cells.lookup x).getD 0 := q2
    rw [hc'] at q2' ⊢
    exact ⟨by rw [q2']; rfl, q1⟩
theorem clC_back (ok : CompOkC X N' mp scope) (I : Inv X pins σ H s) {x : Str} {c : Addr} (h : (clC X scope C).lookup x = some c) : (X.env.cells.lookup x = some c ∧ (x, NameKind.free) ∈ scope.names) ∨ (C + 1 ≤ c ∧ (x, NameKind.cell) ∈ scope.names) := by
  rcases cellsFrom_mem scope.names (C + 1) _ (lookup_mem h) with z | ⟨z1, z2⟩
  · exact .inl (clOf_backC ok I z)
  · exact .inr ⟨z2, z1⟩
theorem clC_ne (ok : CompOkC X N' mp scope) (I : Inv X pins σ H s) {b : Addr} (f : FpOk X pins H b) (hb : b < s.heap.objs.size) (hC : s.heap.objs.size ≤ C) {x : Str} {c : Addr} (h : (clC X scope C).lookup x = some c) : c ≠ b := by
  rcases clC_back ok I h with ⟨h', _⟩ | ⟨h', _⟩
  · exact f.2.2.2.2.1 x c h'
  · exact Nat.ne_of_gt (Nat.lt_of_lt_of_le (Nat.lt_of_lt_of_le hb hC) (Nat.le_of_succ_le h'))
theorem clC_free (ok : CompOkC X N' mp scope) {x : Str} (h : (x, NameKind.free) ∈ scope.names) : (clC X scope C).lookup x = (clOf X.env.cells scope.names []).lookup x := by
  refine cellsFrom_skip _ _ _ fun z => ?_
  have a := ok.uniq _ z
  have b := ok.uniq _ h
  rw [a] at b
  cases b
theorem clC_inj (ok : CompOkC X N' mp scope) (I : Inv X pins σ H s) (hC : s.heap.objs.size ≤ C) {x y : Str} {c : Addr} (h1 : (clC X scope C).lookup x = some c) (h2 : (clC X scope C).lookup y = some c) : x = y := by
  have small : ∀ {z : Str}, X.env.cells.lookup z = some c → c < s.heap.objs.size := fun hz => by
    obtain ⟨v, oc, ho, _⟩ := I.cell _ c hz
    exact Heap.lt_size ho
  rcases clC_back ok I h1 with ⟨a, _⟩ | ⟨a, _⟩ <;> rcases clC_back ok I h2 with ⟨b, _⟩ | ⟨b, _⟩
  · exact I.ok.inj x y c a b
  · exact absurd (Nat.lt_of_lt_of_le (small a) (Nat.le_trans hC (Nat.le_of_succ_le b))) (Nat.lt_irrefl _)
  · exact absurd (Nat.lt_of_lt_of_le (small b) (Nat.le_trans hC (Nat.le_of_succ_le a))) (Nat.lt_irrefl _)
  · refine cellsFrom_inj (n0 := C + 1) scope.names (C + 1) (clOf X.env.cells scope.names []) (Nat.le_refl _) (fun p hp => ?_) (fun p hp q hq h0 e => ?_) (x, c) (lookup_mem h1) (y, c) (lookup_mem h2) a rfl
    · obtain ⟨v, oc, ho, _⟩ := I.cell p.1 p.2 (clOf_backC ok I hp).1
      exact Nat.lt_succ_of_le (Nat.le_of_lt (Nat.lt_of_lt_of_le (Heap.lt_size ho) hC))
    · obtain ⟨v, oc, ho, _⟩ := I.cell p.1 p.2 (clOf_backC ok I hp).1
      exact absurd (Nat.lt_of_lt_of_le (Heap.lt_size ho) (Nat.le_trans hC (Nat.le_of_succ_le h0))) (Nat.lt_irrefl _)
theorem compCxC_ok (ok : CompOkC X N' mp scope) (I : Inv X pins σ H s) (hf : ∀ b ∈ fp, FpOk X pins H b) (hlt : ∀ b ∈ fp, b < s.heap.objs.size) (hC : s.heap.objs.size ≤ C) : (compCxC X N' scope C s H fp).Ok where
  mod := I.ok.mod
  kind := ok.kind
  glob := I.ok.glob
  blt := I.ok.blt
  above := hC
  inj := fun x y c h1 h2 => clC_inj ok I hC h1 h2
  has := fun x hx => by
    rcases relabel_backC hx with z | z
    · obtain ⟨c, hc⟩ := mem_lookup (clOf_has (cells := X.env.cells) (cs := []) z)
      exact ⟨c, by show (clC X scope C).lookup x = some c; rw [clC_free ok z]; exact hc⟩
    · exact Option.isSome_iff_exists.mp (PySem.W.cellsFrom_some scope.names (C + 1) _ (.inl (ok.uniq _ z)))
  cab := fun x c h h2 => by
    have hx : scope.names.lookup x = some .cell := eq_of_beq h
    rcases clC_back ok I h2 with ⟨_, z⟩ | ⟨z, _⟩
    · have := ok.uniq _ z
      rw [hx] at this
      cases this
    · exact Nat.le_trans hC (Nat.le_of_succ_le z)
  hd := I.ok.hd
  frames := I.ok.frames
  stk := .inl rfl
  exf := fun b hb => ⟨Nat.ne_of_lt (Nat.lt_of_lt_of_le (hlt b hb) hC), fun x c h => clC_ne ok I (hf b hb) (hlt b hb) hC h⟩
  bs := I.bs
  bsz := Nat.le_trans I.ok.bsz I.sz
  noex := fun b o e hb => by
    rcases (hf b hb).2.2.2.1 with z | z
    · exact I.ok.noex b o e z
    · exact absurd (Nat.lt_of_lt_of_le (Heap.lt_size e) (Nat.le_trans I.ok.bsz z)) (Nat.lt_irrefl _)
  exfs := fun b hb hfs => by
    rcases List.mem_cons.mp (I.stkSub b hfs) with e | e
    · exact (hf b hb).2.1 e
    · exact (hf b hb).2.2.1 e
  funs := I.stack
  frf := I.stkFree
theorem comp_startC (ok : CompOkC X N' mp scope) (I : Inv X pins σ H s) (hf : ∀ b ∈ fp, FpOk X pins H b) (hlt : ∀ b ∈ fp, b < s.heap.objs.size) (hC : s.heap.objs.size ≤ C) (hD : s.heap.objs.size ≤ D) (hDC : D ≠ C)
    {h₁ : Heap} {tk : Nat} {m₀ : Str → Option Value} {od : Obj} (hns : h₁.Ns C m₀) (old : ∀ b o, s.heap.get? b = some o → h₁.get? b = some o)
    (new : ∀ x c, (x, c) ∈ cellsFrom (C + 1) scope.names (clOf X.env.cells scope.names []) → (x, c) ∈ clOf X.env.cells scope.names [] ∨ h₁.IsCell c none) (hd : h₁.get? D = some od) (hod : ∀ v, od.data ≠ .cell v) :
    Inv (compCxC X N' scope C s H fp) [(D, od)] (compSt mp σ) H { s with heap := h₁, toks := tk } := by
  refine ⟨compCxC_ok ok I hf hlt hC, rfl, I.bare, Un.kept old, ⟨m₀, hns, fun i x v e1 e2 e3 => ?_⟩, fun x c h => ?_, I.hok.fresh hC, fun x c h => ?_, fun p hp => ?_, I.hok.kept old, ?_⟩
  · have e2' : ((mp[i]?).map fun o => o.bind fun j => (σ[j]?).join) = some (some v) := by rw [← List.getElem?_map]; exact e2
    cases hm : mp[i]? with
    | none => rw [hm] at e2'; cases e2'
    | some o =>
      rw [hm] at e2'
      cases o with
      | none => cases e2'
      | some j =>
        have e2'' : (σ[j]?).join = some v := Option.some.inj e2'
        have hσ : σ[j]? = some (some v) := by
          cases q : σ[j]? with
          | none => rw [q] at e2''; cases e2''
          | some z => rw [q] at e2''; exact congrArg some e2''
        obtain ⟨hN, hx⟩ := ok.vars i j x e1 hm
        have hmem : (x, NameKind.free) ∈ scope.names := lookup_mem hx
        have hk := ok.free _ hmem rfl
        obtain ⟨m, hn, hl⟩ := I.loc
        obtain ⟨u, r, l⟩ := hl j x v hN hσ (.inr hk)
        refine ⟨u, r, .inr ⟨relabel_free hx, ?_⟩⟩
        obtain ⟨c, hc⟩ := mem_lookup (clOf_has (cells := X.env.cells) (cs := []) hmem)
        have hc' := (clOf_backC ok I (lookup_mem hc)).1
        rcases l with ⟨hloc, _⟩ | ⟨_, c', e', z⟩
        · rcases hk with hk | hk
          · rw [hloc] at hk; cases hk
          · rw [hloc] at hk; cases hk
        · rw [hc'] at e'
          cases e'
          obtain ⟨oc, ho, hdc⟩ := z
          exact ⟨c, by show (clC X scope C).lookup x = some c; rw [clC_free ok hmem]; exact hc, oc, old _ _ ho, hdc⟩
  · rcases new x c (lookup_mem h) with z | z
    · obtain ⟨v, oc, ho, hdc⟩ := I.cell x c (clOf_backC ok I z).1
      exact ⟨v, oc, old _ _ ho, hdc⟩
    · exact ⟨none, z⟩
  · rcases clC_back ok I h with ⟨h', _⟩ | ⟨h', _⟩
    · exact I.freeC x c h'
    · exact I.hok.fresh (Nat.le_trans hC (Nat.le_of_succ_le h'))
  · have e : p = (D, od) := by
      have hp' : p ∈ ([] : List (Addr × Obj)) ++ [(D, od)] := hp
      simpa using hp'
    subst e
    exact ⟨hd, I.hok.fresh hD, hDC, new_nofs I hD, hod⟩
  · show (compSt mp σ).length = N'.length
    unfold compSt
    rw [List.length_map]
    exact ok.len
end

section
variable {X : Cx} {elt target iter : Expr} {ifs : List Expr} {scope : Scope} {pos : Pos} {N' : List Str} {mp : List (Option Nat)} {wi : TI} {g : TG} {tt : TT} {te : TE}
theorem comp_blockC {pins : List (Addr × Obj)} {σ : St} {H2 : Hp} {s2 : Shared} {it : Addr} {fp : List Addr} {tn : Nat → Heap → Prop} {J : It} {W : Nat → Nat → St → Hp → List V → Prop} {m0 : Nat} {Fin : List V → Hp → Prop}
    {RR : Value → Addr → Result → Shared → Prop} {E : Value → Shared → Prop}
    (ok : CompOkC X N' mp scope) (hc : X.calm = true) (hg : ∀ C s H fp, PG (compCxC X N' scope C s H fp) target g) (ht : ∀ C s H fp, PTs (compCxC X N' scope C s H fp) ifs tt) (he : ∀ C s H fp, PE (compCxC X N' scope C s H fp) elt te)
    (I2 : Inv X pins σ H2 s2) (T : Turn X.prog X.w X.K target J fp it tn) (st2 : tn 0 s2.heap) (f2 : ∀ b ∈ fp, FpOk X pins H2 b) (w0 : W 0 m0 (compSt mp σ) H2 []) (turn : CompW J g tt te Fin W)
    (hRR : ∀ (D C : Addr) (H' : Hp) (s' : Shared) (acc : List V), Inv X pins σ (upd H' D (.lst acc)) s' → H' D = none → H' C = none → D ≠ C → s2.heap.objs.size ≤ C → (∃ m, s'.heap.Ns C m) → Fin acc H' → RR (.ref D) C (.ok .next) s') :
    wpAny (model X.prog X.w) X.A (newList []) (fun acc s₃ => wpAny (model X.prog X.w) X.A (newFunctionEnv scope X.env.globals (clOf X.env.cells scope.names []) [] X.env.qual none .none (some X.env)) (fun cenv s₄ =>
      codeAny (model X.prog X.w) X.A (.compStart (.ListComp elt [⟨target, iter, ifs, 0⟩] scope pos) 0 (.ref it) acc { cenv with scope := relabel scope X.env }) (RR acc cenv.locals) s₄) E s₃) E s2 := by
  have hlt : ∀ b ∈ fp, b < s2.heap.objs.size := fun b hb => by
    obtain ⟨o, e, _⟩ := T.obj 0 _ st2 b hb
    exact Heap.lt_size e
  refine wpAny_newObj_type (newEnv_comp (fun h₁ hns₁ keep₁ new₁ => ?_))
  dsimp only at hns₁ keep₁ new₁ ⊢
  generalize hG : s2.heap.push { cls := .type "list", dict := none, data := .seq ([] : List Value).toArray } = G2 at hns₁ keep₁ new₁ ⊢
  have hCs : G2.objs.size = s2.heap.objs.size + 1 := by rw [← hG, Heap.size_push]
  have hDC : s2.heap.objs.size ≠ G2.objs.size := by rw [hCs]; exact Nat.ne_of_lt (Nat.lt_succ_self _)
  have hCle : s2.heap.objs.size ≤ G2.objs.size := by rw [hCs]; exact Nat.le_succ _
  have below : ∀ b, b < s2.heap.objs.size → b ≠ G2.objs.size := fun b hb => by rw [hCs]; exact Nat.ne_of_lt (Nat.lt_succ_of_lt hb)
  have old : ∀ b o, s2.heap.get? b = some o → h₁.get? b = some o := fun b o e => keep₁ b o (hG ▸ Heap.get?_push_of_some _ e)
  have hacc : h₁.get? s2.heap.objs.size = some { cls := .type "list", data := .seq ([] : List Value).toArray 0 } := keep₁ _ _ (hG ▸ Heap.get?_push_size _ rfl)
  have hDf : s2.heap.objs.size ∉ fp := fun hm => Nat.lt_irrefl _ (hlt _ hm)
  have hCf : G2.objs.size ∉ fp := fun hm => by have h1 := hlt _ hm; rw [hCs] at h1; exact absurd h1 (Nat.not_lt.mpr (Nat.le_succ _))
  have st1 : tn 0 h₁ := T.keep 0 _ _ st2 fun b _ o e => old b o e
  generalize hD : s2.heap.objs.size = D at hDC hDf hacc hlt below
  have hCD : D < G2.objs.size := by rw [hCs, hD]; exact Nat.lt_succ_self _
  generalize hCC : G2.objs.size = C at hDC hCf hCle below hns₁ new₁ hCD
  have cells_ne : ∀ (a : Addr), s2.heap.objs.size ≤ a → (¬ C < a) → ∀ x c, (compCxC X N' scope C s2 H2 fp).env.cells.lookup x = some c → c ≠ a := fun a ha haC x c h z => by
    rcases clC_back ok I2 h with ⟨h', _⟩ | ⟨h', _⟩
    · obtain ⟨v, oc, ho, _⟩ := I2.cell x c h'
      exact absurd (Nat.lt_of_lt_of_le (Heap.lt_size ho) (z ▸ ha)) (Nat.lt_irrefl _)
    · exact haC (z ▸ h')
  have loop : ∀ s₃ : Shared, s₃ = { s2 with heap := h₁, toks := s2.toks + ([] : List (Str × Value)).length } →
      codeAny (model X.prog X.w) X.A (.compLoop (.ListComp elt [⟨target, iter, ifs, 0⟩] scope pos) 0 (.ref it) (.ref D) (compEnvC scope (clC X scope C) C X.env)) (RR (.ref D) C) s₃ := by
    rintro s₃ rfl
    have I0 : Inv (compCxC X N' scope C s2 H2 fp) [(D, { cls := .type "list", data := .seq ([] : List Value).toArray 0 })] (compSt mp σ) H2 { s2 with heap := h₁, toks := s2.toks + ([] : List (Str × Value)).length } :=
      comp_startC ok I2 f2 (by rw [hD]; exact hlt) (by rw [hD] at hCle ⊢; exact hCle) (by rw [hD]; exact Nat.le_refl _) hDC hns₁ old (by subst hCC; exact new₁) hacc (fun v z => by cases z)
    refine compLoop_any (fun n s' => ∃ i σ' H' acc, ∃ (its : List Value) (k : Nat), Inv (compCxC X N' scope C s2 H2 fp) [(D, { cls := .type "list", data := .seq its.toArray k })] σ' H' s' ∧ Vals acc its ∧ acc.length ≤ sizeLine ∧ tn i s'.heap ∧
      (∀ b ∈ fp, H' b = none) ∧ W i n σ' H' acc) ?_ m0 ⟨0, compSt mp σ, H2, [], [], 0, I0, .nil, Nat.zero_le _, st1, fun b hb => (f2 b hb).1, w0⟩
    rintro n s3 ⟨i, σ3, H3, acc, its, k, I3, rv, hz, st3, fr3, w3⟩
    have stat : ∀ {H' : Hp} {pn : List (Addr × Obj)}, (∀ b ∈ fp, H' b = none) → (∀ p ∈ pn, p.1 = D) → ∀ b ∈ fp, FpOk (compCxC X N' scope C s2 H2 fp) pn H' b := fun {H' pn} hn hp b hb =>
      ⟨hn b hb, below b (hlt b hb), fun z => by
          rcases List.mem_cons.mp (I2.stkSub b z) with e | e
          · exact (f2 b hb).2.1 e
          · exact (f2 b hb).2.2.1 e, .inl hb, fun x c h => clC_ne ok I2 (f2 b hb) (by rw [hD]; exact hlt b hb) (by rw [hD] at hCle ⊢; exact hCle) h, fun p hp' z => by
          have hp'' : p ∈ ([] : List (Addr × Obj)) ++ pn := hp'
          rw [List.nil_append] at hp''
          exact hDf (by rw [← hp p hp'', z]; exact hb)⟩
    have oneD : ∀ {od : Obj}, ∀ p ∈ [(D, od)], p.1 = D := fun {od} p hp => by
      have e : p = (D, od) := by simpa using hp
      rw [e]
    rcases turn i n σ3 H3 acc w3 with ⟨stop, qn⟩ | ⟨go, hz', N, hN, step⟩
    · refine thn (T.done (compCxC X N' scope C s2 H2 fp) rfl rfl rfl hc i _ s3 σ3 H3 (fun _ _ => False) I3 (stat fr3 oneD) st3 stop) fun r s4 ⟨hr, I4⟩ => ?_
      subst hr
      have pD := I4.pin (D, _) (List.mem_append_right _ List.mem_cons_self)
      have I5 : Inv X pins σ H3 s4 := I2.call' (ch := fp) I4.os I4.base I4.hok I4.bare fun b hb => ⟨(f2 b hb).2.2.2.1, (f2 b hb).2.1, (f2 b hb).2.2.2.2.1, (f2 b hb).2.2.2.2.2⟩
      have fD : FpOk X pins H3 D := I2.fpOk (by rw [hD]; exact Nat.le_refl _) pD.2.1
      have I6 : Inv X pins σ (upd H3 D (.lst acc)) s4 := Inv_track I5 fD ⟨hz, its, k, rv, pD.1⟩
      obtain ⟨m4, hn4, _⟩ := I4.loc
      exact hRR D C H3 s4 acc I6 pD.2.1 I4.free hDC (by rw [hD] at hCle ⊢; exact hCle) ⟨m4, hn4⟩ qn
    · refine thn (T.item (compCxC X N' scope C s2 H2 fp) rfl rfl rfl hc i _ s3 σ3 H3 (fun _ _ => False) I3 (stat fr3 oneD) st3 go) fun r s4 ⟨u, hr, h4⟩ => ?_
      subst hr
      refine thn h4 fun _ s5 ⟨x, H5, I5, r5, y5, st5, fr5⟩ => ?_
      have I5' := I5.pinned (stat fr5 oneD) (T.obj _ _ st5)
      have fin : ∀ {σ7 : St} {H7 : Hp} {s7 : Shared} {its7 : List Value} {k7 : Nat}, Inv (compCxC X N' scope C s2 H2 fp) ([(D, { cls := .type "list", data := .seq its7.toArray k7 })] ++ pinsAt fp s5.heap) σ7 H7 s7 →
          Inv (compCxC X N' scope C s2 H2 fp) [(D, { cls := .type "list", data := .seq its7.toArray k7 })] σ7 H7 s7 ∧ tn (i + 1) s7.heap ∧ ∀ b ∈ fp, H7 b = none := fun {σ7 H7 s7 its7 k7} I7 => by
        refine ⟨I7.unpinned, T.keep _ _ _ st5 fun b hb o e => (I7.pin (b, o) (List.mem_append_right _ (List.mem_append_right _ (mem_pinsAt hb e)))).1, fun b hb => ?_⟩
        obtain ⟨o, e, d⟩ := T.obj _ _ st5 b hb
        exact (I7.pin (b, o) (List.mem_append_right _ (List.mem_append_right _ (mem_pinsAt hb e)))).2.1
      refine thn (hg C s2 H2 fp _ s5 σ3 H5 x u _ I5' r5 (step x H5 y5)) fun _ s6 ⟨σ6, H6, I6, q6⟩ => ?_
      refine thn (ht C s2 H2 fp _ s6 σ6 H6 _ I6 q6) fun b s7 ⟨H7, I7, q7⟩ => ?_
      cases b with
      | false =>
        rw [if_neg (by simp)] at q7 ⊢
        obtain ⟨m', hm, w7⟩ := hN _ _ _ q7
        obtain ⟨a1, a2, a3⟩ := fin I7
        exact ⟨m', hm, i + 1, σ6, H7, acc, its, k, a1, rv, hz, a2, a3, w7⟩
      | true =>
        rw [if_pos rfl] at q7 ⊢
        refine thn (he C s2 H2 fp _ s7 σ6 H7 _ I7 q7) fun y s8 ⟨v, H8, I8, r8, q8⟩ => ?_
        obtain ⟨m', hm, w8⟩ := hN _ _ _ q8
        obtain ⟨a1, a2, a3⟩ := fin I8
        have pD := I8.pin (D, _) (List.mem_append_right _ (List.mem_append_left _ List.mem_cons_self))
        have hl := rv.length
        refine call_meets F.slot_list_append ⟨_, pD.1, rfl⟩ F.entry_list_append (F.args_list_append_2 _ _) (PySem.list_append D its.toArray k y (by rw [List.size_toArray]; omega)) ⟨pD.1, ?_⟩
        have up : ∀ b o, b ≠ D → s8.heap.get? b = some o → (s8.heap.update D (Obj.mapSeq (·.push y))).get? b = some o := fun b o hb e => (Heap.get?_update_other _ _ (Ne.symm hb)).trans e
        have I9 : Inv (compCxC X N' scope C s2 H2 fp) [] σ6 H8 { s8 with heap := s8.heap.update D (Obj.mapSeq (·.push y)), toks := s8.toks } :=
          (I8.pins_of (pins' := []) (fun p hp => absurd hp (by simp))).turned (fun b o hb e => up b o hb e) pD.2.1 hDC (.inr (by show s2.heap.objs.size ≤ D; rw [hD]; exact Nat.le_refl _)) (cells_ne D (by rw [hD]; exact Nat.le_refl _) (Nat.not_lt.mpr (Nat.le_of_lt hCD))) (fun p hp => absurd hp (by
            have : p ∈ ([] : List (Addr × Obj)) ++ [] → False := by simp
            exact this))
        have ey : its.toArray.push y = (its ++ [y]).toArray := by simp
        have qD : ∃ k', (s8.heap.update D (Obj.mapSeq (·.push y))).get? D = some { cls := .type "list", data := .seq (its ++ [y]).toArray k' } := ⟨_, by rw [← ey]; exact PySem.IsL.update pD.1 (·.push y)⟩
        obtain ⟨k', qD⟩ := qD
        refine ⟨m', hm, i + 1, σ6, H8, acc ++ [v], its ++ [y], k', I9.pins_of (pins' := [(D, { cls := .type "list", data := .seq (its ++ [y]).toArray k' })]) (fun p hp => ?_), rv.append (.cons r8 .nil), by rw [List.length_append, List.length_singleton]; omega, ?_, a3, w8⟩
        · have e : p = (D, { cls := .type "list", data := .seq (its ++ [y]).toArray k' }) := by simpa using hp
          subst e
          exact ⟨qD, pD.2.1, pD.2.2.1, pD.2.2.2.1, fun v z => by cases z⟩
        · exact T.keep _ _ _ a2 fun b hb o e => up b o (fun z => hDf (z ▸ hb)) e
  exact codeAny_compStart_list (loop _ rfl) (T.self X.A 0 _ _ _ st1 (loop _ rfl))

/-- name = [..]: the store stands ahead of the block's end -/
theorem ps_setCompC {i : Nat} {x : Str} {pos' spos : Pos} (hN : X.N.Nodup) (hi' : X.N[i]? = some x) (hx : Loc X.env.scope x) (ok : CompOkC X N' mp scope) (hc : X.calm = true) (hi : PI X target iter wi)
    (hg : ∀ C s H fp, PG (compCxC X N' scope C s H fp) target g) (ht : ∀ C s H fp, PTs (compCxC X N' scope C s H fp) ifs tt) (he : ∀ C s H fp, PE (compCxC X N' scope C s H fp) elt te)
    (hsw : swapsWith (.ListComp elt [⟨target, iter, ifs, 0⟩] scope pos) (some (.Name x pos')) spos.line X.env = pure true := by rfl)
    (hf : X.fn x = true ∨ X.env.scope.names.lookup x = some .local := by first | exact .inl rfl | exact .inr rfl | assumption) (hs : ∀ x, foldedSetIterable iter X.env x = pure x := by intro _; rfl) :
    PS X (.Assign [.Name x pos'] (.ListComp elt [⟨target, iter, ifs, 0⟩] scope pos) spos) (tAsg (tComp mp wi g tt te) (gName i)) := by
  intro pins s σ H D I hw
  rw [exec_Assign_Name_used _ _ _ _ hsw]
  refine wpAny_bind (wpAny_standAt (wpAny_bind ?_))
  show wpAny _ X.A (do let _ ← comprehension (.ListComp elt [⟨target, iter, ifs, 0⟩] scope pos) scope X.env _ (newList []) false (eval iter X.env) (some (assign (.Name x pos') X.env))) _ _ s
  refine wpAny_bind (wpAny_mono (wpAny_comprehension_free (use := some (assign (.Name x pos') X.env)) (Q := fun _ s' => SP X pins D .next s') rfl hs (closureFor_eq fun y hy hk => I.ok.has y.1 (ok.free y hy hk)) ok.kind ok.names ?_)
    (fun _ s' hq => wpAny_pure (wpAny_pure hq)) fun _ _ e => e)
  refine thn (hi pins s σ H _ I hw) fun v s1 h1 => thn h1 fun itv s2 h2 => ?_
  obtain ⟨it, fp, tn, J, H2, e, I2, T, st2, f2, W, ⟨m0, w0⟩, turn⟩ := h2
  subst e
  refine comp_blockC (RR := fun acc C => compPost (model X.prog X.w) X.A X.xe (some (assign (.Name x pos') X.env)) (fun _ s' => SP X pins D .next s') acc C) ok hc hg ht he I2 T st2 f2 w0 turn fun L C H' s' acc I' hD hC hDC hCl hns q => ?_
  obtain ⟨m, oC, es, ep, hoC, hdC, rC⟩ := hns
  have fC : FpOk X pins (upd H' L (.lst acc)) C := I2.fpOk hCl (by rw [upd_ne (Ne.symm hDC)]; exact hC)
  obtain ⟨f0, f1, f2', f3, f4, f5⟩ := fC
  have I3 : Inv X (pins ++ [(C, oC)]) σ (upd H' L (.lst acc)) s' := I'.pins_of fun p hp => (List.mem_append.mp hp).elim (fun z => I'.pin p (List.mem_append_right _ z)) fun z => by
    have e : p = (C, oC) := by simpa using z
    subst e
    exact ⟨hoC, f0, f1, f2', fun v z => by rw [hdC] at z; cases z⟩
  show wpAny _ X.A (assign (.Name x pos') X.env (.ref L)) _ _ _
  refine wpAny_assign_Name (store_ok (v := .ref L) I3 hN hi' hx rfl (fun s4 I4 => ?_) hf)
  have pC := I4.pin (C, oC) (List.mem_append_right _ (List.mem_append_right _ List.mem_cons_self))
  refine ⟨m, ⟨oC, es, ep, pC.1, hdC, rC⟩, fun h' sb => ?_⟩
  have I5 : Inv X pins (σ.set i (some (.ref L))) (upd H' L (.lst acc)) s4 := I4.unpinned
  exact ⟨_, _, I5.turned (t' := s4.toks) (fun b o hb e => (sb.2 b hb).trans e) pC.2.1 f1 f3 f4 f5, q L hD⟩
end
end Oh

namespace Oh
/-! ### the adjoint -/
section
variable {α β : Type}
theorem xp_map (g : β → α) (a : α → Int) : ∀ (L : List β) (w : List α → Int), xp (fun j => a (g j)) (fun L' => w (L'.map g)) L = xp a w (L.map g)
  | [], w => rfl
  | c :: L, w => by
    simp only [xp, List.map_cons]
    rw [← xp_map g a L (fun S' => w (g c :: S'))]
theorem dt_map (g : β → α) : ∀ (R : List (α → Int)) (L : List β), dt (R.map fun a j => a (g j)) L = dt R (L.map g)
  | [], [] => rfl
  | [], _ :: _ => rfl
  | a :: R, L => by
    show xp (fun j => a (g j)) (dt (R.map fun a j => a (g j))) L = xp a (dt R) (L.map g)
    have e : dt (R.map fun a j => a (g j)) = fun L' => dt R (L'.map g) := by funext L'; exact dt_map g R L'
    rw [e, xp_map]
theorem xc_sum (j : α) (d : α → Int) : ∀ (R : List (α → Int)) (w : List (α → Int) → Int), xc j w R = ((List.range R.length).map fun k => sg k * ((R.getD k d) j * w (R.eraseIdx k))).sum
  | [], w => rfl
  | a :: R, w => by
    simp only [xc]
    rw [xc_sum j d R (fun R' => w (a :: R')), List.length_cons, List.range_succ_eq_map, List.map_cons, List.sum_cons, List.map_map]
    have e : ((List.range R.length).map ((fun k => sg k * (((a :: R).getD k d) j * w ((a :: R).eraseIdx k))) ∘ Nat.succ)) = ((List.range R.length).map fun k => sg k * ((R.getD k d) j * w (a :: R.eraseIdx k))).map fun x => (-1) * x := by
      rw [List.map_map]
      refine List.map_congr_left fun k _ => ?_
      show - sg k * _ = (-1) * (sg k * _)
      have : (a :: R).getD k.succ d = R.getD k d := by simp [List.getD_eq_getElem?_getD]
      rw [this]
      show - sg k * ((R.getD k d) j * w (a :: R.eraseIdx k)) = _
      grind
    rw [e, sum_mul_left]
    show _ = 1 * (a j * w R) + _
    omega
theorem dt_front {R : List (α → Int)} {k : Nat} {a : α → Int} (h : R[k]? = some a) (S : List α) : dt R S = sg k * dt (a :: R.eraseIdx k) S := by
  obtain ⟨hk, e⟩ := List.getElem?_eq_some_iff.mp h
  have h1 : R = R.take k ++ a :: R.drop (k + 1) := by rw [← e, List.getElem_cons_drop, List.take_append_drop]
  have h2 : R.eraseIdx k = R.take k ++ R.drop (k + 1) := List.eraseIdx_eq_take_drop_succ ..
  have h3 := dt_lift a (R.drop (k + 1)) (R.take k) S
  rw [List.length_take, Nat.min_eq_left (by omega), ← h1, ← h2] at h3
  exact h3
theorem dc_front {S : List α} {k : Nat} {c : α} (h : S[k]? = some c) (R : List (α → Int)) : dt R S = sg k * dt R (c :: S.eraseIdx k) := by
  obtain ⟨hk, e⟩ := List.getElem?_eq_some_iff.mp h
  have h1 : S = S.take k ++ c :: S.drop (k + 1) := by rw [← e, List.getElem_cons_drop, List.take_append_drop]
  have h2 : S.eraseIdx k = S.take k ++ S.drop (k + 1) := List.eraseIdx_eq_take_drop_succ ..
  have h3 := dc_lift c (S.drop (k + 1)) (S.take k) R
  rw [List.length_take, Nat.min_eq_left (by omega), ← h1, ← h2] at h3
  exact h3
theorem mem_erase_ne {l : List α} {i k : Nat} {a : α} (h : l[i]? = some a) (hne : i ≠ k) : a ∈ l.eraseIdx k := by
  rw [List.eraseIdx_eq_take_drop_succ]
  rcases Nat.lt_or_gt_of_ne hne with z | z
  · refine List.mem_append_left _ (List.mem_of_getElem? (i := i) ?_)
    rw [List.getElem?_take, if_pos z]; exact h
  · refine List.mem_append_right _ (List.mem_of_getElem? (i := i - (k + 1)) ?_)
    rw [List.getElem?_drop, show k + 1 + (i - (k + 1)) = i by omega]; exact h
/-- the cofactor: without row k and column i -/
def cof (R : List (α → Int)) (S : List α) (i k : Nat) : Int := sg (i + k) * dt (R.eraseIdx k) (S.eraseIdx i)
theorem adj_right (d : α) {R : List (α → Int)} {S : List α} (hl : R.length = S.length) {i j : Nat} {a : α → Int} (ha : R[i]? = some a) (hj : j < R.length) :
    ((List.range S.length).map fun k => a (S.getD k d) * cof R S k j).sum = if i = j then dt R S else 0 := by
  have e1 : ((List.range S.length).map fun k => a (S.getD k d) * cof R S k j) = ((List.range S.length).map fun k => sg k * (a (S.getD k d) * dt (R.eraseIdx j) (S.eraseIdx k))).map fun x => sg j * x := by
    rw [List.map_map]
    refine List.map_congr_left fun k _ => ?_
    show a (S.getD k d) * (sg (k + j) * dt (R.eraseIdx j) (S.eraseIdx k)) = sg j * (sg k * (a (S.getD k d) * dt (R.eraseIdx j) (S.eraseIdx k)))
    rw [sg_add]; grind
  rw [e1, sum_mul_left, ← xp_sum d a S (dt (R.eraseIdx j))]
  show sg j * dt (a :: R.eraseIdx j) S = _
  by_cases h : i = j
  · subst h
    rw [if_pos rfl, dt_front ha S]
  · rw [if_neg h, dt_kill (mem_erase_ne ha h) S]; omega
theorem adj_left (d : α → Int) {R : List (α → Int)} {S : List α} (hl : R.length = S.length) {i j : Nat} {c : α} (hc : S[j]? = some c) (hi : i < S.length) :
    ((List.range R.length).map fun k => cof R S i k * (R.getD k d) c).sum = if i = j then dt R S else 0 := by
  have e1 : ((List.range R.length).map fun k => cof R S i k * (R.getD k d) c) = ((List.range R.length).map fun k => sg k * ((R.getD k d) c * dt (R.eraseIdx k) (S.eraseIdx i))).map fun x => sg i * x := by
    rw [List.map_map]
    refine List.map_congr_left fun k _ => ?_
    show sg (i + k) * dt (R.eraseIdx k) (S.eraseIdx i) * (R.getD k d) c = sg i * (sg k * ((R.getD k d) c * dt (R.eraseIdx k) (S.eraseIdx i)))
    rw [sg_add]; grind
  rw [e1, sum_mul_left, ← xc_sum c d R (fun R' => dt R' (S.eraseIdx i)), ← dt_col]
  by_cases h : i = j
  · subst h
    rw [if_pos rfl, dc_front hc R]
  · rw [if_neg h, dc_kill (mem_erase_ne hc fun z => h z.symm) R]; omega
end
/-- a table as lists, by rows and columns -/
theorem dtl_form {R : List (Nat → Int)} {S : List Nat} (h : R.length = S.length) : dtl (R.map fun a => S.map a) = dt R S := by
  unfold dtl
  rw [List.length_map, h]
  have e1 : dt ((R.map fun a => S.map a).map fnOf') (List.range S.length) = dt (R.map fun a j => a (S.getD j 0)) (List.range S.length) := by
    refine dt_ext _ _ _ (by simp) fun i a b ha hb c hc => ?_
    have hc' := List.mem_range.mp hc
    rw [List.getElem?_map, List.getElem?_map] at ha
    rw [List.getElem?_map] at hb
    cases er : R[i]? with
    | none => rw [er] at ha; cases ha
    | some r =>
      rw [er] at ha hb
      cases ha
      cases hb
      show (S.map r).getD c 0 = r (S.getD c 0)
      rw [List.getD_eq_getElem?_getD, List.getElem?_map, List.getD_eq_getElem?_getD, List.getElem?_eq_getElem hc']
      rfl
  rw [e1, dt_map]
  congr 1
  refine List.ext_getElem? fun i => ?_
  rw [List.getElem?_map]
  by_cases hi : i < S.length
  · rw [List.getElem?_range hi, List.getElem?_eq_getElem hi]
    show some (S.getD i 0) = _
    rw [List.getD_eq_getElem?_getD, List.getElem?_eq_getElem hi]
    rfl
  · rw [List.getElem?_eq_none (by rw [List.length_range]; omega), List.getElem?_eq_none (by omega)]; rfl
def ajt (M : List (List Int)) : List (List Int) := (List.range M.length).map fun i => (List.range M.length).map fun k => cof (M.map fnOf') (List.range M.length) i k
theorem cof_big {R : List (Nat → Int)} {S : List Nat} {b i k : Nat} (h1 : 1 ≤ b) (hb : b ≤ 2 ^ 1000) (hR : R.length ≤ 8) (hS : S.length ≤ 8) (h : ∀ a ∈ R, ∀ c ∈ S, (a c).natAbs ≤ b) : (cof R S i k).natAbs ≤ 2 ^ 8024 := by
  unfold cof
  rw [Int.natAbs_mul]
  have e : (sg (i + k)).natAbs = 1 := by rw [sg_mod]; split <;> rfl
  rw [e, Nat.one_mul]
  have l1 : (R.eraseIdx k).length ≤ R.length := List.length_eraseIdx_le ..
  have l2 : (S.eraseIdx i).length ≤ S.length := List.length_eraseIdx_le ..
  exact dt_big h1 hb (by omega) (by omega) fun a ha c hc => h a (List.mem_of_mem_eraseIdx ha) c (List.mem_of_mem_eraseIdx hc)
end Oh

namespace Oh
open PySem PySem.Spec PyProof.Rows L2
theorem map_eraseIdx {α β : Type} (f : α → β) (l : List α) (k : Nat) : (l.map f).eraseIdx k = (l.eraseIdx k).map f := by
  rw [List.eraseIdx_eq_take_drop_succ, List.eraseIdx_eq_take_drop_succ, List.map_append, List.map_take, List.map_drop]
theorem minor_form {M : List (List Int)} {n : Nat} (hsq : ∀ m ∈ M, m.length = n) (r c : Nat) : (M.eraseIdx r).map (fun m => m.eraseIdx c) = ((M.map fnOf').eraseIdx r).map fun a => ((List.range n).eraseIdx c).map a := by
  have e := tab_fn hsq
  rw [← e, map_eraseIdx, List.map_map]
  rw [e]
  refine List.map_congr_left fun a _ => ?_
  exact map_eraseIdx a _ c
theorem len_erase1 {α : Type} {l : List α} {k : Nat} (h : k < l.length) : (l.eraseIdx k).length = l.length - 1 := List.length_eraseIdx_of_lt h
end Oh

namespace Oh
/-! ### a table whose rows outweigh: above nought -/
section
variable {α : Type}
theorem dt_redu {c : α} {top : α → Int} : ∀ (R l : List (α → Int)) (S : List α), top ∈ l → dt (l ++ R.map fun r j => top c * r j - r c * top j) S = pw (top c) R.length * dt (l ++ R) S
  | [], l, S, _ => by simp [pw]
  | r :: R, l, S, h => by
    have h1 : dt (l ++ (fun j => top c * r j - r c * top j) :: (R.map fun r j => top c * r j - r c * top j)) S = top c * dt (l ++ r :: (R.map fun r j => top c * r j - r c * top j)) S := by
      rw [dt_lift, dt_lift]
      have e : (fun j => top c * r j - r c * top j) = fun j => top c * r j + (- r c) * top j := by funext j; grind
      show _ * xp (fun j => top c * r j - r c * top j) (dt (l ++ R.map fun r j => top c * r j - r c * top j)) S = _ * (_ * xp r (dt (l ++ R.map fun r j => top c * r j - r c * top j)) S)
      rw [e, xp_linL]
      have z : xp top (dt (l ++ R.map fun r j => top c * r j - r c * top j)) S = 0 := dt_kill (List.mem_append_left _ h) S
      rw [z]
      grind
    have h2 := dt_redu (c := c) (top := top) R (l ++ [r]) S (List.mem_append_left _ h)
    rw [List.append_assoc, List.append_assoc] at h2
    show dt (l ++ (fun j => top c * r j - r c * top j) :: (R.map fun r j => top c * r j - r c * top j)) S = top c * pw (top c) R.length * dt (l ++ r :: R) S
    rw [h1]
    have h3 : dt (l ++ r :: (R.map fun r j => top c * r j - r c * top j)) S = pw (top c) R.length * dt (l ++ r :: R) S := h2
    rw [h3]
    grind
theorem dt_schur (c : α) (top : α → Int) (R : List (α → Int)) (S : List α) : pw (top c) R.length * dt (top :: R) (c :: S) = top c * dt (R.map fun r j => top c * r j - r c * top j) S := by
  have h := dt_redu (c := c) (top := top) R [top] (c :: S) List.mem_cons_self
  have h' : dt (top :: R.map fun r j => top c * r j - r c * top j) (c :: S) = pw (top c) R.length * dt (top :: R) (c :: S) := h
  rw [← h']
  show xp top (dt (R.map fun r j => top c * r j - r c * top j)) (c :: S) = _
  simp only [xp]
  have e : (fun S' => dt (R.map fun r j => top c * r j - r c * top j) (c :: S')) = fun _ => 0 := by
    funext S'
    refine dt_col0 (fun r hr => ?_) S'
    obtain ⟨r', _, rfl⟩ := List.mem_map.mp hr
    show top c * r' c - r' c * top c = 0
    grind
  rw [e, xp_zero]
  omega
theorem pw_pos {b : Int} (h : 0 < b) : ∀ n, 0 < pw b n
  | 0 => by simp [pw]
  | n + 1 => Int.mul_pos h (pw_pos h n)
theorem sum_nonpos {f : α → Int} : ∀ {l : List α}, (∀ x ∈ l, f x ≤ 0) → (l.map f).sum ≤ 0
  | [], _ => by simp
  | a :: l, h => by
    rw [List.map_cons, List.sum_cons]
    have := h a List.mem_cons_self
    have := sum_nonpos (f := f) (l := l) fun x hx => h x (List.mem_cons_of_mem _ hx)
    omega
theorem sum_split (f : α → Int) (U : α → Bool) : ∀ l : List α, (l.map f).sum = ((l.filter U).map f).sum + ((l.filter fun x => !U x).map f).sum
  | [] => rfl
  | a :: l => by
    have ih := sum_split f U l
    by_cases h : U a = true
    · rw [List.filter_cons_of_pos h, List.filter_cons_of_neg (by simp [h]), List.map_cons, List.map_cons, List.sum_cons, List.sum_cons, ih]; omega
    · rw [List.filter_cons_of_neg h, List.filter_cons_of_pos (by simp [h]), List.map_cons, List.map_cons, List.sum_cons, List.sum_cons, ih]; omega
theorem part_nn {S : List α} {A : α → α → Int} (hoff : ∀ i ∈ S, ∀ j ∈ S, i ≠ j → A i j ≤ 0) (hrow : ∀ i ∈ S, 0 ≤ (S.map (A i)).sum) {U : α → Bool} {i : α} (hi : i ∈ S) (hu : U i = true) : 0 ≤ ((S.filter U).map (A i)).sum := by
  have h := sum_split (A i) U S
  have h1 := hrow i hi
  have h2 : ((S.filter fun x => !U x).map (A i)).sum ≤ 0 := sum_nonpos fun x hx => by
    obtain ⟨a, b⟩ := List.mem_filter.mp hx
    exact hoff i hi x a fun z => by rw [← z, hu] at b; simp at b
  omega
theorem sum_lin {f g : α → Int} (p q : Int) : ∀ l : List α, (l.map fun j => p * f j - q * g j).sum = p * (l.map f).sum - q * (l.map g).sum
  | [] => by simp
  | a :: l => by rw [List.map_cons, List.sum_cons, sum_lin p q l, List.map_cons, List.sum_cons, List.map_cons, List.sum_cons]; grind
theorem aux1 {a x y z : Int} (h1 : a * x = y * z) (h4 : 0 ≤ a * (x + y)) (h5 : y * (a + z) ≤ 0) : y * (a + z) = 0 := by
  have : y * (a + z) = a * (x + y) := by grind
  omega
theorem aux2 {a x y : Int} (h : a * x = y * (-a)) : a * (y + x) = 0 := by grind
theorem aux3 {a s t x : Int} (h4 : 0 ≤ a * (x + s)) (h5 : x * (a + t) ≤ 0) : 0 ≤ a * s - x * t := by
  have : a * s - x * t = a * (x + s) - x * (a + t) := by grind
  omega
theorem kin_pos : ∀ (S : List α) (A : α → α → Int), S.Nodup → (∀ i ∈ S, ∀ j ∈ S, i ≠ j → A i j ≤ 0) → (∀ i ∈ S, 0 ≤ (S.map (A i)).sum) →
    (∀ U : α → Bool, (∃ i ∈ S, U i = true) → ∃ i ∈ S, U i = true ∧ ((S.filter U).map (A i)).sum ≠ 0) → 0 < dt (S.map A) S
  | [], A, _, _, _, _ => by show (0 : Int) < 1; decide
  | c :: S, A, hnd, hoff, hrow, hcon => by
    obtain ⟨hcS, hnd'⟩ := List.nodup_cons.mp hnd
    have hin : ∀ {i}, i ∈ S → i ∈ c :: S := fun h => List.mem_cons_of_mem _ h
    have hne : ∀ {i}, i ∈ S → i ≠ c := fun {i} h z => hcS (z ▸ h)
    -- the first place
    have ha0 : 0 ≤ A c c := by
      have h1 := hrow c List.mem_cons_self
      rw [List.map_cons, List.sum_cons] at h1
      have h2 : (S.map (A c)).sum ≤ 0 := sum_nonpos fun x hx => hoff c List.mem_cons_self x (hin hx) (Ne.symm (hne hx))
      omega
    have ha : 0 < A c c := by
      open Classical in
      obtain ⟨i, hi, hu, hs⟩ := hcon (fun x => decide (x = c)) ⟨c, List.mem_cons_self, by simp⟩
      have ei : i = c := by simpa using hu
      subst ei
      have ef : ((i :: S).filter fun x => decide (x = i)) = [i] := by
        rw [List.filter_cons_of_pos (by simp)]
        congr 1
        rw [List.filter_eq_nil_iff]
        intro x hx
        simpa using hne hx
      rw [ef] at hs
      simp at hs
      omega
    have ih := kin_pos S (fun i j => A c c * A i j - A i c * A c j) hnd' (fun i hi j hj hij => ?_) (fun i hi => ?_) (fun U hU => ?_)
    · have e := dt_schur c (A c) (S.map A) S
      rw [List.length_map, List.map_map] at e
      have e2 : dt (S.map ((fun (r : α → Int) j => A c c * r j - r c * A c j) ∘ A)) S = dt (S.map fun i j => A c c * A i j - A i c * A c j) S := rfl
      rw [e2] at e
      have p1 : 0 < A c c * dt (S.map fun i j => A c c * A i j - A i c * A c j) S := Int.mul_pos ha ih
      rw [← e] at p1
      exact Int.pos_of_mul_pos_right p1 (pw_pos ha _) |> id
    · have h1 := hoff i (hin hi) j (hin hj) hij
      have h2 := hoff i (hin hi) c List.mem_cons_self (hne hi)
      have h3 := hoff c List.mem_cons_self j (hin hj) (Ne.symm (hne hj))
      have h4 : 0 ≤ A i c * A c j := Int.mul_nonneg_of_nonpos_of_nonpos h2 h3
      have h5 : A c c * A i j ≤ 0 := Int.mul_nonpos_of_nonneg_of_nonpos ha0 h1
      show A c c * A i j - A i c * A c j ≤ 0
      omega
    · have h1 := hrow i (hin hi)
      have h2 := hrow c List.mem_cons_self
      rw [List.map_cons, List.sum_cons] at h1 h2
      have h3 := hoff i (hin hi) c List.mem_cons_self (hne hi)
      rw [sum_lin]
      have h4 : 0 ≤ A c c * (A i c + (S.map (A i)).sum) := Int.mul_nonneg ha0 h1
      exact aux3 h4 (Int.mul_nonpos_of_nonpos_of_nonneg h3 h2)
    · -- were all sums nought, so were those with c
      open Classical in
      have hpart : ∀ i ∈ S, U i = true → 0 ≤ ((S.filter U).map (A i)).sum + A i c := fun i hi hu => by
        have := part_nn hoff hrow (U := fun x => decide (x = c) || U x) (hin hi) (by simp [hu])
        have hf : ((c :: S).filter fun x => decide (x = c) || U x) = c :: S.filter U := by
          rw [List.filter_cons_of_pos (by simp)]
          congr 1
          refine List.filter_congr fun x hx => ?_
          simp [hne hx]
        rw [hf, List.map_cons, List.sum_cons] at this
        omega
      have hpc : 0 ≤ A c c + ((S.filter U).map (A c)).sum := by
        have := part_nn hoff hrow (U := fun x => decide (x = c) || U x) (List.mem_cons_self (a := c) (l := S)) (by simp)
        have hf : ((c :: S).filter fun x => decide (x = c) || U x) = c :: S.filter U := by
          rw [List.filter_cons_of_pos (by simp)]
          congr 1
          refine List.filter_congr fun x hx => ?_
          simp [hne hx]
        rw [hf, List.map_cons, List.sum_cons] at this
        exact this
      refine Classical.byContradiction fun hno => ?_
      have hz : ∀ i ∈ S, U i = true → A c c * ((S.filter U).map (A i)).sum = A i c * ((S.filter U).map (A c)).sum := fun i hi hu => by
        have h1 : ((S.filter U).map fun j => A c c * A i j - A i c * A c j).sum = 0 := by
          refine Classical.byContradiction fun z => hno ⟨i, hi, hu, z⟩
        rw [sum_lin] at h1
        omega
      obtain ⟨i0, hi0, hu0, hs0⟩ := hcon (fun x => decide (x ≠ c) && U x) (by
        obtain ⟨i, hi, hu⟩ := hU
        exact ⟨i, hin hi, by simp [hne hi, hu]⟩)
      have hfU : ((c :: S).filter fun x => decide (x ≠ c) && U x) = S.filter U := by
        rw [List.filter_cons_of_neg (by simp)]
        refine List.filter_congr fun x hx => ?_
        simp [hne hx]
      rw [hfU] at hs0
      have hi0S : i0 ∈ S ∧ U i0 = true := by
        have hu0' : i0 ≠ c ∧ U i0 = true := by simpa using hu0
        rcases List.mem_cons.mp hi0 with e | e
        · exact absurd e hu0'.1
        · exact ⟨e, hu0'.2⟩
      have key : ∀ i ∈ S, U i = true → A i c * (A c c + ((S.filter U).map (A c)).sum) = 0 := fun i hi hu => by
        have h1 := hz i hi hu
        have h2 := hpart i hi hu
        have h3 := hoff i (hin hi) c List.mem_cons_self (hne hi)
        have h4 : 0 ≤ A c c * (((S.filter U).map (A i)).sum + A i c) := Int.mul_nonneg ha0 h2
        exact aux1 h1 h4 (Int.mul_nonpos_of_nonpos_of_nonneg h3 hpc)
      have hy : A c c + ((S.filter U).map (A c)).sum = 0 := by
        rcases Int.mul_eq_zero.mp (key i0 hi0S.1 hi0S.2) with h | h
        · have h1 := hz i0 hi0S.1 hi0S.2
          rw [h, Int.zero_mul] at h1
          rcases Int.mul_eq_zero.mp h1 with h2 | h2
          · omega
          · exact absurd h2 hs0
        · exact h
      obtain ⟨k, hk, huk, hsk⟩ := hcon (fun x => decide (x = c) || U x) ⟨c, List.mem_cons_self, by simp⟩
      have hf : ((c :: S).filter fun x => decide (x = c) || U x) = c :: S.filter U := by
        rw [List.filter_cons_of_pos (by simp)]
        congr 1
        refine List.filter_congr fun x hx => ?_
        simp [hne hx]
      rw [hf, List.map_cons, List.sum_cons] at hsk
      refine hsk ?_
      rcases List.mem_cons.mp hk with e | e
      · rw [e]; exact hy
      · have huk' : U k = true := by
          have : k = c ∨ U k = true := by simpa using huk
          exact this.resolve_left (hne e)
        have h1 := hz k e huk'
        have h2 : A c c * (A k c + ((S.filter U).map (A k)).sum) = 0 := by
          have hy' : ((S.filter U).map (A c)).sum = - A c c := by omega
          rw [hy'] at h1
          exact aux2 h1
        rcases Int.mul_eq_zero.mp h2 with h | h
        · omega
        · exact h
end
end Oh

namespace Oh
def btw (x y : Int) (t : Int × Int) : Prop := x ≠ y ∧ (x = t.1 ∨ x = t.2) ∧ (y = t.1 ∨ y = t.2)
instance (x y : Int) (t : Int × Int) : Decidable (btw x y t) := by unfold btw; exact inferInstance
def hasE (x : Int) (t : Int × Int) : Bool := decide (x = t.1 ∨ x = t.2)
def btwB (x y : Int) (t : Int × Int) : Bool := decide (btw x y t)
theorem nrm_btw {n : Int} {t : Int × Int} (h : inb n t) (x y : Int) : nrm t = nrm (x, y) ↔ btw x y t := by
  obtain ⟨_, _, _, _, ne⟩ := h
  obtain ⟨t1, t2⟩ := t
  dsimp only at ne
  unfold btw
  dsimp only
  rcases nrm_or (t1, t2) with ⟨e1, l1⟩ | ⟨e1, l1⟩ <;> rcases nrm_or (x, y) with ⟨e2, l2⟩ | ⟨e2, l2⟩ <;> rw [e1, e2] <;> dsimp only at l1 l2 ⊢ <;> rw [Prod.mk.injEq] <;> omega
theorem cnt_btw {n : Int} {T T' : List (Int × Int)} (hT : ∀ t ∈ T, inb n t) (hp : T'.Perm (T.map nrm)) (x y : Int) : T'.countP (fun u => decide (u = nrm (x, y))) = T.countP (btwB x y) := by
  rw [hp.countP_eq, List.countP_map]
  refine List.countP_congr fun t ht => ?_
  have := nrm_btw (hT t ht) x y
  unfold btwB
  simp only [Function.comp_apply, decide_eq_true_iff]
  exact this
theorem cnt_has {T T' : List (Int × Int)} (hp : T'.Perm (T.map nrm)) (x : Int) : T'.countP (hasE x) = T.countP (hasE x) := by
  rw [hp.countP_eq, List.countP_map]
  refine List.countP_congr fun t ht => ?_
  unfold hasE
  simp only [Function.comp_apply, decide_eq_true_iff]
  rcases nrm_or t with ⟨e, _⟩ | ⟨e, _⟩
  · rw [e]
  · rw [e]; exact or_comm
theorem btw_comm (T : List (Int × Int)) (x y : Int) : T.countP (btwB x y) = T.countP (btwB y x) := by
  refine List.countP_congr fun t ht => ?_
  simp only [btwB, decide_eq_true_iff]
  unfold btw
  constructor
  · rintro ⟨a, b, c⟩; exact ⟨Ne.symm a, c, b⟩
  · rintro ⟨a, b, c⟩; exact ⟨Ne.symm a, c, b⟩
def inr (n : Nat) (x : Int) : Prop := 0 ≤ x ∧ x < (n : Int)
instance (n : Nat) (x : Int) : Decidable (inr n x) := by unfold inr; exact inferInstance
/-! ### the numbers from 1 on -/
def h1 (m : Nat) : List Int := (List.range m).map fun i : Nat => 1 + (i : Int)
theorem h1_length (m : Nat) : (h1 m).length = m := by unfold h1; simp
theorem h1_get {m i : Nat} (h : i < m) : (h1 m)[i]? = some (1 + (i : Int)) := by
  unfold h1
  rw [List.getElem?_map, List.getElem?_range h]; rfl
/-! ### the small table -/
def ent (T : List (Int × Int)) (h c : Int) : Int := if c = h then ((T.countP (hasE h) : Nat) : Int) else -((T.countP (btwB h c) : Nat) : Int)
theorem ent_perm {n : Nat} {T T' : List (Int × Int)} (hT : ∀ t ∈ T, inb n t) (hp : T'.Perm (T.map nrm)) (h c : Int) : (if c = h then ((T'.countP (hasE h) : Nat) : Int) else -((T'.countP fun u => decide (u = nrm (h, c)) : Nat) : Int)) = ent T h c := by
  unfold ent
  rw [cnt_has hp, cnt_btw hT hp]

theorem mem_h1 {m : Nat} {x : Int} : x ∈ h1 m ↔ 1 ≤ x ∧ x ≤ (m : Int) := by
  unfold h1
  rw [List.mem_map]
  constructor
  · rintro ⟨i, hi, rfl⟩
    have := List.mem_range.mp hi
    omega
  · rintro ⟨a, b⟩
    exact ⟨(x - 1).toNat, List.mem_range.mpr (by omega), by omega⟩
theorem h1_nodup (m : Nat) : (h1 m).Nodup := by
  unfold h1
  refine List.Pairwise.map (R := fun a b => a ≠ b) _ ?_ List.nodup_range
  intro a b h z
  omega
/-! ### what ties do to the sums of a row -/
def lt1 (t : Int × Int) (i j : Int) : Int := if j = i then (if hasE i t = true then 1 else 0) else -(if btwB i j t = true then 1 else 0)
theorem ent_cons (t : Int × Int) (T : List (Int × Int)) (i j : Int) : ent (t :: T) i j = lt1 t i j + ent T i j := by
  unfold ent lt1
  rw [List.countP_cons, List.countP_cons]
  by_cases h : j = i
  · rw [if_pos h, if_pos h, if_pos h]
    split <;> omega
  · rw [if_neg h, if_neg h, if_neg h]
    split <;> omega
theorem sum_add {α : Type} (f g : α → Int) : ∀ l : List α, (l.map fun x => f x + g x).sum = (l.map f).sum + (l.map g).sum
  | [] => rfl
  | a :: l => by rw [List.map_cons, List.map_cons, List.map_cons, List.sum_cons, List.sum_cons, List.sum_cons, sum_add f g l]; omega
theorem sum_ind1 {k : Int} : ∀ {F : List Int}, F.Nodup → (F.map fun j => if j = k then (1 : Int) else 0).sum = if k ∈ F then 1 else 0
  | [], _ => by simp
  | a :: F, h => by
    obtain ⟨h1, h2⟩ := List.nodup_cons.mp h
    rw [List.map_cons, List.sum_cons, sum_ind1 h2]
    by_cases e : a = k
    · subst e
      rw [if_pos rfl, if_neg h1, if_pos List.mem_cons_self]; rfl
    · rw [if_neg e]
      by_cases hk : k ∈ F
      · rw [if_pos hk, if_pos (List.mem_cons_of_mem _ hk)]; rfl
      · rw [if_neg hk, if_neg (fun z => (List.mem_cons.mp z).elim (fun w => e w.symm) hk)]; rfl
theorem sum_congr {α : Type} {f g : α → Int} {l : List α} (h : ∀ x ∈ l, f x = g x) : (l.map f).sum = (l.map g).sum := by rw [List.map_congr_left h]
theorem lt1_sum {n : Int} {t : Int × Int} {i : Int} {F : List Int} (hb : inb n t) (hF : F.Nodup) (hi : i ∈ F) : (F.map (lt1 t i)).sum = if t.1 = i then 1 - (if t.2 ∈ F then 1 else 0) else if t.2 = i then 1 - (if t.1 ∈ F then 1 else 0) else 0 := by
  obtain ⟨_, _, _, _, ne⟩ := hb
  have two : ∀ k, k ≠ i → (∀ j ∈ F, lt1 t i j = (if j = i then 1 else 0) + (-1) * (if j = k then (1 : Int) else 0)) → (F.map (lt1 t i)).sum = 1 - (if k ∈ F then 1 else 0) := fun k hk h => by
    rw [sum_congr h, sum_add (fun j => if j = i then (1 : Int) else 0) (fun j => (-1) * (if j = k then (1 : Int) else 0)), sum_ind1 hF, if_pos hi]
    have e : (F.map fun j => (-1) * (if j = k then (1 : Int) else 0)).sum = (-1) * (F.map fun j => if j = k then (1 : Int) else 0).sum := by
      rw [← sum_mul_left (-1), List.map_map]; rfl
    rw [e, sum_ind1 hF]
    omega
  by_cases c1 : t.1 = i
  · rw [if_pos c1]
    refine two t.2 (fun z => ne (by rw [c1, z])) fun j _ => ?_
    unfold lt1 hasE btwB
    by_cases c : j = i
    · rw [if_pos c, if_pos c, if_pos (decide_eq_true (.inl c1.symm)), if_neg (fun z => ne (by rw [c1, ← z, c]))]; rfl
    · rw [if_neg c, if_neg c]
      by_cases d : j = t.2
      · rw [if_pos d, if_pos (decide_eq_true ⟨fun z => c z.symm, .inl c1.symm, .inr d⟩)]; rfl
      · rw [if_neg d, if_neg (by rw [decide_eq_true_iff]; unfold btw; omega)]; rfl
  · rw [if_neg c1]
    by_cases c2 : t.2 = i
    · rw [if_pos c2]
      refine two t.1 c1 fun j _ => ?_
      unfold lt1 hasE btwB
      by_cases c : j = i
      · rw [if_pos c, if_pos c, if_pos (decide_eq_true (.inr c2.symm)), if_neg (fun z => c1 (by rw [← z, c]))]; rfl
      · rw [if_neg c, if_neg c]
        by_cases d : j = t.1
        · rw [if_pos d, if_pos (decide_eq_true ⟨fun z => c z.symm, .inr c2.symm, .inl d⟩)]; rfl
        · rw [if_neg d, if_neg (by rw [decide_eq_true_iff]; unfold btw; omega)]; rfl
    · rw [if_neg c2]
      rw [sum_congr (g := fun _ => 0) fun j _ => ?_]
      · clear hF hi two
        induction F with
        | nil => rfl
        | cons a F ih => rw [List.map_cons, List.sum_cons, ih]; rfl
      · unfold lt1 hasE btwB
        by_cases c : j = i
        · rw [if_pos c, if_neg (by rw [decide_eq_true_iff]; omega)]
        · rw [if_neg c, if_neg (by rw [decide_eq_true_iff]; unfold btw; omega)]; rfl
theorem lap_sum {n : Int} {i : Int} {F : List Int} (hF : F.Nodup) (hi : i ∈ F) : ∀ {T : List (Int × Int)}, (∀ t ∈ T, inb n t) → 0 ≤ (F.map (ent T i)).sum ∧ ((F.map (ent T i)).sum = 0 → ∀ t ∈ T, (t.1 = i → t.2 ∈ F) ∧ (t.2 = i → t.1 ∈ F))
  | [], _ => by
    have e : (F.map (ent [] i)).sum = 0 := by
      rw [sum_congr (g := fun _ => 0) fun j _ => by unfold ent; split <;> rfl]
      clear hF hi
      induction F with
      | nil => rfl
      | cons a F ih => rw [List.map_cons, List.sum_cons, ih]; rfl
    rw [e]
    exact ⟨Int.le_refl _, fun _ t ht => nomatch ht⟩
  | t :: T, hT => by
    obtain ⟨h1, h2⟩ := lap_sum hF hi (T := T) fun u hu => hT u (List.mem_cons_of_mem _ hu)
    have hb := hT t List.mem_cons_self
    have e : (F.map (ent (t :: T) i)).sum = (F.map (lt1 t i)).sum + (F.map (ent T i)).sum := by
      rw [← sum_add]
      exact sum_congr fun j _ => ent_cons t T i j
    have e2 := lt1_sum hb hF hi
    obtain ⟨_, _, _, _, ne⟩ := hb
    have h0 : 0 ≤ (F.map (lt1 t i)).sum := by
      rw [e2]
      split
      · split <;> decide
      · split
        · split <;> decide
        · exact Int.le_refl _
    refine ⟨by omega, fun hz u hu => ?_⟩
    have z1 : (F.map (lt1 t i)).sum = 0 := by omega
    have z2 : (F.map (ent T i)).sum = 0 := by omega
    rcases List.mem_cons.mp hu with rfl | hu
    · rw [e2] at z1
      refine ⟨fun c => ?_, fun c => ?_⟩
      · rw [if_pos c] at z1
        by_cases d : u.2 ∈ F
        · exact d
        · rw [if_neg d] at z1; omega
      · rw [if_neg (fun w => ne (by rw [w, c])), if_pos c] at z1
        by_cases d : u.1 ∈ F
        · exact d
        · rw [if_neg d] at z1; omega
    · exact h2 z2 u hu
/-- the number of kinds is above nought -/
theorem kinds_pos {n : Nat} {T : List (Int × Int)} (hG : Good n T) (hn : 1 ≤ n) : 0 < dt ((h1 (n - 1)).map (ent T)) (h1 (n - 1)) := by
  refine kin_pos _ _ (h1_nodup _) (fun i _ j _ hij => ?_) (fun i hi => ?_) (fun U hU => ?_)
  · unfold ent
    rw [if_neg (Ne.symm hij)]
    omega
  · exact (lap_sum (h1_nodup _) hi hG.rng).1
  · refine Classical.byContradiction fun hno => ?_
    obtain ⟨i0, hi0, hu0⟩ := hU
    have hFn : ((h1 (n - 1)).filter U).Nodup := (h1_nodup _).filter _
    have hz : ∀ i ∈ (h1 (n - 1)).filter U, (((h1 (n - 1)).filter U).map (ent T i)).sum = 0 := fun i hi => by
      obtain ⟨a, b⟩ := List.mem_filter.mp hi
      exact Classical.byContradiction fun z => hno ⟨i, a, b, z⟩
    have cl : ∀ t ∈ T, (t.1 ∈ (h1 (n - 1)).filter U ↔ t.2 ∈ (h1 (n - 1)).filter U) := fun t ht => by
      constructor
      · intro h
        exact ((lap_sum hFn h hG.rng).2 (hz _ h) t ht).1 rfl
      · intro h
        exact ((lap_sum hFn h hG.rng).2 (hz _ h) t ht).2 rfl
    have hi1 := mem_h1.mp hi0
    have := hG.conn (fun x => x ∈ (h1 (n - 1)).filter U) ⟨i0, by omega, by omega, List.mem_filter.mpr ⟨hi0, hu0⟩⟩ cl 0 (by omega) (by omega)
    have := mem_h1.mp (List.mem_filter.mp this).1
    omega
/-- the small table as a list of rows -/
def smT (n : Nat) (T : List (Int × Int)) : List (List Int) := (h1 (n - 1)).map fun x => (h1 (n - 1)).map (ent T x)
theorem dtl_smT (n : Nat) (T : List (Int × Int)) : dtl (smT n T) = dt ((h1 (n - 1)).map (ent T)) (h1 (n - 1)) := by
  have e := dt_map (fun j : Nat => 1 + (j : Int)) ((h1 (n - 1)).map (ent T)) (List.range (n - 1))
  have e0 : (List.range (n - 1)).map (fun j : Nat => 1 + (j : Int)) = h1 (n - 1) := rfl
  rw [e0] at e
  rw [← e]
  unfold dtl smT
  rw [List.length_map, h1_length]
  refine dt_ext _ _ _ (by simp) fun i a b ha hb c hc => ?_
  have hc' := List.mem_range.mp hc
  rw [List.getElem?_map, List.getElem?_map] at ha hb
  cases er : (h1 (n - 1))[i]? with
  | none => rw [er] at ha; cases ha
  | some r =>
    rw [er] at ha hb
    cases ha
    cases hb
    show ((h1 (n - 1)).map (ent T r)).getD c 0 = ent T r (1 + (c : Int))
    rw [List.getD_eq_getElem?_getD, List.getElem?_map, h1_get hc']
    rfl
end Oh

namespace Oh
/-! ### told papers -/
def dot (xs ys : List Int) : Int := ((List.range xs.length).map fun k => xs.getD k 0 * ys.getD k 0).sum
inductive Pap
  | sums
  | lent (l : List Int)
  | wei (m : Int) (l : List Int)
def kin (n : Nat) (T : List (Int × Int)) : Int := dtl (smT n T)
def dif (one other : List Int) : List Int := (List.range one.length).map fun k => one.getD k 0 - other.getD k 0
def tots (n : Nat) (T : List (Int × Int)) (one other : List Int) : List Int := (ajt (smT n T)).map fun r => dot r ((dif one other).drop 1)
def firstBad (m : Int) : List (List Int) → List Int → Option (List Int)
  | r :: rs, t :: ts => if t % m ≠ 0 then some r else firstBad m rs ts
  | _, _ => none
def AL (n : Nat) (T : List (Int × Int)) (one other : List Int) : Pap :=
  if one.sum ≠ other.sum then .sums
  else match firstBad (kin n T) (ajt (smT n T)) (tots n T one other) with
    | some r => .wei (kin n T) (0 :: r)
    | none => .lent (0 :: (tots n T one other).map fun t => t.fdiv (kin n T))
theorem kin_pos' {n : Nat} {T : List (Int × Int)} (hG : Good n T) (hn : 1 ≤ n) : 0 < kin n T := by
  unfold kin
  rw [dtl_smT]
  exact kinds_pos hG hn
theorem smT_len (n : Nat) (T : List (Int × Int)) : (smT n T).length = n - 1 := by unfold smT; rw [List.length_map, h1_length]
theorem smT_sq (n : Nat) (T : List (Int × Int)) : ∀ m ∈ smT n T, m.length = (smT n T).length := fun m hm => by
  rw [smT_len]
  obtain ⟨x, _, rfl⟩ := List.mem_map.mp hm
  rw [List.length_map, h1_length]
theorem smT_at {n : Nat} {T : List (Int × Int)} {i j : Nat} (hi : i < n - 1) (hj : j < n - 1) : ((smT n T).getD i []).getD j 0 = ent T (1 + (i : Int)) (1 + (j : Int)) := by
  unfold smT
  rw [List.getD_eq_getElem?_getD (l := List.map _ _), List.getElem?_map, h1_get hi]
  show ((h1 (n - 1)).map _).getD j 0 = _
  rw [List.getD_eq_getElem?_getD, List.getElem?_map, h1_get hj]
  rfl
theorem row_at {M : List (List Int)} {i : Nat} (h : i < M.length) : M[i]? = some (M.getD i []) := by rw [List.getD_eq_getElem?_getD, List.getElem?_eq_getElem h]; rfl
theorem ajt_len (M : List (List Int)) : (ajt M).length = M.length := by unfold ajt; rw [List.length_map, List.length_range]
theorem ajt_row {M : List (List Int)} {i : Nat} (h : i < M.length) : (ajt M)[i]? = some ((List.range M.length).map fun k => cof (M.map fnOf') (List.range M.length) i k) := by unfold ajt; rw [List.getElem?_map, List.getElem?_range h]; rfl
theorem ajt_sq {M : List (List Int)} : ∀ m ∈ ajt M, m.length = M.length := fun m hm => by
  obtain ⟨i, _, rfl⟩ := List.mem_map.mp hm
  rw [List.length_map, List.length_range]
theorem fn_at {M : List (List Int)} {i : Nat} (h : i < M.length) : (M.map fnOf')[i]? = some (fnOf' (M.getD i [])) := by rw [List.getElem?_map, row_at h]; rfl
theorem ajt_at {M : List (List Int)} {i k : Nat} (hi : i < M.length) (hk : k < M.length) : ((ajt M).getD i []).getD k 0 = cof (M.map fnOf') (List.range M.length) i k := by
  rw [List.getD_eq_getElem?_getD (l := ajt M), ajt_row hi]
  show ((List.range M.length).map _).getD k 0 = _
  rw [List.getD_eq_getElem?_getD, List.getElem?_map, List.getElem?_range hk]; rfl
theorem even1 {M : List (List Int)} (i j : Nat) (hi : i < M.length) (hj : j < M.length) : ((List.range M.length).map fun k => (M.getD i []).getD k 0 * ((ajt M).getD k []).getD j 0).sum = if i = j then dtl M else 0 := by
  have e := adj_right 0 (R := M.map fnOf') (S := List.range M.length) (by rw [List.length_map, List.length_range]) (fn_at hi) (j := j) (by rw [List.length_map]; exact hj)
  rw [List.length_range] at e
  unfold dtl
  rw [← e]
  refine congrArg List.sum (List.map_congr_left fun k hk => ?_)
  have hk' := List.mem_range.mp hk
  rw [ajt_at hk' hj, List.getD_eq_getElem?_getD (l := List.range M.length), List.getElem?_range hk']
  rfl
theorem even2 {M : List (List Int)} (i j : Nat) (hi : i < M.length) (hj : j < M.length) : ((List.range M.length).map fun k => ((ajt M).getD i []).getD k 0 * (M.getD k []).getD j 0).sum = if i = j then dtl M else 0 := by
  have e := adj_left (fun _ => 0) (R := M.map fnOf') (S := List.range M.length) (by rw [List.length_map, List.length_range]) (i := i) (j := j) (List.getElem?_range hj) (by rw [List.length_range]; exact hi)
  rw [List.length_map] at e
  unfold dtl
  rw [← e]
  refine congrArg List.sum (List.map_congr_left fun k hk => ?_)
  have hk' := List.mem_range.mp hk
  rw [ajt_at hi hk', List.getD_eq_getElem?_getD (l := M.map fnOf'), fn_at hk']
  rfl
theorem sum_swap {α β : Type} (f : α → β → Int) (m : List β) : ∀ l : List α, (l.map fun a => (m.map fun b => f a b).sum).sum = (m.map fun b => (l.map fun a => f a b).sum).sum
  | [] => by
    show 0 = _
    induction m with
    | nil => rfl
    | cons b m ih => rw [List.map_cons, List.sum_cons, ← ih]; rfl
  | a :: l => by
    rw [List.map_cons, List.sum_cons, sum_swap f m l, ← sum_add]
    exact sum_congr fun b _ => by rw [List.map_cons, List.sum_cons]
theorem sum_pick {n i : Nat} (hi : i < n) (c : Int) (s : Nat → Int) : ((List.range n).map fun k => (if i = k then c else 0) * s k).sum = c * s i := by
  induction n with
  | zero => omega
  | succ n ih =>
    rw [List.range_succ, List.map_append, List.sum_append, List.map_cons, List.map_nil, List.sum_cons, List.sum_nil]
    by_cases h : i = n
    · subst h
      rw [if_pos rfl]
      have z : ((List.range i).map fun k => (if i = k then c else 0) * s k).sum = 0 := by
        rw [sum_congr (g := fun _ => 0) fun k hk => by
          have := List.mem_range.mp hk
          rw [if_neg (by omega), Int.zero_mul]]
        clear ih hi
        induction i with
        | zero => rfl
        | succ i ih => rw [List.range_succ, List.map_append, List.sum_append, ih]; rfl
      rw [z]; omega
    · rw [ih (by omega), if_neg h]; omega
theorem sum_mulR (p : Int) {α : Type} (f : α → Int) (l : List α) : (l.map fun x => p * f x).sum = p * (l.map f).sum := by
  rw [← sum_mul_left p, List.map_map]; rfl
theorem firstBad_none {m : Int} : ∀ (rs : List (List Int)) (ts : List Int), (∀ t ∈ ts, t % m = 0) → firstBad m rs ts = none
  | [], _, _ => by cases ‹List Int› <;> rfl
  | _ :: _, [], _ => rfl
  | r :: rs, t :: ts, h => by
    unfold firstBad
    rw [if_neg (by simp [h t List.mem_cons_self])]
    exact firstBad_none rs ts fun u hu => h u (List.mem_cons_of_mem _ hu)
/-- a script's differences, by the small table -/
theorem lt1_mul {n : Nat} {t : Int × Int} {i : Int} {sc : List Int} (hb : inb n t) (h0 : 1 ≤ i) (h1' : i < n) :
    ((h1 (n - 1)).map fun k => lt1 t i k * (sc.getD k.toNat 0 - sc.getD 0 0)).sum = - dl sc t i.toNat := by
  obtain ⟨a0, a1, b0, b1, ne⟩ := hb
  have hF := h1_nodup (n - 1)
  have pick : ∀ k : Int, 0 ≤ k → k < n → ((h1 (n - 1)).map fun j => (if j = k then (1 : Int) else 0) * (sc.getD j.toNat 0 - sc.getD 0 0)).sum = sc.getD k.toNat 0 - sc.getD 0 0 := fun k k0 k1 => by
    have e : ((h1 (n - 1)).map fun j => (if j = k then (1 : Int) else 0) * (sc.getD j.toNat 0 - sc.getD 0 0)).sum = (sc.getD k.toNat 0 - sc.getD 0 0) * ((h1 (n - 1)).map fun j => if j = k then (1 : Int) else 0).sum := by
      rw [← sum_mulR]
      refine sum_congr fun j _ => ?_
      by_cases h : j = k
      · rw [if_pos h, h]; omega
      · rw [if_neg h]; omega
    rw [e, sum_ind1 hF]
    by_cases hk : k = 0
    · rw [hk, show (0 : Int).toNat = 0 from rfl, Int.sub_self, Int.zero_mul]
    · rw [if_pos (mem_h1.mpr ⟨by omega, by omega⟩)]; omega
  have two : ∀ k : Int, 0 ≤ k → k < n → k ≠ i → (∀ j, lt1 t i j = (if j = i then 1 else 0) + (-1) * (if j = k then (1 : Int) else 0)) → ((h1 (n - 1)).map fun k => lt1 t i k * (sc.getD k.toNat 0 - sc.getD 0 0)).sum = sc.getD i.toNat 0 - sc.getD k.toNat 0 := fun k k0 k1 hk h => by
    have e : ((h1 (n - 1)).map fun j => lt1 t i j * (sc.getD j.toNat 0 - sc.getD 0 0)).sum = ((h1 (n - 1)).map fun j => (if j = i then (1 : Int) else 0) * (sc.getD j.toNat 0 - sc.getD 0 0) + (-1) * ((if j = k then (1 : Int) else 0) * (sc.getD j.toNat 0 - sc.getD 0 0))).sum := sum_congr fun j _ => by rw [h j]; grind
    rw [e, sum_add (fun j => (if j = i then (1 : Int) else 0) * (sc.getD j.toNat 0 - sc.getD 0 0)) (fun j => (-1) * ((if j = k then (1 : Int) else 0) * (sc.getD j.toNat 0 - sc.getD 0 0))), sum_mulR, pick i (by omega) h1', pick k k0 k1]
    omega
  unfold dl mv
  by_cases c1 : t.1 = i
  · rw [if_pos (by rw [c1]), two t.2 b0 b1 (fun z => ne (by rw [c1, z])) (fun j => ?_), c1]
    · omega
    unfold lt1 hasE btwB
    by_cases c : j = i
    · rw [if_pos c, if_pos c, if_pos (decide_eq_true (.inl c1.symm)), if_neg (fun z => ne (by rw [c1, ← z, c]))]; rfl
    · rw [if_neg c, if_neg c]
      by_cases d : j = t.2
      · rw [if_pos d, if_pos (decide_eq_true ⟨fun z => c z.symm, .inl c1.symm, .inr d⟩)]; rfl
      · rw [if_neg d, if_neg (by rw [decide_eq_true_iff]; unfold btw; omega)]; rfl
  · rw [if_neg (by omega)]
    by_cases c2 : t.2 = i
    · rw [if_pos (by rw [c2]), two t.1 a0 a1 c1 (fun j => ?_), c2]
      · omega
      unfold lt1 hasE btwB
      by_cases c : j = i
      · rw [if_pos c, if_pos c, if_pos (decide_eq_true (.inr c2.symm)), if_neg (fun z => c1 (by rw [← z, c]))]; rfl
      · rw [if_neg c, if_neg c]
        by_cases d : j = t.1
        · rw [if_pos d, if_pos (decide_eq_true ⟨fun z => c z.symm, .inr c2.symm, .inl d⟩)]; rfl
        · rw [if_neg d, if_neg (by rw [decide_eq_true_iff]; unfold btw; omega)]; rfl
    · rw [if_neg (by omega), Int.neg_zero]
      have : ∀ F : List Int, (F.map fun k => lt1 t i k * (sc.getD k.toNat 0 - sc.getD 0 0)).sum = 0 := by
        intro F
        induction F with
        | nil => rfl
        | cons a F ih =>
          rw [List.map_cons, List.sum_cons, ih]
          have : lt1 t i a = 0 := by
            unfold lt1 hasE btwB
            by_cases c : a = i
            · rw [if_pos c, if_neg (by rw [decide_eq_true_iff]; omega)]
            · rw [if_neg c, if_neg (by rw [decide_eq_true_iff]; unfold btw; omega)]; rfl
          rw [this]; omega
      exact this _
theorem ent_delta {n : Nat} {i : Int} {sc : List Int} (h0 : 1 ≤ i) (h1' : i < n) : ∀ {T : List (Int × Int)}, (∀ t ∈ T, inb n t) → ((h1 (n - 1)).map fun k => ent T i k * (sc.getD k.toNat 0 - sc.getD 0 0)).sum = - delta T sc i.toNat
  | [], _ => by
    have : ∀ F : List Int, (F.map fun k => ent [] i k * (sc.getD k.toNat 0 - sc.getD 0 0)).sum = 0 := by
      intro F
      induction F with
      | nil => rfl
      | cons a F ih =>
        rw [List.map_cons, List.sum_cons, ih]
        have : ent [] i a = 0 := by unfold ent; split <;> rfl
        rw [this]; omega
    rw [this]; rfl
  | t :: T, hT => by
    have e : ((h1 (n - 1)).map fun k => ent (t :: T) i k * (sc.getD k.toNat 0 - sc.getD 0 0)).sum = ((h1 (n - 1)).map fun k => lt1 t i k * (sc.getD k.toNat 0 - sc.getD 0 0) + ent T i k * (sc.getD k.toNat 0 - sc.getD 0 0)).sum := sum_congr fun k _ => by rw [ent_cons]; grind
    rw [e, sum_add (fun k => lt1 t i k * (sc.getD k.toNat 0 - sc.getD 0 0)) (fun k => ent T i k * (sc.getD k.toNat 0 - sc.getD 0 0)), lt1_mul (hT t List.mem_cons_self) h0 h1', ent_delta h0 h1' fun u hu => hT u (List.mem_cons_of_mem _ hu)]
    unfold delta
    rw [List.map_cons, List.sum_cons]
    omega
/-- what a script makes of a standing, by the small table -/
theorem script_dif {n : Nat} {T : List (Int × Int)} {sc : List Int} (hT : ∀ t ∈ T, inb n t) {j : Nat} (hj : j < n - 1) :
    ((List.range (n - 1)).map fun k => ((smT n T).getD j []).getD k 0 * (sc.getD (k + 1) 0 - sc.getD 0 0)).sum = - delta T sc (j + 1) := by
  have e := ent_delta (n := n) (i := 1 + (j : Int)) (sc := sc) (by omega) (by omega) hT
  rw [show (1 + (j : Int)).toNat = j + 1 by omega] at e
  rw [← e]
  unfold h1
  rw [List.map_map]
  refine sum_congr fun k hk => ?_
  have hk' := List.mem_range.mp hk
  rw [smT_at hj hk']
  show _ = ent T (1 + (j : Int)) (1 + (k : Int)) * (sc.getD (1 + (k : Int)).toNat 0 - sc.getD 0 0)
  rw [show (1 + (k : Int)).toNat = k + 1 by omega]
end Oh

namespace Oh
open PySem PySem.Spec PyProof.Rows L2
/-! ### for x, y in zip(two lists) -/
theorem for_zip {K : PySem.W.Frag} {a b : Addr} {xs ys : List V} {g : TG} {tb : TS} {D : Ends} {σ : St} {H : Hp} (Pv : Nat → St → Hp → Prop) (h0 : Pv 0 σ H) (hxy : xs.length = ys.length) (hl : ∀ i σ H, i ≤ xs.length → Pv i σ H → SqL K H a xs ∧ SqL K H b ys)
    (hs : ∀ i x y t σ H, xs[i]? = some x → ys[i]? = some y → H t = none → Pv i σ H → g (.ref t) σ (upd H t (.tup [x, y])) fun σ2 H2 => tb { D with nx := Pv (i + 1), ct := Pv (i + 1), bk := D.nx } σ2 H2) (hd : ∀ σ H, Pv xs.length σ H → D.nx σ H) :
    ∃ W : Nat → Nat → St → Hp → Prop, (∃ m, W 0 m σ H) ∧ ∀ i m σ H, W i m σ H →
      ((Itz K a b).stop i H ∧ D.nx σ H) ∨ ((Itz K a b).go i H ∧ ∃ N : St → Hp → Prop, (∀ σ' H', N σ' H' → ∃ m', m' < m ∧ W (i + 1) m' σ' H') ∧ ∀ x H', (Itz K a b).yld i H x H' → g x σ H' fun σ2 H2 => tb { D with nx := N, ct := N, bk := D.nx } σ2 H2) := by
  refine ⟨fun i m σ H => m = xs.length - i ∧ i ≤ xs.length ∧ Pv i σ H, ⟨xs.length, by simp, Nat.zero_le _, h0⟩, ?_⟩
  rintro i m σ H ⟨rfl, hi, p⟩
  obtain ⟨qa, qb⟩ := hl i σ H hi p
  by_cases hlt : i < xs.length
  · refine .inr ⟨⟨xs, ys, xs[i], ys[i], qa, qb, by simp [hlt], by simp⟩, Pv (i + 1), fun σ' H' p' => ⟨xs.length - (i + 1), by omega, rfl, hlt, p'⟩, fun x H' y => ?_⟩
    obtain ⟨t, u, v, ht, rfl, rfl, y⟩ := y
    obtain ⟨y1, y2⟩ := y xs ys qa qb
    exact hs i u v t σ H y1 y2 ht p
  · have e : i = xs.length := by omega
    subst e
    exact .inl ⟨⟨xs, ys, qa, qb, .inl (Nat.le_refl _)⟩, hd σ H p⟩
theorem kit_ss (K : PySem.W.Frag) : PySem.W.kitOne K (.type "str") (.type "str") = some true := by kernel_rfl
/-- a told paper as it stands -/
def PapAt (H0 H : Hp) (r : Addr) : Pap → Prop
  | .sums => H r = some (.tup [.str "sums"])
  | .lent l => ∃ p : Addr, H0 p = none ∧ H r = some (.tup [.str "lent", .ref p]) ∧ H p = some (.lst (l.map V.int))
  | .wei m l => ∃ p : Addr, H0 p = none ∧ H r = some (.tup [.str "weighed", .int m, .ref p]) ∧ H p = some (.lst (l.map V.int))
end Oh

namespace Oh
/-! ### what the paper of two standings is -/
theorem getD_ofAt {α : Type} {l : List α} {i : Nat} {d x : α} (h : l[i]? = some x) : l.getD i d = x := by rw [List.getD_eq_getElem?_getD, h]; rfl
theorem smT_get {n j k : Nat} {T : List (Int × Int)} (hj : j < n - 1) (hk : k < n - 1) : ((smT n T).getD j []).getD k 0 = ent T (1 + (j : Int)) (1 + (k : Int)) := by
  unfold smT
  have e : ((h1 (n - 1)).map fun x => (h1 (n - 1)).map (ent T x))[j]? = some ((h1 (n - 1)).map (ent T (1 + (j : Int)))) := by
    rw [List.getElem?_map, h1_get hj]; rfl
  rw [getD_ofAt e]
  refine getD_ofAt ?_
  rw [List.getElem?_map, h1_get hk]; rfl
theorem ent_comm (T : List (Int × Int)) (i j : Int) : ent T i j = ent T j i := by
  unfold ent
  by_cases c : j = i
  · rw [c]
  · rw [if_neg c, if_neg (fun z => c z.symm), btw_comm]
theorem smT_comm {n j k : Nat} {T : List (Int × Int)} (hj : j < n - 1) (hk : k < n - 1) : ((smT n T).getD j []).getD k 0 = ((smT n T).getD k []).getD j 0 := by
  rw [smT_get hj hk, smT_get hk hj, ent_comm]
theorem firstBad_cases {m : Int} : ∀ {rs : List (List Int)} {ts : List Int}, rs.length = ts.length → (firstBad m rs ts = none ∧ ∀ t ∈ ts, t % m = 0) ∨ ∃ (i : Nat) (r : List Int) (t : Int), firstBad m rs ts = some r ∧ rs[i]? = some r ∧ ts[i]? = some t ∧ t % m ≠ 0 ∧ ∀ u ∈ ts.take i, u % m = 0
  | [], [], _ => .inl ⟨rfl, fun t ht => nomatch ht⟩
  | r :: rs, t :: ts, h => by
    by_cases c : t % m = 0
    · have e : firstBad m (r :: rs) (t :: ts) = firstBad m rs ts := by
        show (if t % m ≠ 0 then some r else firstBad m rs ts) = _
        rw [if_neg (fun z => z c)]
      rcases firstBad_cases (m := m) (rs := rs) (ts := ts) (by simpa using h) with ⟨h1, h2⟩ | ⟨i, r', t', h1, h2, h3, h4, h5⟩
      · refine .inl ⟨e.trans h1, fun u hu => ?_⟩
        rcases List.mem_cons.mp hu with z | z
        · rw [z]; exact c
        · exact h2 u z
      · refine .inr ⟨i + 1, r', t', e.trans h1, h2, h3, h4, fun u hu => ?_⟩
        rw [List.take_succ_cons] at hu
        rcases List.mem_cons.mp hu with z | z
        · rw [z]; exact c
        · exact h5 u z
    · refine .inr ⟨0, r, t, ?_, rfl, rfl, c, fun u hu => nomatch hu⟩
      show (if t % m ≠ 0 then some r else firstBad m rs ts) = _
      rw [if_pos c]
theorem dif_get {one other : List Int} {j : Nat} (hj : j < one.length) : (dif one other).getD j 0 = one.getD j 0 - other.getD j 0 := by
  unfold dif
  refine getD_ofAt ?_
  rw [List.getElem?_map, List.getElem?_range hj]; rfl
theorem drop1_get {l : List Int} {j : Nat} : (l.drop 1).getD j 0 = l.getD (j + 1) 0 := by
  rw [List.getD_eq_getElem?_getD, List.getElem?_drop, List.getD_eq_getElem?_getD, Nat.add_comm]
theorem ajt_row_len {M : List (List Int)} {i : Nat} {r : List Int} (h : (ajt M)[i]? = some r) : r.length = M.length := by
  unfold ajt at h
  rw [List.getElem?_map] at h
  obtain ⟨k, _, rfl⟩ := Option.map_eq_some_iff.mp h
  rw [List.length_map, List.length_range]
theorem tots_get {n i : Nat} {T : List (Int × Int)} {one other r : List Int} {t : Int} (h1 : one.length = n) (hr : (ajt (smT n T))[i]? = some r) (ht : (tots n T one other)[i]? = some t) : t = ((List.range (n - 1)).map fun k => r.getD k 0 * (one.getD (k + 1) 0 - other.getD (k + 1) 0)).sum := by
  unfold tots at ht
  rw [List.getElem?_map, hr] at ht
  cases ht
  show dot r ((dif one other).drop 1) = _
  unfold dot
  rw [ajt_row_len hr, smT_len]
  refine sum_congr fun k hk => ?_
  have := List.mem_range.mp hk
  rw [drop1_get, dif_get (by omega)]
theorem sum_cut (l : List Int) (h : 1 ≤ l.length) : l.sum = l.getD 0 0 + ((List.range (l.length - 1)).map fun k => l.getD (k + 1) 0).sum := by
  cases l with
  | nil => simp at h
  | cons a l =>
    rw [List.sum_cons]
    show a + l.sum = a + ((List.range l.length).map fun k => l.getD k 0).sum
    congr 1
    congr 1
    refine List.ext_getElem? fun i => ?_
    rw [List.getElem?_map]
    by_cases c : i < l.length
    · rw [List.getElem?_range c, List.getElem?_eq_getElem c, Option.map_some, List.getD_eq_getElem?_getD, List.getElem?_eq_getElem c]; rfl
    · rw [List.getElem?_eq_none (by omega), List.getElem?_eq_none (by rw [List.length_range]; omega)]; rfl
theorem getD_ext {l m : List Int} (hl : l.length = m.length) (h : ∀ i, i < l.length → l.getD i 0 = m.getD i 0) : l = m := by
  refine List.ext_getElem hl fun i h1 h2 => ?_
  have := h i h1
  rwa [List.getD_eq_getElem?_getD, List.getD_eq_getElem?_getD, List.getElem?_eq_getElem h1, List.getElem?_eq_getElem h2] at this
inductive ALc (n : Nat) (T : List (Int × Int)) (one other : List Int) : Pap → Prop
  | sums : one.sum ≠ other.sum → ALc n T one other .sums
  | lent (s : List Int) : one.sum = other.sum → s.length = n - 1 → lentL T one (0 :: s) = other → ALc n T one other (.lent (0 :: s))
  | wei (i : Nat) (r : List Int) (t : Int) : one.sum = other.sum → (ajt (smT n T))[i]? = some r → (tots n T one other)[i]? = some t → t % kin n T ≠ 0 → (∀ u ∈ (tots n T one other).take i, u % kin n T = 0) → ALc n T one other (.wei (kin n T) (0 :: r))
theorem AL_cases {n : Nat} {T : List (Int × Int)} {one other : List Int} (hG : Good n T) (hn : 1 ≤ n) (h1 : one.length = n) (h2 : other.length = n) : ALc n T one other (AL n T one other) := by
  unfold AL
  by_cases hs : one.sum = other.sum
  case neg => rw [if_pos hs]; exact .sums hs
  rw [if_neg (fun z => z hs)]
  have hk := kin_pos' hG hn
  have lM := smT_len n T
  have lA : (ajt (smT n T)).length = n - 1 := by rw [ajt_len, lM]
  have lt : (tots n T one other).length = n - 1 := by unfold tots; rw [List.length_map, lA]
  rcases firstBad_cases (m := kin n T) (rs := ajt (smT n T)) (ts := tots n T one other) (by omega) with ⟨e, hz⟩ | ⟨i, r, t, e, hr, ht, hb, hz⟩
  · rw [e]
    refine .lent _ hs (by rw [List.length_map, lt]) ?_
    generalize hS : (tots n T one other).map (fun t => t.fdiv (kin n T)) = s
    have ls : s.length = n - 1 := by rw [← hS, List.length_map, lt]
    have sg : ∀ k, k < n - 1 → kin n T * s.getD k 0 = ((List.range (n - 1)).map fun k' => ((ajt (smT n T)).getD k []).getD k' 0 * (one.getD (k' + 1) 0 - other.getD (k' + 1) 0)).sum := fun k hk' => by
      have hA : (ajt (smT n T))[k]? = some (ajt (smT n T))[k] := List.getElem?_eq_getElem (by omega)
      have hT : (tots n T one other)[k]? = some (tots n T one other)[k] := List.getElem?_eq_getElem (by omega)
      have e1 := tots_get (T := T) (other := other) h1 hA hT
      have e2 : s.getD k 0 = ((tots n T one other)[k]).fdiv (kin n T) := by
        have hz' : s[k]? = some (((tots n T one other)[k]).fdiv (kin n T)) := by
          have := congrArg (fun l : List Int => l[k]?) hS
          rw [List.getElem?_map, hT] at this
          exact this.symm
        exact getD_ofAt hz'
      rw [e2, getD_ofAt hA, ← e1, Int.fdiv_eq_ediv_of_nonneg _ (by omega)]
      have := hz _ (List.getElem_mem (l := tots n T one other) (n := k) (by omega))
      exact Int.mul_ediv_cancel' (Int.dvd_of_emod_eq_zero this)
    have hget : ∀ j, (lentL T one (0 :: s)).getD j 0 = one.getD j 0 + delta T (0 :: s) j := get_lentL h1 hG.rng
    have main : ∀ j, j < n - 1 → (lentL T one (0 :: s)).getD (j + 1) 0 = other.getD (j + 1) 0 := fun j hj => by
      have sd := script_dif (n := n) (T := T) (sc := 0 :: s) hG.rng hj
      have e0 : ((List.range (n - 1)).map fun k => ((smT n T).getD j []).getD k 0 * ((0 :: s).getD (k + 1) 0 - (0 :: s).getD 0 0)).sum = ((List.range (n - 1)).map fun k => ((smT n T).getD j []).getD k 0 * s.getD k 0).sum := sum_congr fun k _ => by
        show _ * (s.getD k 0 - 0) = _
        rw [Int.sub_zero]
      rw [e0] at sd
      have e2 : kin n T * ((List.range (n - 1)).map fun k => ((smT n T).getD j []).getD k 0 * s.getD k 0).sum = kin n T * (one.getD (j + 1) 0 - other.getD (j + 1) 0) := by
        rw [← sum_mulR]
        have e3 : ((List.range (n - 1)).map fun k => kin n T * (((smT n T).getD j []).getD k 0 * s.getD k 0)).sum = ((List.range (n - 1)).map fun k => ((List.range (n - 1)).map fun k' => ((smT n T).getD j []).getD k 0 * ((ajt (smT n T)).getD k []).getD k' 0 * (one.getD (k' + 1) 0 - other.getD (k' + 1) 0)).sum).sum := by
          refine sum_congr fun k hk' => ?_
          rw [show kin n T * (((smT n T).getD j []).getD k 0 * s.getD k 0) = ((smT n T).getD j []).getD k 0 * (kin n T * s.getD k 0) by grind, sg k (List.mem_range.mp hk'), ← sum_mulR]
          exact sum_congr fun k' _ => by rw [Int.mul_assoc]
        rw [e3, sum_swap]
        have e4 : ((List.range (n - 1)).map fun k' => ((List.range (n - 1)).map fun k => ((smT n T).getD j []).getD k 0 * ((ajt (smT n T)).getD k []).getD k' 0 * (one.getD (k' + 1) 0 - other.getD (k' + 1) 0)).sum).sum = ((List.range (n - 1)).map fun k' => (if j = k' then kin n T else 0) * (one.getD (k' + 1) 0 - other.getD (k' + 1) 0)).sum := by
          refine sum_congr fun k' hk' => ?_
          have ev := even1 (M := smT n T) j k' (by omega) (by have := List.mem_range.mp hk'; omega)
          rw [lM] at ev
          unfold kin
          rw [← ev, Int.mul_comm, ← sum_mulR]
          exact sum_congr fun k _ => by grind
        rw [e4]
        exact sum_pick hj (kin n T) fun k' => one.getD (k' + 1) 0 - other.getD (k' + 1) 0
      have e6 := Int.eq_of_mul_eq_mul_left (by omega) e2
      rw [hget (j + 1)]
      omega
    have hl : (lentL T one (0 :: s)).length = n := by rw [len_lentL, h1]
    refine getD_ext (by omega) fun i hi => ?_
    cases i with
    | succ j => exact main j (by omega)
    | zero =>
      have a := sum_cut (lentL T one (0 :: s)) (by omega)
      have b := sum_cut other (by omega)
      rw [sum_lentL h1 hG.rng, hl] at a
      rw [h2] at b
      have c : ((List.range (n - 1)).map fun k => (lentL T one (0 :: s)).getD (k + 1) 0).sum = ((List.range (n - 1)).map fun k => other.getD (k + 1) 0).sum := sum_congr fun k hk' => main k (List.mem_range.mp hk')
      omega
  · rw [e]
    exact .wei i r t hs hr ht hb hz
/-- the weights of a told weighing: they weigh nothing in any lending -/
theorem wei_even {n i : Nat} {T : List (Int × Int)} {r st : List Int} (hG : Good n T) (hn : 1 ≤ n) (hst : st.length = n) (hr : (ajt (smT n T))[i]? = some r) : ∀ j, j < n → delta T (0 :: r) j % kin n T = 0 := by
  have lM := smT_len n T
  have hi : i < n - 1 := by
    have := (List.getElem?_eq_some_iff.mp hr).1
    rw [ajt_len, lM] at this
    exact this
  have lr := ajt_row_len hr
  rw [lM] at lr
  have main : ∀ j, j < n - 1 → delta T (0 :: r) (j + 1) % kin n T = 0 := fun j hj => by
    have sd := script_dif (n := n) (T := T) (sc := 0 :: r) hG.rng hj
    have e0 : ((List.range (n - 1)).map fun k => ((smT n T).getD j []).getD k 0 * ((0 :: r).getD (k + 1) 0 - (0 :: r).getD 0 0)).sum = ((List.range (n - 1)).map fun k => ((ajt (smT n T)).getD i []).getD k 0 * ((smT n T).getD k []).getD j 0).sum := sum_congr fun k hk => by
      rw [smT_comm hj (List.mem_range.mp hk), getD_ofAt hr]
      show _ * (r.getD k 0 - 0) = _
      grind
    have ev := even2 (M := smT n T) i j (by omega) (by omega)
    rw [lM] at ev
    rw [e0, ev] at sd
    have : delta T (0 :: r) (j + 1) = - (if i = j then kin n T else 0) := by unfold kin; omega
    rw [this]
    split
    · rw [← Int.mul_neg_one, Int.mul_emod_right]
    · rfl
  intro j hj
  cases j with
  | succ j => exact main j (by omega)
  | zero =>
    have e := sum_lentL (T := T) (sc := 0 :: r) (st := st) hst hG.rng
    have a := sum_cut (lentL T st (0 :: r)) (by rw [len_lentL, hst]; exact hn)
    have b := sum_cut st (by omega)
    rw [len_lentL, hst] at a
    rw [hst] at b
    have g : ∀ k, (lentL T st (0 :: r)).getD k 0 = st.getD k 0 + delta T (0 :: r) k := get_lentL hst hG.rng
    have c : ((List.range (n - 1)).map fun k => (lentL T st (0 :: r)).getD (k + 1) 0).sum = ((List.range (n - 1)).map fun k => st.getD (k + 1) 0).sum + ((List.range (n - 1)).map fun k => delta T (0 :: r) (k + 1)).sum := by
      rw [← sum_add]
      exact sum_congr fun k _ => g (k + 1)
    have d : ∀ l : List Nat, (∀ k ∈ l, k < n - 1) → (l.map fun k => delta T (0 :: r) (k + 1)).sum % kin n T = 0 := by
      intro l
      induction l with
      | nil => intro _; rfl
      | cons k l ih =>
        intro hl
        rw [List.map_cons, List.sum_cons, Int.add_emod, main k (hl k List.mem_cons_self), ih fun x hx => hl x (List.mem_cons_of_mem _ hx)]
        rfl
    have dd := d (List.range (n - 1)) fun k hk => List.mem_range.mp hk
    have g0 := g 0
    have : delta T (0 :: r) 0 = - ((List.range (n - 1)).map fun k => delta T (0 :: r) (k + 1)).sum := by omega
    rw [this]
    exact Int.emod_eq_zero_of_dvd (Int.dvd_neg.mpr (Int.dvd_of_emod_eq_zero dd))
end Oh

namespace Oh
open PySem PySem.Spec PyProof.Rows L2
section
variable {X : Cx}
/-- a == b of two tuples that hold the same -/
theorem op_eqT (n : Nat) (hu : X.A.units + (n + 1) < cLine) : OpR X (compareOp .Eq) (fun x y H Q => ∃ a b xs ys, x = .ref a ∧ y = .ref b ∧ SqT X.K H a xs ∧ SqT X.K H b ys ∧ Paired (EqS X.K H n) xs ys ∧ Q (.bl true) H) := by
  intro pins s σ H x y v u Q I rx ry h
  obtain ⟨a, b, xs, ys, rfl, rfl, h1, h2, p, q⟩ := h
  cases rx
  cases ry
  obtain ⟨us, r1, p1, _⟩ := I.tuple h1
  obtain ⟨vs, r2, p2, _⟩ := I.tuple h2
  have l1 := r1.length
  have l2 := r2.length
  have hp := Paired.length p
  refine SeqAt.eq_tupleAt (e := fun _ => true) p1 p2 (by omega) (eqS_items (eqS_at I n) hu p r1 r2) ?_
  have hz : us.toArray.size = vs.toArray.size := by rw [List.size_toArray, List.size_toArray]; omega
  rw [all_true, hz, beq_self_eq_true]
  exact ⟨.bl true, H, I, rfl, q⟩
end
end Oh

namespace Oh
open PySem PySem.Spec PyProof.Rows L2
section
variable {X : Cx}
end
end Oh

namespace Oh
/-! ### a weighing and a script are never both -/
end Oh

namespace Oh
open PySem PySem.Spec PyProof.Rows L2
section
variable {X : Cx}
end
end Oh

namespace Oh
open PySem PySem.Spec PyProof.Rows L2
/-! ### [.. for i, x in enumerate(a list)] -/
/-! ### list(range(..)) -/
theorem vals_of : ∀ {xs : List V} {us : List Value}, xs.length = us.length → (∀ (j : Nat) (x : V) (u : Value), xs[j]? = some x → us[j]? = some u → RelV x u) → Vals xs us
  | [], [], _, _ => .nil
  | x :: xs, u :: us, h, r => .cons (r 0 x u rfl rfl) (vals_of (by simpa using h) fun j x u h1 h2 => r (j + 1) x u (by simpa using h1) (by simpa using h2))
  | [], _ :: _, h, _ => by simp at h
  | _ :: _, [], h, _ => by simp at h
def rngL (i : Int) (n : Nat) : List Int := (List.range n).map fun k : Nat => i + (k : Int)
section
variable {X : Cx}
theorem list_rng (hc : X.calm = true) {pins : List (Addr × Obj)} {σ : St} {H : Hp} {s : Shared} {Q : VK} {lo hi : Int} {t u v : Tok} {tk : Nat} (I : Inv X pins σ H s) (h1 : -(2 ^ 62) ≤ lo) (h2 : lo < 2 ^ 62) (h3 : -(2 ^ 62) ≤ hi) (h4 : hi < 2 ^ 62) (hz : (hi - lo).toNat ≤ 1000)
    (q : ∀ l, H l = none → Q (.ref l) (upd H l (.lst ((rngL lo (hi - lo).toNat).map V.int)))) : wpAny (model X.prog X.w) X.A (call (.type "list") [.ref s.heap.objs.size]) (EP X pins σ Q) X.xe { s with heap := s.heap.push { cls := .type "range", data := .fields #[.int lo t, .int hi u, .int 1 v] }, toks := tk } := by
  have I1 : Inv X pins σ H { s with heap := s.heap.push { cls := .type "range", data := .fields #[.int lo t, .int hi u, .int 1 v] }, toks := tk } := I.kept fun b o e => Heap.get?_push_of_some _ e
  refine call_list_range (I1.ok.hd hc) (IsRange.new ..) (small_one h1 h2 h3 h4) (n := (hi - lo).toNat) (by rw [rangeSize_one]; split <;> omega) (by omega) fun h' tk' acc' c' kp e hacc => ?_
  have hv : Vals ((rngL lo (hi - lo).toNat).map V.int) acc'.toList := vals_of (by unfold rngL; simp [hacc.1]) fun j x w hx hw => by
    have hw' : acc'[j]? = some w := by simpa using hw
    obtain ⟨tk, rfl⟩ := hacc.2 j w hw'
    unfold rngL at hx
    rw [List.getElem?_map, List.getElem?_map] at hx
    have hj : j < (hi - lo).toNat := by
      have := (Array.getElem?_eq_some_iff.mp hw').1
      rw [hacc.1] at this; exact this
    rw [List.getElem?_range hj] at hx
    cases hx
    exact ⟨tk, by rw [Int.mul_one]⟩
  exact ⟨.ref _, _, I1.laid (t' := tk') kp (Nat.le_refl _) (show ObjOk X.prog X.w _ h' _ (.lst ((rngL lo (hi - lo).toNat).map V.int)) from ⟨Nat.le_of_lt (small1000 (by unfold rngL; simp; omega)), acc'.toList, c', hv, by simpa using e⟩), rfl, q _ (I1.hok.fresh (Nat.le_refl _))⟩
def tLR2 (ta : TA) : TE := fun σ H Q => ta σ H fun vs H1 => ∃ i j : Int, vs = [.int i, .int j] ∧ 0 ≤ i ∧ i ≤ 1000 ∧ 0 ≤ j ∧ j ≤ 1000 ∧ ∀ l, H1 l = none → Q (.ref l) (upd H1 l (.lst ((rngL i (j - i).toNat).map V.int)))
theorem pe_listRng2 {a b : Expr} {ta : TA} {p p2 pos pos2 : Pos} (hc : X.calm = true) (hgl : Gl X "list") (hml : X.mg "list" = none) (hg : Gl X "range") (hm : X.mg "range" = none) (ha : PA X [a, b] ta) (hs : starEach [a, b] X.env = [(false, eval a X.env), (false, eval b X.env)] := by rfl) (hs2 : starEach [b] X.env = [(false, eval b X.env)] := by rfl)
    (he : starEach [.Call (.Name "range" p2) [a, b] [] pos2] X.env = (false, eval (.Call (.Name "range" p2) [a, b] [] pos2) X.env) :: starEach [] X.env := by rfl) :
    PE X (.Call (.Name "list" p) [.Call (.Name "range" p2) [a, b] [] pos2] [] pos) (tLR2 ta) := by
  intro pins s σ H Q I h
  refine wpAny_Call_Name_kw (ld_blt I hgl hml boot_list ?_ (by decide) (by decide))
  refine PyProof.Rows.callWith_type1 ?_ he rfl
  rw [he]
  show wpAny _ _ (spliced ((false, eval (.Call (.Name "range" p2) [a, b] [] pos2) X.env) :: backTo pos (starEach [] X.env))) _ _ s
  refine Calls.spliced_cons ?_
  refine Call_ (ld_blt I hg hm boot_range (PyProof.Rows.callWith_type1 (thn (ha pos2 pins s σ H _ I h) fun us s1 ⟨vs, H1, I1, r1, q1⟩ => ?_) (by rw [hs, hs2]) (by rw [hs2]; rfl)))
  obtain ⟨i, j, e, q1, q2, q3, q4, q⟩ := q1
  subst e
  cases r1 with
  | cons r rr =>
    cases rr with
    | cons r' rr =>
      cases rr
      obtain ⟨t, rfl⟩ := r
      obtain ⟨t', rfl⟩ := r'
      refine call_range_2 (Calls.spliced_nil ?_)
      exact list_rng hc I1 (by omega) (by omega) (by omega) (by omega) (by omega) q
theorem vals_ints : ∀ {ns : List Int} {us : List Value}, IntsAre us ns → Vals (ns.map V.int) us
  | _, _, .nil => .nil
  | _, _, .cons n t r => .cons ⟨t, rfl⟩ (vals_ints r)
end
end Oh

namespace Oh
/-! ### what a script brings, by the ties between -/
theorem sum_nnG {α : Type} {f : α → Int} : ∀ {l : List α}, (∀ y ∈ l, 0 ≤ f y) → 0 ≤ (l.map f).sum ∧ ∀ y ∈ l, f y ≤ (l.map f).sum
  | [], _ => ⟨by simp, fun y hy => nomatch hy⟩
  | a :: l, h => by
    obtain ⟨h1, h2⟩ := sum_nnG (f := f) (l := l) fun y hy => h y (List.mem_cons_of_mem _ hy)
    have ha := h a List.mem_cons_self
    rw [List.map_cons, List.sum_cons]
    refine ⟨by omega, fun y hy => ?_⟩
    rcases List.mem_cons.mp hy with e | e
    · rw [e]; omega
    · have := h2 y e; omega
theorem sum_leG {α : Type} {f g : α → Int} : ∀ {l : List α}, (∀ y ∈ l, f y ≤ g y) → (l.map f).sum ≤ (l.map g).sum
  | [], _ => by simp
  | a :: l, h => by
    have h1 := sum_leG (f := f) (g := g) (l := l) fun y hy => h y (List.mem_cons_of_mem _ hy)
    have ha := h a List.mem_cons_self
    rw [List.map_cons, List.sum_cons, List.map_cons, List.sum_cons]
    omega
theorem btNN (T : List (Int × Int)) (x y : Int) : 0 ≤ bt T x y := by unfold bt; omega
theorem nrm_swap (x y : Int) : nrm (x, y) = nrm (y, x) := by
  rcases nrm_or (x, y) with ⟨e1, l1⟩ | ⟨e1, l1⟩ <;> rcases nrm_or (y, x) with ⟨e2, l2⟩ | ⟨e2, l2⟩ <;> rw [e1, e2] <;> dsimp only at l1 l2 ⊢ <;> rw [Prod.mk.injEq] <;> omega
theorem bt_comm (T : List (Int × Int)) (x y : Int) : bt T x y = bt T y x := by unfold bt; rw [nrm_swap]
theorem bt_cons (t : Int × Int) (T : List (Int × Int)) (x y : Int) : bt (t :: T) x y = (if t = nrm (x, y) then 1 else 0) + bt T x y := by
  unfold bt
  rw [List.countP_cons]
  by_cases h : t = nrm (x, y)
  · rw [if_pos h, if_pos (decide_eq_true h)]; omega
  · rw [if_neg h, if_neg (by rw [decide_eq_true_iff]; exact h)]; omega
theorem bt_self {T : List (Int × Int)} (hN : ∀ t ∈ T, t.1 < t.2) (x : Int) : bt T x x = 0 := by
  unfold bt
  have : T.countP (fun u => decide (u = nrm (x, x))) = 0 := by
    rw [List.countP_eq_zero]
    intro t ht
    have h := hN t ht
    rw [decide_eq_true_iff]
    intro z
    rcases nrm_or (x, x) with ⟨e1, _⟩ | ⟨e1, _⟩ <;> rw [e1] at z <;> rw [z] at h <;> dsimp only at h <;> omega
  omega
theorem sum_pickI {k : Int} {g : Int → Int} : ∀ {F : List Int}, F.Nodup → (F.map fun j => if j = k then g j else 0).sum = if k ∈ F then g k else 0
  | [], _ => by simp
  | a :: F, h => by
    obtain ⟨h1, h2⟩ := List.nodup_cons.mp h
    rw [List.map_cons, List.sum_cons, sum_pickI h2]
    by_cases e : a = k
    · subst e
      rw [if_pos rfl, if_neg h1, if_pos List.mem_cons_self]; omega
    · rw [if_neg e]
      by_cases m : k ∈ F
      · rw [if_pos m, if_pos (List.mem_cons_of_mem _ m)]; omega
      · rw [if_neg m, if_neg (fun z => (List.mem_cons.mp z).elim (fun z => e z.symm) m)]; omega
/-- what a script brings a house -/
def lnd (n : Nat) (T : List (Int × Int)) (s : Int → Int) (x : Int) : Int := ((hs n).map fun y => bt T x y * (s y - s x)).sum
theorem lnd_lin (n : Nat) (T : List (Int × Int)) (a c : Int → Int) (p r : Int) (x : Int) : lnd n T (fun y => p * a y - r * c y) x = p * lnd n T a x - r * lnd n T c x := by
  unfold lnd
  rw [← sum_lin]
  refine sum_congr fun y _ => ?_
  grind
theorem lnd_congr {n : Nat} {T : List (Int × Int)} {a c : Int → Int} {x : Int} (hx : inr n x) (h : ∀ y, inr n y → a y = c y) : lnd n T a x = lnd n T c x := by
  unfold lnd
  refine sum_congr fun y hy => ?_
  rw [h y (mem_hs.mp hy), h x hx]
theorem lnd_sub (n : Nat) (T : List (Int × Int)) (a c : Int → Int) (x : Int) : lnd n T (fun y => a y - c y) x = lnd n T a x - lnd n T c x := by
  have := lnd_lin n T a c 1 1 x
  rw [Int.one_mul, Int.one_mul] at this
  rw [← this]
  congr 1
  funext y
  omega
theorem tie_lnd {n : Nat} {t : Int × Int} (hb : inb n t) (hl : t.1 < t.2) {x : Int} (hx : inr n x) (sc : List Int) : ((hs n).map fun y => (if t = nrm (x, y) then 1 else 0) * (sc.getD y.toNat 0 - sc.getD x.toNat 0)).sum = dl sc t x.toNat := by
  obtain ⟨a0, a1, b0, b1, ne⟩ := hb
  obtain ⟨x0, x1⟩ := hx
  have go : ∀ k : Int, 0 ≤ k → k < n → (∀ y : Int, t = nrm (x, y) ↔ y = k) → ((hs n).map fun y => (if t = nrm (x, y) then 1 else 0) * (sc.getD y.toNat 0 - sc.getD x.toNat 0)).sum = sc.getD k.toNat 0 - sc.getD x.toNat 0 := fun k k0 k1 h => by
    have e : ((hs n).map fun y => (if t = nrm (x, y) then 1 else 0) * (sc.getD y.toNat 0 - sc.getD x.toNat 0)).sum = ((hs n).map fun y => if y = k then sc.getD y.toNat 0 - sc.getD x.toNat 0 else 0).sum := sum_congr fun y _ => by
      by_cases c : y = k
      · rw [if_pos ((h y).mpr c), if_pos c]; omega
      · rw [if_neg (fun z => c ((h y).mp z)), if_neg c]; omega
    rw [e, sum_pickI (hs_nodup n), if_pos (mem_hs.mpr ⟨k0, k1⟩)]
  have hn : ∀ y : Int, t = nrm (x, y) ↔ ((x = t.2 ∧ y = t.1) ∨ (x = t.1 ∧ y = t.2)) := fun y => by
    obtain ⟨t1, t2⟩ := t
    dsimp only at hl ⊢
    rcases nrm_or (x, y) with ⟨e1, l1⟩ | ⟨e1, l1⟩ <;> rw [e1] <;> dsimp only at l1 ⊢ <;> rw [Prod.mk.injEq] <;> omega
  unfold dl mv
  by_cases c1 : t.1 = x
  · rw [if_pos (by rw [c1]), go t.2 b0 b1 (fun y => by rw [hn]; omega), c1]; omega
  · rw [if_neg (by omega)]
    by_cases c2 : t.2 = x
    · rw [if_pos (by rw [c2]), go t.1 a0 a1 (fun y => by rw [hn]; omega), c2]
    · rw [if_neg (by omega)]
      have e : ((hs n).map fun y => (if t = nrm (x, y) then 1 else 0) * (sc.getD y.toNat 0 - sc.getD x.toNat 0)).sum = ((hs n).map fun _ => (0 : Int)).sum := sum_congr fun y _ => by
        rw [if_neg (by rw [hn]; omega)]; omega
      rw [e]
      have := sum_pickI (k := -1) (g := fun _ => 0) (hs_nodup n)
      have e2 : ∀ l : List Int, (l.map fun _ => (0 : Int)).sum = 0 := fun l => by
        induction l with
        | nil => rfl
        | cons a l ih => rw [List.map_cons, List.sum_cons, ih]; rfl
      exact e2 _
theorem delta_lnd {n : Nat} {x : Int} (hx : inr n x) {sc : List Int} : ∀ {T : List (Int × Int)}, (∀ t ∈ T, inb n t) → (∀ t ∈ T, t.1 < t.2) → delta T sc x.toNat = lnd n T (fun y => sc.getD y.toNat 0) x
  | [], _, _ => by
    unfold delta lnd
    have e2 : ∀ l : List Int, (l.map fun y => bt [] x y * (sc.getD y.toNat 0 - sc.getD x.toNat 0)).sum = 0 := fun l => by
      induction l with
      | nil => rfl
      | cons a l ih => rw [List.map_cons, List.sum_cons, ih]; show 0 * _ + 0 = 0; omega
    rw [e2]; rfl
  | t :: T, hT, hN => by
    have ih := delta_lnd hx (sc := sc) (T := T) (fun u hu => hT u (List.mem_cons_of_mem _ hu)) (fun u hu => hN u (List.mem_cons_of_mem _ hu))
    have e : lnd n (t :: T) (fun y => sc.getD y.toNat 0) x = ((hs n).map fun y => (if t = nrm (x, y) then 1 else 0) * (sc.getD y.toNat 0 - sc.getD x.toNat 0) + bt T x y * (sc.getD y.toNat 0 - sc.getD x.toNat 0)).sum := by
      unfold lnd
      refine sum_congr fun y _ => ?_
      rw [bt_cons]; grind
    rw [e, sum_add (fun y => (if t = nrm (x, y) then 1 else 0) * (sc.getD y.toNat 0 - sc.getD x.toNat 0)) (fun y => bt T x y * (sc.getD y.toNat 0 - sc.getD x.toNat 0)), tie_lnd (hT t List.mem_cons_self) (hN t List.mem_cons_self) hx]
    unfold lnd at ih
    rw [← ih]
    unfold delta
    rw [List.map_cons, List.sum_cons]
theorem conn_bt {n : Nat} {T : List (Int × Int)} (hG : Good n T) (hN : ∀ t ∈ T, t.1 < t.2) {S : Int → Prop} (h1 : ∃ x, inr n x ∧ S x) (h2 : ∀ x y, inr n x → inr n y → 0 < bt T x y → S x → S y) : ∀ x, inr n x → S x := by
  obtain ⟨x0, hx0, hs0⟩ := h1
  intro x hx
  refine hG.conn S ⟨x0, hx0.1, hx0.2, hs0⟩ (fun t ht => ?_) x hx.1 hx.2
  obtain ⟨a0, a1, b0, b1, ne⟩ := hG.rng t ht
  have hl := hN t ht
  have p : 0 < bt T t.1 t.2 := by
    have : 0 < T.countP fun u => decide (u = nrm (t.1, t.2)) := List.countP_pos_iff.mpr ⟨t, ht, decide_eq_true (by rcases nrm_or (t.1, t.2) with ⟨e1, l1⟩ | ⟨e1, l1⟩ <;> rw [e1]; dsimp only at l1; omega)⟩
    unfold bt
    omega
  exact ⟨h2 _ _ ⟨a0, a1⟩ ⟨b0, b1⟩ p, h2 _ _ ⟨b0, b1⟩ ⟨a0, a1⟩ (by rw [bt_comm]; exact p)⟩
theorem argmin {u : Int → Int} : ∀ {l : List Int}, l ≠ [] → ∃ m ∈ l, ∀ x ∈ l, u m ≤ u x
  | [], h => absurd rfl h
  | [a], _ => ⟨a, List.mem_cons_self, fun x hx => by rw [List.mem_singleton.mp hx]; exact Int.le_refl _⟩
  | a :: b :: l, _ => by
    obtain ⟨m, hm, h⟩ := argmin (u := u) (l := b :: l) (by simp)
    by_cases c : u a ≤ u m
    · refine ⟨a, List.mem_cons_self, fun x hx => ?_⟩
      rcases List.mem_cons.mp hx with e | e
      · rw [e]; exact Int.le_refl _
      · have := h x e; omega
    · refine ⟨m, List.mem_cons_of_mem _ hm, fun x hx => ?_⟩
      rcases List.mem_cons.mp hx with e | e
      · rw [e]; omega
      · exact h x e
/-- nobody is below the house if everybody else has no less than its neighbours bring -/
theorem minp {n : Nat} {T : List (Int × Int)} (hG : Good n T) (hN : ∀ t ∈ T, t.1 < t.2) {q : Int} (hq : inr n q) {u : Int → Int} (h : ∀ x, inr n x → x ≠ q → lnd n T u x ≤ 0) : ∀ x, inr n x → u q ≤ u x := by
  have hne : hs n ≠ [] := fun z => by have := mem_hs.mpr hq; rw [z] at this; exact nomatch this
  obtain ⟨m, hm, hmin⟩ := argmin (u := u) hne
  have hmr := mem_hs.mp hm
  refine Classical.byContradiction fun hno => ?_
  have hqm : u q ≠ u m := fun z => hno fun x hx => by rw [z]; exact hmin x (mem_hs.mpr hx)
  have := conn_bt hG hN (S := fun x => u x = u m) ⟨m, hmr, rfl⟩ (fun x y hx hy hp e => ?_) q hq
  · exact hqm this
  have xq : x ≠ q := fun z => hqm (by rw [← z]; exact e)
  have h1 := h x hx xq
  unfold lnd at h1
  obtain ⟨h2, h3⟩ := sum_nnG (f := fun y => bt T x y * (u y - u x)) (l := hs n) fun y hy => Int.mul_nonneg (btNN T x y) (by have := hmin y hy; omega)
  have h4 := h3 y (mem_hs.mpr hy)
  have h5 : bt T x y * (u y - u x) ≤ 0 := by omega
  have h6 := hmin y (mem_hs.mpr hy)
  refine Classical.byContradiction fun hne => ?_
  have h7 : 0 < u y - u x := by omega
  have := Int.mul_pos hp h7
  omega
/-! ### the table among all but one -/
theorem ent_off {n : Nat} {T : List (Int × Int)} (hT : ∀ t ∈ T, inb n t) (hN : ∀ t ∈ T, t.1 < t.2) {x y : Int} (h : y ≠ x) : ent T x y = - bt T x y := by
  unfold ent bt
  rw [if_neg h]
  have : T.countP (btwB x y) = T.countP fun u => decide (u = nrm (x, y)) := by
    refine List.countP_congr fun t ht => ?_
    have hl := hN t ht
    have e : nrm t = t := by
      rcases nrm_or t with ⟨e1, _⟩ | ⟨e1, l1⟩
      · exact e1
      · omega
    unfold btwB
    rw [decide_eq_true_iff, decide_eq_true_iff, ← nrm_btw (hT t ht) x y, e]
  rw [this]
theorem ent_row0 {n : Nat} {x : Int} (hx : inr n x) : ∀ {T : List (Int × Int)}, (∀ t ∈ T, inb n t) → ((hs n).map (ent T x)).sum = 0
  | [], _ => by
    have e2 : ∀ l : List Int, (l.map (ent [] x)).sum = 0 := fun l => by
      induction l with
      | nil => rfl
      | cons a l ih => rw [List.map_cons, List.sum_cons, ih]; unfold ent; split <;> rfl
    exact e2 _
  | t :: T, hT => by
    have ih := ent_row0 hx (T := T) fun u hu => hT u (List.mem_cons_of_mem _ hu)
    have hb := hT t List.mem_cons_self
    have e : ((hs n).map (ent (t :: T) x)).sum = ((hs n).map fun y => lt1 t x y + ent T x y).sum := sum_congr fun y _ => ent_cons t T x y
    rw [e, sum_add (lt1 t x) (ent T x), ih, lt1_sum hb (hs_nodup n) (mem_hs.mpr hx)]
    obtain ⟨a0, a1, b0, b1, ne⟩ := hb
    rw [if_pos (mem_hs.mpr ⟨b0, b1⟩), if_pos (mem_hs.mpr ⟨a0, a1⟩)]
    split
    · rfl
    · split <;> rfl
theorem ent_lnd {n : Nat} {T : List (Int × Int)} (hT : ∀ t ∈ T, inb n t) (hN : ∀ t ∈ T, t.1 < t.2) {x : Int} (hx : inr n x) (s : Int → Int) : ((hs n).map fun k => ent T x k * s k).sum = - lnd n T s x := by
  have e : ((hs n).map fun k => ent T x k * s k).sum = ((hs n).map fun k => s x * ent T x k + (-1) * (bt T x k * (s k - s x))).sum := sum_congr fun k _ => by
    by_cases c : k = x
    · rw [c, bt_self hN]; grind
    · rw [ent_off hT hN c]; grind
  rw [e, sum_add (fun k => s x * ent T x k) (fun k => (-1) * (bt T x k * (s k - s x))), sum_mulR, sum_mulR, ent_row0 hx hT]
  unfold lnd
  omega
end Oh

namespace Oh
def sk (q : Int) (i : Nat) : Int := if (i : Int) < q then (i : Int) else (i : Int) + 1
def po (q x : Int) : Nat := if x < q then x.toNat else (x - 1).toNat
def rst (n : Nat) (q : Int) : List Int := (List.range (n - 1)).map (sk q)
theorem sk_ne (q : Int) (i : Nat) : sk q i ≠ q := by unfold sk; split <;> omega
theorem sk_inr {n : Nat} {q : Int} {i : Nat} (hq : inr n q) (h : i < n - 1) : inr n (sk q i) := by
  obtain ⟨a, b⟩ := hq
  unfold sk inr; split <;> omega
theorem po_sk {q : Int} (hq : 0 ≤ q) (i : Nat) : po q (sk q i) = i := by
  unfold po sk
  by_cases h : (i : Int) < q
  · rw [if_pos h, if_pos h]; omega
  · rw [if_neg h, if_neg (by omega)]; omega
theorem sk_po {q x : Int} (hx : 0 ≤ x) (h : x ≠ q) (hq : 0 ≤ q) : sk q (po q x) = x := by unfold po sk; split <;> split <;> omega
theorem po_lt {n : Nat} {q x : Int} (hx : inr n x) (h : x ≠ q) (hq : inr n q) : po q x < n - 1 := by
  obtain ⟨a, b⟩ := hq
  obtain ⟨c, d⟩ := hx
  unfold po; split <;> omega
theorem filt_low {q : Int} : ∀ m : Nat, (m : Int) ≤ q → (hs m).filter (fun x => decide (x ∉ [q])) = (List.range m).map (sk q)
  | 0, _ => rfl
  | m + 1, h => by
    rw [hs_succ, List.filter_append, filt_low m (by omega), List.range_succ, List.map_append]
    congr 1
    rw [List.filter_cons_of_pos (by rw [decide_eq_true_iff, List.mem_singleton]; omega)]
    show [(m : Int)] = [sk q m]
    unfold sk
    rw [if_pos (by omega)]
theorem filt_up {q : Int} (hq : 0 ≤ q) : ∀ k : Nat, (hs (q.toNat + 1 + k)).filter (fun x => decide (x ∉ [q])) = (List.range (q.toNat + k)).map (sk q)
  | 0 => by
    rw [Nat.add_zero, Nat.add_zero, hs_succ, List.filter_append, filt_low q.toNat (by omega), List.filter_cons_of_neg (by rw [decide_eq_true_iff, List.mem_singleton]; omega)]
    simp
  | k + 1 => by
    rw [← Nat.add_assoc, hs_succ, List.filter_append, filt_up hq k, ← Nat.add_assoc, List.range_succ, List.map_append]
    congr 1
    rw [List.filter_cons_of_pos (by rw [decide_eq_true_iff, List.mem_singleton]; omega)]
    show [((q.toNat + 1 + k : Nat) : Int)] = [sk q (q.toNat + k)]
    unfold sk
    rw [if_neg (by omega)]
    congr 1
    omega
theorem rst_filt {n : Nat} {q : Int} (hq : inr n q) : (hs n).filter (fun x => decide (x ∉ [q])) = rst n q := by
  obtain ⟨a, b⟩ := hq
  have := filt_up a (n - 1 - q.toNat)
  rw [show q.toNat + 1 + (n - 1 - q.toNat) = n by omega, show q.toNat + (n - 1 - q.toNat) = n - 1 by omega] at this
  exact this
theorem rst_len (n : Nat) (q : Int) : (rst n q).length = n - 1 := by unfold rst; rw [List.length_map, List.length_range]
theorem mem_rst {n : Nat} {q x : Int} (hq : inr n q) : x ∈ rst n q ↔ inr n x ∧ x ≠ q := by
  rw [← rst_filt hq, List.mem_filter, mem_hs, decide_eq_true_iff, List.mem_singleton]
  rfl
theorem rst_nd {n : Nat} {q : Int} (hq : inr n q) : (rst n q).Nodup := by rw [← rst_filt hq]; exact (hs_nodup n).filter _
theorem rst_get {n : Nat} {q : Int} {i : Nat} (h : i < n - 1) : (rst n q)[i]? = some (sk q i) := by
  unfold rst; rw [List.getElem?_map, List.getElem?_range h]; rfl
/-- the table among all houses but one -/
def tbA (n : Nat) (T : List (Int × Int)) (q : Int) : List (List Int) := (rst n q).map fun x => (rst n q).map (ent T x)
theorem tbA_len (n : Nat) (T : List (Int × Int)) (q : Int) : (tbA n T q).length = n - 1 := by unfold tbA; rw [List.length_map, rst_len]
theorem tbA_sq (n : Nat) (T : List (Int × Int)) (q : Int) : ∀ m ∈ tbA n T q, m.length = (tbA n T q).length := fun m hm => by
  obtain ⟨x, _, rfl⟩ := List.mem_map.mp hm
  rw [tbA_len, List.length_map, rst_len]
theorem tbA_at {n : Nat} {T : List (Int × Int)} {q : Int} {i j : Nat} (hi : i < n - 1) (hj : j < n - 1) : ((tbA n T q).getD i []).getD j 0 = ent T (sk q i) (sk q j) := by
  have e : (tbA n T q)[i]? = some ((rst n q).map (ent T (sk q i))) := by unfold tbA; rw [List.getElem?_map, rst_get hi]; rfl
  rw [List.getD_eq_getElem?_getD (l := tbA n T q), e]
  show ((rst n q).map (ent T (sk q i))).getD j 0 = _
  rw [List.getD_eq_getElem?_getD, List.getElem?_map, rst_get hj]; rfl
theorem dtl_tbA (n : Nat) (T : List (Int × Int)) (q : Int) : dtl (tbA n T q) = dt ((rst n q).map (ent T)) (rst n q) := by
  have e := dt_map (sk q) ((rst n q).map (ent T)) (List.range (n - 1))
  have e0 : (List.range (n - 1)).map (sk q) = rst n q := rfl
  rw [e0] at e
  rw [← e]
  unfold dtl
  rw [tbA_len]
  unfold tbA
  refine dt_ext _ _ _ (by simp) fun i a b ha hb c hc => ?_
  have hc' := List.mem_range.mp hc
  rw [List.getElem?_map, List.getElem?_map] at ha hb
  cases er : (rst n q)[i]? with
  | none => rw [er] at ha; cases ha
  | some r =>
    rw [er] at ha hb
    cases ha
    cases hb
    show ((rst n q).map (ent T r)).getD c 0 = ent T r (sk q c)
    rw [List.getD_eq_getElem?_getD, List.getElem?_map, rst_get hc']
    rfl
theorem dA_pos {n : Nat} {T : List (Int × Int)} (hG : Good n T) {q : Int} (hq : inr n q) : 0 < dtl (tbA n T q) := by
  rw [dtl_tbA]
  have hnd := rst_nd hq
  refine kin_pos _ _ hnd (fun i _ j _ hij => ?_) (fun i hi => ?_) (fun U hU => ?_)
  · unfold ent
    rw [if_neg (Ne.symm hij)]
    omega
  · exact (lap_sum hnd hi hG.rng).1
  · refine Classical.byContradiction fun hno => ?_
    obtain ⟨i0, hi0, hu0⟩ := hU
    have hFn : ((rst n q).filter U).Nodup := hnd.filter _
    have hz : ∀ i ∈ (rst n q).filter U, (((rst n q).filter U).map (ent T i)).sum = 0 := fun i hi => by
      obtain ⟨a, b⟩ := List.mem_filter.mp hi
      exact Classical.byContradiction fun z => hno ⟨i, a, b, z⟩
    have cl : ∀ t ∈ T, (t.1 ∈ (rst n q).filter U ↔ t.2 ∈ (rst n q).filter U) := fun t ht => by
      constructor
      · intro h
        exact ((lap_sum hFn h hG.rng).2 (hz _ h) t ht).1 rfl
      · intro h
        exact ((lap_sum hFn h hG.rng).2 (hz _ h) t ht).2 rfl
    have hi1 := (mem_rst hq).mp hi0
    have := hG.conn (fun x => x ∈ (rst n q).filter U) ⟨i0, hi1.1.1, hi1.1.2, List.mem_filter.mpr ⟨hi0, hu0⟩⟩ cl q hq.1 hq.2
    exact ((mem_rst hq).mp (List.mem_filter.mp this).1).2 rfl
/-- a list of the others' numbers, and nought for the house -/
def up (q : Int) (w : Nat → Int) (x : Int) : Int := if x = q then 0 else w (po q x)
theorem up_q (q : Int) (w : Nat → Int) : up q w q = 0 := if_pos rfl
theorem up_sk {q : Int} (hq : 0 ≤ q) (w : Nat → Int) (i : Nat) : up q w (sk q i) = w i := by unfold up; rw [if_neg (sk_ne q i), po_sk hq]
theorem sum_but {n : Nat} {q : Int} (hq : inr n q) (f : Int → Int) (h0 : f q = 0) : ((rst n q).map f).sum = ((hs n).map f).sum := by
  rw [sum_split f (fun x => decide (x ∉ [q])) (hs n), rst_filt hq]
  have : (((hs n).filter fun x => !decide (x ∉ [q])).map f).sum = 0 := by
    have e : ∀ l : List Int, (∀ x ∈ l, f x = 0) → (l.map f).sum = 0 := fun l hl => by
      induction l with
      | nil => rfl
      | cons a l ih => rw [List.map_cons, List.sum_cons, hl a List.mem_cons_self, ih fun x hx => hl x (List.mem_cons_of_mem _ hx)]; rfl
    refine e _ fun x hx => ?_
    have := (List.mem_filter.mp hx).2
    have : x = q := by simpa using this
    rw [this]; exact h0
  omega
theorem row_up {n : Nat} {T : List (Int × Int)} (hG : Good n T) (hN : ∀ t ∈ T, t.1 < t.2) {q : Int} (hq : inr n q) (w : Nat → Int) {i : Nat} (hi : i < n - 1) :
    ((List.range (n - 1)).map fun k => ((tbA n T q).getD i []).getD k 0 * w k).sum = - lnd n T (up q w) (sk q i) := by
  rw [← ent_lnd hG.rng hN (sk_inr hq hi), ← sum_but hq (fun k => ent T (sk q i) k * up q w k) (by rw [up_q, Int.mul_zero])]
  unfold rst
  rw [List.map_map]
  refine sum_congr fun k hk => ?_
  rw [tbA_at hi (List.mem_range.mp hk)]
  show _ = ent T (sk q i) (sk q k) * up q w (sk q k)
  rw [up_sk hq.1]
/-- what the adjoint makes of a list -/
def sol (n : Nat) (T : List (Int × Int)) (q : Int) (v : Nat → Int) (i : Nat) : Int := ((List.range (n - 1)).map fun k => ((ajt (tbA n T q)).getD i []).getD k 0 * v k).sum
theorem sol_row {n : Nat} {T : List (Int × Int)} {q : Int} (v : Nat → Int) {i : Nat} (hi : i < n - 1) :
    ((List.range (n - 1)).map fun k => ((tbA n T q).getD i []).getD k 0 * sol n T q v k).sum = dtl (tbA n T q) * v i := by
  have hl := tbA_len n T q
  have e1 : ((List.range (n - 1)).map fun k => ((tbA n T q).getD i []).getD k 0 * sol n T q v k).sum = ((List.range (n - 1)).map fun k => ((List.range (n - 1)).map fun j => ((tbA n T q).getD i []).getD k 0 * ((ajt (tbA n T q)).getD k []).getD j 0 * v j).sum).sum := by
    refine sum_congr fun k _ => ?_
    unfold sol
    rw [← sum_mulR]
    exact sum_congr fun j _ => by rw [Int.mul_assoc]
  rw [e1, sum_swap]
  have e2 : ((List.range (n - 1)).map fun j => ((List.range (n - 1)).map fun k => ((tbA n T q).getD i []).getD k 0 * ((ajt (tbA n T q)).getD k []).getD j 0 * v j).sum).sum = ((List.range (n - 1)).map fun j => (if i = j then dtl (tbA n T q) else 0) * v j).sum := by
    refine sum_congr fun j hj => ?_
    have := even1 (M := tbA n T q) i j (by rw [hl]; exact hi) (by rw [hl]; exact List.mem_range.mp hj)
    rw [hl] at this
    rw [← this, Int.mul_comm _ (v j), ← sum_mulR]
    exact sum_congr fun k _ => by rw [Int.mul_comm (v j)]
  rw [e2, sum_pick hi]
theorem sol_lnd {n : Nat} {T : List (Int × Int)} (hG : Good n T) (hN : ∀ t ∈ T, t.1 < t.2) {q : Int} (hq : inr n q) (v : Nat → Int) {x : Int} (hx : inr n x) (hne : x ≠ q) :
    lnd n T (up q (sol n T q v)) x = - (dtl (tbA n T q) * v (po q x)) := by
  have hi := po_lt hx hne hq
  have e := row_up hG hN hq (sol n T q v) hi
  rw [sol_row v hi, sk_po hx.1 hne hq.1] at e
  omega
/-- no script that leaves nobody but the house owing goes above this -/
theorem top_bd {n : Nat} {T : List (Int × Int)} (hG : Good n T) (hN : ∀ t ∈ T, t.1 < t.2) {q : Int} (hq : inr n q) {st s : Int → Int} (hs0 : s q = 0) (h : ∀ x, inr n x → x ≠ q → 0 ≤ st x + lnd n T s x) :
    ∀ x, inr n x → dtl (tbA n T q) * s x ≤ up q (sol n T q fun i => st (sk q i)) x := by
  intro x hx
  have := minp hG hN hq (u := fun y => 1 * up q (sol n T q fun i => st (sk q i)) y - dtl (tbA n T q) * s y) (fun y hy hne => ?_) x hx
  · rw [up_q, hs0, Int.mul_zero, Int.mul_zero] at this
    omega
  rw [lnd_lin, sol_lnd hG hN hq _ hy hne, sk_po hy.1 hne hq.1, Int.one_mul]
  have h1 := h y hy hne
  have h2 := Int.mul_nonneg (Int.le_of_lt (dA_pos hG hq)) h1
  rw [Int.mul_add] at h2
  omega
/-- quotients rounded down, with as many coins kept back as ties go to the others: nobody but the house owes -/
theorem no_debt {n : Nat} {T : List (Int × Int)} (hG : Good n T) (hN : ∀ t ∈ T, t.1 < t.2) {q : Int} (hq : inr n q) (st : Int → Int) {w : Nat → Int} (hw : ∀ i, w i = (sol n T q (fun i => st (sk q i) - tt' T (sk q i) (rst n q)) i).fdiv (dtl (tbA n T q))) :
    ∀ x, inr n x → x ≠ q → 0 ≤ st x + lnd n T (up q w) x := by
  intro x hx hne
  have dp := dA_pos hG hq
  have hi := po_lt hx hne hq
  generalize hc : sol n T q (fun i => st (sk q i) - tt' T (sk q i) (rst n q)) = c at hw
  generalize hd : dtl (tbA n T q) = d at hw dp
  have e1 := sol_lnd hG hN hq (fun i => st (sk q i) - tt' T (sk q i) (rst n q)) hx hne
  rw [hc, hd] at e1
  rw [sk_po hx.1 hne hq.1] at e1
  have r0 : ∀ i, 0 ≤ c i - d * w i ∧ c i - d * w i < d := fun i => by
    have h1 := Int.mul_fdiv_add_fmod (c i) d
    have h2 := Int.fmod_nonneg_of_pos (c i) dp
    have h3 := Int.fmod_lt_of_pos (c i) dp
    rw [← hw i] at h1
    omega
  have e2 := lnd_lin n T (up q c) (up q w) 1 d x
  have e3 : lnd n T (fun y => 1 * up q c y - d * up q w y) x ≤ d * tt' T x (rst n q) := by
    unfold tt'
    rw [← sum_mulR, sum_but hq (fun y => d * (if y = q then 0 else bt T x y)) (by rw [if_pos rfl, Int.mul_zero]) |> fun z => (sum_congr (l := rst n q) (f := fun y => d * bt T x y) (g := fun y => d * (if y = q then 0 else bt T x y)) fun y hy => by rw [if_neg ((mem_rst hq).mp hy).2]).trans z]
    unfold lnd
    refine sum_leG fun y hy => ?_
    show bt T x y * ((1 * up q c y - d * up q w y) - (1 * up q c x - d * up q w x)) ≤ d * (if y = q then 0 else bt T x y)
    have hb := btNN T x y
    have a1 : 0 ≤ 1 * up q c x - d * up q w x := by
      unfold up; rw [if_neg hne, if_neg hne]; have := r0 (po q x); omega
    by_cases cy : y = q
    · rw [if_pos cy, cy, up_q, up_q]
      rw [cy] at hb
      have : bt T x q * (1 * 0 - d * 0 - (1 * up q c x - d * up q w x)) ≤ 0 := Int.mul_nonpos_of_nonneg_of_nonpos hb (by omega)
      omega
    · rw [if_neg cy]
      have a2 : 1 * up q c y - d * up q w y ≤ d := by
        unfold up; rw [if_neg cy, if_neg cy]; have := r0 (po q y); omega
      rw [Int.mul_comm d (bt T x y)]
      exact Int.mul_le_mul_of_nonneg_left (by omega) hb
  rw [e2, e1] at e3
  have e4 : 0 ≤ d * (st x + lnd n T (up q w) x) := by
    rw [Int.mul_sub] at e3
    rw [Int.mul_add]
    omega
  exact Int.nonneg_of_mul_nonneg_right e4 dp |> id
end Oh

namespace Oh
def gf (l : List Int) (x : Int) : Int := l.getD x.toNat 0
def oth (n : Nat) (ms : List Int) : List Int := (hs n).filter fun x => decide (x ∉ ms)
theorem mem_oth {n : Nat} {ms : List Int} {x : Int} : x ∈ oth n ms ↔ inr n x ∧ x ∉ ms := by
  unfold oth
  rw [List.mem_filter, mem_hs, decide_eq_true_iff]
  rfl
def plainB (n : Nat) (T : List (Int × Int)) (st : List Int) (x : Int) : Bool := decide (n ≤ (qf n T st n [x]).length) && (oth n [x]).all fun y => decide (0 ≤ st.getD y.toNat 0)
theorem lent_gf {n : Nat} {T : List (Int × Int)} (hG : Good n T) (hN : ∀ t ∈ T, t.1 < t.2) {st sc : List Int} (hl : st.length = n) {x : Int} (hx : inr n x) : gf (lentL T st sc) x = gf st x + lnd n T (gf sc) x := by
  unfold gf
  rw [get_lentL hl hG.rng, delta_lnd hx hG.rng hN]
theorem sum_zeroG {α : Type} {f : α → Int} : ∀ l : List α, (∀ x ∈ l, f x = 0) → (l.map f).sum = 0
  | [], _ => rfl
  | a :: l, hl => by rw [List.map_cons, List.sum_cons, hl a List.mem_cons_self, sum_zeroG l fun x hx => hl x (List.mem_cons_of_mem _ hx)]; rfl
theorem sum_in {n : Nat} {f : Int → Int} : ∀ {ms : List Int}, Row n ms → ((hs n).map fun y => if y ∈ ms then f y else 0).sum = (ms.map f).sum
  | [], _ => by
    rw [sum_zeroG _ fun x _ => by simp]; rfl
  | a :: ms, h => by
    obtain ⟨h1, h2⟩ := List.nodup_cons.mp h.nd
    have hR : Row n ms := ⟨h2, fun x hx => h.rng x (List.mem_cons_of_mem _ hx)⟩
    have e : ((hs n).map fun y => if y ∈ a :: ms then f y else 0).sum = ((hs n).map fun y => (if y = a then f y else 0) + (if y ∈ ms then f y else 0)).sum := sum_congr fun y _ => by
      by_cases c : y = a
      · subst c
        rw [if_pos List.mem_cons_self, if_pos rfl, if_neg h1]; omega
      · rw [if_neg c]
        by_cases d : y ∈ ms
        · rw [if_pos (List.mem_cons_of_mem _ d), if_pos d]; omega
        · rw [if_neg (fun z => (List.mem_cons.mp z).elim c d), if_neg d]; omega
    rw [e, sum_add (fun y => if y = a then f y else 0) (fun y => if y ∈ ms then f y else 0), sum_in hR, sum_pickI (hs_nodup n), if_pos (mem_hs.mpr (h.rng a List.mem_cons_self)), List.map_cons, List.sum_cons]
/-! ### a group lends once -/
def inG (ms : List Int) (x : Int) : Int := if x ∈ ms then 0 else 1
theorem lnd_grp {n : Nat} {T : List (Int × Int)} {ms : List Int} (hR : Row n ms) {x : Int} : (x ∉ ms → lnd n T (inG ms) x = - tt' T x ms) ∧ (x ∈ ms → 0 ≤ lnd n T (inG ms) x) := by
  constructor
  · intro hx
    unfold lnd tt'
    have e : ((hs n).map fun y => bt T x y * (inG ms y - inG ms x)).sum = ((hs n).map fun y => (-1) * (if y ∈ ms then bt T x y else 0)).sum := sum_congr fun y _ => by
      unfold inG
      rw [if_neg hx]
      by_cases c : y ∈ ms
      · rw [if_pos c, if_pos c]; omega
      · rw [if_neg c, if_neg c]; omega
    rw [e, sum_mulR, sum_in hR]
    show -1 * (ms.map (bt T x)).sum = -(ms.map (bt T x)).sum
    omega
  · intro hx
    unfold lnd
    refine (sum_nnG fun y _ => Int.mul_nonneg (btNN T x y) ?_).1
    unfold inG
    rw [if_pos hx]
    split <;> omega
/-- the script in which the group lends once more -/
def moreG (n : Nat) (sc ms : List Int) : List Int := (hs n).map fun x => if x ∈ oth n ms then gf sc x + 1 else gf sc x
theorem gf_hs {n : Nat} {g : Int → Int} {x : Int} (hx : inr n x) : gf ((hs n).map g) x = g x := by
  unfold gf
  obtain ⟨h0, h1⟩ := hx
  rw [List.getD_eq_getElem?_getD, List.getElem?_map, hs_get (by omega : x.toNat < n)]
  show g ((x.toNat : Nat) : Int) = g x
  rw [show ((x.toNat : Nat) : Int) = x by omega]
theorem gf_more {n : Nat} {sc ms : List Int} {x : Int} (hx : inr n x) : gf (moreG n sc ms) x = gf sc x + inG ms x := by
  unfold moreG
  rw [gf_hs hx]
  unfold inG
  by_cases c : x ∈ ms
  · rw [if_neg (fun z => (mem_oth.mp z).2 c), if_pos c]; omega
  · rw [if_pos (mem_oth.mpr ⟨hx, c⟩), if_neg c]
theorem len_more (n : Nat) (sc ms : List Int) : (moreG n sc ms).length = n := by unfold moreG; rw [List.length_map, hs_length]
/-- what a script is on the way to the plain form -/
structure Way (n : Nat) (T : List (Int × Int)) (q : Int) (st sc : List Int) : Prop where
  len : sc.length = n
  nought : gf sc q = 0
  nodebt : ∀ x, inr n x → x ≠ q → 0 ≤ gf st x + lnd n T (gf sc) x
theorem Way.more {n : Nat} {T : List (Int × Int)} (hG : Good n T) (hN : ∀ t ∈ T, t.1 < t.2) {q : Int} (hq : inr n q) {st sc : List Int} (hl : st.length = n) (h : Way n T q st sc) : Way n T q st (moreG n sc (qf n T (lentL T st sc) n [q])) := by
  have hrow := qf_row (n := n) (T := T) (st := lentL T st sc) n [q] (Row.one hq.1 hq.2) (by simp)
  have hqm : q ∈ qf n T (lentL T st sc) n [q] := by
    obtain ⟨r, er⟩ := (qf_step (n := n) (T := T) (st := lentL T st sc) n [q] (Row.one hq.1 hq.2) (by simp)).1
    rw [er]; simp
  generalize qf n T (lentL T st sc) n [q] = ms at hrow hqm
  refine ⟨len_more _ _ _, ?_, fun x hx hne => ?_⟩
  · rw [gf_more hq, h.nought]
    unfold inG
    rw [if_pos hqm]; rfl
  · have e : lnd n T (gf (moreG n sc ms)) x = lnd n T (gf sc) x + lnd n T (inG ms) x := by
      have e1 := lnd_congr (T := T) hx (a := gf (moreG n sc ms)) (c := fun y => gf sc y - (-1) * inG ms y) fun y hy => by rw [gf_more hy]; omega
      have e2 := lnd_lin n T (gf sc) (inG ms) 1 (-1) x
      rw [e1]
      have e3 : (fun y => 1 * gf sc y - -1 * inG ms y) = fun y => gf sc y - -1 * inG ms y := by funext y; omega
      rw [e3] at e2
      rw [e2]; omega
    rw [e]
    by_cases c : x ∈ ms
    · have := (lnd_grp (T := T) hrow.1 (x := x)).2 c
      have := h.nodebt x hx hne
      omega
    · rw [(lnd_grp (T := T) hrow.1 (x := x)).1 c]
      have h1 := next_none hrow.2 hx.1 hx.2 c
      have h2 := lent_gf hG hN (sc := sc) hl hx
      unfold gf at h1 h2 ⊢
      omega
/-- the bound of all such scripts -/
def bdW (n : Nat) (T : List (Int × Int)) (q : Int) (st : List Int) (x : Int) : Int := (((up q (sol n T q fun i => gf st (sk q i)) x).natAbs : Nat) : Int)
theorem Way.le {n : Nat} {T : List (Int × Int)} (hG : Good n T) (hN : ∀ t ∈ T, t.1 < t.2) {q : Int} (hq : inr n q) {st sc : List Int} (h : Way n T q st sc) {x : Int} (hx : inr n x) : gf sc x ≤ bdW n T q st x := by
  have h1 := top_bd hG hN hq h.nought h.nodebt x hx
  have dp := dA_pos hG hq
  unfold bdW
  generalize up q (sol n T q fun i => gf st (sk q i)) x = b at h1
  by_cases c : gf sc x ≤ 0
  · omega
  · have : gf sc x ≤ dtl (tbA n T q) * gf sc x := by
      have := Int.mul_le_mul_of_nonneg_right (show (1 : Int) ≤ dtl (tbA n T q) by omega) (show 0 ≤ gf sc x by omega)
      omega
    omega
def wayM (n : Nat) (T : List (Int × Int)) (q : Int) (st sc : List Int) : Nat := ((hs n).map fun x => bdW n T q st x - gf sc x).sum.toNat
theorem Way.less {n : Nat} {T : List (Int × Int)} (hG : Good n T) (hN : ∀ t ∈ T, t.1 < t.2) {q : Int} (hq : inr n q) {st sc : List Int} (hl : st.length = n) (h : Way n T q st sc) (hne : oth n (qf n T (lentL T st sc) n [q]) ≠ []) : wayM n T q st (moreG n sc (qf n T (lentL T st sc) n [q])) < wayM n T q st sc := by
  have h2 := h.more hG hN hq hl
  generalize qf n T (lentL T st sc) n [q] = ms at h2 hne
  obtain ⟨y, hy⟩ := List.exists_mem_of_ne_nil _ hne
  obtain ⟨hyr, hym⟩ := mem_oth.mp hy
  unfold wayM
  have e : ((hs n).map fun x => bdW n T q st x - gf (moreG n sc ms) x).sum = ((hs n).map fun x => (bdW n T q st x - gf sc x) + (-1) * inG ms x).sum := sum_congr fun x hx => by rw [gf_more (mem_hs.mp hx)]; omega
  have p1 := (sum_nnG (f := fun x => bdW n T q st x - gf (moreG n sc ms) x) (l := hs n) fun x hx => by have := h2.le hG hN hq (mem_hs.mp hx); omega).1
  have p2 := (sum_nnG (f := inG ms) (l := hs n) fun x hx => by unfold inG; split <;> omega).2 y (mem_hs.mpr hyr)
  rw [e, sum_add (fun x => bdW n T q st x - gf sc x) (fun x => (-1) * inG ms x), sum_mulR] at p1 ⊢
  have : inG ms y = 1 := by unfold inG; rw [if_neg hym]
  omega
theorem Way.done {n : Nat} {T : List (Int × Int)} (hG : Good n T) (hN : ∀ t ∈ T, t.1 < t.2) {q : Int} (hq : inr n q) {st sc : List Int} (hl : st.length = n) (h : Way n T q st sc) (he : oth n (qf n T (lentL T st sc) n [q]) = []) : plainB n T (lentL T st sc) q = true := by
  unfold plainB
  rw [Bool.and_eq_true, decide_eq_true_iff, List.all_eq_true]
  constructor
  · have := nodup_le (hs_nodup n) (m := qf n T (lentL T st sc) n [q]) fun x hx => Classical.byContradiction fun z => by
      have := mem_oth.mpr ⟨mem_hs.mp hx, z⟩
      rw [he] at this
      exact nomatch this
    rwa [hs_length] at this
  · intro y hy
    obtain ⟨hy1, hy2⟩ := mem_oth.mp hy
    have hyq : y ≠ q := fun z => hy2 (by rw [z]; exact List.mem_cons_self)
    have h1 := h.nodebt y hy1 hyq
    have h2 := lent_gf hG hN (sc := sc) hl hy1
    unfold gf at h1 h2
    exact decide_eq_true (by rw [h2]; exact h1)
end Oh

namespace Oh
/-! ### orders: the first of a kind, and what a script takes of it -/
theorem first_in {S : Int → Prop} : ∀ {ms : List Int}, (∃ x ∈ ms, S x) → ∃ j x, ms[j]? = some x ∧ S x ∧ ∀ y ∈ ms.take j, ¬ S y
  | [], h => by obtain ⟨x, hx, _⟩ := h; exact nomatch hx
  | a :: ms, h => by
    by_cases c : S a
    · exact ⟨0, a, rfl, c, fun y hy => by simp at hy⟩
    · obtain ⟨x, hx, hs⟩ := h
      have : x ∈ ms := (List.mem_cons.mp hx).resolve_left fun z => c (z ▸ hs)
      obtain ⟨j, x, h1, h2, h3⟩ := first_in ⟨x, this, hs⟩
      refine ⟨j + 1, x, by simpa using h1, h2, fun y hy => ?_⟩
      rw [List.take_succ_cons] at hy
      rcases List.mem_cons.mp hy with e | e
      · rw [e]; exact c
      · exact h3 y e
theorem Row.take {n : Nat} {ms : List Int} (h : Row n ms) (j : Nat) : Row n (ms.take j) := ⟨h.nd.sublist (List.take_sublist j ms), fun x hx => h.rng x (List.mem_of_mem_take hx)⟩
theorem lend_max {n : Nat} {T : List (Int × Int)} {d : Int → Int} {x : Int} (hmax : ∀ y, inr n y → d y ≤ d x) {ms : List Int} (hR : Row n ms) (hlt : ∀ y ∈ ms, d y < d x) : lnd n T d x ≤ - tt' T x ms := by
  have e : ((hs n).map fun y => (-1) * (if y ∈ ms then bt T x y else 0)).sum = - tt' T x ms := by
    rw [sum_mulR, sum_in hR]
    show -1 * (ms.map (bt T x)).sum = -(ms.map (bt T x)).sum
    omega
  rw [← e]
  unfold lnd
  refine sum_leG fun y hy => ?_
  have hb := btNN T x y
  have h1 := hmax y (mem_hs.mp hy)
  by_cases c : y ∈ ms
  · rw [if_pos c]
    have h2 := hlt y c
    have := Int.mul_le_mul_of_nonneg_left (show d y - d x ≤ -1 by omega) hb
    omega
  · rw [if_neg c]
    have := Int.mul_nonpos_of_nonneg_of_nonpos hb (show d y - d x ≤ 0 by omega)
    omega
/-- an order of all houses -/
structure Ord (n : Nat) (ms : List Int) : Prop where
  row : Row n ms
  len : ms.length = n
theorem Ord.all {n : Nat} {ms : List Int} (h : Ord n ms) {x : Int} (hx : inr n x) : x ∈ ms := Classical.byContradiction fun z => by
  have := (h.row.more hx z).le
  rw [List.length_append, List.length_singleton, h.len] at this
  omega
theorem argmax {n : Nat} (hn : 1 ≤ n) (d : Int → Int) : ∃ m, inr n m ∧ ∀ y, inr n y → d y ≤ d m := by
  obtain ⟨m, hm, h⟩ := argmin (u := fun x => - d x) (l := hs n) (fun z => by have := hs_length n; rw [z] at this; simp at this; omega)
  exact ⟨m, mem_hs.mp hm, fun y hy => by have := h y (mem_hs.mpr hy); omega⟩
/-- a standing that is plain for a house -/
structure Pln (n : Nat) (T : List (Int × Int)) (q : Int) (f : Int → Int) : Prop where
  nodebt : ∀ x, inr n x → x ≠ q → 0 ≤ f x
  burn : ∃ ms, Ord n ms ∧ ms[0]? = some q ∧ ∀ j x, 0 < j → ms[j]? = some x → f x < tt' T x (ms.take j)
theorem qf_burn {n : Nat} {T : List (Int × Int)} {st : List Int} {q : Int} (hq : inr n q) (h : n ≤ (qf n T st n [q]).length) : Ord n (qf n T st n [q]) ∧ (qf n T st n [q])[0]? = some q ∧ ∀ j x, 0 < j → (qf n T st n [q])[j]? = some x → gf st x < tt' T x ((qf n T st n [q]).take j) := by
  have hrow := qf_row (n := n) (T := T) (st := st) n [q] (Row.one hq.1 hq.2) (by simp)
  obtain ⟨⟨r, er⟩, hst⟩ := qf_step (n := n) (T := T) (st := st) n [q] (Row.one hq.1 hq.2) (by simp)
  have hle := hrow.1.le
  refine ⟨⟨hrow.1, by omega⟩, by rw [er]; rfl, fun j x hj hx => ?_⟩
  have hjl := (List.getElem?_eq_some_iff.mp hx).1
  rw [hst j (by simp; omega) (by omega)] at hx
  exact (next_some hx).2.2
theorem plainB_iff {n : Nat} {T : List (Int × Int)} {st : List Int} {q : Int} : plainB n T st q = true ↔ n ≤ (qf n T st n [q]).length ∧ ∀ x, inr n x → x ≠ q → 0 ≤ gf st x := by
  unfold plainB
  rw [Bool.and_eq_true, decide_eq_true_iff, List.all_eq_true]
  refine and_congr_right fun _ => ⟨fun h x hx hne => ?_, fun h y hy => ?_⟩
  · exact of_decide_eq_true (h x (mem_oth.mpr ⟨hx, by rw [List.mem_singleton]; exact hne⟩))
  · obtain ⟨a, b⟩ := mem_oth.mp hy
    exact decide_eq_true (h y a fun z => b (by rw [z]; exact List.mem_cons_self))
theorem Pln.of {n : Nat} {T : List (Int × Int)} {st : List Int} {q : Int} (hq : inr n q) (h : plainB n T st q = true) : Pln n T q (gf st) := by
  obtain ⟨h1, h2⟩ := plainB_iff.mp h
  exact ⟨h2, _, qf_burn hq h1⟩
theorem Pln.congr {n : Nat} {T : List (Int × Int)} {q : Int} {f g : Int → Int} (h : Pln n T q f) (e : ∀ x, inr n x → f x = g x) : Pln n T q g := by
  refine ⟨fun x hx hne => by rw [← e x hx]; exact h.nodebt x hx hne, ?_⟩
  obtain ⟨ms, a, b, c⟩ := h.burn
  exact ⟨ms, a, b, fun j x hj hx => by rw [← e x (a.row.rng x (List.mem_of_getElem? hx))]; exact c j x hj hx⟩
theorem Pln.dle {n : Nat} {T : List (Int × Int)} (hn : 1 ≤ n) {q : Int} (hq : inr n q) {f d : Int → Int} (a : Pln n T q f) (b : ∀ x, inr n x → x ≠ q → 0 ≤ f x + lnd n T d x) (h0 : d q = 0) : ∀ x, inr n x → d x ≤ 0 := by
  obtain ⟨ms, ho, hm0, hb⟩ := a.burn
  obtain ⟨m, hm, hmax⟩ := argmax hn d
  refine Classical.byContradiction fun hno => ?_
  have hpos : 0 < d m := Classical.byContradiction fun z => hno fun x hx => by have := hmax x hx; omega
  obtain ⟨j, x, h1, h2, h3⟩ := first_in (S := fun x => d x = d m) ⟨m, ho.all hm, rfl⟩
  have hxr := ho.row.rng x (List.mem_of_getElem? h1)
  have hxq : x ≠ q := fun z => by rw [z, h0] at h2; omega
  have hj : 0 < j := by
    rcases Nat.eq_zero_or_pos j with z | z
    · rw [z, hm0] at h1; exact absurd (Option.some.inj h1).symm hxq
    · exact z
  have h4 := lend_max (T := T) (d := d) (x := x) (fun y hy => by rw [h2]; exact hmax y hy) (ho.row.take j) (fun y hy => by
    have a := hmax y (ho.row.rng y (List.mem_of_mem_take hy))
    have b := h3 y hy
    rw [h2]; omega)
  have h5 := hb j x hj h1
  have h6 := b x hxr hxq
  omega
/-- there is one plain form, and one script that leads there -/
theorem Pln.one {n : Nat} {T : List (Int × Int)} (hn : 1 ≤ n) {q : Int} (hq : inr n q) {f s s' : Int → Int} (a : Pln n T q fun x => f x + lnd n T s x) (b : Pln n T q fun x => f x + lnd n T s' x) (h0 : s q = s' q) : ∀ x, inr n x → s x = s' x := by
  intro x hx
  have h1 := a.dle hn hq (d := fun y => s' y - s y) (fun y hy hne => by rw [lnd_sub]; have := b.nodebt y hy hne; omega) (by rw [h0]; omega) x hx
  have h2 := b.dle hn hq (d := fun y => s y - s' y) (fun y hy hne => by rw [lnd_sub]; have := a.nodebt y hy hne; omega) (by rw [h0]; omega) x hx
  omega
/-! ### the script out of debt as a list -/
/-- the first script of all -/
def scr0 (n : Nat) (T : List (Int × Int)) (q : Int) (st : List Int) : List Int := (hs n).map (up q fun i => (sol n T q (fun i => gf st (sk q i) - tt' T (sk q i) (rst n q)) i).fdiv (dtl (tbA n T q)))
theorem Way.start {n : Nat} {T : List (Int × Int)} (hG : Good n T) (hN : ∀ t ∈ T, t.1 < t.2) {q : Int} (hq : inr n q) (st : List Int) : Way n T q st (scr0 n T q st) := by
  refine ⟨by unfold scr0; rw [List.length_map, hs_length], by unfold scr0; rw [gf_hs hq, up_q], fun x hx hne => ?_⟩
  have h := no_debt hG hN hq (gf st) (w := fun i => (sol n T q (fun i => gf st (sk q i) - tt' T (sk q i) (rst n q)) i).fdiv (dtl (tbA n T q))) (fun _ => rfl) x hx hne
  rw [lnd_congr hx (c := up q fun i => (sol n T q (fun i => gf st (sk q i) - tt' T (sk q i) (rst n q)) i).fdiv (dtl (tbA n T q))) fun y hy => by unfold scr0; exact gf_hs hy]
  exact h
/-! ### sizes -/
theorem sum_natAbs {α : Type} {f : α → Int} {B : Nat} : ∀ {l : List α}, (∀ x ∈ l, (f x).natAbs ≤ B) → ((l.map f).sum).natAbs ≤ l.length * B
  | [], _ => by simp
  | a :: l, h => by
    have h1 := sum_natAbs (f := f) (B := B) (l := l) fun x hx => h x (List.mem_cons_of_mem _ hx)
    have h2 := h a List.mem_cons_self
    rw [List.map_cons, List.sum_cons, List.length_cons, Nat.add_mul]
    have := Int.natAbs_add_le (f a) (l.map f).sum
    omega
theorem fdiv_natAbs {a d : Int} (h : 0 < d) : (a.fdiv d).natAbs ≤ a.natAbs := by
  have h1 := Int.mul_fdiv_add_fmod a d
  have h2 := Int.fmod_nonneg_of_pos a h
  have h3 := Int.fmod_lt_of_pos a h
  generalize a.fdiv d = k at h1
  generalize a.fmod d = r at h1 h2 h3
  rcases Int.lt_trichotomy k 0 with c | c | c
  · have e : d * k ≤ -d := by
      have := Int.mul_le_mul_of_nonneg_left (show k ≤ -1 by omega) (Int.le_of_lt h)
      omega
    have e2 : d * (k + 1) ≤ k + 1 := by
      have := Int.mul_le_mul_of_nonpos_right (show (1 : Int) ≤ d by omega) (show k + 1 ≤ 0 by omega)
      omega
    rw [Int.mul_add] at e2
    omega
  · omega
  · have : k ≤ d * k := by
      have := Int.mul_le_mul_of_nonneg_right (show (1 : Int) ≤ d by omega) (show 0 ≤ k by omega)
      omega
    omega
end Oh

namespace Oh
theorem tbA_bd {n : Nat} {T : List (Int × Int)} {q : Int} (h : T.length ≤ 16) : ∀ m ∈ tbA n T q, ∀ x ∈ m, x.natAbs ≤ 2 ^ 200 := fun m hm y hy => by
  obtain ⟨x, _, rfl⟩ := List.mem_map.mp hm
  obtain ⟨c, _, rfl⟩ := List.mem_map.mp hy
  have c1 : T.countP (hasE x) ≤ 16 := Nat.le_trans List.countP_le_length h
  have c2 : T.countP (btwB x c) ≤ 16 := Nat.le_trans List.countP_le_length h
  have big : 16 ≤ 2 ^ 200 := by decide
  unfold ent
  split <;> omega
theorem ajA_bd {n : Nat} {T : List (Int × Int)} {q : Int} (h : T.length ≤ 16) (n8 : n ≤ 8) {i k : Nat} (hi : i < n - 1) (hk : k < n - 1) : (((ajt (tbA n T q)).getD i []).getD k 0).natAbs ≤ 2 ^ 8024 := by
  rw [ajt_at (by rw [tbA_len]; exact hi) (by rw [tbA_len]; exact hk)]
  refine cof_big (b := 2 ^ 200) (Nat.pow_pos (by decide)) (Nat.pow_le_pow_right (by decide) (by decide)) (by rw [List.length_map, tbA_len]; omega) (by rw [List.length_range, tbA_len]; omega) fun a ha c hc => ?_
  obtain ⟨m, hm, rfl⟩ := List.mem_map.mp ha
  have hc' := List.mem_range.mp hc
  refine tbA_bd h m hm _ ?_
  unfold fnOf'
  rw [List.getD_eq_getElem?_getD, List.getElem?_eq_getElem (by rw [tbA_sq n T q m hm]; exact hc')]
  exact List.getElem_mem _
theorem sol_bd {n : Nat} {T : List (Int × Int)} {q : Int} (h : T.length ≤ 16) (n8 : n ≤ 8) {v : Nat → Int} (hv : ∀ k, k < n - 1 → (v k).natAbs ≤ 2 ^ 801) {i : Nat} (hi : i < n - 1) : (sol n T q v i).natAbs ≤ 2 ^ 8828 := by
  unfold sol
  have e := sum_natAbs (f := fun k => ((ajt (tbA n T q)).getD i []).getD k 0 * v k) (l := List.range (n - 1)) (B := 2 ^ 8024 * 2 ^ 801) fun k hk => by
    rw [Int.natAbs_mul]
    exact Nat.mul_le_mul (ajA_bd h n8 hi (List.mem_range.mp hk)) (hv k (List.mem_range.mp hk))
  refine Nat.le_trans e ?_
  rw [List.length_range, ← Nat.pow_add]
  have : n - 1 ≤ 2 ^ 3 := by omega
  refine Nat.le_trans (Nat.mul_le_mul_right _ this) ?_
  rw [← Nat.pow_add]
  exact Nat.pow_le_pow_right (by decide) (by decide)
theorem bt_le {T : List (Int × Int)} (h : T.length ≤ 16) (x y : Int) : bt T x y ≤ 16 := by
  unfold bt
  have : T.countP (fun u => decide (u = nrm (x, y))) ≤ 16 := Nat.le_trans List.countP_le_length h
  omega
theorem tt_bd {T : List (Int × Int)} (h : T.length ≤ 16) {ms : List Int} (hl : ms.length ≤ 8) (x : Int) : 0 ≤ tt' T x ms ∧ tt' T x ms ≤ 128 := by
  unfold tt'
  have h1 := (sum_nnG (f := bt T x) (l := ms) fun y _ => btNN T x y).1
  have h2 := sum_natAbs (f := bt T x) (l := ms) (B := 16) fun y _ => by have := bt_le h x y; have := btNN T x y; omega
  change (0 : Int) ≤ (ms.map (bt T x)).sum ∧ (ms.map (bt T x)).sum ≤ 128
  omega
theorem gf_bd {st : List Int} {B : Nat} (hb : ∀ x ∈ st, x.natAbs ≤ B) (x : Int) : (gf st x).natAbs ≤ B := by
  unfold gf
  rw [List.getD_eq_getElem?_getD]
  cases e : st[x.toNat]? with
  | none => show (0 : Int).natAbs ≤ B; omega
  | some y => exact hb y (List.mem_of_getElem? e)
theorem spare_bd {n : Nat} {T : List (Int × Int)} {q : Int} {st : List Int} (h : T.length ≤ 16) (n8 : n ≤ 8) (hb : ∀ x ∈ st, x.natAbs ≤ 2 ^ 800) (x : Int) : (gf st x - tt' T x (rst n q)).natAbs ≤ 2 ^ 801 := by
  have a := gf_bd hb x
  have b := tt_bd h (ms := rst n q) (by rw [rst_len]; omega) x
  have c : 2 ^ 801 = 2 ^ 800 + 2 ^ 800 := by rw [Nat.pow_succ]; omega
  have d : 128 ≤ 2 ^ 800 := Nat.le_trans (by decide : 128 ≤ 2 ^ 7) (Nat.pow_le_pow_right (by decide) (by decide))
  rw [c]
  generalize 2 ^ 800 = B at a d ⊢
  omega
theorem up_bd {q : Int} {n : Nat} {w : Nat → Int} {B : Nat} (hq : inr n q) (hw : ∀ i, i < n - 1 → (w i).natAbs ≤ B) {x : Int} (hx : inr n x) : (up q w x).natAbs ≤ B := by
  unfold up
  by_cases c : x = q
  · rw [if_pos c]; show (0 : Int).natAbs ≤ B; omega
  · rw [if_neg c]; exact hw _ (po_lt hx c hq)
theorem scr0_bd {n : Nat} {T : List (Int × Int)} (hG : Good n T) {q : Int} (hq : inr n q) {st : List Int} (h : T.length ≤ 16) (n8 : n ≤ 8) (hb : ∀ x ∈ st, x.natAbs ≤ 2 ^ 800) {x : Int} (hx : inr n x) : (gf (scr0 n T q st) x).natAbs ≤ 2 ^ 8828 := by
  unfold scr0
  rw [gf_hs hx]
  exact up_bd hq (fun i hi => Nat.le_trans (fdiv_natAbs (dA_pos hG hq)) (sol_bd h n8 (fun k hk => spare_bd h n8 hb _) hi)) hx
theorem bdW_bd {n : Nat} {T : List (Int × Int)} {q : Int} (hq : inr n q) {st : List Int} (h : T.length ≤ 16) (n8 : n ≤ 8) (hb : ∀ x ∈ st, x.natAbs ≤ 2 ^ 800) {x : Int} (hx : inr n x) : bdW n T q st x ≤ ((2 ^ 8828 : Nat) : Int) := by
  unfold bdW
  have := up_bd hq (w := sol n T q fun i => gf st (sk q i)) (B := 2 ^ 8828) (fun i hi => sol_bd h n8 (fun k hk => Nat.le_trans (gf_bd hb _) (Nat.pow_le_pow_right (by decide) (by decide))) hi) hx
  exact Int.ofNat_le.mpr this
/-- the told script's numbers are no greater than this -/
theorem Way.bd {n : Nat} {T : List (Int × Int)} (hG : Good n T) (hN : ∀ t ∈ T, t.1 < t.2) {q : Int} (hq : inr n q) {st sc : List Int} (h : T.length ≤ 16) (n8 : n ≤ 8) (hb : ∀ x ∈ st, x.natAbs ≤ 2 ^ 800) (hw : Way n T q st sc) (hge : ∀ x, inr n x → gf (scr0 n T q st) x ≤ gf sc x) : ∀ x, inr n x → (gf sc x).natAbs ≤ 2 ^ 8828 := by
  intro x hx
  have a := scr0_bd hG hq h n8 hb hx
  have b := bdW_bd hq h n8 hb hx
  have c := hw.le hG hN hq hx
  have d := hge x hx
  generalize 2 ^ 8828 = B at a b ⊢
  omega
end Oh

namespace Oh
/-! ### orders -/
theorem Ord.of {n : Nat} {o : List Int} (h : o.Perm (hs n)) : Ord n o :=
  ⟨⟨h.nodup_iff.mpr (hs_nodup n), fun x hx => mem_hs.mp (h.mem_iff.mp hx)⟩, by rw [h.length_eq, hs_length]⟩
theorem Ord.perm {n : Nat} {o : List Int} (h : Ord n o) : o.Perm (hs n) :=
  (List.perm_ext_iff_of_nodup h.row.nd (hs_nodup n)).mpr fun x => ⟨fun hx => mem_hs.mpr (h.row.rng x hx), fun hx => h.all (mem_hs.mp hx)⟩
end Oh

namespace Oh
open PySem PySem.Spec PyProof.Rows L2
def top (i : Nat) : Stmt := PySem.Challenge.pw_owinghall_k12_told_papers.main.body.getD i (.Pass ⟨0, 0, 0, 0⟩)
abbrev sPd : Stmt := top 1
abbrev sPs : Stmt := top 2
abbrev sFl : Stmt := top 3
abbrev sLo : Stmt := top 4
abbrev sNs : Stmt := top 12
abbrev sCn : Stmt := top 13
abbrev sLs : Stmt := top 14
abbrev sMa : Stmt := top 18
abbrev sNb : Stmt := top 19
abbrev sNt : Stmt := top 20
abbrev sIs : Stmt := top 21
abbrev sRe : Stmt := top 22
abbrev sNh : Stmt := top 23
abbrev sBe : Stmt := top 24
abbrev sDe : Stmt := top 25
abbrev sSm : Stmt := top 27
abbrev sTa : Stmt := top 28
abbrev sRa : Stmt := top 29
abbrev sDt : Stmt := top 30
abbrev sFf : Stmt := top 31
abbrev sRd : Stmt := top 32
abbrev sLk : Stmt := top 33
abbrev sAj : Stmt := top 34
abbrev sAr : Stmt := top 35
abbrev sCf : Stmt := top 36
abbrev sKi : Stmt := top 38
abbrev sAl : Stmt := top 39
abbrev sCe : Stmt := top 41
abbrev sMi : Stmt := top 42
abbrev sTi : Stmt := top 43
abbrev sSz : Stmt := top 44
abbrev sWh : Stmt := top 45
abbrev sNu : Stmt := top 46
abbrev sLt : Stmt := top 47
abbrev sBg : Stmt := top 48
abbrev sSt : Stmt := top 49
abbrev sWe : Stmt := top 50
abbrev sRf : Stmt := top 51
abbrev sSa : Stmt := top 52
abbrev sLw : Stmt := top 53
structure Blt (mg : Str → Option Value) : Prop where
  len : mg "len" = none
  range : mg "range" = none
  list : mg "list" = none
  tuple : mg "tuple" = none
  sorted : mg "sorted" = none
  min : mg "min" = none
  max : mg "max" = none
  sum : mg "sum" = none
  isinst : mg "isinstance" = none
  int : mg "int" = none
  bool : mg "bool" = none
section
variable {P : Program} {w : World} {K : PySem.W.Frag} {mg : Str → Option Value} {base : Heap}
theorem scIs : FnScope ["houses", "number"] ["houses", "number"] (defScope sIs) := ⟨rfl, rfl, rfl, by decide +kernel, rfl, by decide +kernel, by decide +kernel⟩
def spIs : Sp := fun vs H Q _ => ∃ h x : Int, vs = [.int h, .int x] ∧ Q (.bl (decide (0 ≤ x) && decide (x < h))) H
theorem ok_is {f : Addr} {fd : FuncData} (F : Fun K "is_house" "is_house" sIs f fd) : FnOk P w K mg base CX0 1 f fd ["houses", "number"] spIs := by
  refine F.ok scIs (fun vs H Q E h => ?_) (fun cdv A outer s H vs Q E hr h => ?_)
  · obtain ⟨h', x, rfl, _⟩ := h; rfl
  obtain ⟨h', x, rfl, q⟩ := h
  refine ⟨_, pss_one (ps_ret (pe_chain op_le op_lt pe_int (pv 1) (pv 0))), ?_⟩
  refine ⟨_, rfl, _, _, rfl, rfl, _, rfl, ?_⟩
  refine ite2 (fun c => ?_) (fun c => ?_)
  · refine ⟨_, rfl, _, _, rfl, rfl, ?_⟩
    have c' : decide (0 ≤ x) = true := c
    rw [c', Bool.true_and] at q
    exact q
  · have c' : decide (0 ≤ x) = false := Bool.eq_false_iff.mpr c
    rw [c', Bool.false_and] at q
    exact q

theorem scNb : FnScope ["houses", "ties"] ["houses", "ties"] (defScope sNb) := ⟨rfl, rfl, rfl, by decide +kernel, rfl, by decide +kernel, by decide +kernel⟩
def spNb (K : PySem.W.Frag) : Sp := fun vs H Q _ => ∃ (h : Int) (a : Addr) (ys : List V), vs = [.int h, .ref a] ∧ SqL K H a ys ∧ 1 ≤ h ∧ h ≤ 8 ∧ ys.length ≤ 16 ∧ Q .non H
theorem ok_nb {f : Addr} {fd : FuncData} {t8 t16 : Tok} (F : Fun K "need_bounds" "need_bounds" sNb f fd) (B : Blt mg) (m8 : mg "MOST_HOUSES" = some (.int 8 t8)) (m16 : mg "MOST_TIES" = some (.int 16 t16)) :
    FnOk P w K mg base CX0 1 f fd ["houses", "ties"] (spNb K) := by
  refine F.ok scNb (fun vs H Q E h => ?_) (fun cdv A outer s H vs Q E hr h => ?_)
  · obtain ⟨h', a, ys, rfl, _⟩ := h; rfl
  obtain ⟨h', a, ys, rfl, hS, h1, h8, h16, q⟩ := h
  refine ⟨_, pss_cons (ps_if (PW.pt (pw_or (pt_cmpR op_lt (pv 0) pe_int (nomark _)) (pw_or1 (pt_cmpR op_gt (pv 0) (pe_glob (v := .int 8) rfl m8 ⟨_, rfl⟩) (nomark _))))) pss_never pss_nil)
    (pss_one (ps_if (pt_cmpR op_gt (pe_callB call_len_seq rfl B.len PySem.boot_len (pa_cons (pv 1) pa_nil)) (pe_glob (v := .int 16) rfl m16 ⟨_, rfl⟩) (nomark _)) pss_never pss_nil)), ?_⟩
  refine ⟨_, rfl, _, _, rfl, rfl, _, rfl, ?_⟩
  refine iteD (by omega) ?_
  refine ⟨_, rfl, _, _, rfl, rfl, _, rfl, ?_⟩
  refine iteD (by omega) ?_
  refine ⟨_, rfl, a, _, rfl, .inl hS, _, _, rfl, rfl, _, rfl, ?_⟩
  refine iteD (by omega) ?_
  exact q

theorem scNt : FnScope ["houses", "tie"] ["houses", "tie"] (defScope sNt) := ⟨rfl, rfl, rfl, by decide +kernel, rfl, by decide +kernel, by decide +kernel⟩
def spNt : Sp := fun vs H Q _ => ∃ (h : Int) (t : Int × Int) (v : V), vs = [.int h, v] ∧ isPair H v t ∧ inb h t ∧ Q .non H
theorem ok_nt {f : Addr} {fd : FuncData} (F : Fun K "need_tie" "need_tie" sNt f fd) (cIs : Cal P w K mg base 1 "is_house" ["houses", "number"] spIs) : FnOk P w K mg base CX0 2 f fd ["houses", "tie"] spNt := by
  refine F.ok scNt (fun vs H Q E h => ?_) (fun cdv A outer s H vs Q E hr h => ?_)
  · obtain ⟨h', t, v, rfl, _⟩ := h; rfl
  obtain ⟨h', t, v, rfl, ⟨r, rfl, hp⟩, ⟨a0, a1, b0, b1, ne⟩, q⟩ := h
  refine ⟨_, pss_cons (ps_if (PW.pt (pw_or (pt_not (pt_val (pe_cal cIs hr rfl (pa_cons (pv 0) (pa_cons (pe_ix ix_tup (pv 1) pe_int (fun _ _ => rfl)) pa_nil)))))
      (pw_or1 (pt_not (pt_val (pe_cal cIs hr rfl (pa_cons (pv 0) (pa_cons (pe_ix ix_tup (pv 1) pe_int (fun _ _ => rfl)) pa_nil)))))))) pss_never pss_nil)
    (pss_one (ps_if (pt_cmpR op_eq (pe_ix ix_tup (pv 1) pe_int (fun _ _ => rfl)) (pe_ix ix_tup (pv 1) pe_int (fun _ _ => rfl)) (nomark _)) pss_never pss_nil)), ?_⟩
  refine ⟨_, rfl, _, rfl, r, _, _, _, rfl, rfl, SqT.of hp, rfl, _, _, rfl, _, rfl, ?_⟩
  refine iteB (by rw [decide_eq_true a0, decide_eq_true a1]; rfl) ?_
  refine ⟨_, rfl, _, rfl, r, _, _, _, rfl, rfl, SqT.of hp, rfl, _, _, rfl, _, rfl, ?_⟩
  refine iteB (by rw [decide_eq_true b0, decide_eq_true b1]; rfl) ?_
  refine ⟨_, rfl, r, _, _, _, rfl, rfl, SqT.of hp, rfl, _, rfl, r, _, _, _, rfl, rfl, SqT.of hp, rfl, rfl, _, rfl, ?_⟩
  refine iteD (fun z => ne (V.int.inj z)) ?_
  exact q

theorem scRe : FnScope ["ties", "met", "grown", "one", "other"] ["ties"] (defScope sRe) := ⟨rfl, rfl, rfl, by decide +kernel, rfl, by decide +kernel, by decide +kernel⟩
/-- what is come to: from nought on, each once, all of it come to, and nothing goes out of it -/
structure Met (n : Nat) (T : List (Int × Int)) (met : List Int) : Prop where
  zero : (0 : Int) ∈ met
  nd : met.Nodup
  rng : ∀ x ∈ met, 0 ≤ x ∧ x < (n : Int)
  come : ∀ S : Int → Prop, S 0 → (∀ t ∈ T, S t.1 ↔ S t.2) → ∀ x ∈ met, S x
def spRe (K : PySem.W.Frag) : Sp := fun vs H Q _ => ∃ (a : Addr) (zs : List V) (T : List (Int × Int)) (n : Nat), vs = [.ref a] ∧ SqT K H a zs ∧ Pairs H zs T ∧ (∀ t ∈ T, inb n t) ∧ 1 ≤ n ∧ n ≤ 8 ∧
  ∀ (r : Addr) (met : List Int) (H' : Hp), Same H H' → H' r = some (.lst (met.map V.int)) → Met n T met → (∀ t ∈ T, (t.1 ∈ met ↔ t.2 ∈ met)) → Q (.ref r) H'
theorem Met.le {n : Nat} {T : List (Int × Int)} {met : List Int} (m : Met n T met) : met.length ≤ n := by
  have := nodup_le m.nd (m := hs n) fun x hx => mem_hs.mpr (m.rng x hx)
  rwa [hs_length] at this
theorem Met.more {n : Nat} {T : List (Int × Int)} {met : List Int} (m : Met n T met) {t : Int × Int} (ht : t ∈ T) (hb : inb n t) {x y : Int} (hxy : (x = t.1 ∧ y = t.2) ∨ (x = t.2 ∧ y = t.1)) (hx : x ∈ met) (hy : y ∉ met) : Met n T (met ++ [y]) where
  zero := List.mem_append_left _ m.zero
  nd := by
    rw [List.nodup_append]
    refine ⟨m.nd, by simp, fun a ha b hb' => ?_⟩
    have e : b = y := by simpa using hb'
    intro z
    exact hy (by rw [← e, ← z]; exact ha)
  rng := fun z hz => by
    obtain ⟨a0, a1, b0, b1, _⟩ := hb
    rcases List.mem_append.mp hz with q | q
    · exact m.rng z q
    · have e : z = y := by simpa using q
      subst e
      rcases hxy with ⟨_, e⟩ | ⟨_, e⟩ <;> rw [e]
      · exact ⟨b0, b1⟩
      · exact ⟨a0, a1⟩
  come := fun S s0 cl z hz => by
    rcases List.mem_append.mp hz with q | q
    · exact m.come S s0 cl z q
    · have e : z = y := by simpa using q
      subst e
      have sx := m.come S s0 cl x hx
      rcases hxy with ⟨e1, e2⟩ | ⟨e1, e2⟩ <;> rw [e2] <;> rw [e1] at sx
      · exact (cl t ht).mp sx
      · exact (cl t ht).mpr sx
theorem ok_re {f : Addr} {fd : FuncData} (F : Fun K "reached" "reached" sRe f fd) : FnOk P w K mg base CX0 1 f fd ["ties"] (spRe K) := by
  refine F.ok scRe (fun vs H Q E h => ?_) (fun cdv A outer s H vs Q E hr h => ?_)
  · obtain ⟨a, zs, T, n, rfl, _⟩ := h; rfl
  obtain ⟨a, zs, T, n, rfl, hS, hP, hT, n1, n8, q⟩ := h
  refine ⟨_, pss_cons (ps_set (i := 1) scRe.nd rfl (Or.inl rfl) (pe_lst (pa_cons pe_int pa_nil))) (pss_cons (ps_set (i := 2) scRe.nd rfl (Or.inl rfl) pe_bl)
    (pss_cons (ps_while PassesOwn.never (pt_val (pv 2)) (pss_cons (ps_set (i := 2) scRe.nd rfl (Or.inl rfl) pe_bl)
      (pss_one (ps_for PassesOwn.never rfl (pi_tup (pv 0)) (pg_tup rfl (pgs_cons (pg_name (i := 3) scRe.nd rfl (Or.inl rfl)) (pgs_cons (pg_name (i := 4) scRe.nd rfl (Or.inl rfl)) pgs_nil)))
        (pss_one (ps_if (pt_cmpR op_ne (pe_cmpR op_in_seq (pv 3) (pv 1) rfl) (pe_cmpR op_in_seq (pv 4) (pv 1) rfl) (nomark _))
          (pss_cons (ps_expr (pe_bm PySem.F.plainAttrs_list PySem.F.slot_list_append PySem.F.type_list_append mt_append (pv 1) (pa_cons (pe_ifExp (pt_cmpR op_in_seq (pv 3) (pv 1) rfl) (pv 4) (pv 3)) pa_nil)))
            (pss_one (ps_set (i := 2) scRe.nd rfl (Or.inl rfl) pe_bl))) pss_nil))))))
      (pss_one (ps_ret (pv 1))))), ?_⟩
  refine ⟨by show 1 ≤ sizeLine; decide, fun pm hpm => ?_⟩
  have m0 : Met n T [0] := ⟨List.mem_cons_self, by simp, fun x hx => by
    have e : x = 0 := by simpa using hx
    subst e; omega, fun S s0 _ x hx => by
    have e : x = 0 := by simpa using hx
    rw [e]; exact s0⟩
  refine ⟨fun m σ H' => ∃ (g : Bool) (met : List Int) (o3 o4 : Option V), σ = [some (.ref a), some (.ref pm), some (.bl g), o3, o4] ∧ Same H H' ∧ H' pm = some (.lst (met.map V.int)) ∧ Met n T met ∧ (g = false → ∀ t ∈ T, (t.1 ∈ met ↔ t.2 ∈ met)) ∧
    m = (if g = true then 1 + (9 - met.length) else 0), ⟨_, true, [0], none, none, rfl, same_new hpm _, upd_same, m0, (fun z => by cases z), rfl⟩, ?_⟩
  rintro m σ H1 ⟨g, met, o3, o4, rfl, e1, hm, hM, hcl, rfl⟩
  refine ⟨_, rfl, _, rfl, ?_⟩
  have hle := hM.le
  refine ite2B (fun gt => ?_) (fun gf => ?_)
  · subst gt
    refine ⟨fun σ' H' => ∃ (g : Bool) (met' : List Int) (o3 o4 : Option V), σ' = [some (.ref a), some (.ref pm), some (.bl g), o3, o4] ∧ Same H H' ∧ H' pm = some (.lst (met'.map V.int)) ∧ Met n T met' ∧ (g = false → ∀ t ∈ T, (t.1 ∈ met' ↔ t.2 ∈ met')) ∧
      (g = true → met.length < met'.length), ?_, ?_⟩
    · rintro σ' H' ⟨g, met', o3, o4, rfl, a1, a2, a3, a4, a5⟩
      refine ⟨_, ?_, g, met', o3, o4, rfl, a1, a2, a3, a4, rfl⟩
      have hle' := a3.le
      cases g
      · rw [if_neg (by simp), if_pos rfl]; omega
      · have := a5 rfl
        rw [if_pos rfl, if_pos rfl]; omega
    refine ⟨_, rfl, a, rfl, ⟨zs, SqT_same e1 hS⟩, ?_⟩
    refine for_tup (xs := zs) (fun i σ H' => ∃ (g : Bool) (met' : List Int) (o3 o4 : Option V), σ = [some (.ref a), some (.ref pm), some (.bl g), o3, o4] ∧ Same H H' ∧ H' pm = some (.lst (met'.map V.int)) ∧ Met n T met' ∧
      (g = false → met' = met ∧ ∀ t ∈ T.take i, (t.1 ∈ met ↔ t.2 ∈ met)) ∧ (g = true → met.length < met'.length)) ?_ ?_ ?_ ?_
    · exact ⟨false, met, o3, o4, rfl, e1, hm, hM, (fun _ => ⟨rfl, fun t ht => nomatch ht⟩), fun z => by cases z⟩
    · rintro i σ H' _ ⟨g, met', o3, o4, rfl, a1, _⟩
      exact SqT_same a1 hS
    · rintro i x σ H' hx ⟨g, met', p3, p4, rfl, a1, a2, a3, a4, a5⟩
      obtain ⟨t, ht, r, rfl, hr'⟩ := (hP.same a1).get hx
      have htm : t ∈ T := List.mem_of_getElem? ht
      refine ⟨r, _, rfl, SqT.of hr', rfl, _, _, rfl, _, _, rfl, rfl, ?_⟩
      refine ⟨_, rfl, _, rfl, pm, _, rfl, .inl (SqL.of a2), rfl, flat_ints _, _, rfl, _, rfl, pm, _, rfl, .inl (SqL.of a2), rfl, flat_ints _, rfl, _, rfl, ?_⟩
      show if (!decide (V.bl (inV (.int t.1) (met'.map V.int)) = V.bl (inV (.int t.2) (met'.map V.int)))) = true then _ else _
      rw [inV_int, inV_int]
      have hle' := a3.le
      have add : ∀ {y x : Int}, ((x = t.1 ∧ y = t.2) ∨ (x = t.2 ∧ y = t.1)) → x ∈ met' → y ∉ met' → ∃ (g : Bool) (met'' : List Int) (o3 o4 : Option V), [some (.ref a), some (.ref pm), some (.bl true), some (.int t.1), some (.int t.2)] = [some (.ref a), some (.ref pm), some (.bl g), o3, o4] ∧
          Same H (upd H' pm (.lst (met'.map V.int ++ [.int y]))) ∧ upd H' pm (.lst (met'.map V.int ++ [.int y])) pm = some (.lst (met''.map V.int)) ∧ Met n T met'' ∧ (g = false → met'' = met ∧ ∀ t ∈ T.take (i + 1), (t.1 ∈ met ↔ t.2 ∈ met)) ∧ (g = true → met.length < met''.length) := by
        intro y x hxy hx hy
        refine ⟨true, met' ++ [y], _, _, rfl, same_upd hpm a1 _, ?_, a3.more htm (hT t htm) hxy hx hy, (fun z => by cases z), fun _ => ?_⟩
        · rw [upd_same, List.map_append]; rfl
        · rw [List.length_append, List.length_singleton]
          cases g
          · have := (a4 rfl).1; rw [this]; omega
          · have := a5 rfl; omega
      by_cases c1 : t.1 ∈ met'
      · rw [decide_eq_true c1]
        by_cases c2 : t.2 ∈ met'
        · rw [decide_eq_true c2]
          refine iteB rfl ?_
          refine ⟨g, met', _, _, rfl, a1, a2, a3, fun z => ?_, a5⟩
          obtain ⟨b1, b2⟩ := a4 z
          refine ⟨b1, fun u hu => ?_⟩
          rw [take_one ht] at hu
          rcases List.mem_append.mp hu with hu | hu
          · exact b2 u hu
          · have e : u = t := by simpa using hu
            rw [e, ← b1]
            exact ⟨fun _ => c2, fun _ => c1⟩
        · rw [decide_eq_false c2]
          refine iteBT rfl ?_
          refine ⟨_, rfl, .inl ⟨rfl, _, SqL.of a2⟩, _, rfl, _, rfl, pm, _, rfl, .inl (SqL.of a2), rfl, flat_ints _, _, rfl, ?_⟩
          show if inV (.int t.1) (met'.map V.int) = true then _ else _
          rw [inV_int]
          refine iteDT c1 ?_
          refine ⟨_, rfl, pm, _, _, rfl, rfl, a2, by rw [List.length_map]; exact small1000 (by omega), ?_⟩
          exact add (.inl ⟨rfl, rfl⟩) c1 c2
      · rw [decide_eq_false c1]
        by_cases c2 : t.2 ∈ met'
        · rw [decide_eq_true c2]
          refine iteBT rfl ?_
          refine ⟨_, rfl, .inl ⟨rfl, _, SqL.of a2⟩, _, rfl, _, rfl, pm, _, rfl, .inl (SqL.of a2), rfl, flat_ints _, _, rfl, ?_⟩
          show if inV (.int t.1) (met'.map V.int) = true then _ else _
          rw [inV_int]
          refine iteD c1 ?_
          refine ⟨_, rfl, pm, _, _, rfl, rfl, a2, by rw [List.length_map]; exact small1000 (by omega), ?_⟩
          exact add (.inr ⟨rfl, rfl⟩) c2 c1
        · rw [decide_eq_false c2]
          refine iteB rfl ?_
          refine ⟨g, met', _, _, rfl, a1, a2, a3, fun z => ?_, a5⟩
          obtain ⟨b1, b2⟩ := a4 z
          refine ⟨b1, fun u hu => ?_⟩
          rw [take_one ht] at hu
          rcases List.mem_append.mp hu with hu | hu
          · exact b2 u hu
          · have e : u = t := by simpa using hu
            rw [e, ← b1]
            exact ⟨fun z => absurd z c1, fun z => absurd z c2⟩
    · rintro σ H' ⟨g, met', p3, p4, rfl, a1, a2, a3, a4, a5⟩
      refine ⟨g, met', p3, p4, rfl, a1, a2, a3, fun z => ?_, a5⟩
      obtain ⟨b1, b2⟩ := a4 z
      rw [hP.length, List.take_length] at b2
      rw [b1]; exact b2
  · subst gf
    refine ⟨_, rfl, ?_⟩
    exact q pm met H1 e1 hm hM (hcl rfl)

theorem scCe : FnScope ["script", "k"] ["script", "k"] (defScope sCe) := ⟨rfl, rfl, rfl, by decide +kernel, rfl, by decide +kernel, by decide +kernel⟩
def spCe (K : PySem.W.Frag) : Sp := fun vs H Q _ => ∃ (a : Addr) (ns : List Int) (k : Int), vs = [.ref a, .int k] ∧ SqL K H a (ns.map V.int) ∧ 0 ≤ k ∧ Q (.int (ns.getD k.toNat 0)) H
theorem ok_ce {f : Addr} {fd : FuncData} (F : Fun K "_law_cell_at" "_law_cell_at" sCe f fd) (B : Blt mg) : FnOk P w K mg base CX0 1 f fd ["script", "k"] (spCe K) := by
  refine F.ok scCe (fun vs H Q E h => ?_) (fun cdv A outer s H vs Q E hr h => ?_)
  · obtain ⟨a, ns, k, rfl, _⟩ := h; rfl
  obtain ⟨a, ns, k, rfl, hS, h0, q⟩ := h
  refine ⟨_, pss_cons (ps_if (pt_cmpR op_lt (pv 1) (pe_callB call_len_seq rfl B.len PySem.boot_len (pa_cons (pv 0) pa_nil)) (nomark _)) (pss_one (ps_ret (pe_ix ix_list (pv 0) (pv 1) (fun _ _ => rfl)))) pss_nil) (pss_one (ps_ret pe_int)), ?_⟩
  refine ⟨_, rfl, _, rfl, a, _, rfl, .inl hS, _, _, rfl, rfl, _, rfl, ?_⟩
  refine ite2 (fun c => ?_) (fun c => ?_)
  · have c' : k < (((ns.map V.int).length : Nat) : Int) := of_decide_eq_true c
    rw [List.length_map] at c'
    exact ⟨_, rfl, _, rfl, a, _, _, _, rfl, rfl, hS, atI_ints h0 c', q⟩
  · have c' : ¬ k < (((ns.map V.int).length : Nat) : Int) := of_decide_eq_false (Bool.eq_false_iff.mpr c)
    rw [List.length_map] at c'
    have e : ns.getD k.toNat 0 = 0 := by rw [List.getD_eq_getElem?_getD, List.getElem?_eq_none (by omega)]; rfl
    rw [e] at q
    exact q

theorem scMa : FnScope ["houses", "ties", "tie", "told"] ["houses", "ties"] (defScope sMa) := ⟨rfl, rfl, rfl, by decide +kernel, rfl, by decide +kernel, by decide +kernel⟩
theorem nd1 {x : Str} : [x].Nodup := by simp
def spMa (K : PySem.W.Frag) : Sp := fun vs H Q _ => ∃ (n : Nat) (a : Addr) (ys : List V) (T : List (Int × Int)), vs = [.int n, .ref a] ∧ SqL K H a ys ∧ Pairs H ys T ∧ Good n T ∧ 1 ≤ n ∧ n ≤ 8 ∧
  ∀ (r p : Addr) (ob : Obj) (zs : List V) (T' : List (Int × Int)) (H' : Hp), Same H H' → H' r = some (.tup [.int n, .ref p]) → H' p = some (.frz ob (.tup zs)) → ob.dict = none → Pairs H' zs T' → T'.Perm (T.map nrm) → (T'.map code).Pairwise (· ≤ ·) → Q (.ref r) H'
theorem ok_ma {f : Addr} {fd : FuncData} (F : Fun K "made" "made" sMa f fd) (B : Blt mg) (cNb : Cal P w K mg base 2 "need_bounds" ["houses", "ties"] (spNb K)) (cNt : Cal P w K mg base 2 "need_tie" ["houses", "tie"] spNt)
    (cRe : Cal P w K mg base 2 "reached" ["ties"] (spRe K)) : FnOk P w K mg base CX0 3 f fd ["houses", "ties"] (spMa K) := by
  refine F.ok scMa (fun vs H Q E h => ?_) (fun cdv A outer s H vs Q E hr h => ?_)
  · obtain ⟨n, a, ys, T, rfl, _⟩ := h; rfl
  obtain ⟨n, a, ys, T, rfl, hS, hP, hG, n1, n8, q⟩ := h
  have hl := hP.length
  have hG16 := hG.len
  refine ⟨_, pss_cons (ps_expr (pe_cal cNb hr rfl (pa_cons (pv 0) (pa_cons (pv 1) pa_nil))))
    (pss_cons (ps_for PassesOwn.never rfl (pi_list (pv 1)) (pg_name (i := 2) scMa.nd rfl (Or.inl rfl)) (pss_one (ps_expr (pe_cal cNt hr rfl (pa_cons (pv 0) (pa_cons (pv 2) pa_nil))))))
    (pss_cons (ps_set (i := 3) scMa.nd rfl (Or.inl rfl) (pe_callTy call_tuple_frz rfl B.tuple PyProof.Rows.boot_tuple (pa_cons (pe_callB call_sorted rfl B.sorted PyProof.Rows.boot_sorted (pa_cons
        (pe_comp (N' := ["tie"]) (mp := [none]) (g := gName 0) (tt := tYes) (te := tTup (tCons (tCB (rMinT K) (tCons (tVar 0) tNil)) (tCons (tCB (rMaxT K) (tCons (tVar 0) tNil)) tNil))) (CompOk.of (by kernel_rfl)) rfl (pi_list (pv 1)) (fun C s H fp => pg_name (i := 0) nd1 rfl (Or.inl rfl)) (fun C s H fp => pts_nil)
          (fun C s H fp => pe_tup (pa_cons (pe_callB (call_min_tup rfl) rfl B.min PyProof.Rows.boot_min (pa_cons (pv 0) pa_nil)) (pa_cons (pe_callB (call_max_tup rfl) rfl B.max PyProof.Rows.boot_max (pa_cons (pv 0) pa_nil)) pa_nil)))) pa_nil)) pa_nil)))
    (pss_cons (ps_if (pt_cmpR op_lt (pe_callB call_len_seq rfl B.len PySem.boot_len (pa_cons (pe_cal cRe hr rfl (pa_cons (pv 3) pa_nil)) pa_nil)) (pv 0) (nomark _)) pss_never pss_nil)
    (pss_one (ps_ret (pe_tup (pa_cons (pv 0) (pa_cons (pv 3) pa_nil)))))))), ?_⟩
  refine ⟨_, rfl, _, rfl, _, _, _, rfl, hS, by omega, by omega, by omega, ?_⟩
  refine ⟨_, rfl, a, rfl, ⟨ys, hS⟩, ?_⟩
  refine for_list (xs := ys) (fun i σ H' => H' = H ∧ ∃ o2, σ = [some (.int n), some (.ref a), o2, none]) ⟨rfl, _, rfl⟩ (fun i σ H' _ ⟨e, _⟩ => e ▸ hS) ?_ ?_
  · rintro i x σ H' hx ⟨rfl, o2, rfl⟩
    obtain ⟨t, ht, hp⟩ := hP.get hx
    refine ⟨_, rfl, _, rfl, _, t, _, rfl, hp, hG.rng t (List.mem_of_getElem? ht), ?_⟩
    exact ⟨rfl, _, rfl⟩
  rintro σ H' ⟨rfl, o2, rfl⟩
  refine ⟨_, rfl, a, rfl, ⟨ys, hS⟩, ?_⟩
  refine comp_list (xs := ys) (fun i σ H1 acc => Same H' H1 ∧ (∃ o, σ = [o]) ∧ Pairs H1 acc ((T.take i).map nrm)) ⟨Same.refl _, ⟨_, rfl⟩, .nil⟩ ?_ (Nat.le_of_lt (small1000 (by omega))) ?_ ?_
  · rintro i σ H1 acc hi ⟨e1, _, p1⟩
    refine ⟨e1.seq hS, ?_⟩
    have := p1.length
    rw [List.length_map, List.length_take] at this
    omega
  · rintro i x σ H1 acc hx ⟨e1, ⟨o, rfl⟩, p1⟩
    obtain ⟨t, ht, r, rfl, hp⟩ := (hP.same e1).get hx
    refine ⟨_, rfl, r, _, _, rfl, SqT.of hp, _, rfl, r, _, _, rfl, SqT.of hp, by show 2 ≤ sizeLine; decide, fun p hn => ?_⟩
    refine ⟨e1.trans (same_new hn _), ⟨_, rfl⟩, ?_⟩
    rw [take_one ht, List.map_append]
    exact (p1.same (same_new hn _)).append (Pairs.one ⟨p, rfl, upd_same⟩)
  rintro σ H1 acc ⟨e1, _, p1⟩ pc hpc
  rw [hl, List.take_length] at p1
  have e2 : Same H' (upd H1 pc (.lst acc)) := e1.trans (same_new hpc _)
  have p2 : Pairs (upd H1 pc (.lst acc)) acc (T.map nrm) := p1.same (same_new hpc _)
  have hla := p2.length
  rw [List.length_map] at hla
  refine ⟨pc, acc, T.map nrm, rfl, SqL.of upd_same, p2, ?_, by omega, fun is l his hso hln => ?_⟩
  · intro t ht
    obtain ⟨u, hu, rfl⟩ := List.mem_map.mp ht
    obtain ⟨_, _, c, d, _⟩ := inb_nrm (hG.rng u hu)
    exact ⟨c, by omega⟩
  have e3 := e2.trans (same_new hln (.lst (is.map fun i => acc.getD i .non)))
  have p3 : Pairs (upd (upd H1 pc (.lst acc)) l (.lst (is.map fun i => acc.getD i .non))) (is.map fun i => acc.getD i .non) (is.map fun i => (T.map nrm).getD i (0, 0)) :=
    (p2.same (same_new hln _)).pick is fun i hi => List.mem_range.mp (his.mem_iff.mp hi)
  refine ⟨l, _, rfl, SqL.of upd_same, fun l2 ob hl2 hob => ?_⟩
  have e4 := e3.trans (same_new hl2 (.frz ob (.tup (is.map fun i => acc.getD i .non))))
  have p4 := p3.same (same_new hl2 (.frz ob (.tup (is.map fun i => acc.getD i .non))))
  have hperm : (is.map fun i => (T.map nrm).getD i (0, 0)).Perm (T.map nrm) := pick_perm _ (by rw [List.length_map, ← hla]; exact his)
  have hG' := good_nrm hG hperm
  refine ⟨_, rfl, l2, _, _, n, rfl, .inl (.inr ⟨ob, upd_same⟩), p4, hG'.rng, n1, n8, fun r met H5 e5 hr5 hM hcl => ?_⟩
  refine ⟨r, _, rfl, .inl (SqL.of hr5), _, rfl, _, _, rfl, rfl, _, rfl, ?_⟩
  have hall := all_met hG' hM.zero n1 hcl
  refine iteD (by rw [List.length_map]; omega) ?_
  refine ⟨_, rfl, _, rfl, by show 2 ≤ sizeLine; decide, fun rr hrr => ?_⟩
  have e6 := same_new hrr (.tup [.int n, .ref l2])
  refine q rr l2 ob _ _ _ ((e4.trans e5).trans e6) upd_same (e6 _ _ (e5 _ _ upd_same)) hob ((p4.same e5).same e6) hperm ?_
  rw [List.map_map]
  exact hso
theorem inV2 {h x y : Int} : inV (.int h) [.int x, .int y] = decide (h = x ∨ h = y) := by
  have := inV_int (x := h) (ms := [x, y])
  rw [List.map_cons, List.map_cons, List.map_nil] at this
  rw [this]
  simp
structure WebF (H : Hp) (wv : Addr) (n : Nat) (T : List (Int × Int)) : Prop where
  ex : ∃ (p : Addr) (ob : Obj) (zs : List V), H wv = some (.tup [.int n, .ref p]) ∧ H p = some (.frz ob (.tup zs)) ∧ ob.dict = none ∧ Pairs H zs T
  len : T.length ≤ 16
theorem WebF.same {H H' : Hp} {wv : Addr} {n : Nat} {T : List (Int × Int)} (h : WebF H wv n T) (e : Same H H') : WebF H' wv n T := by
  obtain ⟨p, ob, zs, a, b, c, d⟩ := h.ex
  exact ⟨⟨p, ob, zs, e _ _ a, e _ _ b, c, d.same e⟩, h.len⟩
theorem WebF.top {H : Hp} {wv : Addr} {n : Nat} {T : List (Int × Int)} (h : WebF H wv n T) : ∃ vp, H wv = some (.tup [.int n, vp]) := by
  obtain ⟨p, ob, zs, a, _⟩ := h.ex
  exact ⟨_, a⟩
theorem scNh : FnScope ["web", "house"] ["web", "house"] (defScope sNh) := ⟨rfl, rfl, rfl, by decide +kernel, rfl, by decide +kernel, by decide +kernel⟩

def spNh : Sp := fun vs H Q _ => ∃ (wv : Addr) (n : Nat) (vp : V) (x : Int), vs = [.ref wv, .int x] ∧ H wv = some (.tup [.int n, vp]) ∧ inr n x ∧ Q .non H
theorem ok_nh {f : Addr} {fd : FuncData} (F : Fun K "need_house" "need_house" sNh f fd) (cIs : Cal P w K mg base 1 "is_house" ["houses", "number"] spIs) : FnOk P w K mg base CX0 2 f fd ["web", "house"] spNh := by
  refine F.ok scNh (fun vs H Q E h => ?_) (fun cdv A outer s H vs Q E hr h => ?_)
  · obtain ⟨wv, n, vp, x, rfl, _⟩ := h; rfl
  obtain ⟨wv, n, vp, x, rfl, hw, c1, q⟩ := h
  refine ⟨_, (pss_one (ps_if (pt_not (pt_val (pe_cal cIs hr rfl (pa_cons (pe_ix ix_tup (pv 0) pe_int (fun _ _ => rfl)) (pa_cons (pv 1) pa_nil))))) pss_never pss_nil)), ?_⟩
  refine ⟨_, rfl, wv, _, _, _, rfl, rfl, SqT.of hw, rfl, _, rfl, _, _, rfl, _, rfl, ?_⟩
  refine iteB (by rw [decide_eq_true c1.1, decide_eq_true c1.2]; rfl) ?_
  exact q
theorem scBe : FnScope ["web", "one", "other"] ["web", "one", "other"] (defScope sBe) := ⟨rfl, rfl, rfl, by decide +kernel, rfl, by decide +kernel, by decide +kernel⟩

def spBe : Sp := fun vs H Q _ => ∃ (wv : Addr) (n : Nat) (T : List (Int × Int)) (x y : Int), vs = [.ref wv, .int x, .int y] ∧ WebF H wv n T ∧ inr n x ∧ inr n y ∧ ∀ H', Same H H' → Q (.int ((T.countP fun u => decide (u = nrm (x, y)) : Nat) : Int)) H'
theorem ok_be {f : Addr} {fd : FuncData} (F : Fun K "between" "between" sBe f fd) (B : Blt mg) (cNh : Cal P w K mg base 2 "need_house" ["web", "house"] spNh) : FnOk P w K mg base CX0 3 f fd ["web", "one", "other"] spBe := by
  refine F.ok scBe (fun vs H Q E h => ?_) (fun cdv A outer s H vs Q E hr h => ?_)
  · obtain ⟨wv, n, T, x, y, rfl, _⟩ := h; rfl
  obtain ⟨wv, n, T, x, y, rfl, hW, hx, hy, q⟩ := h
  obtain ⟨p, ob, zs, hw, hp, hob, hP⟩ := hW.ex
  refine ⟨_, (pss_cons (ps_expr (pe_cal cNh hr rfl (pa_cons (pv 0) (pa_cons (pv 1) pa_nil))))
    (pss_cons (ps_expr (pe_cal cNh hr rfl (pa_cons (pv 0) (pa_cons (pv 2) pa_nil))))
    (pss_one (ps_ret (pe_bmT PySem.F.slot_tuple_count PySem.F.type_tuple_count (mt_countT (Nat.lt_of_le_of_lt (Nat.add_le_add_left (by decide : 4 ≤ 64) _) hr.units)) (pe_ix ix_tup (pv 0) pe_int (fun _ _ => rfl)) (pa_cons (pe_tup (pa_cons (pe_callB (call_min2 rfl) rfl B.min PyProof.Rows.boot_min (pa_cons (pv 1) (pa_cons (pv 2) pa_nil))) (pa_cons (pe_callB (call_max2 rfl) rfl B.max PyProof.Rows.boot_max (pa_cons (pv 1) (pa_cons (pv 2) pa_nil))) pa_nil))) pa_nil)))))), ?_⟩
  refine ⟨_, rfl, _, rfl, wv, n, _, x, rfl, hw, hx, ?_⟩
  refine ⟨_, rfl, _, rfl, wv, n, _, y, rfl, hw, hy, ?_⟩
  refine ⟨_, rfl, wv, _, _, _, rfl, rfl, SqT.of hw, rfl, ⟨p, ob, _, rfl, hp, hob⟩, _, rfl, _, rfl, _, _, rfl, _, rfl, _, rfl, _, _, rfl, by show 2 ≤ sizeLine; decide, fun pr hpr => ?_⟩
  have e1 := same_new hpr (.tup [.int (nrm (x, y)).1, .int (nrm (x, y)).2])
  exact ⟨p, zs, T, pr, nrm (x, y), rfl, rfl, .inl (.inr ⟨ob, e1 _ _ hp⟩), hP.same e1, upd_same, q _ e1⟩
theorem scDe : FnScope ["web", "house"] ["web", "house"] (defScope sDe) := ⟨rfl, rfl, rfl, by decide +kernel, rfl, by decide +kernel, by decide +kernel⟩
theorem nd_scDe_0 : (["tie", "house"] : List Str).Nodup := by decide +kernel

def spDe : Sp := fun vs H Q _ => ∃ (wv : Addr) (n : Nat) (T : List (Int × Int)) (x : Int), vs = [.ref wv, .int x] ∧ WebF H wv n T ∧ inr n x ∧ ∀ H', Same H H' → Q (.int ((T.countP (hasE x) : Nat) : Int)) H'
theorem ok_de {f : Addr} {fd : FuncData} (F : Fun K "degree" "degree" sDe f fd) (B : Blt mg) (cNh : Cal P w K mg base 2 "need_house" ["web", "house"] spNh) : FnOk P w K mg base CX0 3 f fd ["web", "house"] spDe := by
  refine F.ok scDe (fun vs H Q E h => ?_) (fun cdv A outer s H vs Q E hr h => ?_)
  · obtain ⟨wv, n, T, x, rfl, _⟩ := h; rfl
  obtain ⟨wv, n, T, x, rfl, hW, hx, q⟩ := h
  obtain ⟨p, ob, zs, hw, hp, hob, hP⟩ := hW.ex
  have h16 := hW.len
  have hl := hP.length
  refine ⟨_, (pss_cons (ps_expr (pe_cal cNh hr rfl (pa_cons (pv 0) (pa_cons (pv 1) pa_nil))))
    (pss_one (ps_ret (pe_callB call_len_seq rfl B.len PySem.boot_len (pa_cons (pe_comp (N' := ["tie", "house"]) (mp := [none, some 1]) (g := (gName 0)) (tt := (tTest (tOp (rIn K false) (tVar 1) (tVar 0)))) (te := (tVar 0)) (CompOk.of (by kernel_rfl)) rfl (pi_tup (pe_ix ix_tup (pv 0) pe_int (fun _ _ => rfl))) (fun C s H fp => (pg_name (i := 0) nd_scDe_0 rfl (Or.inl rfl))) (fun C s H fp => pts_one (pt_cmpR op_in_seq (pv 1) (pv 0) rfl)) (fun C s H fp => (pv 0))) pa_nil))))), ?_⟩
  refine ⟨_, rfl, _, rfl, wv, n, _, x, rfl, hw, hx, ?_⟩
  refine ⟨_, rfl, wv, _, _, _, rfl, rfl, SqT.of hw, rfl, p, rfl, ⟨zs, .inl (.inr ⟨ob, hp⟩)⟩, ?_⟩
  refine comp_tup (xs := zs) (fun i σ H1 acc => H1 = H ∧ (∃ o, σ = [o, some (.int x)]) ∧ acc.length = (T.take i).countP (hasE x)) ⟨rfl, ⟨_, rfl⟩, rfl⟩ ?_ (Nat.le_of_lt (small1000 (by omega))) ?_ ?_
  · rintro i σ H1 acc hi ⟨rfl, _, ha⟩
    refine ⟨.inl (.inr ⟨ob, hp⟩), ?_⟩
    rw [ha]
    exact Nat.le_trans List.countP_le_length (by rw [List.length_take]; omega)
  · rintro i v σ H1 acc hx ⟨rfl, ⟨o, rfl⟩, ha⟩
    obtain ⟨t, ht, r, rfl, hr'⟩ := hP.get hx
    refine ⟨_, rfl, _, rfl, r, _, rfl, .inr (SqT.of hr'), rfl, rfl, _, rfl, ?_⟩
    show if inV (.int x) [.int t.1, .int t.2] = true then _ else _
    rw [inV2]
    refine ite2B (fun g => ?_) (fun g => ?_)
    · refine ⟨_, rfl, rfl, ⟨_, rfl⟩, ?_⟩
      rw [take_one ht, List.countP_append, List.length_append, ha, List.countP_singleton, if_pos (show hasE x t = true from g)]; rfl
    · refine ⟨rfl, ⟨_, rfl⟩, ?_⟩
      rw [take_one ht, List.countP_append, ha, List.countP_singleton, if_neg (by rw [show hasE x t = false from g]; decide), Nat.add_zero]
  rintro σ H1 acc ⟨rfl, _, ha⟩ pc hpc
  rw [hl, List.take_length] at ha
  refine ⟨pc, _, rfl, .inl (SqL.of upd_same), ?_⟩
  rw [ha]
  exact q _ (same_new hpc _)
theorem scRa : FnScope ["web", "house", "houses"] ["web", "house", "houses"] (defScope sRa) := ⟨rfl, rfl, rfl, by decide +kernel, rfl, by decide +kernel, by decide +kernel⟩
theorem nd_scRa_0 : (["other", "house", "web"] : List Str).Nodup := by decide +kernel

/-! ### tables among houses -/
def spRa : Sp := fun vs H Q _ => ∃ (wv g : Addr) (n : Nat) (T : List (Int × Int)) (x : Int) (ms : List Int), vs = [.ref wv, .int x, .ref g] ∧ WebF H wv n T ∧ inr n x ∧ H g = some (.lst (ms.map V.int)) ∧ (∀ y ∈ ms, inr n y) ∧ ms.length ≤ 8 ∧
  ∀ (r : Addr) (H' : Hp), H r = none → Same H H' → H' r = some (.lst ((ms.map fun c => if c = x then ((T.countP (hasE x) : Nat) : Int) else -((T.countP fun u => decide (u = nrm (x, c)) : Nat) : Int)).map V.int)) → Q (.ref r) H'
theorem ok_ra {f : Addr} {fd : FuncData} (F : Fun K "row_among" "row_among" sRa f fd) (B : Blt mg) (cBe : Cal P w K mg base 3 "between" ["web", "one", "other"] spBe) (cDe : Cal P w K mg base 3 "degree" ["web", "house"] spDe) : FnOk P w K mg base CX0 4 f fd ["web", "house", "houses"] spRa := by
  refine F.ok scRa (fun vs H Q E h => ?_) (fun cdv A outer s H vs Q E hr h => ?_)
  · obtain ⟨wv, g, n, T, x, ms, rfl, _⟩ := h; rfl
  obtain ⟨wv, g, n, T, x, ms, rfl, hW, hx, hg, hm, m8, q⟩ := h
  refine ⟨_, (pss_one (ps_ret (pe_comp (N' := ["other", "house", "web"]) (mp := [none, some 1, some 0]) (g := (gName 0)) (tt := tYes) (te := (tIf (tTest (tOp rEq (tVar 0) (tVar 1))) (tCall spDe [] E0 (tCons (tVar 2) (tCons (tVar 1) tNil))) (tUn (rU fun i => .int (-i)) (tCall spBe [] E0 (tCons (tVar 2) (tCons (tVar 1) (tCons (tVar 0) tNil))))))) (CompOk.of (by kernel_rfl)) rfl (pi_list (pv 2)) (fun C s H fp => (pg_name (i := 0) nd_scRa_0 rfl (Or.inl rfl))) (fun C s H fp => pts_nil) (fun C s H fp => (pe_ifExp (pt_cmpR op_eq (pv 0) (pv 1) (nomark _)) (pe_cal cDe hr rfl (pa_cons (pv 2) (pa_cons (pv 1) pa_nil))) (pe_un un_neg (pe_cal cBe hr rfl (pa_cons (pv 2) (pa_cons (pv 1) (pa_cons (pv 0) pa_nil)))))))))), ?_⟩
  refine ⟨_, rfl, g, rfl, ⟨_, SqL.of hg⟩, ?_⟩
  refine comp_list (xs := ms.map V.int) (fun i σ H1 acc => Same H H1 ∧ (∃ o, σ = [o, some (.int x), some (.ref wv)]) ∧ acc = ((ms.take i).map fun c => if c = x then ((T.countP (hasE x) : Nat) : Int) else -((T.countP fun u => decide (u = nrm (x, c)) : Nat) : Int)).map V.int) ⟨Same.refl _, ⟨_, rfl⟩, rfl⟩ ?_ (Nat.le_of_lt (small1000 (by rw [List.length_map]; omega))) ?_ ?_
  · rintro i σ H1 acc hi ⟨e1, _, rfl⟩
    refine ⟨SqL.of (e1 _ _ hg), ?_⟩
    rw [List.length_map, List.length_map, List.length_take]; omega
  · rintro i v σ H1 acc hv ⟨e1, ⟨o, rfl⟩, rfl⟩
    obtain ⟨y, hy, rfl⟩ := mapI_get hv
    have hc := hm y (List.mem_of_getElem? hy)
    refine ⟨_, rfl, _, rfl, rfl, _, rfl, ?_⟩
    by_cases cx : y = x
    · refine iteBT (by rw [cx]; simp) ?_
      refine ⟨_, rfl, _, rfl, wv, n, T, x, rfl, hW.same e1, hx, fun H2 e2 => ?_⟩
      refine ⟨e1.trans e2, ⟨_, rfl⟩, ?_⟩
      rw [take_one hy, List.map_append, List.map_append]
      congr 1
      show [_] = [V.int (if y = x then _ else _)]
      (rw [if_pos cx]); (first | done | rfl)
    · refine iteB (by simp only [V.int.injEq, decide_eq_false_iff_not]; exact cx) ?_
      refine ⟨_, rfl, _, rfl, _, rfl, wv, n, T, x, y, rfl, hW.same e1, hx, hc, fun H2 e2 => ?_⟩
      refine ⟨_, rfl, e1.trans e2, ⟨_, rfl⟩, ?_⟩
      rw [take_one hy, List.map_append, List.map_append]
      congr 1
      show [_] = [V.int (if y = x then _ else _)]
      (rw [if_neg cx]); (first | done | rfl)
  rintro σ H1 acc ⟨e1, _, rfl⟩ pc hpc
  rw [List.length_map, List.take_length]
  exact q pc _ (e1.free hpc) (e1.trans (same_new hpc _)) upd_same
theorem scTa : FnScope ["web", "houses"] ["web", "houses"] (defScope sTa) := ⟨rfl, rfl, rfl, by decide +kernel, rfl, by decide +kernel, by decide +kernel⟩
theorem nd_scTa_0 : (["house", "web", "houses"] : List Str).Nodup := by decide +kernel

def spTa : Sp := fun vs H Q _ => ∃ (wv g : Addr) (n : Nat) (T : List (Int × Int)) (ms : List Int), vs = [.ref wv, .ref g] ∧ WebF H wv n T ∧ H g = some (.lst (ms.map V.int)) ∧ (∀ y ∈ ms, inr n y) ∧ ms.length ≤ 8 ∧
  ∀ (r : Addr) (as : List Addr) (H' : Hp), H r = none → (∀ b ∈ as, H b = none ∧ b ≠ r) → Same H H' → TabL H' r as (ms.map fun x => ms.map fun c => if c = x then ((T.countP (hasE x) : Nat) : Int) else -((T.countP fun u => decide (u = nrm (x, c)) : Nat) : Int)) → Q (.ref r) H'
theorem ok_ta {f : Addr} {fd : FuncData} (F : Fun K "table_among" "table_among" sTa f fd) (B : Blt mg) (cRa : Cal P w K mg base 4 "row_among" ["web", "house", "houses"] spRa) : FnOk P w K mg base CX0 5 f fd ["web", "houses"] spTa := by
  refine F.ok scTa (fun vs H Q E h => ?_) (fun cdv A outer s H vs Q E hr h => ?_)
  · obtain ⟨wv, g, n, T, ms, rfl, _⟩ := h; rfl
  obtain ⟨wv, g, n, T, ms, rfl, hW, hg, hm, m8, q⟩ := h
  refine ⟨_, (pss_one (ps_ret (pe_comp (N' := ["house", "web", "houses"]) (mp := [none, some 0, some 1]) (g := (gName 0)) (tt := tYes) (te := (tCall spRa [] E0 (tCons (tVar 1) (tCons (tVar 0) (tCons (tVar 2) tNil))))) (CompOk.of (by kernel_rfl)) rfl (pi_list (pv 1)) (fun C s H fp => (pg_name (i := 0) nd_scTa_0 rfl (Or.inl rfl))) (fun C s H fp => pts_nil) (fun C s H fp => (pe_cal cRa hr rfl (pa_cons (pv 1) (pa_cons (pv 0) (pa_cons (pv 2) pa_nil)))))))), ?_⟩
  refine ⟨_, rfl, g, rfl, ⟨_, SqL.of hg⟩, ?_⟩
  refine comp_list (xs := ms.map V.int) (fun i σ H1 acc => Same H H1 ∧ (∃ o, σ = [o, some (.ref wv), some (.ref g)]) ∧ ∃ as : List Addr, acc = as.map V.ref ∧ (∀ b ∈ as, H b = none) ∧ Paired (fun a m => H1 a = some (.lst (List.map V.int m))) as ((ms.take i).map fun x => ms.map fun c => if c = x then ((T.countP (hasE x) : Nat) : Int) else -((T.countP fun u => decide (u = nrm (x, c)) : Nat) : Int))) ⟨Same.refl _, ⟨_, rfl⟩, [], rfl, (fun b hb => nomatch hb), .nil⟩ ?_ (Nat.le_of_lt (small1000 (by rw [List.length_map]; omega))) ?_ ?_
  · rintro i σ H1 acc hi ⟨e1, _, as, rfl, _, p⟩
    refine ⟨SqL.of (e1 _ _ hg), ?_⟩
    rw [List.length_map, Paired.length p, List.length_map, List.length_take]; omega
  · rintro i v σ H1 acc hv ⟨e1, ⟨o, rfl⟩, as, rfl, hn, p⟩
    obtain ⟨y, hy, rfl⟩ := mapI_get hv
    have hc := hm y (List.mem_of_getElem? hy)
    refine ⟨_, rfl, _, rfl, _, rfl, wv, g, n, T, y, ms, rfl, hW.same e1, hc, e1 _ _ hg, hm, m8, fun r H2 hr2 e2 h2 => ?_⟩
    refine ⟨e1.trans e2, ⟨_, rfl⟩, as ++ [r], by rw [List.map_append]; rfl, ?_, ?_⟩
    · intro b hb
      rcases List.mem_append.mp hb with z | z
      · exact hn b z
      · rw [List.mem_singleton.mp z]; exact e1.free hr2
    · rw [take_one hy, List.map_append]
      exact Paired.snoc (L2.Paired.mapP p fun a m h => e2 _ _ h) h2
  rintro σ H1 acc ⟨e1, _, as, rfl, hn, p⟩ pc hpc
  rw [List.length_map, List.take_length] at p
  have e2 := same_new hpc (.lst (as.map V.ref))
  refine q pc as _ (e1.free hpc) (fun b hb => ⟨hn b hb, fun z => ?_⟩) (e1.trans e2) ⟨upd_same, L2.Paired.mapP p fun a m h => e2 _ _ h⟩
  obtain ⟨i, hi, eb⟩ := List.getElem_of_mem hb
  obtain ⟨a', m', ea, em, hm⟩ := paired_get p (i := i) hi
  rw [List.getElem?_eq_getElem hi, eb] at ea
  cases ea
  rw [z, hpc] at hm
  cases hm

theorem scSm : FnScope ["web"] ["web"] (defScope sSm) := ⟨rfl, rfl, rfl, by decide +kernel, rfl, by decide +kernel, by decide +kernel⟩

def spSm : Sp := fun vs H Q _ => ∃ (wv : Addr) (n : Nat) (T : List (Int × Int)), vs = [.ref wv] ∧ WebF H wv n T ∧ 1 ≤ n ∧ n ≤ 8 ∧
  ∀ (r : Addr) (as : List Addr) (H' : Hp), H r = none → (∀ b ∈ as, H b = none ∧ b ≠ r) → Same H H' → TabL H' r as ((h1 (n - 1)).map fun x => (h1 (n - 1)).map fun c => if c = x then ((T.countP (hasE x) : Nat) : Int) else -((T.countP fun u => decide (u = nrm (x, c)) : Nat) : Int)) → Q (.ref r) H'
theorem ok_sm {f : Addr} {fd : FuncData} (F : Fun K "small_table" "small_table" sSm f fd) (B : Blt mg) (cTa : Cal P w K mg base 5 "table_among" ["web", "houses"] spTa) : FnOk P w K mg base CX0 6 f fd ["web"] spSm := by
  refine F.ok scSm (fun vs H Q E h => ?_) (fun cdv A outer s H vs Q E hr h => ?_)
  · obtain ⟨wv, n, T, rfl, _⟩ := h; rfl
  obtain ⟨wv, n, T, rfl, hW, n1, n8, q⟩ := h
  obtain ⟨vp, hw⟩ := hW.top
  refine ⟨_, (pss_one (ps_ret (pe_cal cTa hr rfl (pa_cons (pv 0) (pa_cons (pe_listRng2 rfl rfl B.list rfl B.range (pa_cons pe_int (pa_cons (pe_ix ix_tup (pv 0) pe_int (fun _ _ => rfl)) pa_nil))) pa_nil))))), ?_⟩
  refine ⟨_, rfl, _, rfl, wv, _, _, _, rfl, rfl, SqT.of hw, rfl, 1, n, rfl, by decide, by decide, by omega, by omega, fun l hl => ?_⟩
  rw [show ((n : Int) - 1).toNat = n - 1 by omega]
  have e1 := same_new hl (.lst ((h1 (n - 1)).map V.int))
  refine ⟨wv, l, n, T, h1 (n - 1), rfl, hW.same e1, upd_same, fun y hy => ?_, by rw [h1_length]; omega, fun r as H2 hr2 has e2 t2 => ?_⟩
  · obtain ⟨i, hi, rfl⟩ := List.mem_map.mp hy
    have := List.mem_range.mp hi
    exact ⟨by omega, by omega⟩
  exact q r as H2 (e1.free hr2) (fun b hb => ⟨e1.free (has b hb).1, (has b hb).2⟩) (e1.trans e2) t2

theorem scFf : FnScope ["rows", "place", "row"] ["rows"] (defScope sFf) := ⟨rfl, rfl, rfl, by decide +kernel, rfl, by decide +kernel, by decide +kernel⟩

/-! ### the determinant -/
def spFf : Sp := fun vs H Q _ => ∃ (p : Addr) (as : List Addr) (M : List (List Int)), vs = [.ref p] ∧ TabL H p as M ∧ M.length ≤ 1000 ∧ (∀ m ∈ M, m ≠ []) ∧
  (∀ (k : Nat) (H' : Hp), Same H H' → (∃ m, M[k]? = some m ∧ m.getD 0 0 ≠ 0) → (∀ m ∈ M.take k, m.getD 0 0 = 0) → Q (.int (k : Int)) H') ∧ (∀ H', Same H H' → (∀ m ∈ M, m.getD 0 0 = 0) → Q (.int (M.length : Nat)) H')
theorem head_at {m : List Int} (h : m ≠ []) : atI (m.map V.int) 0 = some (.int (m.getD 0 0)) := by
  cases m with
  | nil => exact absurd rfl h
  | cons x m => exact atI_nat (j := 0) rfl
theorem ok_ff {f : Addr} {fd : FuncData} (F : Fun K "first_filled" "first_filled" sFf f fd) (B : Blt mg) (hen : mg "enumerate" = none) : FnOk P w K mg base CX0 1 f fd ["rows"] spFf := by
  refine F.ok scFf (fun vs H Q E h => ?_) (fun cdv A outer s H vs Q E hr h => ?_)
  · obtain ⟨p, as, M, rfl, _⟩ := h; rfl
  obtain ⟨p, as, M, rfl, ⟨hp, pa⟩, hl, hne, q1, q2⟩ := h
  have la := Paired.length pa
  refine ⟨_, (pss_cons (ps_for PassesOwn.never rfl (pi_enum rfl hen (pa_cons (pv 0) pa_nil)) (pg_tup rfl (pgs_cons (pg_name (i := 1) scFf.nd rfl (Or.inl rfl)) (pgs_cons (pg_name (i := 2) scFf.nd rfl (Or.inl rfl)) pgs_nil))) (pss_one (ps_if (pt_cmpR op_ne (pe_ix ix_list (pv 2) pe_int (fun _ _ => rfl)) pe_int (nomark _)) (pss_one (ps_ret (pv 1))) pss_nil)))
    (pss_one (ps_ret (pe_callB call_len_seq rfl B.len PySem.boot_len (pa_cons (pv 0) pa_nil))))), ?_⟩
  refine ⟨_, rfl, p, _, rfl, hp, ?_⟩
  refine for_enum (xs := as.map V.ref) (fun i σ H' => (∃ o1 o2 : Option V, σ = [some (.ref p), o1, o2]) ∧ Same H H' ∧ ∀ m ∈ M.take i, m.getD 0 0 = 0) ⟨⟨_, _, rfl⟩, Same.refl _, fun m hm => nomatch hm⟩ (fun i σ H' _ ⟨_, e, _⟩ => SqL.of (e _ _ hp)) ?_ ?_
  · rintro i x t σ H' hx ht ⟨⟨o1, o2, rfl⟩, e1, hz⟩
    rw [List.getElem?_map] at hx
    obtain ⟨a, ea, rfl⟩ := Option.map_eq_some_iff.mp hx
    obtain ⟨a', m, ea', em, hm⟩ := paired_get pa (i := i) (List.getElem?_eq_some_iff.mp ea).1
    rw [ea] at ea'
    cases ea'
    have hmm := List.mem_of_getElem? em
    have e2 := same_new ht (.tup [.int i, .ref a])
    refine ⟨t, _, rfl, SqT.of upd_same, rfl, _, _, rfl, _, _, rfl, rfl, ?_⟩
    refine ⟨_, rfl, a, _, _, _, rfl, rfl, SqL.of (e2 _ _ (e1 _ _ hm)), head_at (hne m hmm), rfl, _, rfl, ?_⟩
    by_cases c : m.getD 0 0 = 0
    · refine iteB (by rw [c]; simp) ?_
      refine ⟨⟨_, _, rfl⟩, e1.trans e2, fun m' hm' => ?_⟩
      rw [take_one em] at hm'
      rcases List.mem_append.mp hm' with z | z
      · exact hz m' z
      · rw [List.mem_singleton.mp z]; exact c
    · refine iteBT (by simp only [V.int.injEq, Bool.not_eq_true', decide_eq_false_iff_not]; exact c) ?_
      exact ⟨_, rfl, q1 i _ (e1.trans e2) ⟨m, em, c⟩ hz⟩
  rintro σ H' ⟨⟨o1, o2, rfl⟩, e1, hz⟩
  rw [List.length_map, la, List.take_length] at hz
  refine ⟨_, rfl, p, _, rfl, .inl (SqL.of (e1 _ _ hp)), ?_⟩
  rw [List.length_map, la]
  exact q2 H' e1 hz
theorem scRd : FnScope ["top", "row", "last"] ["top", "row", "last"] (defScope sRd) := ⟨rfl, rfl, rfl, by decide +kernel, rfl, by decide +kernel, by decide +kernel⟩
theorem nd_scRd_0 : (["above", "own", "top", "row", "last"] : List Str).Nodup := by decide +kernel

def redL (d : Int) (t r : List Int) : List Int := (List.range (t.length - 1)).map fun i => (t.getD 0 0 * r.getD (i + 1) 0 - r.getD 0 0 * t.getD (i + 1) 0).fdiv d
def spRd : Sp := fun vs H Q _ => ∃ (p r : Addr) (d : Int) (tl rl : List Int), vs = [.ref p, .ref r, .int d] ∧ H p = some (.lst (tl.map V.int)) ∧ H r = some (.lst (rl.map V.int)) ∧ tl ≠ [] ∧ rl.length = tl.length ∧ tl.length ≤ 1000 ∧ d ≠ 0 ∧ d.natAbs < 2 ^ 9000 ∧ (∀ x ∈ tl, x.natAbs < 2 ^ 9000) ∧ (∀ x ∈ rl, x.natAbs < 2 ^ 9000) ∧
  ∀ (l : Addr) (H' : Hp), H l = none → Same H H' → H' l = some (.lst ((redL d tl rl).map V.int)) → Q (.ref l) H'
theorem getD_mem {l : List Int} {i : Nat} (h : i < l.length) : l.getD i 0 ∈ l := by
  rw [List.getD_eq_getElem?_getD, List.getElem?_eq_getElem h]
  exact List.getElem_mem h
theorem tail_get {l : List Int} {i : Nat} {v : V} (h : ((l.map V.int).drop 1)[i]? = some v) : v = .int (l.getD (i + 1) 0) ∧ i + 1 < l.length := by
  rw [List.getElem?_drop, List.getElem?_map] at h
  obtain ⟨x, hx, rfl⟩ := Option.map_eq_some_iff.mp h
  rw [Nat.add_comm] at hx
  exact ⟨by rw [getD_some hx], (List.getElem?_eq_some_iff.mp hx).1⟩
theorem ok_rd {f : Addr} {fd : FuncData} (F : Fun K "reduced" "reduced" sRd f fd) (B : Blt mg) (hzip : mg "zip" = none) : FnOk P w K mg base CX0 1 f fd ["top", "row", "last"] spRd := by
  refine F.ok scRd (fun vs H Q E h => ?_) (fun cdv A outer s H vs Q E hr h => ?_)
  · obtain ⟨p, r, d, tl, rl, rfl, _⟩ := h; rfl
  obtain ⟨p, r, d, tl, rl, rfl, hp, hr1, hne, hll, hl, d0, dB, tB, rB, q⟩ := h
  have tp : 0 < tl.length := by
    cases tl with
    | nil => exact absurd rfl hne
    | cons x xs => simp
  have hner : rl ≠ [] := fun z => by rw [z] at hll; simp at hll; omega
  refine ⟨_, (pss_one (ps_ret (pe_comp (N' := ["above", "own", "top", "row", "last"]) (mp := [none, none, some 0, some 1, some 2]) (g := (gTup K 2 (gCons (gName 0) (gCons (gName 1) gNil)))) (tt := tYes) (te := (tOp (rI CDivB fun i j => .int (i.fdiv j)) (tOp (rI0 fun i j => .int (i - j)) (tOp (rI CMulB fun i j => .int (i * j)) (tOp (rIxL K) (tVar 2) (tC (.int 0))) (tVar 1)) (tOp (rI CMulB fun i j => .int (i * j)) (tOp (rIxL K) (tVar 3) (tC (.int 0))) (tVar 0))) (tVar 4))) (CompOk.of (by kernel_rfl)) rfl (pi_zip rfl hzip (pa_cons (pe_slice sl_list (pv 0) (po_some pe_int) po_none) (pa_cons (pe_slice sl_list (pv 1) (po_some pe_int) po_none) pa_nil))) (fun C s H fp => (pg_tup rfl (pgs_cons (pg_name (i := 0) nd_scRd_0 rfl (Or.inl rfl)) (pgs_cons (pg_name (i := 1) nd_scRd_0 rfl (Or.inl rfl)) pgs_nil)))) (fun C s H fp => pts_nil) (fun C s H fp => (pe_op op_fdivB (pe_op op_sub (pe_op op_mulB (pe_ix ix_list (pv 2) pe_int (fun _ _ => rfl)) (pv 1)) (pe_op op_mulB (pe_ix ix_list (pv 3) pe_int (fun _ _ => rfl)) (pv 0))) (pv 4)))))), ?_⟩
  refine ⟨_, rfl, _, rfl, p, _, rfl, SqL.of hp, fun p1 hp1 => ?_⟩
  rw [cutV_drop1]
  have f1 := same_new hp1 (.lst ((tl.map V.int).drop 1))
  refine ⟨_, rfl, _, rfl, r, _, rfl, SqL.of (f1 _ _ hr1), fun p2 hp2 => ?_⟩
  rw [cutV_drop1]
  have f2 := same_new hp2 (.lst ((rl.map V.int).drop 1))
  have g1 := f2 _ _ (upd_same (H := H) (a := p1) (o := .lst ((tl.map V.int).drop 1)))
  have g2 := upd_same (H := upd H p1 (.lst ((tl.map V.int).drop 1))) (a := p2) (o := .lst ((rl.map V.int).drop 1))
  have f12 := f1.trans f2
  generalize upd (upd H p1 (.lst ((tl.map V.int).drop 1))) p2 (.lst ((rl.map V.int).drop 1)) = H2 at g1 g2 f12 ⊢
  refine ⟨p1, p2, _, _, rfl, SqL.of g1, SqL.of g2, ?_⟩
  refine comp_zip (xs := (tl.map V.int).drop 1) (ys := (rl.map V.int).drop 1) (fun i σ H' acc => Same H2 H' ∧ (∃ o1 o2, σ = [o1, o2, some (.ref p), some (.ref r), some (.int d)]) ∧ acc = ((List.range i).map fun i => (tl.getD 0 0 * rl.getD (i + 1) 0 - rl.getD 0 0 * tl.getD (i + 1) 0).fdiv d).map V.int) ⟨Same.refl _, ⟨_, _, rfl⟩, rfl⟩ (by simp [hll]) ?_ (Nat.le_of_lt (small1000 (by rw [List.length_drop, List.length_map]; omega))) ?_ ?_
  · rintro i σ H' acc hi ⟨e, _, rfl⟩
    exact ⟨SqL.of (e _ _ g1), SqL.of (e _ _ g2), by rw [List.length_map, List.length_map, List.length_range]; exact Nat.le_refl _⟩
  · rintro i x y t σ H' acc hx hy ht ⟨e, ⟨o1, o2, rfl⟩, rfl⟩
    obtain ⟨rfl, hi1⟩ := tail_get hx
    obtain ⟨rfl, hi2⟩ := tail_get hy
    have e3 := e.trans (same_new ht (.tup [.int (tl.getD (i + 1) 0), .int (rl.getD (i + 1) 0)]))
    have e4 := f12.trans e3
    have b1 := tB _ (getD_mem (i := 0) tp)
    have b2 := rB _ (getD_mem (i := i + 1) hi2)
    have b3 := rB _ (getD_mem (i := 0) (by omega))
    have b4 := tB _ (getD_mem (i := i + 1) hi1)
    refine ⟨t, _, rfl, SqT.of upd_same, rfl, _, _, rfl, _, _, rfl, rfl, ?_⟩
    refine ⟨_, rfl, p, _, _, _, rfl, rfl, SqL.of (e4 _ _ hp), head_at hne, _, rfl, _, _, rfl, rfl, ⟨b1, b2⟩, _, rfl, r, _, _, _, rfl, rfl, SqL.of (e4 _ _ hr1), head_at hner, _, rfl, _, _, rfl, rfl, ⟨b3, b4⟩, _, _, rfl, rfl, _, rfl, _, _, rfl, rfl, ⟨d0, dB⟩, ?_⟩
    refine ⟨e3, ⟨_, _, rfl⟩, ?_⟩
    rw [List.range_succ, List.map_append, List.map_append]; rfl
  rintro σ H' acc ⟨e, _, rfl⟩ pc hpc
  rw [List.length_drop, List.length_map]
  exact q pc _ ((f12.trans e).free hpc) ((f12.trans e).trans (same_new hpc _)) upd_same
theorem scLk : FnScope ["things", "place"] ["things", "place"] (defScope sLk) := ⟨rfl, rfl, rfl, by decide +kernel, rfl, by decide +kernel, by decide +kernel⟩

def spLk : Sp := fun vs H Q _ => ∃ (p : Addr) (xs : List V) (k : Nat), vs = [.ref p, .int (k : Int)] ∧ H p = some (.lst xs) ∧ k < xs.length ∧ xs.length ≤ 1000 ∧
  ∀ (l : Addr) (H' : Hp), H l = none → Same H H' → H' l = some (.lst (xs.eraseIdx k)) → Q (.ref l) H'
theorem ok_lk {f : Addr} {fd : FuncData} (F : Fun K "lacking" "lacking" sLk f fd) : FnOk P w K mg base CX0 1 f fd ["things", "place"] spLk := by
  refine F.ok scLk (fun vs H Q E h => ?_) (fun cdv A outer s H vs Q E hr h => ?_)
  · obtain ⟨p, xs, k, rfl, _⟩ := h; rfl
  obtain ⟨p, xs, k, rfl, hp, hk, hl, q⟩ := h
  refine ⟨_, (pss_one (ps_ret (pe_op op_cat (pe_slice sl_list (pv 0) po_none (po_some (pv 1))) (pe_slice sl_list (pv 0) (po_some (pe_op op_add (pv 1) pe_int)) po_none)))), ?_⟩
  refine ⟨_, rfl, _, rfl, _, rfl, p, _, rfl, SqL.of hp, fun p1 hp1 => ?_⟩
  rw [cutV_take]
  have f1 := same_new hp1 (.lst (xs.take k))
  refine ⟨_, rfl, _, rfl, _, _, rfl, rfl, _, rfl, p, _, rfl, SqL.of (f1 _ _ hp), fun p2 hp2 => ?_⟩
  rw [show (k : Int) + 1 = ((k + 1 : Nat) : Int) by omega, cutV_drop]
  have f2 := same_new hp2 (.lst (xs.drop (k + 1)))
  refine ⟨p1, p2, _, _, rfl, rfl, f2 _ _ upd_same, upd_same, ?_, fun p3 hp3 => ?_⟩
  · rw [List.length_take, List.length_drop]; exact Nat.le_of_lt (small1000 (by omega))
  refine q p3 _ ((f1.trans f2).free hp3) ((f1.trans f2).trans (same_new hp3 _)) ?_
  rw [upd_same, List.eraseIdx_eq_take_drop_succ]
theorem scDt : FnScope ["table", "rows", "sign", "last", "place", "top"] ["table"] (defScope sDt) := ⟨rfl, rfl, rfl, by decide +kernel, rfl, by decide +kernel, by decide +kernel⟩
theorem nd_scDt_0 : (["row", "top", "last"] : List Str).Nodup := by decide +kernel

def spDt : Sp := fun vs H Q _ => ∃ (p : Addr) (as : List Addr) (M : List (List Int)) (b : Nat), vs = [.ref p] ∧ TabL H p as M ∧ M.length ≤ 7 ∧ (∀ m ∈ M, m.length = M.length) ∧ 1 ≤ b ∧ b ≤ 2 ^ 1000 ∧ (∀ m ∈ M, ∀ x ∈ m, x.natAbs ≤ b) ∧ ∀ H', Same H H' → Q (.int (dtl M)) H'
theorem lt9000 {x : Nat} (h : x ≤ 2 ^ 8024) : x < 2 ^ 9000 := Nat.lt_of_le_of_lt h (Nat.pow_lt_pow_right (by decide) (by decide))
theorem red_hat {P : List (Nat → Int)} {C S : List Nat} {c : Nat} (h0 : dt P C ≠ 0) (t r : Nat → Int) : redL (dt P C) ((c :: S).map (hat P C t)) ((c :: S).map (hat P C r)) = S.map (hat (t :: P) (c :: C) r) := by
  unfold redL
  rw [List.length_map, List.length_cons, Nat.add_sub_cancel]
  refine List.ext_getElem? fun i => ?_
  rw [List.getElem?_map, List.getElem?_map]
  by_cases hi : i < S.length
  · rw [List.getElem?_range hi, List.getElem?_eq_getElem hi]
    have g : ∀ f : Nat → Int, ((c :: S).map f).getD (i + 1) 0 = f S[i] := fun f => by
      rw [List.getD_eq_getElem?_getD, List.getElem?_map, List.getElem?_cons_succ, List.getElem?_eq_getElem hi]; rfl
    refine congrArg some ?_
    show (hat P C t c * ((c :: S).map (hat P C r)).getD (i + 1) 0 - hat P C r c * ((c :: S).map (hat P C t)).getD (i + 1) 0).fdiv (dt P C) = _
    rw [g, g]
    exact hat_step h0 r t S[i] c
  · rw [List.getElem?_eq_none (by rw [List.length_range]; omega), List.getElem?_eq_none (by omega)]; rfl
set_option maxHeartbeats 4000000 in
theorem ok_dt {f : Addr} {fd : FuncData} (F : Fun K "det" "det" sDt f fd) (B : Blt mg) (cFf : Cal P w K mg base 1 "first_filled" ["rows"] spFf) (cRd : Cal P w K mg base 1 "reduced" ["top", "row", "last"] spRd) (cLk : Cal P w K mg base 1 "lacking" ["things", "place"] spLk) : FnOk P w K mg base CX0 2 f fd ["table"] spDt := by
  refine F.ok scDt (fun vs H Q E h => ?_) (fun cdv A outer s H vs Q E hr h => ?_)
  · obtain ⟨p, as, M, b, rfl, _⟩ := h; rfl
  obtain ⟨p, as, M, b, rfl, hT, h7, hsq, b1, bB, hB, q⟩ := h
  have hB' : ∀ a ∈ M.map fnOf', ∀ c ∈ List.range M.length, (a c).natAbs ≤ b := fun a ha c hc => by
    obtain ⟨m, hm, rfl⟩ := List.mem_map.mp ha
    have hc' := List.mem_range.mp hc
    exact hB m hm _ (getD_mem (by rw [hsq m hm]; exact hc'))
  have hlT : (M.map fnOf').length = M.length := List.length_map _
  refine ⟨_, (pss_cons (ps_set (i := 1) scDt.nd rfl (Or.inl rfl) (pv 0))
    (pss_cons (ps_set (i := 2) scDt.nd rfl (Or.inl rfl) pe_int)
    (pss_cons (ps_set (i := 3) scDt.nd rfl (Or.inr rfl) pe_int)
    (pss_cons (ps_while PassesOwn.never (pt_cmpR op_gt (pe_callB call_len_seq rfl B.len PySem.boot_len (pa_cons (pv 1) pa_nil)) pe_int (nomark _)) (pss_cons (ps_set (i := 4) scDt.nd rfl (Or.inl rfl) (pe_cal cFf hr rfl (pa_cons (pv 1) pa_nil)))
    (pss_cons (ps_if (pt_cmpR op_eq (pv 4) (pe_callB call_len_seq rfl B.len PySem.boot_len (pa_cons (pv 1) pa_nil)) (nomark _)) (pss_one (ps_ret pe_int)) pss_nil)
    (pss_cons (ps_join (ps_if (pt_cmpR op_eq (pe_op op_mod (pv 4) pe_int) pe_int (nomark _)) (pss_one (ps_set (i := 2) scDt.nd rfl (Or.inl rfl) (pe_un un_neg (pv 2)))) pss_nil))
    (pss_cons (ps_set (i := 5) scDt.nd rfl (Or.inr rfl) (pe_ix ix_list (pv 1) (pv 4) (fun _ _ => rfl)))
    (pss_cons (ps_setComp (i := 1) (N' := ["row", "top", "last"]) (mp := [none, some 5, some 3]) (g := (gName 0)) (tt := tYes) (te := (tCall spRd [] E0 (tCons (tVar 1) (tCons (tVar 0) (tCons (tVar 2) tNil))))) scDt.nd rfl (Or.inl rfl) (CompOk.of (by kernel_rfl)) rfl (pi_list (pe_cal cLk hr rfl (pa_cons (pv 1) (pa_cons (pv 4) pa_nil)))) (fun C s H fp => (pg_name (i := 0) nd_scDt_0 rfl (Or.inl rfl))) (fun C s H fp => pts_nil) (fun C s H fp => (pe_cal cRd hr rfl (pa_cons (pv 1) (pa_cons (pv 0) (pa_cons (pv 2) pa_nil))))))
    (pss_one (ps_set (i := 3) scDt.nd rfl (Or.inr rfl) (pe_ix ix_list (pv 5) pe_int (fun _ _ => rfl))))))))))
    (pss_one (ps_ret (pe_op op_mul (pv 2) (pv 3)))))))), ?_⟩
  refine ⟨_, rfl, ?_⟩
  refine ⟨fun m σ H' => ∃ (pr : Addr) (rs : List Addr) (R P : List (Nat → Int)) (C S : List Nat) (sign : Int) (o4 o5 : Option V), σ = [some (.ref p), some (.ref pr), some (.int sign), some (.int (dt P C)), o4, o5] ∧ Same H H' ∧ TabL H' pr rs (R.map fun r => S.map (hat P C r)) ∧ Bar (M.map fnOf') (List.range M.length) P R C S sign ∧ m = R.length,
    ⟨_, p, as, M.map fnOf', [], [], List.range M.length, 1, none, none, rfl, Same.refl _, ?_, Bar.start (by rw [hlT, List.length_range]) List.nodup_range, rfl⟩, ?_⟩
  · have e : ((M.map fnOf').map fun r => (List.range M.length).map (hat [] [] r)) = M := by
      rw [List.map_map]
      refine List.ext_getElem? fun i => ?_
      rw [List.getElem?_map]
      cases em : M[i]? with
      | none => rfl
      | some m =>
        have hm := List.mem_of_getElem? em
        refine congrArg some ?_
        refine List.ext_getElem? fun j => ?_
        show ((List.range M.length).map (hat [] [] (fnOf' m)))[j]? = m[j]?
        rw [List.getElem?_map]
        by_cases hj : j < M.length
        · rw [List.getElem?_range hj, List.getElem?_eq_getElem (by rw [hsq m hm]; exact hj)]
          refine congrArg some ?_
          rw [hat_start]
          unfold fnOf'
          rw [List.getD_eq_getElem?_getD, List.getElem?_eq_getElem (by rw [hsq m hm]; exact hj)]; rfl
        · rw [List.getElem?_eq_none (by rw [List.length_range]; omega), List.getElem?_eq_none (by rw [hsq m hm]; omega)]; rfl
    rw [e]
    exact hT
  rintro m σ H1 ⟨pr, rs, R, P, C, S, sign, o4, o5, rfl, e1, hT1, hBar, rfl⟩
  have la := Paired.length hT1.2
  rw [List.length_map] at la
  have hlen := hBar.len
  have hlt := hBar.lenT
  rw [hlT] at hlt
  obtain ⟨bg1, bg2⟩ := hBar.big b1 bB (by rw [hlT]; exact h7) hB'
  refine ⟨_, rfl, pr, _, rfl, .inl (SqL.of hT1.1), _, _, rfl, rfl, _, rfl, ?_⟩
  rw [List.length_map, la]
  cases S with
  | nil =>
    have hR0 : R = [] := List.eq_nil_of_length_eq_zero hlen
    subst hR0
    refine iteD (by simp) ?_
    have s1 := hBar.one
    refine ⟨_, rfl, _, rfl, _, _, rfl, rfl, .inl ⟨by omega, by omega⟩, ?_⟩
    have := q H1 e1
    unfold dtl at this
    rw [hBar.done] at this
    exact this
  | cons c S =>
    rw [List.length_cons] at hlen
    refine iteDT (by omega) ?_
    -- the first filled row
    have hne : ∀ m ∈ R.map fun r => (c :: S).map (hat P C r), m ≠ [] := fun m hm => by
      obtain ⟨r, _, rfl⟩ := List.mem_map.mp hm
      simp
    refine ⟨fun σ' H' => ∃ (l r : List (Nat → Int)) (t : Nat → Int) (pr' : Addr) (rs' : List Addr) (o4 o5 : Option V), R = l ++ t :: r ∧ hat P C t c ≠ 0 ∧ σ' = [some (.ref p), some (.ref pr'), some (.int (if l.length % 2 = 1 then -sign else sign)), some (.int (dt (t :: P) (c :: C))), o4, o5] ∧ Same H H' ∧
      TabL H' pr' rs' ((l ++ r).map fun r => S.map (hat (t :: P) (c :: C) r)), ?_, ?_⟩
    · rintro σ' H' ⟨l, r, t, pr', rs', o4, o5, rfl, ht, rfl, a1, a2⟩
      refine ⟨_, ?_, pr', rs', l ++ r, t :: P, c :: C, S, _, o4, o5, rfl, a1, a2, hBar.step ht, rfl⟩
      simp only [List.length_append, List.length_cons]
      omega
    have hlm : (R.map fun r => (c :: S).map (hat P C r)).length ≤ 1000 := by rw [List.length_map]; omega
    refine ⟨_, rfl, pr, rs, _, rfl, hT1, hlm, hne, fun k H2 e2 hk hz => ?_, fun H2 e2 hz => ?_⟩
    · obtain ⟨mk, hmk, hmk0⟩ := hk
      rw [List.getElem?_map] at hmk
      obtain ⟨t, ht, rfl⟩ := Option.map_eq_some_iff.mp hmk
      obtain ⟨hkR, et⟩ := List.getElem?_eq_some_iff.mp ht
      have hsplit : R = R.take k ++ t :: R.drop (k + 1) := by rw [← et, List.getElem_cons_drop, List.take_append_drop]
      have hkl : (R.take k).length = k := by rw [List.length_take]; omega
      have ht0 : hat P C t c ≠ 0 := hmk0
      have hT2 := hT1.same e2
      have e12 := e1.trans e2
      refine ⟨_, rfl, _, rfl, pr, _, rfl, .inl (SqL.of hT2.1), rfl, _, rfl, ?_⟩
      refine iteB (by rw [List.length_map, la, decide_eq_false_iff_not, V.int.injEq]; omega) ?_
      refine ⟨fun σ' H' => H' = H2 ∧ σ' = [some (.ref p), some (.ref pr), some (.int (if k % 2 = 1 then -sign else sign)), some (.int (dt P C)), some (.int (k : Int)), o5], ?_, ?_⟩
      · refine ⟨_, rfl, _, _, rfl, rfl, (by show (0 : Int) < 2; decide), rfl, _, rfl, ?_⟩
        by_cases ck : k % 2 = 1
        · refine iteBT (by rw [decide_eq_true_iff, V.int.injEq]; omega) ?_
          refine ⟨_, rfl, _, rfl, rfl, ?_⟩
          rw [if_pos ck]
          rfl
        · refine iteB (by rw [decide_eq_false_iff_not, V.int.injEq]; omega) ?_
          refine ⟨rfl, ?_⟩
          rw [if_neg ck]
          rfl
      rintro σ' H' ⟨rfl, rfl⟩
      obtain ⟨at', eat, hat'⟩ := Paired.at hT2.2 (show (R.map fun r => (c :: S).map (hat P C r))[k]? = some ((c :: S).map (hat P C t)) by rw [List.getElem?_map, ht]; rfl)
      refine ⟨_, rfl, _, rfl, pr, _, _, _, rfl, rfl, SqL.of hT2.1, atI_nat (show (rs.map V.ref)[k]? = some (.ref at') by rw [List.getElem?_map, eat]; rfl), ?_⟩
      have lrs : (rs.map V.ref).length ≤ 1000 := by rw [List.length_map]; omega
      refine ⟨_, rfl, _, rfl, pr, _, k, rfl, hT2.1, by rw [List.length_map]; omega, lrs, fun pl H3 hpl e3 hl3 => ?_⟩
      have hps := Paired.erase k (hT2.same e3).2
      have er : (R.map fun r => (c :: S).map (hat P C r)).eraseIdx k = (R.take k ++ R.drop (k + 1)).map fun r => (c :: S).map (hat P C r) := by
        rw [List.eraseIdx_eq_take_drop_succ, ← List.map_take, ← List.map_drop, ← List.map_append]
      rw [er] at hps
      have hat3 := e3 _ _ hat'
      have lps := Paired.length hps
      rw [List.length_map] at lps
      generalize hlr : R.take k ++ R.drop (k + 1) = lr at hps lps
      have hlrR : ∀ x ∈ lr, x ∈ R := fun x hx => by
        rw [← hlr] at hx
        rcases List.mem_append.mp hx with z | z
        · exact List.mem_of_mem_take z
        · exact List.mem_of_mem_drop z
      have xeq : (rs.map V.ref).eraseIdx k = (rs.eraseIdx k).map V.ref := by
        rw [List.eraseIdx_eq_take_drop_succ, List.eraseIdx_eq_take_drop_succ, List.map_append, List.map_take, List.map_drop]
      rw [xeq] at hl3
      have lrl : lr.length ≤ 7 := by
        rw [← hlr]; simp only [List.length_append, List.length_take, List.length_drop]; omega
      refine ⟨pl, rfl, ⟨_, SqL.of hl3⟩, ?_⟩
      refine comp_list (xs := (rs.eraseIdx k).map V.ref) (fun i σ H4 acc => Same H3 H4 ∧ (∃ o, σ = [o, some (.ref at'), some (.int (dt P C))]) ∧ ∃ bs : List Addr, acc = bs.map V.ref ∧ Paired (fun a m => H4 a = some (.lst (List.map V.int m))) bs ((lr.take i).map fun r => S.map (hat (t :: P) (c :: C) r))) ⟨Same.refl _, ⟨_, rfl⟩, [], rfl, .nil⟩ ?_ (Nat.le_of_lt (small1000 (by rw [List.length_map, lps]; omega))) ?_ ?_
      · rintro i σ H4 acc hi ⟨e4, _, bs, rfl, pb⟩
        refine ⟨SqL.of (e4 _ _ hl3), ?_⟩
        rw [List.length_map, Paired.length pb, List.length_map, List.length_take]; omega
      · rintro i v σ H4 acc hv ⟨e4, ⟨o, rfl⟩, bs, rfl, pb⟩
        rw [List.getElem?_map] at hv
        obtain ⟨a, ea, rfl⟩ := Option.map_eq_some_iff.mp hv
        obtain ⟨a', m, ea', em, hm⟩ := paired_get hps (i := i) (List.getElem?_eq_some_iff.mp ea).1
        rw [ea] at ea'
        cases ea'
        rw [List.getElem?_map] at em
        obtain ⟨ρ, hρ, rfl⟩ := Option.map_eq_some_iff.mp em
        have hρR := hlrR ρ (List.mem_of_getElem? hρ)
        have htR : t ∈ R := List.mem_of_getElem? ht
        have lc : S.length + 1 ≤ 1000 := by omega
        refine ⟨_, rfl, _, rfl, _, rfl, at', a, dt P C, (c :: S).map (hat P C t), (c :: S).map (hat P C ρ), rfl, e4 _ _ hat3, e4 _ _ hm, by simp, by rw [List.length_map, List.length_map], by rw [List.length_map]; exact lc, hBar.ne, lt9000 bg1, ?_, ?_, fun l4 H5 hl4 e5 h5 => ?_⟩
        · intro x hx
          obtain ⟨j, hj, rfl⟩ := List.mem_map.mp hx
          exact lt9000 (bg2 t htR j hj)
        · intro x hx
          obtain ⟨j, hj, rfl⟩ := List.mem_map.mp hx
          exact lt9000 (bg2 ρ hρR j hj)
        rw [red_hat hBar.ne] at h5
        refine ⟨e4.trans e5, ⟨_, rfl⟩, bs ++ [l4], by rw [List.map_append]; rfl, ?_⟩
        rw [take_one hρ, List.map_append]
        exact Paired.snoc (L2.Paired.mapP pb fun a m h => e5 _ _ h) h5
      rintro σ H4 acc ⟨e4, _, bs, rfl, pb⟩ pc hpc
      rw [List.length_map, lps, List.take_length] at pb
      have e5 := same_new hpc (.lst (bs.map V.ref))
      refine ⟨_, rfl, at', _, _, _, rfl, rfl, SqL.of (e5 _ _ (e4 _ _ hat3)), head_at (by simp), ?_⟩
      refine ⟨R.take k, R.drop (k + 1), t, pc, bs, some (.int (k : Int)), some (.ref at'), hsplit, ht0, ?_, ((e12.trans e3).trans e4).trans e5, upd_same, ?_⟩
      · rw [hkl]; rfl
      · rw [hlr]; exact L2.Paired.mapP pb fun a m h => e5 _ _ h
    · have hT2 := hT1.same e2
      refine ⟨_, rfl, _, rfl, pr, _, rfl, .inl (SqL.of hT2.1), rfl, _, rfl, ?_⟩
      refine iteBT (by rw [List.length_map, List.length_map, la, decide_eq_true_iff]) ?_
      have z := q H2 (e1.trans e2)
      unfold dtl at z
      rw [hBar.zero fun r hr => hz _ (List.mem_map.mpr ⟨r, hr, rfl⟩)] at z
      exact z

theorem scNs : FnScope ["web", "standing"] ["web", "standing"] (defScope sNs) := ⟨rfl, rfl, rfl, by decide +kernel, rfl, by decide +kernel, by decide +kernel⟩

def spNx (K : PySem.W.Frag) (C : Addr) : Sp := fun vs H Q E => ∃ (wv a : Addr) (n : Nat) (vp : V) (ys : List V), vs = [.ref wv, .ref a] ∧ H wv = some (.tup [.int n, vp]) ∧ SqL K H a ys ∧ (ys.length = n → Q .non H) ∧ (ys.length ≠ n → E (.ref C) none H)
theorem ok_ns {f C OE : Addr} {fd : FuncData} (F : Fun K "need_standing" "need_standing" sNs f fd) (B : Blt mg) (hKb : K.In base) (yB : XCls K mg "BadStanding" C OE) : FnOk P w K mg base (CXF P w) 1 f fd ["web", "standing"] (spNx K C) := by
  refine Fun_okX F scNs (fun vs H Q E h => ?_) (fun cdv A outer s H vs Q E hr h => ?_)
  · obtain ⟨wv, a, n, vp, ys, rfl, _⟩ := h; rfl
  obtain ⟨wv, a, n, vp, ys, rfl, hw, hS, q, qe⟩ := h
  refine ⟨_, (pss_one (ps_if (pt_cmpR op_ne (pe_callB call_len_seq rfl B.len PySem.boot_len (pa_cons (pv 1) pa_nil)) (pe_ix ix_tup (pv 0) pe_int (fun _ _ => rfl)) (nomark _)) (pss_one (ps_raise thr0_cx rfl (yB.own _ hKb) PySem.F.excBase_ValueError rfl)) pss_nil)), ?_⟩
  refine ⟨_, rfl, a, _, rfl, .inl hS, _, rfl, wv, _, _, _, rfl, rfl, SqT.of hw, rfl, rfl, _, rfl, ?_⟩
  by_cases hl : ys.length = n
  · exact iteB (by rw [hl]; simp) (q hl)
  · refine iteBT (by simp only [V.int.injEq, Bool.not_eq_true', decide_eq_false_iff_not]; omega) ?_
    exact qe hl

/-! ### products -/
theorem scPd : FnScope ["row", "numbers"] ["row", "numbers"] (defScope sPd) := ⟨rfl, rfl, rfl, by decide +kernel, rfl, by decide +kernel, by decide +kernel⟩
theorem nd_scPd_0 : (["one", "other"] : List Str).Nodup := by decide +kernel

def spPd : Sp := fun vs H Q _ => ∃ (p r : Addr) (xs ys : List Int), vs = [.ref p, .ref r] ∧ H p = some (.lst (xs.map V.int)) ∧ H r = some (.lst (ys.map V.int)) ∧ xs.length = ys.length ∧ xs.length ≤ 1000 ∧ (∀ x ∈ xs, x.natAbs < 2 ^ 9000) ∧ (∀ x ∈ ys, x.natAbs < 2 ^ 9000) ∧ ∀ H', Same H H' → Q (.int (dot xs ys)) H'
theorem ok_pd {f : Addr} {fd : FuncData} (F : Fun K "product" "product" sPd f fd) (B : Blt mg) (hzip : mg "zip" = none) : FnOk P w K mg base CX0 1 f fd ["row", "numbers"] spPd := by
  refine F.ok scPd (fun vs H Q E h => ?_) (fun cdv A outer s H vs Q E hr h => ?_)
  · obtain ⟨p, r, xs, ys, rfl, _⟩ := h; rfl
  obtain ⟨p, r, xs, ys, rfl, hp, hr1, hl, hl2, bx, bY, q⟩ := h
  refine ⟨_, (pss_one (ps_ret (pe_callB (call_sum rfl) rfl B.sum PyProof.Rows.boot_sum (pa_cons (pe_comp (N' := ["one", "other"]) (mp := [none, none]) (g := (gTup K 2 (gCons (gName 0) (gCons (gName 1) gNil)))) (tt := tYes) (te := (tOp (rI CMulB fun i j => .int (i * j)) (tVar 0) (tVar 1))) (CompOk.of (by kernel_rfl)) rfl (pi_zip rfl hzip (pa_cons (pv 0) (pa_cons (pv 1) pa_nil))) (fun C s H fp => (pg_tup rfl (pgs_cons (pg_name (i := 0) nd_scPd_0 rfl (Or.inl rfl)) (pgs_cons (pg_name (i := 1) nd_scPd_0 rfl (Or.inl rfl)) pgs_nil)))) (fun C s H fp => pts_nil) (fun C s H fp => (pe_op op_mulB (pv 0) (pv 1)))) pa_nil)))), ?_⟩
  refine ⟨_, rfl, _, rfl, p, r, _, _, rfl, SqL.of hp, SqL.of hr1, ?_⟩
  refine comp_zip (xs := xs.map V.int) (ys := ys.map V.int) (fun i σ H' acc => Same H H' ∧ (∃ o1 o2, σ = [o1, o2]) ∧ acc = ((List.range i).map fun k => xs.getD k 0 * ys.getD k 0).map V.int) ⟨Same.refl _, ⟨_, _, rfl⟩, rfl⟩ (by rw [List.length_map, List.length_map, hl]) ?_ (Nat.le_of_lt (small1000 (by rw [List.length_map]; exact hl2))) ?_ ?_
  · rintro i σ H' acc hi ⟨e, _, rfl⟩
    exact ⟨SqL.of (e _ _ hp), SqL.of (e _ _ hr1), by rw [List.length_map, List.length_map, List.length_range]; exact Nat.le_refl _⟩
  · rintro i x y t σ H' acc hx hy ht ⟨e, ⟨o1, o2, rfl⟩, rfl⟩
    obtain ⟨x, hx', rfl⟩ := mapI_get hx
    obtain ⟨y, hy', rfl⟩ := mapI_get hy
    have e3 := e.trans (same_new ht (.tup [.int x, .int y]))
    refine ⟨t, _, rfl, SqT.of upd_same, rfl, _, _, rfl, _, _, rfl, rfl, ?_⟩
    refine ⟨_, rfl, _, rfl, _, _, rfl, rfl, ⟨bx x (List.mem_of_getElem? hx'), bY y (List.mem_of_getElem? hy')⟩, e3, ⟨_, _, rfl⟩, ?_⟩
    rw [List.range_succ (n := i), List.map_append, List.map_append, List.map_cons, List.map_nil, List.map_cons, List.map_nil, getD_some hx', getD_some hy']
  rintro σ H' acc ⟨e, _, rfl⟩ pc hpc
  rw [List.length_map]
  exact ⟨pc, _, rfl, SqL.of upd_same, q _ (e.trans (same_new hpc _))⟩
theorem scPs : FnScope ["table", "numbers"] ["table", "numbers"] (defScope sPs) := ⟨rfl, rfl, rfl, by decide +kernel, rfl, by decide +kernel, by decide +kernel⟩
theorem nd_scPs_0 : (["row", "numbers"] : List Str).Nodup := by decide +kernel

def spPs : Sp := fun vs H Q _ => ∃ (p r : Addr) (as : List Addr) (M : List (List Int)) (ys : List Int), vs = [.ref p, .ref r] ∧ TabL H p as M ∧ H r = some (.lst (ys.map V.int)) ∧ M.length ≤ 1000 ∧ (∀ m ∈ M, m.length = ys.length) ∧ ys.length ≤ 1000 ∧ (∀ m ∈ M, ∀ x ∈ m, x.natAbs < 2 ^ 9000) ∧ (∀ x ∈ ys, x.natAbs < 2 ^ 9000) ∧
  ∀ (l : Addr) (H' : Hp), H l = none → Same H H' → H' l = some (.lst ((M.map fun m => dot m ys).map V.int)) → Q (.ref l) H'
theorem ok_ps {f : Addr} {fd : FuncData} (F : Fun K "products" "products" sPs f fd) (B : Blt mg) (cPd : Cal P w K mg base 1 "product" ["row", "numbers"] spPd) : FnOk P w K mg base CX0 2 f fd ["table", "numbers"] spPs := by
  refine F.ok scPs (fun vs H Q E h => ?_) (fun cdv A outer s H vs Q E hr h => ?_)
  · obtain ⟨p, r, as, M, ys, rfl, _⟩ := h; rfl
  obtain ⟨p, r, as, M, ys, rfl, hT, hr1, hl, hsq, hl2, bx, bY, q⟩ := h
  have la := hT.len
  refine ⟨_, (pss_one (ps_ret (pe_comp (N' := ["row", "numbers"]) (mp := [none, some 1]) (g := (gName 0)) (tt := tYes) (te := (tCall spPd [] E0 (tCons (tVar 0) (tCons (tVar 1) tNil)))) (CompOk.of (by kernel_rfl)) rfl (pi_list (pv 0)) (fun C s H fp => (pg_name (i := 0) nd_scPs_0 rfl (Or.inl rfl))) (fun C s H fp => pts_nil) (fun C s H fp => (pe_cal cPd hr rfl (pa_cons (pv 0) (pa_cons (pv 1) pa_nil))))))), ?_⟩
  refine ⟨_, rfl, p, rfl, ⟨_, SqL.of hT.1⟩, ?_⟩
  refine comp_list (xs := as.map V.ref) (fun i σ H1 acc => Same H H1 ∧ (∃ o, σ = [o, some (.ref r)]) ∧ acc = ((M.take i).map fun m => dot m ys).map V.int) ⟨Same.refl _, ⟨_, rfl⟩, rfl⟩ ?_ (Nat.le_of_lt (small1000 (by rw [List.length_map]; omega))) ?_ ?_
  · rintro i σ H1 acc hi ⟨e, _, rfl⟩
    exact ⟨SqL.of (e _ _ hT.1), by rw [List.length_map, List.length_map, List.length_take]; omega⟩
  · rintro i v σ H1 acc hv ⟨e, ⟨o, rfl⟩, rfl⟩
    rw [List.getElem?_map] at hv
    obtain ⟨x, ex, rfl⟩ := Option.map_eq_some_iff.mp hv
    obtain ⟨x', m, ex', em, hm⟩ := paired_get hT.2 (i := i) (List.getElem?_eq_some_iff.mp ex).1
    rw [ex] at ex'
    cases ex'
    have hmm := List.mem_of_getElem? em
    refine ⟨_, rfl, _, rfl, x, r, m, ys, rfl, e _ _ hm, e _ _ hr1, hsq m hmm, by rw [hsq m hmm]; exact hl2, bx m hmm, bY, fun H2 e2 => ?_⟩
    refine ⟨e.trans e2, ⟨_, rfl⟩, ?_⟩
    rw [take_one em, List.map_append, List.map_append]; rfl
  rintro σ H1 acc ⟨e, _, rfl⟩ pc hpc
  rw [List.length_map, la, List.take_length]
  exact q pc _ (e.free hpc) (e.trans (same_new hpc _)) upd_same
theorem scFl : FnScope ["numbers", "divisor"] ["numbers", "divisor"] (defScope sFl) := ⟨rfl, rfl, rfl, by decide +kernel, rfl, by decide +kernel, by decide +kernel⟩
theorem nd_scFl_0 : (["number", "divisor"] : List Str).Nodup := by decide +kernel

def spFl : Sp := fun vs H Q _ => ∃ (p : Addr) (xs : List Int) (d : Int), vs = [.ref p, .int d] ∧ H p = some (.lst (xs.map V.int)) ∧ xs.length ≤ 1000 ∧ d ≠ 0 ∧ d.natAbs < 2 ^ 9000 ∧
  ∀ (l : Addr) (H' : Hp), H l = none → Same H H' → H' l = some (.lst ((xs.map fun x => x.fdiv d).map V.int)) → Q (.ref l) H'
theorem ok_fl {f : Addr} {fd : FuncData} (F : Fun K "floored" "floored" sFl f fd) (B : Blt mg) : FnOk P w K mg base CX0 1 f fd ["numbers", "divisor"] spFl := by
  refine F.ok scFl (fun vs H Q E h => ?_) (fun cdv A outer s H vs Q E hr h => ?_)
  · obtain ⟨p, xs, d, rfl, _⟩ := h; rfl
  obtain ⟨p, xs, d, rfl, hp, hl, d0, dB, q⟩ := h
  refine ⟨_, (pss_one (ps_ret (pe_comp (N' := ["number", "divisor"]) (mp := [none, some 1]) (g := (gName 0)) (tt := tYes) (te := (tOp (rI CDivB fun i j => .int (i.fdiv j)) (tVar 0) (tVar 1))) (CompOk.of (by kernel_rfl)) rfl (pi_list (pv 0)) (fun C s H fp => (pg_name (i := 0) nd_scFl_0 rfl (Or.inl rfl))) (fun C s H fp => pts_nil) (fun C s H fp => (pe_op op_fdivB (pv 0) (pv 1)))))), ?_⟩
  refine ⟨_, rfl, p, rfl, ⟨_, SqL.of hp⟩, ?_⟩
  refine comp_list (xs := xs.map V.int) (fun i σ H1 acc => H1 = H ∧ (∃ o, σ = [o, some (.int d)]) ∧ acc = ((xs.take i).map fun x => x.fdiv d).map V.int) ⟨rfl, ⟨_, rfl⟩, rfl⟩ ?_ (Nat.le_of_lt (small1000 (by rw [List.length_map]; exact hl))) ?_ ?_
  · rintro i σ H1 acc hi ⟨rfl, _, rfl⟩
    exact ⟨SqL.of hp, by rw [List.length_map, List.length_map, List.length_take]; omega⟩
  · rintro i v σ H1 acc hv ⟨rfl, ⟨o, rfl⟩, rfl⟩
    obtain ⟨x, hx, rfl⟩ := mapI_get hv
    refine ⟨_, rfl, _, rfl, _, _, rfl, rfl, ⟨d0, dB⟩, rfl, ⟨_, rfl⟩, ?_⟩
    rw [take_one hx, List.map_append, List.map_append]; rfl
  rintro σ H1 acc ⟨rfl, _, rfl⟩ pc hpc
  rw [List.length_map, List.take_length]
  exact q pc _ hpc (same_new hpc _) upd_same
theorem scLo : FnScope ["numbers", "divisor"] ["numbers", "divisor"] (defScope sLo) := ⟨rfl, rfl, rfl, by decide +kernel, rfl, by decide +kernel, by decide +kernel⟩
theorem nd_scLo_0 : (["number", "divisor"] : List Str).Nodup := by decide +kernel

def spLo : Sp := fun vs H Q _ => ∃ (p : Addr) (xs : List Int) (d : Int), vs = [.ref p, .int d] ∧ H p = some (.lst (xs.map V.int)) ∧ xs.length ≤ 1000 ∧ 0 < d ∧
  ∀ (l : Addr) (H' : Hp), H l = none → Same H H' → H' l = some (.lst ((xs.map fun x => x % d).map V.int)) → Q (.ref l) H'
theorem ok_lo {f : Addr} {fd : FuncData} (F : Fun K "left_over" "left_over" sLo f fd) (B : Blt mg) : FnOk P w K mg base CX0 1 f fd ["numbers", "divisor"] spLo := by
  refine F.ok scLo (fun vs H Q E h => ?_) (fun cdv A outer s H vs Q E hr h => ?_)
  · obtain ⟨p, xs, d, rfl, _⟩ := h; rfl
  obtain ⟨p, xs, d, rfl, hp, hl, d0, q⟩ := h
  refine ⟨_, (pss_one (ps_ret (pe_comp (N' := ["number", "divisor"]) (mp := [none, some 1]) (g := (gName 0)) (tt := tYes) (te := (tOp (rI (fun _ j => 0 < j) fun i j => .int (i % j)) (tVar 0) (tVar 1))) (CompOk.of (by kernel_rfl)) rfl (pi_list (pv 0)) (fun C s H fp => (pg_name (i := 0) nd_scLo_0 rfl (Or.inl rfl))) (fun C s H fp => pts_nil) (fun C s H fp => (pe_op op_mod (pv 0) (pv 1)))))), ?_⟩
  refine ⟨_, rfl, p, rfl, ⟨_, SqL.of hp⟩, ?_⟩
  refine comp_list (xs := xs.map V.int) (fun i σ H1 acc => H1 = H ∧ (∃ o, σ = [o, some (.int d)]) ∧ acc = ((xs.take i).map fun x => x % d).map V.int) ⟨rfl, ⟨_, rfl⟩, rfl⟩ ?_ (Nat.le_of_lt (small1000 (by rw [List.length_map]; exact hl))) ?_ ?_
  · rintro i σ H1 acc hi ⟨rfl, _, rfl⟩
    exact ⟨SqL.of hp, by rw [List.length_map, List.length_map, List.length_take]; omega⟩
  · rintro i v σ H1 acc hv ⟨rfl, ⟨o, rfl⟩, rfl⟩
    obtain ⟨x, hx, rfl⟩ := mapI_get hv
    refine ⟨_, rfl, _, rfl, _, _, rfl, rfl, d0, rfl, ⟨_, rfl⟩, ?_⟩
    rw [take_one hx, List.map_append, List.map_append]; rfl
  rintro σ H1 acc ⟨rfl, _, rfl⟩ pc hpc
  rw [List.length_map, List.take_length]
  exact q pc _ hpc (same_new hpc _) upd_same
theorem scCn : FnScope ["standing"] ["standing"] (defScope sCn) := ⟨rfl, rfl, rfl, by decide +kernel, rfl, by decide +kernel, by decide +kernel⟩

def spCn : Sp := fun vs H Q _ => ∃ (p : Addr) (xs : List Int), vs = [.ref p] ∧ H p = some (.lst (xs.map V.int)) ∧ Q (.int xs.sum) H
theorem ok_cn {f : Addr} {fd : FuncData} (F : Fun K "coins" "coins" sCn f fd) (B : Blt mg) : FnOk P w K mg base CX0 1 f fd ["standing"] spCn := by
  refine F.ok scCn (fun vs H Q E h => ?_) (fun cdv A outer s H vs Q E hr h => ?_)
  · obtain ⟨p, xs, rfl, _⟩ := h; rfl
  obtain ⟨p, xs, rfl, hp, q⟩ := h
  exact ⟨_, (pss_one (ps_ret (pe_callB (call_sum rfl) rfl B.sum PyProof.Rows.boot_sum (pa_cons (pv 0) pa_nil)))), ⟨_, rfl, p, _, rfl, SqL.of hp, q⟩⟩
theorem scLs : FnScope ["one", "other"] ["one", "other"] (defScope sLs) := ⟨rfl, rfl, rfl, by decide +kernel, rfl, by decide +kernel, by decide +kernel⟩
theorem nd_scLs_0 : (["had", "gone"] : List Str).Nodup := by decide +kernel

def spLs : Sp := fun vs H Q _ => ∃ (p r : Addr) (xs ys : List Int), vs = [.ref p, .ref r] ∧ H p = some (.lst (xs.map V.int)) ∧ H r = some (.lst (ys.map V.int)) ∧ xs.length = ys.length ∧ xs.length ≤ 1000 ∧
  ∀ (l : Addr) (H' : Hp), H l = none → Same H H' → H' l = some (.lst ((dif xs ys).map V.int)) → Q (.ref l) H'
theorem ok_ls {f : Addr} {fd : FuncData} (F : Fun K "less" "less" sLs f fd) (B : Blt mg) (hzip : mg "zip" = none) : FnOk P w K mg base CX0 1 f fd ["one", "other"] spLs := by
  refine F.ok scLs (fun vs H Q E h => ?_) (fun cdv A outer s H vs Q E hr h => ?_)
  · obtain ⟨p, r, xs, ys, rfl, _⟩ := h; rfl
  obtain ⟨p, r, xs, ys, rfl, hp, hr1, hl, hl2, q⟩ := h
  refine ⟨_, (pss_cons (ps_if (pt_cmpR op_ne (pe_callB call_len_seq rfl B.len PySem.boot_len (pa_cons (pv 0) pa_nil)) (pe_callB call_len_seq rfl B.len PySem.boot_len (pa_cons (pv 1) pa_nil)) (nomark _)) pss_never pss_nil)
    (pss_one (ps_ret (pe_comp (N' := ["had", "gone"]) (mp := [none, none]) (g := (gTup K 2 (gCons (gName 0) (gCons (gName 1) gNil)))) (tt := tYes) (te := (tOp (rI0 fun i j => .int (i - j)) (tVar 0) (tVar 1))) (CompOk.of (by kernel_rfl)) rfl (pi_zip rfl hzip (pa_cons (pv 0) (pa_cons (pv 1) pa_nil))) (fun C s H fp => (pg_tup rfl (pgs_cons (pg_name (i := 0) nd_scLs_0 rfl (Or.inl rfl)) (pgs_cons (pg_name (i := 1) nd_scLs_0 rfl (Or.inl rfl)) pgs_nil)))) (fun C s H fp => pts_nil) (fun C s H fp => (pe_op op_sub (pv 0) (pv 1))))))), ?_⟩
  refine ⟨_, rfl, p, _, rfl, .inl (SqL.of hp), _, rfl, r, _, rfl, .inl (SqL.of hr1), rfl, _, rfl, iteB (by rw [List.length_map, List.length_map, hl]; simp) ?_⟩
  refine ⟨_, rfl, _, rfl, p, r, _, _, rfl, SqL.of hp, SqL.of hr1, ?_⟩
  refine comp_zip (xs := xs.map V.int) (ys := ys.map V.int) (fun i σ H' acc => Same H H' ∧ (∃ o1 o2, σ = [o1, o2]) ∧ acc = ((List.range i).map fun k => xs.getD k 0 - ys.getD k 0).map V.int) ⟨Same.refl _, ⟨_, _, rfl⟩, rfl⟩ (by rw [List.length_map, List.length_map, hl]) ?_ (Nat.le_of_lt (small1000 (by rw [List.length_map]; exact hl2))) ?_ ?_
  · rintro i σ H' acc hi ⟨e, _, rfl⟩
    exact ⟨SqL.of (e _ _ hp), SqL.of (e _ _ hr1), by rw [List.length_map, List.length_map, List.length_range]; exact Nat.le_refl _⟩
  · rintro i x y t σ H' acc hx hy ht ⟨e, ⟨o1, o2, rfl⟩, rfl⟩
    obtain ⟨x, hx', rfl⟩ := mapI_get hx
    obtain ⟨y, hy', rfl⟩ := mapI_get hy
    have e3 := e.trans (same_new ht (.tup [.int x, .int y]))
    refine ⟨t, _, rfl, SqT.of upd_same, rfl, _, _, rfl, _, _, rfl, rfl, ?_⟩
    refine ⟨_, rfl, _, rfl, _, _, rfl, rfl, e3, ⟨_, _, rfl⟩, ?_⟩
    rw [List.range_succ (n := i), List.map_append, List.map_append, List.map_cons, List.map_nil, List.map_cons, List.map_nil, getD_some hx', getD_some hy']
  rintro σ H' acc ⟨e, _, rfl⟩ pc hpc
  rw [List.length_map]
  exact q pc _ (e.free hpc) (e.trans (same_new hpc _)) upd_same
theorem scCf : FnScope ["table", "row", "column", "minor"] ["table", "row", "column"] (defScope sCf) := ⟨rfl, rfl, rfl, by decide +kernel, rfl, by decide +kernel, by decide +kernel⟩
theorem nd_scCf_0 : (["kept", "column"] : List Str).Nodup := by decide +kernel

/-! ### the adjoint -/
structure Tb (H : Hp) (p : Addr) (as : List Addr) (M : List (List Int)) (b : Nat) : Prop where
  tab : TabL H p as M
  n7 : M.length ≤ 7
  sq : ∀ m ∈ M, m.length = M.length
  b1 : 1 ≤ b
  bB : b ≤ 2 ^ 1000
  bd : ∀ m ∈ M, ∀ x ∈ m, x.natAbs ≤ b
theorem Tb.same {H H' : Hp} {p : Addr} {as : List Addr} {M : List (List Int)} {b : Nat} (t : Tb H p as M b) (e : Same H H') : Tb H' p as M b := ⟨t.tab.same e, t.n7, t.sq, t.b1, t.bB, t.bd⟩
theorem Tb.fn {H : Hp} {p : Addr} {as : List Addr} {M : List (List Int)} {b : Nat} (t : Tb H p as M b) : ∀ a ∈ M.map fnOf', ∀ c ∈ List.range M.length, (a c).natAbs ≤ b := fun a ha c hc => by
  obtain ⟨m, hm, rfl⟩ := List.mem_map.mp ha
  have hc' := List.mem_range.mp hc
  exact t.bd m hm _ (getD_mem (by rw [t.sq m hm]; exact hc'))
def spCf : Sp := fun vs H Q _ => ∃ (p : Addr) (as : List Addr) (M : List (List Int)) (b r c : Nat), vs = [.ref p, .int (r : Int), .int (c : Int)] ∧ Tb H p as M b ∧ r < M.length ∧ c < M.length ∧ ∀ H', Same H H' → Q (.int (cof (M.map fnOf') (List.range M.length) c r)) H'
set_option maxHeartbeats 2000000 in
theorem ok_cf {f : Addr} {fd : FuncData} (F : Fun K "cofactor" "cofactor" sCf f fd) (B : Blt mg) (cLk : Cal P w K mg base 2 "lacking" ["things", "place"] spLk) (cDt : Cal P w K mg base 2 "det" ["table"] spDt) : FnOk P w K mg base CX0 3 f fd ["table", "row", "column"] spCf := by
  refine F.ok scCf (fun vs H Q E h => ?_) (fun cdv A outer s H vs Q E hr h => ?_)
  · obtain ⟨p, as, M, b, r, c, rfl, _⟩ := h; rfl
  obtain ⟨p, as, M, b, r, c, rfl, hT, hr1, hc1, q⟩ := h
  have la := hT.tab.len
  have n7 := hT.n7
  refine ⟨_, (pss_cons (ps_set (i := 3) scCf.nd rfl (Or.inl rfl) (pe_cal cDt hr rfl (pa_cons (pe_comp (N' := ["kept", "column"]) (mp := [none, some 2]) (g := (gName 0)) (tt := tYes) (te := (tCall spLk [] E0 (tCons (tVar 0) (tCons (tVar 1) tNil)))) (CompOk.of (by kernel_rfl)) rfl (pi_list (pe_cal cLk hr rfl (pa_cons (pv 0) (pa_cons (pv 1) pa_nil)))) (fun C s H fp => (pg_name (i := 0) nd_scCf_0 rfl (Or.inl rfl))) (fun C s H fp => pts_nil) (fun C s H fp => (pe_cal cLk hr rfl (pa_cons (pv 0) (pa_cons (pv 1) pa_nil))))) pa_nil)))
    (pss_one (ps_ret (pe_ifExp (pt_cmpR op_eq (pe_op op_mod (pe_op op_add (pv 1) (pv 2)) pe_int) pe_int (nomark _)) (pe_un un_neg (pv 3)) (pv 3))))), ?_⟩
  refine ⟨_, rfl, _, rfl, p, _, r, rfl, hT.tab.1, by rw [List.length_map]; omega, by rw [List.length_map]; omega, fun pl H1 hpl e1 hl1 => ?_⟩
  rw [map_eraseIdx] at hl1
  have hps := Paired.erase r (hT.tab.same e1).2
  have lps := Paired.length hps
  have lme : (M.eraseIdx r).length = M.length - 1 := len_erase1 hr1
  refine ⟨pl, rfl, ⟨_, SqL.of hl1⟩, ?_⟩
  refine comp_list (xs := (as.eraseIdx r).map V.ref) (fun i σ H2 acc => Same H1 H2 ∧ (∃ o, σ = [o, some (.int (c : Int))]) ∧ ∃ bs : List Addr, acc = bs.map V.ref ∧ Paired (fun a m => H2 a = some (.lst (List.map V.int m))) bs (((M.eraseIdx r).take i).map fun m => m.eraseIdx c)) ⟨Same.refl _, ⟨_, rfl⟩, [], rfl, .nil⟩ ?_ (Nat.le_of_lt (small1000 (by rw [List.length_map]; omega))) ?_ ?_
  · rintro i σ H2 acc hi ⟨e2, _, bs, rfl, pb⟩
    refine ⟨SqL.of (e2 _ _ hl1), ?_⟩
    rw [List.length_map, Paired.length pb, List.length_map, List.length_take]; omega
  · rintro i v σ H2 acc hv ⟨e2, ⟨o, rfl⟩, bs, rfl, pb⟩
    rw [List.getElem?_map] at hv
    obtain ⟨a, ea, rfl⟩ := Option.map_eq_some_iff.mp hv
    obtain ⟨a', m, ea', em, hm⟩ := paired_get hps (i := i) (List.getElem?_eq_some_iff.mp ea).1
    rw [ea] at ea'
    cases ea'
    have hml := hT.sq m (List.mem_of_mem_eraseIdx (List.mem_of_getElem? em))
    refine ⟨_, rfl, _, rfl, a, _, c, rfl, e2 _ _ hm, by rw [List.length_map]; omega, by rw [List.length_map]; omega, fun l H3 hl e3 h3 => ?_⟩
    rw [map_eraseIdx] at h3
    refine ⟨e2.trans e3, ⟨_, rfl⟩, bs ++ [l], by rw [List.map_append]; rfl, ?_⟩
    rw [take_one em, List.map_append]
    exact Paired.snoc (L2.Paired.mapP pb fun a m h => e3 _ _ h) h3
  rintro σ H2 acc ⟨e2, _, bs, rfl, pb⟩ pc hpc
  rw [List.length_map, lps, List.take_length] at pb
  have f2 := same_new hpc (.lst (bs.map V.ref))
  have hT2 : TabL (upd H2 pc (.lst (bs.map V.ref))) pc bs ((M.eraseIdx r).map fun m => m.eraseIdx c) := ⟨upd_same, L2.Paired.mapP pb fun a m h => f2 _ _ h⟩
  have lm2 : ((M.eraseIdx r).map fun m => m.eraseIdx c).length = M.length - 1 := by rw [List.length_map, lme]
  refine ⟨pc, bs, _, b, rfl, hT2, by rw [lm2]; omega, ?_, hT.b1, hT.bB, ?_, fun H3 e3 => ?_⟩
  · intro m hm
    obtain ⟨m', hm', rfl⟩ := List.mem_map.mp hm
    have hml := hT.sq m' (List.mem_of_mem_eraseIdx hm')
    rw [lm2, len_erase1 (by omega), hml]
  · intro m hm x hx
    obtain ⟨m', hm', rfl⟩ := List.mem_map.mp hm
    exact hT.bd m' (List.mem_of_mem_eraseIdx hm') x (List.mem_of_mem_eraseIdx hx)
  have lR : ((M.map fnOf').eraseIdx r).length = ((List.range M.length).eraseIdx c).length := by
    rw [len_erase1 (by rw [List.length_map]; exact hr1), len_erase1 (by rw [List.length_range]; exact hc1), List.length_map, List.length_range]
  rw [minor_form hT.sq, dtl_form lR]
  have z := q H3 (((e1.trans e2).trans f2).trans e3)
  unfold cof at z
  rw [sg_mod] at z
  refine ⟨_, rfl, _, rfl, _, _, rfl, rfl, _, _, rfl, rfl, (by show (0 : Int) < 2; decide), rfl, _, rfl, ?_⟩
  by_cases h : (c + r) % 2 = 1
  · refine iteBT (by rw [decide_eq_true_iff, V.int.injEq]; omega) ?_
    rw [if_pos h, Int.neg_mul, Int.one_mul] at z
    exact ⟨_, rfl, _, rfl, z⟩
  · refine iteB (by rw [decide_eq_false_iff_not, V.int.injEq]; omega) ?_
    rw [if_neg h, Int.one_mul] at z
    exact ⟨_, rfl, z⟩
theorem scAr : FnScope ["table", "row"] ["table", "row"] (defScope sAr) := ⟨rfl, rfl, rfl, by decide +kernel, rfl, by decide +kernel, by decide +kernel⟩
theorem nd_scAr_0 : (["column", "table", "row"] : List Str).Nodup := by decide +kernel

def spAr : Sp := fun vs H Q _ => ∃ (p : Addr) (as : List Addr) (M : List (List Int)) (b i : Nat), vs = [.ref p, .int (i : Int)] ∧ Tb H p as M b ∧ i < M.length ∧
  ∀ (l : Addr) (H' : Hp), H l = none → Same H H' → H' l = some (.lst (((List.range M.length).map fun k => cof (M.map fnOf') (List.range M.length) i k).map V.int)) → Q (.ref l) H'
theorem ok_ar {f : Addr} {fd : FuncData} (F : Fun K "adjoint_row" "adjoint_row" sAr f fd) (B : Blt mg) (cCf : Cal P w K mg base 3 "cofactor" ["table", "row", "column"] spCf) : FnOk P w K mg base CX0 4 f fd ["table", "row"] spAr := by
  refine F.ok scAr (fun vs H Q E h => ?_) (fun cdv A outer s H vs Q E hr h => ?_)
  · obtain ⟨p, as, M, b, i, rfl, _⟩ := h; rfl
  obtain ⟨p, as, M, b, i, rfl, hT, hi, q⟩ := h
  have la := hT.tab.len
  have n7 := hT.n7
  refine ⟨_, (pss_one (ps_ret (pe_comp (N' := ["column", "table", "row"]) (mp := [none, some 0, some 1]) (g := (gName 0)) (tt := tYes) (te := (tCall spCf [] E0 (tCons (tVar 1) (tCons (tVar 0) (tCons (tVar 2) tNil))))) (CompOk.of (by kernel_rfl)) rfl (pi_range1 rfl B.range (pa_cons (pe_callB call_len_seq rfl B.len PySem.boot_len (pa_cons (pv 0) pa_nil)) pa_nil)) (fun C s H fp => (pg_name (i := 0) nd_scAr_0 rfl (Or.inl rfl))) (fun C s H fp => pts_nil) (fun C s H fp => (pe_cal cCf hr rfl (pa_cons (pv 1) (pa_cons (pv 0) (pa_cons (pv 2) pa_nil)))))))), ?_⟩
  refine ⟨_, rfl, p, _, rfl, .inl (SqL.of hT.tab.1), _, rfl, by omega, by rw [List.length_map]; omega, ?_⟩
  refine comp_range (n := (((as.map V.ref).length : Nat) : Int).toNat) (fun k σ H1 acc => Same H H1 ∧ (∃ o, σ = [o, some (.ref p), some (.int (i : Int))]) ∧ acc = ((List.range k).map fun k => cof (M.map fnOf') (List.range M.length) i k).map V.int) ⟨Same.refl _, ⟨_, rfl⟩, rfl⟩ ?_ (Nat.le_of_lt (small1000 (by rw [List.length_map]; omega))) ?_ ?_
  · rintro k σ H1 acc hk ⟨_, _, rfl⟩
    rw [List.length_map, List.length_map, List.length_range]; omega
  · rintro k σ H1 acc hk ⟨e1, ⟨o, rfl⟩, rfl⟩
    rw [List.length_map] at hk
    rw [Int.zero_add]
    refine ⟨_, rfl, _, rfl, _, rfl, p, as, M, b, k, i, rfl, hT.same e1, by omega, hi, fun H2 e2 => ?_⟩
    refine ⟨e1.trans e2, ⟨_, rfl⟩, ?_⟩
    rw [List.range_succ (n := k), List.map_append, List.map_append]; rfl
  rintro σ H1 acc ⟨e1, _, rfl⟩ pc hpc
  rw [List.length_map, la, show ((M.length : Nat) : Int).toNat = M.length by omega]
  exact q pc _ (e1.free hpc) (e1.trans (same_new hpc _)) upd_same
theorem scAj : FnScope ["table"] ["table"] (defScope sAj) := ⟨rfl, rfl, rfl, by decide +kernel, rfl, by decide +kernel, by decide +kernel⟩
theorem nd_scAj_0 : (["row", "table"] : List Str).Nodup := by decide +kernel

def spAj : Sp := fun vs H Q _ => ∃ (p : Addr) (as : List Addr) (M : List (List Int)) (b : Nat), vs = [.ref p] ∧ Tb H p as M b ∧
  ∀ (r : Addr) (bs : List Addr) (H' : Hp), H r = none → (∀ x ∈ bs, H x = none ∧ x ≠ r) → Same H H' → TabL H' r bs (ajt M) → Q (.ref r) H'
theorem ok_aj {f : Addr} {fd : FuncData} (F : Fun K "adjoint" "adjoint" sAj f fd) (B : Blt mg) (cAr : Cal P w K mg base 4 "adjoint_row" ["table", "row"] spAr) : FnOk P w K mg base CX0 5 f fd ["table"] spAj := by
  refine F.ok scAj (fun vs H Q E h => ?_) (fun cdv A outer s H vs Q E hr h => ?_)
  · obtain ⟨p, as, M, b, rfl, _⟩ := h; rfl
  obtain ⟨p, as, M, b, rfl, hT, q⟩ := h
  have la := hT.tab.len
  have n7 := hT.n7
  refine ⟨_, (pss_one (ps_ret (pe_comp (N' := ["row", "table"]) (mp := [none, some 0]) (g := (gName 0)) (tt := tYes) (te := (tCall spAr [] E0 (tCons (tVar 1) (tCons (tVar 0) tNil)))) (CompOk.of (by kernel_rfl)) rfl (pi_range1 rfl B.range (pa_cons (pe_callB call_len_seq rfl B.len PySem.boot_len (pa_cons (pv 0) pa_nil)) pa_nil)) (fun C s H fp => (pg_name (i := 0) nd_scAj_0 rfl (Or.inl rfl))) (fun C s H fp => pts_nil) (fun C s H fp => (pe_cal cAr hr rfl (pa_cons (pv 1) (pa_cons (pv 0) pa_nil))))))), ?_⟩
  refine ⟨_, rfl, p, _, rfl, .inl (SqL.of hT.tab.1), _, rfl, by omega, by rw [List.length_map]; omega, ?_⟩
  refine comp_range (n := (((as.map V.ref).length : Nat) : Int).toNat) (fun i σ H1 acc => Same H H1 ∧ (∃ o, σ = [o, some (.ref p)]) ∧ ∃ bs : List Addr, acc = bs.map V.ref ∧ (∀ x ∈ bs, H x = none) ∧ Paired (fun a m => H1 a = some (.lst (List.map V.int m))) bs ((List.range i).map fun i => (List.range M.length).map fun k => cof (M.map fnOf') (List.range M.length) i k)) ⟨Same.refl _, ⟨_, rfl⟩, [], rfl, (fun x hx => nomatch hx), .nil⟩ ?_ (Nat.le_of_lt (small1000 (by rw [List.length_map]; omega))) ?_ ?_
  · rintro i σ H1 acc hi ⟨_, _, bs, rfl, _, pb⟩
    rw [List.length_map, Paired.length pb, List.length_map, List.length_range]; omega
  · rintro i σ H1 acc hi ⟨e1, ⟨o, rfl⟩, bs, rfl, hn, pb⟩
    rw [List.length_map] at hi
    rw [Int.zero_add]
    refine ⟨_, rfl, _, rfl, p, as, M, b, i, rfl, hT.same e1, by omega, fun l H2 hl e2 h2 => ?_⟩
    refine ⟨e1.trans e2, ⟨_, rfl⟩, bs ++ [l], by rw [List.map_append]; rfl, ?_, ?_⟩
    · intro x hx
      rcases List.mem_append.mp hx with z | z
      · exact hn x z
      · rw [List.mem_singleton.mp z]; exact e1.free hl
    · rw [List.range_succ (n := i), List.map_append]
      exact Paired.snoc (L2.Paired.mapP pb fun a m h => e2 _ _ h) h2
  rintro σ H1 acc ⟨e1, _, bs, rfl, hn, pb⟩ pc hpc
  rw [List.length_map, la, show ((M.length : Nat) : Int).toNat = M.length by omega] at pb
  have f1 := same_new hpc (.lst (bs.map V.ref))
  refine q pc bs _ (e1.free hpc) (fun x hx => ⟨hn x hx, fun z => ?_⟩) (e1.trans f1) ⟨upd_same, L2.Paired.mapP pb fun a m h => f1 _ _ h⟩
  obtain ⟨i, hi, ex⟩ := List.getElem_of_mem hx
  obtain ⟨x', m', ex', _, hm⟩ := paired_get pb (i := i) hi
  rw [List.getElem?_eq_getElem hi, ex] at ex'
  cases ex'
  rw [z, hpc] at hm
  cases hm
theorem scKi : FnScope ["web"] ["web"] (defScope sKi) := ⟨rfl, rfl, rfl, by decide +kernel, rfl, by decide +kernel, by decide +kernel⟩

/-- a web that hangs together, its ties in order -/
structure WebG (H : Hp) (wv : Addr) (n : Nat) (T : List (Int × Int)) : Prop where
  web : WebF H wv n T
  good : Good n T
  nm : ∀ t ∈ T, nrm t = t
  n1 : 1 ≤ n
  n8 : n ≤ 8
theorem WebG.same {H H' : Hp} {wv : Addr} {n : Nat} {T : List (Int × Int)} (h : WebG H wv n T) (e : Same H H') : WebG H' wv n T := ⟨h.web.same e, h.good, h.nm, h.n1, h.n8⟩
theorem WebG.tab {H : Hp} {wv : Addr} {n : Nat} {T : List (Int × Int)} (h : WebG H wv n T) : ((h1 (n - 1)).map fun x => (h1 (n - 1)).map fun c => if c = x then ((T.countP (hasE x) : Nat) : Int) else -((T.countP fun u => decide (u = nrm (x, c)) : Nat) : Int)) = smT n T := by
  have e : T.map nrm = T := by
    rw [List.map_congr_left h.nm]
    exact List.map_id T
  unfold smT
  refine List.map_congr_left fun x _ => List.map_congr_left fun c _ => ?_
  exact ent_perm h.good.rng (by rw [e]) x c
theorem smT_bd {n : Nat} {T : List (Int × Int)} (h : T.length ≤ 16) : ∀ m ∈ smT n T, ∀ x ∈ m, x.natAbs ≤ 2 ^ 200 := fun m hm y hy => by
  obtain ⟨x, _, rfl⟩ := List.mem_map.mp hm
  obtain ⟨c, _, rfl⟩ := List.mem_map.mp hy
  have c1 : T.countP (hasE x) ≤ 16 := Nat.le_trans List.countP_le_length h
  have c2 : T.countP (btwB x c) ≤ 16 := Nat.le_trans List.countP_le_length h
  have big : 16 ≤ 2 ^ 200 := by decide
  unfold ent
  split <;> omega
theorem p200 : 1 ≤ 2 ^ 200 ∧ 2 ^ 200 ≤ 2 ^ 1000 := ⟨Nat.pow_pos (by decide), Nat.pow_le_pow_right (by decide) (by decide)⟩
theorem WebG.tb {H H' : Hp} {wv p : Addr} {as : List Addr} {n : Nat} {T : List (Int × Int)} (h : WebG H wv n T) (t : TabL H' p as (smT n T)) : Tb H' p as (smT n T) (2 ^ 200) :=
  ⟨t, by have := h.n8; rw [smT_len]; omega, smT_sq n T, p200.1, p200.2, smT_bd h.web.len⟩
def spKi : Sp := fun vs H Q _ => ∃ (wv : Addr) (n : Nat) (T : List (Int × Int)), vs = [.ref wv] ∧ WebG H wv n T ∧ ∀ H', Same H H' → Q (.int (kin n T)) H'
theorem ok_ki {f : Addr} {fd : FuncData} (F : Fun K "kinds" "kinds" sKi f fd) (cSm : Cal P w K mg base 6 "small_table" ["web"] spSm) (cDt : Cal P w K mg base 6 "det" ["table"] spDt) : FnOk P w K mg base CX0 7 f fd ["web"] spKi := by
  refine F.ok scKi (fun vs H Q E h => ?_) (fun cdv A outer s H vs Q E hr h => ?_)
  · obtain ⟨wv, n, T, rfl, _⟩ := h; rfl
  obtain ⟨wv, n, T, rfl, hW, q⟩ := h
  refine ⟨_, (pss_one (ps_ret (pe_cal cDt hr rfl (pa_cons (pe_cal cSm hr rfl (pa_cons (pv 0) pa_nil)) pa_nil)))), ?_⟩
  refine ⟨_, rfl, wv, n, T, rfl, hW.web, hW.n1, hW.n8, fun pf as H1 hpf has e1 tf => ?_⟩
  rw [hW.tab] at tf
  have tb := hW.tb tf
  exact ⟨pf, as, smT n T, 2 ^ 200, rfl, tf, tb.n7, tb.sq, tb.b1, tb.bB, tb.bd, fun H2 e2 => q H2 (e1.trans e2)⟩
theorem scAl : FnScope ["web", "one", "other", "many", "rows", "totals", "row", "rest"] ["web", "one", "other"] (defScope sAl) := ⟨rfl, rfl, rfl, by decide +kernel, rfl, by decide +kernel, by decide +kernel⟩

def spAx (K : PySem.W.Frag) (C : Addr) : Sp := fun vs H Q E => ∃ (wv : Addr) (n : Nat) (T : List (Int × Int)) (p r : Addr) (one other : List Int), vs = [.ref wv, .ref p, .ref r] ∧ WebG H wv n T ∧ H p = some (.lst (one.map V.int)) ∧ H r = some (.lst (other.map V.int)) ∧
  (one.length = n → other.length = n → (∀ x ∈ one, x.natAbs ≤ 2 ^ 400) ∧ (∀ x ∈ other, x.natAbs ≤ 2 ^ 400) ∧ ∀ (z : Addr) (H' : Hp), Same H H' → PapAt H H' z (AL n T one other) → Q (.ref z) H') ∧ (one.length ≠ n ∨ other.length ≠ n → E (.ref C) none H)
theorem dif_bd {one other : List Int} (hl : one.length = other.length) (h1 : ∀ x ∈ one, x.natAbs ≤ 2 ^ 400) (h2 : ∀ x ∈ other, x.natAbs ≤ 2 ^ 400) : ∀ x ∈ (dif one other).drop 1, x.natAbs < 2 ^ 9000 := fun x hx => by
  obtain ⟨k, hk, rfl⟩ := List.mem_map.mp (List.mem_of_mem_drop hx)
  have hk' := List.mem_range.mp hk
  have a := h1 _ (getD_mem (l := one) (i := k) hk')
  have b := h2 _ (getD_mem (l := other) (i := k) (by omega))
  have c : (one.getD k 0 - other.getD k 0).natAbs ≤ 2 ^ 400 + 2 ^ 400 := by
    have := Int.natAbs_sub_le (one.getD k 0) (other.getD k 0)
    omega
  refine Nat.lt_of_le_of_lt c ?_
  rw [show (2 : Nat) ^ 400 + 2 ^ 400 = 2 ^ 401 by rw [Nat.pow_succ]; omega]
  exact Nat.pow_lt_pow_right (by decide) (by decide)
theorem firstBad_at {m : Int} : ∀ {rs : List (List Int)} {ts : List Int} {i : Nat} {r : List Int} {t : Int}, rs[i]? = some r → ts[i]? = some t → t % m ≠ 0 → (∀ u ∈ ts.take i, u % m = 0) → firstBad m rs ts = some r
  | [], _, i, _, _, h, _, _, _ => by simp at h
  | _ :: _, [], i, _, _, _, h, _, _ => by simp at h
  | r0 :: rs, t0 :: ts, 0, r, t, h1, h2, h3, _ => by
    have e1 : r0 = r := by simpa using h1
    have e2 : t0 = t := by simpa using h2
    unfold firstBad
    rw [if_pos (by rw [e2]; exact h3), e1]
  | r0 :: rs, t0 :: ts, i + 1, r, t, h1, h2, h3, h4 => by
    unfold firstBad
    rw [if_neg (by simp [h4 t0 (by simp)])]
    exact firstBad_at (by simpa using h1) (by simpa using h2) h3 fun u hu => h4 u (by rw [List.take_succ_cons]; exact List.mem_cons_of_mem _ hu)
theorem ajt_big {H : Hp} {p : Addr} {as : List Addr} {M : List (List Int)} {b : Nat} (t : Tb H p as M b) : ∀ m ∈ ajt M, ∀ x ∈ m, x.natAbs < 2 ^ 9000 := fun m hm x hx => by
  obtain ⟨i, _, rfl⟩ := List.mem_map.mp hm
  obtain ⟨k, _, rfl⟩ := List.mem_map.mp hx
  have n7 := t.n7
  exact lt9000 (cof_big t.b1 t.bB (by rw [List.length_map]; omega) (by rw [List.length_range]; omega) t.fn)
set_option maxHeartbeats 8000000 in
theorem ok_al {f C : Addr} {fd : FuncData} (F : Fun K "alike" "alike" sAl f fd) (B : Blt mg) (hzip : mg "zip" = none) (cNs : CalX P w K mg base 7 "need_standing" ["web", "standing"] (spNx K C)) (cCn : Cal P w K mg base 7 "coins" ["standing"] spCn) (cKi : Cal P w K mg base 7 "kinds" ["web"] spKi) (cAj : Cal P w K mg base 7 "adjoint" ["table"] spAj) (cSm : Cal P w K mg base 7 "small_table" ["web"] spSm) (cPs : Cal P w K mg base 7 "products" ["table", "numbers"] spPs) (cLs : Cal P w K mg base 7 "less" ["one", "other"] spLs) (cLo : Cal P w K mg base 7 "left_over" ["numbers", "divisor"] spLo) (cFl : Cal P w K mg base 7 "floored" ["numbers", "divisor"] spFl) : FnOk P w K mg base (CXF P w) 8 f fd ["web", "one", "other"] (spAx K C) := by
  refine Fun_okX F scAl (fun vs H Q E h => ?_) (fun cdv A outer s H vs Q E hr h => ?_)
  · obtain ⟨wv, n, T, p, r, one, other, rfl, _⟩ := h; rfl
  obtain ⟨wv, n, T, p, r, one, other, rfl, hW, hp, hr1, qq, qe⟩ := h
  obtain ⟨vp, hw⟩ := hW.web.top
  have n1 := hW.n1
  have n8 := hW.n8
  refine ⟨_, (pss_cons (ps_expr (pe_calX thr_cx cNs hr rfl (pa_cons (pv 0) (pa_cons (pv 1) pa_nil))))
    (pss_cons (ps_expr (pe_calX thr_cx cNs hr rfl (pa_cons (pv 0) (pa_cons (pv 2) pa_nil))))
    (pss_cons (ps_if (pt_cmpR op_ne (pe_cal cCn hr rfl (pa_cons (pv 1) pa_nil)) (pe_cal cCn hr rfl (pa_cons (pv 2) pa_nil)) (nomark _)) (pss_one (ps_ret (pe_tup (pa_cons pe_str pa_nil)))) pss_nil)
    (pss_cons (ps_set (i := 3) scAl.nd rfl (Or.inl rfl) (pe_cal cKi hr rfl (pa_cons (pv 0) pa_nil)))
    (pss_cons (ps_set (i := 4) scAl.nd rfl (Or.inl rfl) (pe_cal cAj hr rfl (pa_cons (pe_cal cSm hr rfl (pa_cons (pv 0) pa_nil)) pa_nil)))
    (pss_cons (ps_set (i := 5) scAl.nd rfl (Or.inl rfl) (pe_cal cPs hr rfl (pa_cons (pv 4) (pa_cons (pe_slice sl_list (pe_cal cLs hr rfl (pa_cons (pv 1) (pa_cons (pv 2) pa_nil))) (po_some pe_int) po_none) pa_nil))))
    (pss_cons (ps_for own_cx rfl (pi_zip rfl hzip (pa_cons (pv 4) (pa_cons (pe_cal cLo hr rfl (pa_cons (pv 5) (pa_cons (pv 3) pa_nil))) pa_nil))) (pg_tup rfl (pgs_cons (pg_name (i := 6) scAl.nd rfl (Or.inl rfl)) (pgs_cons (pg_name (i := 7) scAl.nd rfl (Or.inl rfl)) pgs_nil))) (pss_one (ps_if (pt_cmpR op_ne (pv 7) pe_int (nomark _)) (pss_one (ps_ret (pe_tup (pa_cons pe_str (pa_cons (pv 3) (pa_cons (pe_op op_cat (pe_lst (pa_cons pe_int pa_nil)) (pv 6)) pa_nil)))))) pss_nil)))
    (pss_one (ps_ret (pe_tup (pa_cons pe_str (pa_cons (pe_op op_cat (pe_lst (pa_cons pe_int pa_nil)) (pe_cal cFl hr rfl (pa_cons (pv 5) (pa_cons (pv 3) pa_nil)))) pa_nil)))))))))))), ?_⟩
  refine ⟨_, rfl, _, rfl, wv, p, n, vp, _, rfl, hw, SqL.of hp, fun l1 => ?_, fun z => qe (.inl (by rwa [List.length_map] at z))⟩
  rw [List.length_map] at l1
  refine ⟨_, rfl, _, rfl, wv, r, n, vp, _, rfl, hw, SqL.of hr1, fun l2 => ?_, fun z => qe (.inr (by rwa [List.length_map] at z))⟩
  rw [List.length_map] at l2
  obtain ⟨b1, b2, q⟩ := qq l1 l2
  refine ⟨_, rfl, p, one, rfl, hp, _, rfl, r, other, rfl, hr1, rfl, _, rfl, ?_⟩
  by_cases hsum : one.sum = other.sum
  case neg =>
    refine iteBT (by simp only [V.int.injEq, Bool.not_eq_true', decide_eq_false_iff_not]; exact hsum) ?_
    refine ⟨by show 1 ≤ sizeLine; decide, fun z hz => ?_⟩
    refine q z _ (same_new hz _) ?_
    unfold AL
    rw [if_pos hsum]
    exact upd_same
  refine iteB (by rw [hsum]; simp) ?_
  have hk := kin_pos' hW.good n1
  refine ⟨_, rfl, wv, n, T, rfl, hW, fun H1 e1 => ?_⟩
  have hW1 := hW.same e1
  refine ⟨_, rfl, wv, n, T, rfl, hW1.web, n1, n8, fun pf as H2 hpf has e2 tf => ?_⟩
  rw [hW1.tab] at tf
  have tb := hW1.tb tf
  have lM := smT_len n T
  refine ⟨pf, as, smT n T, 2 ^ 200, rfl, tb, fun pa bs H3 hpa hbs e3 ta => ?_⟩
  have e03 := (e1.trans e2).trans e3
  have la := ta.len
  rw [ajt_len] at la
  refine ⟨_, rfl, _, rfl, _, rfl, p, r, one, other, rfl, e03 _ _ hp, e03 _ _ hr1, by omega, by omega, fun pd H4 hpd e4 hd4 => ?_⟩
  refine ⟨_, rfl, pd, _, rfl, SqL.of hd4, fun pe hpe => ?_⟩
  rw [cutV_drop1, ← List.map_drop]
  have f4 := same_new hpe (.lst (((dif one other).drop 1).map V.int))
  have ld : ((dif one other).drop 1).length = n - 1 := by unfold dif; rw [List.length_drop, List.length_map, List.length_range, l1]
  have e35 := e4.trans f4
  refine ⟨pa, pe, bs, ajt (smT n T), (dif one other).drop 1, rfl, ta.same e35, upd_same, by rw [ajt_len]; omega, fun m hm => by rw [ajt_sq m hm, ld, lM], by omega, ajt_big tb, dif_bd (by omega) b1 b2, fun pt H6 hpt e6 ht6 => ?_⟩
  have et : ((ajt (smT n T)).map fun m => dot m ((dif one other).drop 1)) = tots n T one other := rfl
  rw [et] at ht6
  have lt : (tots n T one other).length = n - 1 := by unfold tots; rw [List.length_map, ajt_len, lM]
  have e36 := e35.trans e6
  have e06 := e03.trans e36
  have ta6 := ta.same e36
  generalize upd H4 pe (.lst (((dif one other).drop 1).map V.int)) = H5 at f4 e35 e6
  -- the remainders
  refine ⟨_, rfl, _, rfl, _, rfl, pt, tots n T one other, kin n T, rfl, ht6, by omega, hk, fun pl H7 hpl e7 hl7 => ?_⟩
  have e07 := e06.trans e7
  have ta7 := ta6.same e7
  refine ⟨pa, pl, _, _, rfl, SqL.of ta7.1, SqL.of hl7, ?_⟩
  refine for_zip (xs := bs.map V.ref) (ys := ((tots n T one other).map fun x => x % kin n T).map V.int) (fun i σ H' => (∃ o6 o7 : Option V, σ = [some (.ref wv), some (.ref p), some (.ref r), some (.int (kin n T)), some (.ref pa), some (.ref pt), o6, o7]) ∧ Same H7 H' ∧ ∀ u ∈ (tots n T one other).take i, u % kin n T = 0) ⟨⟨_, _, rfl⟩, Same.refl _, fun u hu => nomatch hu⟩ (by rw [List.length_map, List.length_map, List.length_map]; omega) (fun i σ H' _ ⟨_, e, _⟩ => ⟨SqL.of (e _ _ ta7.1), SqL.of (e _ _ hl7)⟩) ?_ ?_
  · rintro i x y t σ H8 hx hy ht ⟨⟨o6, o7, rfl⟩, e8, hz⟩
    rw [List.getElem?_map] at hx
    obtain ⟨xa, ex, rfl⟩ := Option.map_eq_some_iff.mp hx
    obtain ⟨yv, hy', rfl⟩ := mapI_get hy
    rw [List.getElem?_map] at hy'
    obtain ⟨u, eu, rfl⟩ := Option.map_eq_some_iff.mp hy'
    obtain ⟨xa', m, ex', em, hm⟩ := paired_get ta7.2 (i := i) (List.getElem?_eq_some_iff.mp ex).1
    rw [ex] at ex'
    cases ex'
    have e9 := e8.trans (same_new ht (.tup [.ref xa, .int (u % kin n T)]))
    refine ⟨t, _, rfl, SqT.of upd_same, rfl, _, _, rfl, _, _, rfl, rfl, ?_⟩
    refine ⟨_, rfl, rfl, _, rfl, ?_⟩
    by_cases hu0 : u % kin n T = 0
    · refine iteB (by rw [hu0]; simp) ?_
      refine ⟨⟨_, _, rfl⟩, e9, fun v hv => ?_⟩
      rw [take_one eu] at hv
      rcases List.mem_append.mp hv with z | z
      · exact hz v z
      · rw [List.mem_singleton.mp z]; exact hu0
    · refine iteBT (by simp only [V.int.injEq, Bool.not_eq_true', decide_eq_false_iff_not]; exact hu0) ?_
      refine ⟨_, rfl, by show 1 ≤ sizeLine; decide, fun c1 hc1 => ?_⟩
      have fA := same_new hc1 (.lst [.int 0])
      have hmA := fA _ _ (e9 _ _ hm)
      have lm := ajt_sq m (List.mem_of_getElem? em)
      refine ⟨_, rfl, c1, xa, _, _, rfl, rfl, upd_same, hmA, by rw [List.length_map]; exact Nat.le_of_lt (small1000 (by simp; omega)), fun c2 hc2 => ?_⟩
      have fB := same_new hc2 (.lst ([.int 0] ++ m.map V.int))
      refine ⟨by show 3 ≤ sizeLine; decide, fun z hz' => ?_⟩
      have fC := same_new hz' (.tup [.str "weighed", .int (kin n T), .ref c2])
      have e0C := ((e07.trans e9).trans fA).trans (fB.trans fC)
      refine q z _ e0C ?_
      unfold AL
      rw [if_neg (fun z => z hsum), firstBad_at em eu hu0 hz]
      exact ⟨c2, ((e07.trans e9).trans fA).free hc2, upd_same, fC _ _ upd_same⟩
  rintro σ H8 ⟨⟨o6, o7, rfl⟩, e8, hz⟩
  rw [List.length_map, la, lM] at hz
  have hz' : ∀ u ∈ tots n T one other, u % kin n T = 0 := fun u hu => hz u (by rw [List.take_of_length_le (by omega)]; exact hu)
  have kb : (kin n T).natAbs < 2 ^ 9000 := by
    unfold kin dtl
    exact lt9000 (dt_big p200.1 p200.2 (by rw [List.length_map]; omega) (by rw [List.length_range]; omega) tb.fn)
  refine ⟨by show 1 ≤ sizeLine; decide, fun c1 hc1 => ?_⟩
  have fA := same_new hc1 (.lst [.int 0])
  have e7A := e8.trans fA
  refine ⟨_, rfl, _, rfl, pt, tots n T one other, kin n T, rfl, e7A _ _ (e7 _ _ ht6), by omega, by omega, kb, fun pg H9 hpg e9 hg9 => ?_⟩
  refine ⟨c1, pg, _, _, rfl, rfl, e9 _ _ upd_same, hg9, by rw [List.length_map, List.length_map]; exact Nat.le_of_lt (small1000 (by simp; omega)), fun c2 hc2 => ?_⟩
  have fB := same_new hc2 (.lst ([.int 0] ++ ((tots n T one other).map fun x => x.fdiv (kin n T)).map V.int))
  refine ⟨by show 2 ≤ sizeLine; decide, fun z hz'' => ?_⟩
  have fC := same_new hz'' (.tup [.str "lent", .ref c2])
  have e09 := (e07.trans e7A).trans e9
  refine q z _ ((e09.trans fB).trans fC) ?_
  unfold AL
  rw [if_neg (fun z => z hsum), firstBad_none _ _ hz']
  exact ⟨c2, e09.free hc2, upd_same, fC _ _ upd_same⟩
theorem scMi : FnScope ["cell", "k", "number"] ["cell", "k"] (defScope sMi) := ⟨rfl, rfl, rfl, by decide +kernel, rfl, by decide +kernel, by decide +kernel⟩

def spMi : Sp := fun vs H Q _ => ∃ c k : Int, vs = [.int c, .int k] ∧ 0 ≤ k ∧ k ≤ 1000 ∧ ∀ v : Int, 0 ≤ v → Q (.int v) H
theorem ok_mi {f : Addr} {fd : FuncData} (F : Fun K "_law_mixed" "_law_mixed" sMi f fd) : FnOk P w K mg base CX0 1 f fd ["cell", "k"] spMi := by
  refine F.ok scMi (fun vs H Q E h => ?_) (fun cdv A outer s H vs Q E hr h => ?_)
  · obtain ⟨c, k, rfl, _⟩ := h; rfl
  obtain ⟨c, k, rfl, k0, k1, q⟩ := h
  refine ⟨_, (pss_cons (ps_set (i := 2) scMi.nd rfl (Or.inl rfl) (pe_op op_mod (pe_op op_add (pe_op op_add (pv 0) (pe_op op_mul (pe_op op_mul pe_int (pv 1)) (pv 1))) (pv 1)) pe_int))
    (pss_cons (ps_set (i := 2) scMi.nd rfl (Or.inl rfl) (pe_op op_mod (pe_op op_mul (pv 2) (pv 2)) pe_int))
    (pss_one (ps_ret (pe_op op_mod (pe_op op_mul (pv 2) pe_int) pe_int))))), ?_⟩
  refine ⟨_, rfl, _, rfl, _, _, rfl, rfl, .inl ⟨by decide, by decide⟩, _, rfl, _, _, rfl, rfl, .inr ⟨by show -(2 ^ 64) < k; omega, by show k < 2 ^ 64; omega⟩, _, _, rfl, rfl, _, rfl, _, _, rfl, rfl, _, _, rfl, rfl, (by show (0 : Int) < 2147483647; decide), ?_⟩
  have a0 := Int.emod_nonneg (c + 7919 * k * k + k) (show (2147483647 : Int) ≠ 0 by decide)
  have a1 := Int.emod_lt_of_pos (c + 7919 * k * k + k) (show (0 : Int) < 2147483647 by decide)
  show tSeq _ _ _ (List.set _ 2 (some (.int ((c + 7919 * k * k + k) % 2147483647)))) H
  generalize (c + 7919 * k * k + k) % 2147483647 = u at a0 a1 ⊢
  refine ⟨_, rfl, _, rfl, _, _, rfl, rfl, .inl ⟨by show -(2 ^ 64) < u; omega, by show u < 2 ^ 64; omega⟩, _, _, rfl, rfl, (by show (0 : Int) < 1000000007; decide), ?_⟩
  exact ⟨_, rfl, _, _, rfl, rfl, .inr ⟨by decide, by decide⟩, _, _, rfl, rfl, (by show (0 : Int) < 998244353; decide), q _ (Int.emod_nonneg _ (by decide))⟩
theorem scTi : FnScope ["houses", "more", "cell", "ties", "order", "k", "mark", "one"] ["houses", "more", "cell"] (defScope sTi) := ⟨rfl, rfl, rfl, by decide +kernel, rfl, by decide +kernel, by decide +kernel⟩
theorem nd_scTi_0 : (["one", "other", "order"] : List Str).Nodup := by decide +kernel

def spTi : Sp := fun vs H Q _ => ∃ (n m : Nat) (c : Int), vs = [.int n, .int m, .int c] ∧ 1 ≤ n ∧ n ≤ 8 ∧ n - 1 + m ≤ 16 ∧ (n = 1 → m = 0) ∧
  ∀ (r : Addr) (zs : List V) (T : List (Int × Int)) (H' : Hp), Same H H' → H' r = some (.lst zs) → Pairs H' zs T → Good n T → Q (.ref r) H'
set_option maxHeartbeats 2000000 in
theorem ok_ti {f : Addr} {fd : FuncData} (F : Fun K "_law_ties" "_law_ties" sTi f fd) (B : Blt mg) (cMi : Cal P w K mg base 1 "_law_mixed" ["cell", "k"] spMi) : FnOk P w K mg base CX0 2 f fd ["houses", "more", "cell"] spTi := by
  refine F.ok scTi (fun vs H Q E h => ?_) (fun cdv A outer s H vs Q E hr h => ?_)
  · obtain ⟨n, m, c, rfl, _⟩ := h; rfl
  obtain ⟨n, m, c, rfl, n1, n8, h16, hm0, q⟩ := h
  refine ⟨_, (pss_cons (ps_set (i := 3) scTi.nd rfl (Or.inl rfl) (pe_lst pa_nil))
    (pss_cons (ps_set (i := 4) scTi.nd rfl (Or.inr rfl) (pe_lst (pa_cons pe_int pa_nil)))
    (pss_cons (ps_for PassesOwn.never rfl (pi_range2 rfl B.range (pa_cons pe_int (pa_cons (pv 0) pa_nil))) (pg_name (i := 5) scTi.nd rfl (Or.inl rfl)) (pss_cons (ps_set (i := 6) scTi.nd rfl (Or.inl rfl) (pe_cal cMi hr rfl (pa_cons (pv 2) (pa_cons (pv 5) pa_nil))))
    (pss_cons (ps_expr (pe_bm PySem.F.plainAttrs_list PySem.F.slot_list_append PySem.F.type_list_append mt_append (pv 3) (pa_cons (pe_ix ix_list (pe_lst (pa_cons (pe_tup (pa_cons (pv 5) (pa_cons (pe_op op_mod (pv 6) (pv 5)) pa_nil))) (pa_cons (pe_tup (pa_cons (pe_op op_mod (pv 6) (pv 5)) (pa_cons (pv 5) pa_nil))) pa_nil))) (pe_op op_mod (pe_op op_fdiv (pv 6) pe_int) pe_int) (fun _ _ => rfl)) pa_nil)))
    (pss_one (ps_expr (pe_bm PySem.F.plainAttrs_list PySem.F.slot_list_insert PySem.F.type_list_insert mt_insert (pv 4) (pa_cons (pe_op op_sub (pv 5) (pe_op op_mul (pe_op op_mod (pe_cal cMi hr rfl (pa_cons (pv 2) (pa_cons (pe_op op_add pe_int (pv 5)) pa_nil))) (pe_op op_add (pv 5) pe_int)) (pe_op op_mod (pe_op op_fdiv (pv 2) pe_int) pe_int))) (pa_cons (pv 5) pa_nil))))))))
    (pss_cons (ps_for PassesOwn.never rfl (pi_range1 rfl B.range (pa_cons (pv 1) pa_nil)) (pg_name (i := 5) scTi.nd rfl (Or.inl rfl)) (pss_cons (ps_set (i := 7) scTi.nd rfl (Or.inl rfl) (pe_op op_mod (pe_cal cMi hr rfl (pa_cons (pv 2) (pa_cons (pe_op op_add pe_int (pe_op op_mul pe_int (pv 5))) pa_nil))) (pv 0)))
    (pss_one (ps_expr (pe_bm PySem.F.plainAttrs_list PySem.F.slot_list_append PySem.F.type_list_append mt_append (pv 3) (pa_cons (pe_tup (pa_cons (pv 7) (pa_cons (pe_op op_mod (pe_op op_add (pe_op op_add (pv 7) pe_int) (pe_op op_mod (pe_cal cMi hr rfl (pa_cons (pv 2) (pa_cons (pe_op op_add pe_int (pe_op op_mul pe_int (pv 5))) pa_nil))) (pe_op op_sub (pv 0) pe_int))) (pv 0)) pa_nil))) pa_nil))))))
    (pss_one (ps_ret (pe_comp (N' := ["one", "other", "order"]) (mp := [none, none, some 4]) (g := (gTup K 2 (gCons (gName 0) (gCons (gName 1) gNil)))) (tt := tYes) (te := (tTup (tCons (tOp (rIxL K) (tVar 2) (tVar 0)) (tCons (tOp (rIxL K) (tVar 2) (tVar 1)) tNil)))) (CompOk.of (by kernel_rfl)) rfl (pi_list (pv 3)) (fun C s H fp => (pg_tup rfl (pgs_cons (pg_name (i := 0) nd_scTi_0 rfl (Or.inl rfl)) (pgs_cons (pg_name (i := 1) nd_scTi_0 rfl (Or.inl rfl)) pgs_nil)))) (fun C s H fp => pts_nil) (fun C s H fp => (pe_tup (pa_cons (pe_ix ix_list (pv 2) (pv 0) (fun _ _ => rfl)) (pa_cons (pe_ix ix_list (pv 2) (pv 1) (fun _ _ => rfl)) pa_nil))))))))))), ?_⟩
  refine ⟨by show 0 ≤ sizeLine; decide, fun pt hpt => ?_⟩
  refine ⟨by show 1 ≤ sizeLine; decide, fun po hpo => ?_⟩
  have hne : po ≠ pt := fun z => by rw [z, upd_same] at hpo; cases hpo
  have hpoH : H po = none := (same_new hpt _).free hpo
  refine ⟨_, rfl, 1, n, rfl, ⟨by omega, by omega, by omega, by omega⟩, ?_⟩
  refine for_range (n := ((n : Int) - 1).toNat) (fun i σ H' => ∃ (o5 o6 : Option V) (ys : List V) (T : List (Int × Int)) (o : List Int), σ = [some (.int n), some (.int m), some (.int c), some (.ref pt), some (.ref po), o5, o6, none] ∧ Same H H' ∧ H' pt = some (.lst ys) ∧ Pairs H' ys T ∧ H' po = some (.lst (o.map V.int)) ∧ o.Perm (hs (i + 1)) ∧
    T.length = i ∧ (∀ t ∈ T, inb n t) ∧ ∀ k : Int, 1 ≤ k → k < (i : Int) + 1 → ∃ p, 0 ≤ p ∧ p < k ∧ ((p, k) ∈ T ∨ (k, p) ∈ T))
    ⟨none, none, [], [], [0], rfl, (same_new hpt _).trans (same_new hpo _), (same_new hpo _) _ _ upd_same, .nil, upd_same, by rw [hs_succ]; exact .refl _, rfl, (fun t ht => nomatch ht), fun k h1 h2 => by omega⟩ ?_ ?_
  · rintro i σ H' hi ⟨o5, o6, ys, T, o, rfl, e1, hy, hP, ho, hop, hTl, hTb, hTt⟩
    have hyl := hP.length
    have hol : o.length = i + 1 := by rw [hop.length_eq, hs_length]
    generalize hk : (1 : Int) + (i : Int) = k
    have k1 : 1 ≤ k := by omega
    have kn : k < n := by omega
    refine ⟨_, rfl, _, rfl, c, k, rfl, by omega, by omega, fun mk mk0 => ?_⟩
    have m0 := Int.emod_nonneg mk (show k ≠ 0 by omega)
    have m1 := Int.emod_lt_of_pos mk (show (0 : Int) < k by omega)
    refine ⟨_, rfl, .inl ⟨rfl, _, SqL.of hy⟩, _, rfl, _, rfl, _, rfl, _, _, rfl, rfl, by show (0 : Int) < k; omega, by show 2 ≤ sizeLine; decide, fun p1 hp1 => ?_⟩
    refine ⟨_, rfl, _, rfl, _, _, rfl, rfl, by show (0 : Int) < k; omega, _, rfl, by show 2 ≤ sizeLine; decide, fun p2 hp2 => ?_⟩
    refine ⟨by show 2 ≤ sizeLine; decide, fun p3 hp3 => ?_⟩
    have e2 := same_new hp1 (.tup [.int k, .int (mk % k)])
    have e3 := same_new hp2 (.tup [.int (mk % k), .int k])
    have e4 := same_new hp3 (.lst [.ref p1, .ref p2])
    have w0 := Int.emod_nonneg (mk / 7) (show (2 : Int) ≠ 0 by decide)
    have w1 := Int.emod_lt_of_pos (mk / 7) (show (0 : Int) < 2 by decide)
    have e24 := (e2.trans e3).trans e4
    have ht1 := e4 _ _ (e3 _ _ (upd_same (H := H') (a := p1) (o := .tup [.int k, .int (mk % k)])))
    have ht2 := e4 _ _ (upd_same (H := upd H' p1 (.tup [.int k, .int (mk % k)])) (a := p2) (o := .tup [.int (mk % k), .int k]))
    have hp34 : upd (upd (upd H' p1 (.tup [.int k, .int (mk % k)])) p2 (.tup [.int (mk % k), .int k])) p3 (.lst [.ref p1, .ref p2]) p3 = some (.lst [.ref p1, .ref p2]) := upd_same
    generalize upd (upd (upd H' p1 (.tup [.int k, .int (mk % k)])) p2 (.tup [.int (mk % k), .int k])) p3 (.lst [.ref p1, .ref p2]) = H5 at e24 ht1 ht2 hp34 ⊢
    obtain ⟨pp, u, hpp, hat, hu⟩ : ∃ (pp : Addr) (u : Int × Int), H5 pp = some (.tup [.int u.1, .int u.2]) ∧ atI [V.ref p1, V.ref p2] (mk / 7 % 2) = some (.ref pp) ∧ (u = (k, mk % k) ∨ u = (mk % k, k)) := by
      have : mk / 7 % 2 = 0 ∨ mk / 7 % 2 = 1 := by omega
      rcases this with h | h <;> rw [h]
      · exact ⟨p1, (k, mk % k), ht1, rfl, .inl rfl⟩
      · exact ⟨p2, (mk % k, k), ht2, rfl, .inr rfl⟩
    refine ⟨_, rfl, _, _, rfl, rfl, ⟨by decide, by decide⟩, _, _, rfl, rfl, (by show (0 : Int) < 2; decide), p3, _, _, _, rfl, rfl, SqL.of hp34, hat, pt, ys, _, rfl, rfl, e24 _ _ hy, small1000 (by omega), ?_⟩
    have e5 : Same H (upd H5 pt (.lst (ys ++ [.ref pp]))) := same_upd hpt (e1.trans e24) _
    have hP5 : Pairs (upd H5 pt (.lst (ys ++ [.ref pp]))) (ys ++ [.ref pp]) (T ++ [u]) := pairs_upd ((hP.same e24).append (Pairs.one ⟨pp, rfl, hpp⟩)) (e24 _ _ hy) _
    have ho5 : upd H5 pt (.lst (ys ++ [.ref pp])) po = some (.lst (o.map V.int)) := by rw [upd_ne hne]; exact e24 _ _ ho
    have hy5 : upd H5 pt (.lst (ys ++ [.ref pp])) pt = some (.lst (ys ++ [.ref pp])) := upd_same
    generalize upd H5 pt (.lst (ys ++ [.ref pp])) = H6 at e5 hP5 ho5 hy5 ⊢
    refine ⟨_, rfl, .inl ⟨rfl, _, SqL.of ho5⟩, _, rfl, _, rfl, _, rfl, _, _, rfl, rfl, c, 90 + k, rfl, by omega, by omega, fun m2 m20 => ?_⟩
    have x0 := Int.emod_nonneg m2 (show k + 1 ≠ 0 by omega)
    have x1 := Int.emod_lt_of_pos m2 (show (0 : Int) < k + 1 by omega)
    have y0 := Int.emod_nonneg (c / 3) (show (2 : Int) ≠ 0 by decide)
    have y1 := Int.emod_lt_of_pos (c / 3) (show (0 : Int) < 2 by decide)
    refine ⟨_, rfl, _, _, rfl, rfl, _, _, rfl, rfl, by show (0 : Int) < k + 1; omega, _, rfl, _, _, rfl, rfl, ⟨by decide, by decide⟩, _, _, rfl, rfl, (by show (0 : Int) < 2; decide), _, _, rfl, rfl, .inr ⟨by show -(2 ^ 64) < c / 3 % 2; omega, by show c / 3 % 2 < 2 ^ 64; omega⟩, _, _, rfl, rfl, ?_⟩
    have z01 : 0 ≤ k - m2 % (k + 1) * (c / 3 % 2) ∧ k - m2 % (k + 1) * (c / 3 % 2) ≤ k := by
      have : c / 3 % 2 = 0 ∨ c / 3 % 2 = 1 := by omega
      rcases this with h | h <;> rw [h] <;> omega
    refine ⟨_, rfl, po, _, _, _, rfl, rfl, ho5, z01.1, by rw [List.length_map]; omega, by rw [List.length_map]; exact small1000 (by omega), ?_⟩
    refine ⟨_, _, ys ++ [.ref pp], T ++ [u], o.take (k - m2 % (k + 1) * (c / 3 % 2)).toNat ++ k :: o.drop (k - m2 % (k + 1) * (c / 3 % 2)).toNat, rfl, same_upd hpoH e5 _, ?_, pairs_upd hP5 ho5 _, ?_, ?_, ?_, ?_, ?_⟩
    · rw [upd_ne (Ne.symm hne)]; exact hy5
    · rw [upd_same, List.map_append, List.map_cons, List.map_take, List.map_drop]
    · refine (ins_perm _ _ _).trans ?_
      rw [hs_succ, show ((i + 1 : Nat) : Int) = k by omega]
      exact (hop.cons _).trans (List.perm_append_singleton k (hs (i + 1))).symm
    · rw [List.length_append, List.length_singleton, hTl]
    · intro t ht
      rcases List.mem_append.mp ht with ht | ht
      · exact hTb t ht
      · rw [List.mem_singleton.mp ht]
        rcases hu with rfl | rfl
        · exact ⟨by show (0 : Int) ≤ k; omega, by show k < n; omega, m0, by show mk % k < n; omega, by show k ≠ mk % k; omega⟩
        · exact ⟨m0, by show mk % k < n; omega, by show (0 : Int) ≤ k; omega, by show k < n; omega, by show mk % k ≠ k; omega⟩
    · intro k' h1 h2
      by_cases hk' : k' < (i : Int) + 1
      · obtain ⟨p', q0, q1, q2⟩ := hTt k' h1 hk'
        exact ⟨p', q0, q1, q2.elim (fun z => .inl (List.mem_append_left _ z)) fun z => .inr (List.mem_append_left _ z)⟩
      · have ek : k' = k := by omega
        subst ek
        refine ⟨mk % k', m0, m1, ?_⟩
        rcases hu with rfl | rfl
        · exact .inr (List.mem_append_right _ List.mem_cons_self)
        · exact .inl (List.mem_append_right _ List.mem_cons_self)
  rintro σ H1 ⟨o5, o6, ys, T, o, rfl, e1, hy, hP, ho, hop, hTl, hTb, hTt⟩
  rw [show ((n : Int) - 1).toNat + 1 = n by omega] at hop
  have hol : o.length = n := by rw [hop.length_eq, hs_length]
  -- more ties
  refine ⟨_, rfl, m, rfl, by omega, by omega, ?_⟩
  refine for_range (n := (m : Int).toNat) (fun i σ H' => ∃ (o5 o7 : Option V) (ys' : List V) (U : List (Int × Int)), σ = [some (.int n), some (.int m), some (.int c), some (.ref pt), some (.ref po), o5, o6, o7] ∧ Same H H' ∧ H' pt = some (.lst ys') ∧ H' po = some (.lst (o.map V.int)) ∧
    Pairs H' ys' U ∧ U.length = (n - 1) + i ∧ (∀ t ∈ U, inb n t) ∧ ∀ t ∈ T, t ∈ U) ⟨_, none, ys, T, rfl, e1, hy, ho, hP, by omega, hTb, fun t ht => ht⟩ ?_ ?_
  · rintro i σ H' hi ⟨o5, o7, ys', U, rfl, a1, a3, ao, a4, a5, a6, a7⟩
    rw [Int.zero_add]
    have hyl := a4.length
    have n2 : 2 ≤ n := by
      by_cases h : n = 1
      · have := hm0 h; omega
      · omega
    refine ⟨_, rfl, _, rfl, _, _, rfl, rfl, .inl ⟨by decide, by decide⟩, _, _, rfl, rfl, c, 20 + 2 * (i : Int), rfl, by omega, by omega, fun u1 u10 => ?_⟩
    refine ⟨_, rfl, _, _, rfl, rfl, by show (0 : Int) < n; omega, ?_⟩
    have b0 := Int.emod_nonneg u1 (show (n : Int) ≠ 0 by omega)
    have b1 := Int.emod_lt_of_pos u1 (show (0 : Int) < n by omega)
    refine ⟨_, rfl, .inl ⟨rfl, _, SqL.of a3⟩, _, rfl, _, rfl, _, _, rfl, rfl, _, rfl, _, rfl, _, _, rfl, rfl, .inl ⟨by decide, by decide⟩, _, _, rfl, rfl, c, 21 + 2 * (i : Int), rfl, by omega, by omega, fun u2 u20 => ?_⟩
    have d0 := Int.emod_nonneg u2 (show (n : Int) - 1 ≠ 0 by omega)
    have d1 := Int.emod_lt_of_pos u2 (show (0 : Int) < (n : Int) - 1 by omega)
    refine ⟨_, rfl, _, _, rfl, rfl, _, _, rfl, rfl, by show (0 : Int) < (n : Int) - 1; omega, _, _, rfl, rfl, _, rfl, _, _, rfl, rfl, by show (0 : Int) < n; omega, by show 2 ≤ sizeLine; decide, fun p hp => ?_⟩
    refine ⟨pt, ys', _, rfl, rfl, (same_new hp _) _ _ a3, small1000 (by omega), ?_⟩
    have e2 : Same H' (upd H' p (.tup [.int (u1 % n), .int ((u1 % n + 1 + u2 % ((n : Int) - 1)) % n)])) := same_new hp _
    refine ⟨_, _, ys' ++ [.ref p], U ++ [(u1 % n, (u1 % n + 1 + u2 % ((n : Int) - 1)) % n)], rfl, same_upd hpt (a1.trans e2) _, upd_same, ?_, ?_, ?_, ?_, fun t ht => List.mem_append_left _ (a7 t ht)⟩
    · rw [upd_ne hne]; exact e2 _ _ ao
    · have hP2 : Pairs (upd H' p (.tup [.int (u1 % n), .int ((u1 % n + 1 + u2 % ((n : Int) - 1)) % n)])) (ys' ++ [.ref p]) (U ++ [(u1 % n, (u1 % n + 1 + u2 % ((n : Int) - 1)) % n)]) := (a4.same e2).append (Pairs.one ⟨p, rfl, upd_same⟩)
      exact pairs_upd hP2 (e2 _ _ a3) _
    · rw [List.length_append, List.length_singleton]; omega
    · intro t ht
      rcases List.mem_append.mp ht with ht | ht
      · exact a6 t ht
      · rw [List.mem_singleton.mp ht]
        exact other_ne b0 b1 d0 d1
  rintro σ H2 ⟨o5', o7, ys', U, rfl, a1, a3, ao, a4, a5, a6, a7⟩
  have hG : Good n U := ⟨by omega, a6, by
    have c1 : Conn n (U ++ U.map fun t => (t.2, t.1)) := conn_tree fun k h1 h2 => by
      obtain ⟨p, p0, p1, p2⟩ := hTt k h1 (by omega)
      exact ⟨p, p0, p1, p2.elim (fun z => List.mem_append_left _ (a7 _ z)) fun z => List.mem_append_right _ (List.mem_map.mpr ⟨_, a7 _ z, rfl⟩)⟩
    exact c1.mono fun t ht => by
      rcases List.mem_append.mp ht with h | h
      · exact .inl h
      · obtain ⟨u, hu, rfl⟩ := List.mem_map.mp h
        exact .inr hu⟩
  have hyl := a4.length
  have hU16 := hG.len
  refine ⟨_, rfl, pt, rfl, ⟨ys', SqL.of a3⟩, ?_⟩
  refine comp_list (xs := ys') (fun i σ H4 acc => Same H2 H4 ∧ (∃ o1 o2, σ = [o1, o2, some (.ref po)]) ∧ Pairs H4 acc ((U.take i).map (ren o))) ⟨Same.refl _, ⟨_, _, rfl⟩, .nil⟩ ?_ (Nat.le_of_lt (small1000 (by omega))) ?_ ?_
  · rintro i σ H4 acc hi ⟨e4, _, p1⟩
    refine ⟨SqL.of (e4 _ _ a3), ?_⟩
    have := p1.length
    rw [List.length_map, List.length_take] at this
    omega
  · rintro i x σ H4 acc hx ⟨e4, ⟨o1, o2, rfl⟩, p1⟩
    obtain ⟨t, ht, r, rfl, hr'⟩ := (a4.same e4).get hx
    obtain ⟨c0, c1, b0, b1, _⟩ := hG.rng t (List.mem_of_getElem? ht)
    refine ⟨r, _, rfl, SqT.of hr', rfl, _, _, rfl, _, _, rfl, rfl, ?_⟩
    refine ⟨_, rfl, _, rfl, po, _, _, _, rfl, rfl, SqL.of (e4 _ _ ao), atI_ints c0 (by omega), _, rfl, _, rfl, po, _, _, _, rfl, rfl, SqL.of (e4 _ _ ao), atI_ints b0 (by omega), by show 2 ≤ sizeLine; decide, fun p hn => ?_⟩
    refine ⟨e4.trans (same_new hn _), ⟨_, _, rfl⟩, ?_⟩
    rw [take_one ht, List.map_append]
    exact (p1.same (same_new hn _)).append (Pairs.one ⟨p, rfl, upd_same⟩)
  rintro σ H4 acc ⟨e4, _, p1⟩ pc hpc
  rw [hyl, List.take_length] at p1
  exact q pc acc _ _ ((a1.trans e4).trans (same_new hpc _)) upd_same (p1.same (same_new hpc _)) (good_ren hop hG)
theorem scSz : FnScope ["cell", "houses"] ["cell"] (defScope sSz) := ⟨rfl, rfl, rfl, by decide +kernel, rfl, by decide +kernel, by decide +kernel⟩

def spSz : Sp := fun vs H Q _ => ∃ c : Int, vs = [.int c] ∧ ∀ (p : Addr) (n m : Nat) (H' : Hp), Same H H' → H' p = some (.tup [.int n, .int m]) → 1 ≤ n → n ≤ 5 → n - 1 + m ≤ 16 → (n = 1 → m = 0) → Q (.ref p) H'
theorem at8 {m : Int} (h0 : 0 ≤ m) (h1 : m < 8) : ∃ v : Nat, 1 ≤ v ∧ v ≤ 5 ∧ atI [V.int 3, .int 2, .int 4, .int 3, .int 5, .int 1, .int 4, .int 3] m = some (.int (v : Int)) := by
  have : m = 0 ∨ m = 1 ∨ m = 2 ∨ m = 3 ∨ m = 4 ∨ m = 5 ∨ m = 6 ∨ m = 7 := by omega
  rcases this with h | h | h | h | h | h | h | h <;> subst h
  · exact ⟨3, by decide, by decide, rfl⟩
  · exact ⟨2, by decide, by decide, rfl⟩
  · exact ⟨4, by decide, by decide, rfl⟩
  · exact ⟨3, by decide, by decide, rfl⟩
  · exact ⟨5, by decide, by decide, rfl⟩
  · exact ⟨1, by decide, by decide, rfl⟩
  · exact ⟨4, by decide, by decide, rfl⟩
  · exact ⟨3, by decide, by decide, rfl⟩
set_option maxHeartbeats 4000000 in
theorem ok_sz {f : Addr} {fd : FuncData} (F : Fun K "_law_sizes" "_law_sizes" sSz f fd) : FnOk P w K mg base CX0 1 f fd ["cell"] spSz := by
  refine F.ok scSz (fun vs H Q E h => ?_) (fun cdv A outer s H vs Q E hr h => ?_)
  · obtain ⟨c, rfl, _⟩ := h; rfl
  obtain ⟨c, rfl, q⟩ := h
  refine ⟨_, (pss_cons (ps_set (i := 1) scSz.nd rfl (Or.inl rfl) (pe_ix ix_list (pe_lst (pa_cons pe_int (pa_cons pe_int (pa_cons pe_int (pa_cons pe_int (pa_cons pe_int (pa_cons pe_int (pa_cons pe_int (pa_cons pe_int pa_nil))))))))) (pe_op op_mod (pv 0) pe_int) (fun _ _ => rfl)))
    (pss_cons (ps_if (pt_cmpR op_eq (pv 1) pe_int (nomark _)) (pss_one (ps_ret (pe_tup (pa_cons pe_int (pa_cons pe_int pa_nil))))) pss_nil)
    (pss_one (ps_ret (pe_tup (pa_cons (pv 1) (pa_cons (pe_op op_mod (pe_op op_fdiv (pv 0) pe_int) (pe_op op_add (pe_op op_fdiv pe_int (pv 1)) pe_int)) pa_nil))))))), ?_⟩
  have c0 := Int.emod_nonneg c (show (8 : Int) ≠ 0 by decide)
  have c1 := Int.emod_lt_of_pos c (show (0 : Int) < 8 by decide)
  obtain ⟨n, n1, n8, hat⟩ := at8 c0 c1
  refine ⟨by show 8 ≤ sizeLine; decide, fun pl hpl => ?_⟩
  have e1 := same_new hpl (.lst [.int 3, .int 2, .int 4, .int 3, .int 5, .int 1, .int 4, .int 3])
  refine ⟨_, rfl, _, _, rfl, rfl, (by show (0 : Int) < 8; decide), pl, _, _, _, rfl, rfl, SqL.of upd_same, hat, ?_⟩
  refine ⟨_, rfl, rfl, _, rfl, ?_⟩
  refine ite2B (fun g => ?_) (fun g => ?_)
  · have g' : (n : Int) = 1 := V.int.inj (of_decide_eq_true g)
    refine ⟨by show 2 ≤ sizeLine; decide, fun p hp => ?_⟩
    exact q p 1 0 _ (e1.trans (same_new hp _)) upd_same (by decide) (by decide) (by decide) (fun _ => rfl)
  · have g' : ¬ (n : Int) = 1 := fun z => (of_decide_eq_false g) (by rw [z])
    have n0 : (0 : Int) < n := by omega
    have d0 : (0 : Int) ≤ 16 / (n : Int) := Int.ediv_nonneg (by decide) (by omega)
    have d1 : (16 : Int) / (n : Int) ≤ 8 := by
      have : n = 2 ∨ n = 3 ∨ n = 4 ∨ n = 5 := by omega
      rcases this with h | h | h | h <;> subst h <;> decide
    have r0 := Int.emod_nonneg (c / 8) (show (16 : Int) / (n : Int) + 1 ≠ 0 by omega)
    have r1 := Int.emod_lt_of_pos (c / 8) (show (0 : Int) < 16 / (n : Int) + 1 by omega)
    refine ⟨_, rfl, _, rfl, _, _, rfl, rfl, ⟨by decide, by decide⟩, _, rfl, _, _, rfl, rfl, ⟨by omega, by omega⟩, _, _, rfl, rfl, _, _, rfl, rfl, by show (0 : Int) < 16 / (n : Int) + 1; omega, by show 2 ≤ sizeLine; decide, fun p hp => ?_⟩
    obtain ⟨m, hm⟩ := Int.eq_ofNat_of_zero_le r0
    rw [hm] at r1
    refine q p n m _ (e1.trans (same_new hp _)) ?_ n1 n8 (by omega) (by omega)
    rw [upd_same]
    show some (HO.tup [V.int n, V.int (c / 8 % (16 / (n : Int) + 1))]) = _
    rw [hm]
theorem scWh : FnScope ["found"] ["found"] (defScope sWh) := ⟨rfl, rfl, rfl, by decide +kernel, rfl, by decide +kernel, by decide +kernel⟩

def spWh : Sp := fun vs H Q _ => ∃ x : Int, vs = [.int x] ∧ Q (.bl true) H
theorem ok_wh {f : Addr} {fd : FuncData} (F : Fun K "_law_whole" "_law_whole" sWh f fd) (B : Blt mg) : FnOk P w K mg base CX0 1 f fd ["found"] spWh := by
  refine F.ok scWh (fun vs H Q E h => ?_) (fun cdv A outer s H vs Q E hr h => ?_)
  · obtain ⟨x, rfl, _⟩ := h; rfl
  obtain ⟨x, rfl, q⟩ := h
  refine ⟨_, (pss_one (ps_ret (pe_and (pe_callB call_isinst rfl B.isinst PyProof.Rows.boot_isinstance (pa_cons (pv 0) (pa_cons (pe_bltn (v := .ty "int") rfl B.int PyProof.Rows.boot_int rfl) pa_nil))) (pe_one (pe_not (pe_callB call_isinst rfl B.isinst PyProof.Rows.boot_isinstance (pa_cons (pv 0) (pa_cons (pe_bltn (v := .ty "bool") rfl B.bool PyProof.Rows.boot_bool rfl) pa_nil)))))))), ?_⟩
  refine ⟨_, rfl, _, _, _, _, rfl, .int _, kit_ii K, _, rfl, iteBT rfl ?_⟩
  exact ⟨_, rfl, _, _, _, _, rfl, .int _, kit_ib K, _, rfl, q⟩
theorem scNu : FnScope ["found", "due", "k"] ["found", "due"] (defScope sNu) := ⟨rfl, rfl, rfl, by decide +kernel, rfl, by decide +kernel, by decide +kernel⟩

def spNu : Sp := fun vs H Q _ => ∃ (p r : Addr) (ns : List Int), vs = [.ref p, .ref r] ∧ H p = some (.lst (ns.map V.int)) ∧ H r = some (.lst (ns.map V.int)) ∧ ns.length ≤ 1000 ∧ Q (.bl true) H
theorem ok_nu {f : Addr} {fd : FuncData} (F : Fun K "_law_numbers" "_law_numbers" sNu f fd) (B : Blt mg) (cWh : Cal P w K mg base 1 "_law_whole" ["found"] spWh) : FnOk P w K mg base CX0 2 f fd ["found", "due"] spNu := by
  refine F.ok scNu (fun vs H Q E h => ?_) (fun cdv A outer s H vs Q E hr h => ?_)
  · obtain ⟨p, r, ns, rfl, _⟩ := h; rfl
  obtain ⟨p, r, ns, rfl, hp, hq, hl, q⟩ := h
  refine ⟨_, (pss_cons (ps_if (PW.pt (pw_or (pt_not (pt_val (pe_callB call_isinst rfl B.isinst PyProof.Rows.boot_isinstance (pa_cons (pv 0) (pa_cons (pe_bltn (v := .ty "list") rfl B.list PyProof.Rows.boot_list rfl) pa_nil))))) (pw_or1 (pt_cmpR op_ne (pe_callB call_len_seq rfl B.len PySem.boot_len (pa_cons (pv 0) pa_nil)) (pe_callB call_len_seq rfl B.len PySem.boot_len (pa_cons (pv 1) pa_nil)) (nomark _))))) pss_never pss_nil)
    (pss_cons (ps_for PassesOwn.never rfl (pi_range1 rfl B.range (pa_cons (pe_callB call_len_seq rfl B.len PySem.boot_len (pa_cons (pv 1) pa_nil)) pa_nil)) (pg_name (i := 2) scNu.nd rfl (Or.inl rfl)) (pss_one (ps_if (PW.pt (pw_or (pt_not (pt_val (pe_cal cWh hr rfl (pa_cons (pe_ix ix_list (pv 0) (pv 2) (fun _ _ => rfl)) pa_nil)))) (pw_or1 (pt_cmpR op_ne (pe_ix ix_list (pv 0) (pv 2) (fun _ _ => rfl)) (pe_ix ix_list (pv 1) (pv 2) (fun _ _ => rfl)) (nomark _))))) pss_never pss_nil)))
    (pss_one (ps_ret pe_bl)))), ?_⟩
  refine ⟨_, rfl, _, _, _, _, rfl, .lst hp, kit_ll K, _, rfl, iteB rfl ?_⟩
  refine ⟨_, rfl, p, _, rfl, .inl (SqL.of hp), _, rfl, r, _, rfl, .inl (SqL.of hq), rfl, _, rfl, iteB (by simp) ?_⟩
  refine ⟨_, rfl, r, _, rfl, .inl (SqL.of hq), _, rfl, by omega, by rw [List.length_map]; omega, ?_⟩
  refine for_range (n := (((ns.map V.int).length : Nat) : Int).toNat) (fun i σ H' => H' = H ∧ ∃ o2, σ = [some (.ref p), some (.ref r), o2]) ⟨rfl, _, rfl⟩ ?_ ?_
  · rintro i σ H' hi ⟨rfl, o2, rfl⟩
    rw [List.length_map] at hi
    have a0 : (0 : Int) ≤ 0 + (i : Int) := by omega
    have a1 : 0 + (i : Int) < (ns.length : Int) := by omega
    refine ⟨_, rfl, _, rfl, p, _, _, _, rfl, rfl, SqL.of hp, atI_ints a0 a1, _, rfl, _, rfl, iteB rfl ?_⟩
    refine ⟨_, rfl, _, rfl, p, _, _, _, rfl, rfl, SqL.of hp, atI_ints a0 a1, _, rfl, _, rfl, r, _, _, _, rfl, rfl, SqL.of hq, atI_ints a0 a1, rfl, _, rfl, ?_⟩
    refine iteB (by simp) ?_
    exact ⟨rfl, _, rfl⟩
  · rintro σ H' ⟨rfl, o2, rfl⟩
    exact q
theorem scLt : FnScope ["ties", "standing", "script", "now", "one", "other"] ["ties", "standing", "script"] (defScope sLt) := ⟨rfl, rfl, rfl, by decide +kernel, rfl, by decide +kernel, by decide +kernel⟩

def spLt : Sp := fun vs H Q _ => ∃ (p r c : Addr) (n : Nat) (zs : List V) (T : List (Int × Int)) (st sc : List Int), vs = [.ref p, .ref r, .ref c] ∧ H p = some (.lst zs) ∧ Pairs H zs T ∧ (∀ t ∈ T, inb n t) ∧ H r = some (.lst (st.map V.int)) ∧ H c = some (.lst (sc.map V.int)) ∧ st.length = n ∧ sc.length = n ∧ T.length ≤ 1000 ∧
  ∀ (l : Addr) (H' : Hp), H l = none → Same H H' → H' l = some (.lst ((lentL T st sc).map V.int)) → Q (.ref l) H'
set_option maxHeartbeats 2000000 in
theorem ok_lt {f : Addr} {fd : FuncData} (F : Fun K "_law_lent" "_law_lent" sLt f fd) (B : Blt mg) : FnOk P w K mg base CX0 1 f fd ["ties", "standing", "script"] spLt := by
  refine F.ok scLt (fun vs H Q E h => ?_) (fun cdv A outer s H vs Q E hr h => ?_)
  · obtain ⟨p, r, c, n, zs, T, st, sc, rfl, _⟩ := h; rfl
  obtain ⟨p, r, c, n, zs, T, st, sc, rfl, hp, hP, hT, hr1, hc, lst, lsc, hTl, q⟩ := h
  have hzl := hP.length
  refine ⟨_, (pss_cons (ps_set (i := 3) scLt.nd rfl (Or.inl rfl) (pe_callTy call_list_of rfl B.list PyProof.Rows.boot_list (pa_cons (pv 1) pa_nil)))
    (pss_cons (ps_for PassesOwn.never rfl (pi_list (pv 0)) (pg_tup rfl (pgs_cons (pg_name (i := 4) scLt.nd rfl (Or.inl rfl)) (pgs_cons (pg_name (i := 5) scLt.nd rfl (Or.inl rfl)) pgs_nil))) (pss_cons (ps_asg (pe_op op_sub (pe_op op_add (pe_ix ix_list (pv 3) (pv 4) (fun _ _ => rfl)) (pe_ix ix_list (pv 2) (pv 5) (fun _ _ => rfl))) (pe_ix ix_list (pv 2) (pv 4) (fun _ _ => rfl))) (pg_sub (pv 3) (pv 4) set_list))
    (pss_one (ps_asg (pe_op op_sub (pe_op op_add (pe_ix ix_list (pv 3) (pv 5) (fun _ _ => rfl)) (pe_ix ix_list (pv 2) (pv 4) (fun _ _ => rfl))) (pe_ix ix_list (pv 2) (pv 5) (fun _ _ => rfl))) (pg_sub (pv 3) (pv 5) set_list)))))
    (pss_one (ps_ret (pv 3))))), ?_⟩
  refine ⟨_, rfl, r, _, rfl, .inl (SqL.of hr1), fun pn hpn => ?_⟩
  have e0 := same_new hpn (.lst (st.map V.int))
  refine ⟨_, rfl, p, rfl, ⟨_, SqL.of (e0 _ _ hp)⟩, ?_⟩
  refine for_list (xs := zs) (fun i σ H1 => (∃ o4 o5 : Option V, σ = [some (.ref p), some (.ref r), some (.ref c), some (.ref pn), o4, o5]) ∧ Same H H1 ∧ H1 pn = some (.lst ((lentL (T.take i) st sc).map V.int))) ⟨⟨_, _, rfl⟩, e0, upd_same⟩ (fun i σ H1 _ ⟨_, e, _⟩ => SqL.of (e _ _ hp)) ?_ ?_
  · rintro i v σ H1 hv ⟨⟨o4, o5, rfl⟩, e1, h1n⟩
    obtain ⟨t, ht, x, rfl, hx⟩ := (hP.same e1).get hv
    obtain ⟨a0, a1, b0, b1, ne⟩ := hT t (List.mem_of_getElem? ht)
    have lb : (lentL (T.take i) st sc).length = n := by rw [len_lentL, lst]
    have en : lentL (T.take (i + 1)) st sc = step2 sc (lentL (T.take i) st sc) t := by
      rw [take_one ht]
      unfold lentL
      rw [List.foldl_append]
      rfl
    rw [en]
    generalize lentL (T.take i) st sc = b at lb h1n
    refine ⟨x, _, rfl, SqT.of hx, rfl, _, _, rfl, _, _, rfl, rfl, ?_⟩
    have v1 : b.getD t.1.toNat 0 + sc.getD t.2.toNat 0 - sc.getD t.1.toNat 0 = b.getD t.1.toNat 0 - mv sc t := by unfold mv; omega
    refine ⟨_, rfl, _, rfl, pn, _, _, _, rfl, rfl, SqL.of h1n, atI_ints a0 (by omega), _, rfl, _, rfl, c, _, _, _, rfl, rfl, SqL.of (e1 _ _ hc), atI_ints b0 (by omega), _, _, rfl, rfl, _, rfl, _, rfl, c, _, _, _, rfl, rfl, SqL.of (e1 _ _ hc), atI_ints a0 (by omega), _, _, rfl, rfl, _, rfl, _, rfl, pn, _, _, _, rfl, rfl, h1n, ixN_nat a0 (by rw [List.length_map]; omega), ?_⟩
    have h2n : upd H1 pn (.lst ((b.map V.int).set t.1.toNat (.int (b.getD t.1.toNat 0 + sc.getD t.2.toNat 0 - sc.getD t.1.toNat 0)))) pn = some (.lst ((step1 sc b t).map V.int)) := by
      rw [upd_same, v1]
      unfold step1
      rw [List.map_set]
    have e2 : Same H (upd H1 pn (.lst ((b.map V.int).set t.1.toNat (.int (b.getD t.1.toNat 0 + sc.getD t.2.toNat 0 - sc.getD t.1.toNat 0))))) := same_upd hpn e1 _
    have l2 : (step1 sc b t).length = n := by unfold step1; rw [List.length_set, lb]
    generalize upd H1 pn (.lst ((b.map V.int).set t.1.toNat (.int (b.getD t.1.toNat 0 + sc.getD t.2.toNat 0 - sc.getD t.1.toNat 0)))) = H2 at h2n e2 ⊢
    have v2 : (step1 sc b t).getD t.2.toNat 0 + sc.getD t.1.toNat 0 - sc.getD t.2.toNat 0 = (step1 sc b t).getD t.2.toNat 0 + mv sc t := by unfold mv; omega
    refine ⟨_, rfl, _, rfl, pn, _, _, _, rfl, rfl, SqL.of h2n, atI_ints b0 (by omega), _, rfl, _, rfl, c, _, _, _, rfl, rfl, SqL.of (e2 _ _ hc), atI_ints a0 (by omega), _, _, rfl, rfl, _, rfl, _, rfl, c, _, _, _, rfl, rfl, SqL.of (e2 _ _ hc), atI_ints b0 (by omega), _, _, rfl, rfl, _, rfl, _, rfl, pn, _, _, _, rfl, rfl, h2n, ixN_nat b0 (by rw [List.length_map]; omega), ?_⟩
    refine ⟨⟨_, _, rfl⟩, same_upd hpn e2 _, ?_⟩
    show upd H2 pn (.lst (((step1 sc b t).map V.int).set t.2.toNat (.int ((step1 sc b t).getD t.2.toNat 0 + sc.getD t.1.toNat 0 - sc.getD t.2.toNat 0)))) pn = _
    rw [upd_same, v2]
    unfold step2
    rw [List.map_set]
  rintro σ H1 ⟨⟨o4, o5, rfl⟩, e1, h1n⟩
  rw [hzl, List.take_length] at h1n
  exact ⟨_, rfl, q pn H1 hpn e1 h1n⟩
theorem scBg : FnScope ["cell", "wide"] ["cell"] (defScope sBg) := ⟨rfl, rfl, rfl, by decide +kernel, rfl, by decide +kernel, by decide +kernel⟩

def spBg : Sp := fun vs H Q _ => ∃ c : Int, vs = [.int c] ∧ ∀ v : Int, v.natAbs ≤ 2 ^ 200 → Q (.int v) H
set_option maxHeartbeats 4000000 in
theorem ok_bg {f : Addr} {fd : FuncData} (F : Fun K "_law_big" "_law_big" sBg f fd) : FnOk P w K mg base CX0 1 f fd ["cell"] spBg := by
  refine F.ok scBg (fun vs H Q E h => ?_) (fun cdv A outer s H vs Q E hr h => ?_)
  · obtain ⟨c, rfl, _⟩ := h; rfl
  obtain ⟨c, rfl, q⟩ := h
  have big200 : (100 : Nat) ≤ 2 ^ 200 := by decide
  refine ⟨_, (pss_cons (ps_if (pt_cmpR op_eq (pe_op op_mod (pv 0) pe_int) pe_int (nomark _)) (pss_one (ps_ret (pe_op op_sub (pe_op op_mod (pe_op op_fdiv (pv 0) pe_int) pe_int) pe_int))) pss_nil)
    (pss_cons (ps_set (i := 1) scBg.nd rfl (Or.inl rfl) (pe_op op_mod (pe_op op_fdiv (pv 0) pe_int) (pe_op op_pow pe_int pe_int)))
    (pss_one (ps_ret (pe_op op_sub (pe_op op_mod (pe_op op_add (pe_op op_mul (pe_op op_powB (pv 1) pe_int) pe_int) (pv 1)) (pe_op op_mul pe_int (pe_op op_pow pe_int pe_int))) (pe_op op_pow pe_int pe_int)))))), ?_⟩
  refine ⟨_, rfl, _, _, rfl, rfl, (by show (0 : Int) < 2; decide), rfl, _, rfl, ?_⟩
  refine ite2B (fun g => ?_) (fun g => ?_)
  · have a0 := Int.emod_nonneg (c / 2) (show (13 : Int) ≠ 0 by decide)
    have a1 := Int.emod_lt_of_pos (c / 2) (show (0 : Int) < 13 by decide)
    exact ⟨_, rfl, _, _, rfl, rfl, ⟨by decide, by decide⟩, _, _, rfl, rfl, (by show (0 : Int) < 13; decide), _, _, rfl, rfl, q _ (by show (c / 2 % 13 - 6).natAbs ≤ _; omega)⟩
  have p60 : (0 : Int) < 10 ^ (60 : Int).toNat := by decide
  have w0 := Int.emod_nonneg (c / 2) (show (10 : Int) ^ (60 : Int).toNat ≠ 0 by decide)
  have w1 := Int.emod_lt_of_pos (c / 2) p60
  have w2 : (c / 2 % 10 ^ (60 : Int).toNat).natAbs < 2 ^ 200 := by
    have e60 : (10 : Int) ^ (60 : Int).toNat = 1000000000000000000000000000000000000000000000000000000000000 := by decide
    have w3 : c / 2 % 10 ^ (60 : Int).toNat < 1000000000000000000000000000000000000000000000000000000000000 := by rw [← e60]; exact w1
    generalize c / 2 % 10 ^ (60 : Int).toNat = x at w0 w3 ⊢
    have : x.natAbs < 1000000000000000000000000000000000000000000000000000000000000 := by omega
    exact Nat.lt_of_lt_of_le this (by decide)
  have w4 := bits_le w2
  refine ⟨_, rfl, _, _, rfl, rfl, ⟨by decide, by decide⟩, _, _, rfl, rfl, ⟨by decide, by decide, by decide⟩, _, _, rfl, rfl, p60, ?_⟩
  refine ⟨_, rfl, _, _, rfl, rfl, ⟨by decide, by show (Builtin.Int.intBits (c / 2 % 10 ^ (60 : Int).toNat) : Int) * 4 ≤ 2 ^ 27; omega⟩, _, _, rfl, rfl, .inr ⟨by decide, by decide⟩, _, rfl, _, _, rfl, rfl, _, _, rfl, rfl, ⟨by decide, by decide, by decide⟩, _, _, rfl, rfl, .inl ⟨by decide, by decide⟩, _, _, rfl, rfl, (by show (0 : Int) < 2 * 10 ^ (58 : Int).toNat; decide), _, _, rfl, rfl, ⟨by decide, by decide, by decide⟩, _, _, rfl, rfl, ?_⟩
  refine q _ ?_
  generalize hX : (c / 2 % 10 ^ (60 : Int).toNat) ^ (4 : Int).toNat * 48270 + c / 2 % 10 ^ (60 : Int).toNat = X
  have v0 := Int.emod_nonneg X (show (2 : Int) * 10 ^ (58 : Int).toNat ≠ 0 by decide)
  have v1 := Int.emod_lt_of_pos X (show (0 : Int) < 2 * 10 ^ (58 : Int).toNat by decide)
  have e58 : (10 : Int) ^ (58 : Int).toNat = 10000000000000000000000000000000000000000000000000000000000 := by decide
  rw [e58] at v0 v1 ⊢
  generalize X % (2 * 10000000000000000000000000000000000000000000000000000000000) = y at v0 v1 ⊢
  have : (y - 10000000000000000000000000000000000000000000000000000000000).natAbs ≤ 10000000000000000000000000000000000000000000000000000000000 := by omega
  exact Nat.le_trans this (by decide)

theorem sum_bd {b : Nat} : ∀ {l : List Int}, (∀ x ∈ l, x.natAbs ≤ b) → l.sum.natAbs ≤ l.length * b
  | [], _ => by simp
  | a :: l, h => by
    have ih := sum_bd (l := l) fun x hx => h x (List.mem_cons_of_mem _ hx)
    have ha := h a List.mem_cons_self
    rw [List.sum_cons, List.length_cons, Nat.add_mul, Nat.one_mul]
    have := Int.natAbs_add_le a l.sum
    omega
theorem bd_step {x v : Int} {i : Nat} (hx : x.natAbs ≤ 2 ^ (201 + 21 * i)) (hv : v.natAbs ≤ 2 ^ 200) : (x * 1000003 + v).natAbs ≤ 2 ^ (201 + 21 * (i + 1)) := by
  have e : 2 ^ (201 + 21 * (i + 1)) = 2 ^ (201 + 21 * i) * 2097152 := by rw [show 201 + 21 * (i + 1) = 201 + 21 * i + 21 by omega, Nat.pow_add]
  have h2 : 2 ^ 200 ≤ 2 ^ (201 + 21 * i) := Nat.pow_le_pow_right (by decide) (by omega)
  rw [e]
  generalize 2 ^ (201 + 21 * i) = b at hx h2
  generalize 2 ^ 200 = c at hv h2
  omega
theorem mod58 (x : Int) : (x % (2 * 10 ^ (58 : Int).toNat) - 10 ^ (58 : Int).toNat).natAbs ≤ 2 ^ 200 := by
  have v0 := Int.emod_nonneg x (show (2 : Int) * 10 ^ (58 : Int).toNat ≠ 0 by decide)
  have v1 := Int.emod_lt_of_pos x (show (0 : Int) < 2 * 10 ^ (58 : Int).toNat by decide)
  have e58 : (10 : Int) ^ (58 : Int).toNat = 10000000000000000000000000000000000000000000000000000000000 := by decide
  rw [e58] at v0 v1 ⊢
  generalize x % (2 * 10000000000000000000000000000000000000000000000000000000000) = y at v0 v1 ⊢
  have : (y - 10000000000000000000000000000000000000000000000000000000000).natAbs ≤ 10000000000000000000000000000000000000000000000000000000000 := by omega
  exact Nat.le_trans this (by decide)
theorem scSt : FnScope ["script", "houses", "numbers", "k", "at", "one", "other"] ["script", "houses"] (defScope sSt) := ⟨rfl, rfl, rfl, by decide +kernel, rfl, by decide +kernel, by decide +kernel⟩
theorem nd_scSt_0 : (["k"] : List Str).Nodup := by decide +kernel
theorem nd_scSt_1 : (["number"] : List Str).Nodup := by decide +kernel
theorem nd_scSt_2 : (["number"] : List Str).Nodup := by decide +kernel
theorem nd_scSt_3 : (["number"] : List Str).Nodup := by decide +kernel

def spSt (K : PySem.W.Frag) : Sp := fun vs H Q _ => ∃ (a : Addr) (ns : List Int) (n : Nat), vs = [.ref a, .int n] ∧ SqL K H a (ns.map V.int) ∧ ns.length ≤ 63 ∧ 1 ≤ n ∧ n ≤ 5 ∧
  ∀ (z p r : Addr) (one other : List Int) (H' : Hp), Same H H' → H' z = some (.tup [.ref p, .ref r]) → H' p = some (.lst (one.map V.int)) → H' r = some (.lst (other.map V.int)) → one.length = n → other.length = n → (∀ x ∈ one, x.natAbs ≤ 2 ^ 400) → (∀ x ∈ other, x.natAbs ≤ 2 ^ 400) → Q (.ref z) H'
set_option maxHeartbeats 8000000 in
theorem ok_st {f : Addr} {fd : FuncData} (F : Fun K "_law_standings" "_law_standings" sSt f fd) (B : Blt mg) (cBg : Cal P w K mg base 1 "_law_big" ["cell"] spBg) (cCe : Cal P w K mg base 1 "_law_cell_at" ["script", "k"] (spCe K)) : FnOk P w K mg base CX0 2 f fd ["script", "houses"] (spSt K) := by
  refine F.ok scSt (fun vs H Q E h => ?_) (fun cdv A outer s H vs Q E hr h => ?_)
  · obtain ⟨a, ns, n, rfl, _⟩ := h; rfl
  obtain ⟨a, ns, n, rfl, hS, h63, n1, n5, q⟩ := h
  refine ⟨_, (pss_cons (ps_setComp (i := 2) (N' := ["k"]) (mp := [none]) (g := (gName 0)) (tt := tYes) (te := (tC (.int 0))) scSt.nd rfl (Or.inl rfl) (CompOk.of (by kernel_rfl)) rfl (pi_range1 rfl B.range (pa_cons (pe_op op_mul pe_int (pv 1)) pa_nil)) (fun C s H fp => (pg_name (i := 0) nd_scSt_0 rfl (Or.inl rfl))) (fun C s H fp => pts_nil) (fun C s H fp => pe_int))
    (pss_cons (ps_for PassesOwn.never rfl (pi_range2 rfl B.range (pa_cons pe_int (pa_cons (pe_callB (call_min2 rfl) rfl B.min PyProof.Rows.boot_min (pa_cons (pe_callB call_len_seq rfl B.len PySem.boot_len (pa_cons (pv 0) pa_nil)) (pa_cons pe_int pa_nil))) pa_nil))) (pg_name (i := 3) scSt.nd rfl (Or.inl rfl)) (pss_cons (ps_set (i := 4) scSt.nd rfl (Or.inl rfl) (pe_op op_mod (pv 3) (pe_op op_mul pe_int (pv 1))))
    (pss_one (ps_asg (pe_op op_add (pe_op op_mul (pe_ix ix_list (pv 2) (pv 4) (fun _ _ => rfl)) pe_int) (pe_cal cBg hr rfl (pa_cons (pe_ix ix_list (pv 0) (pv 3) (fun _ _ => rfl)) pa_nil))) (pg_sub (pv 2) (pv 4) set_list)))))
    (pss_cons (ps_join (ps_if (pt_cmpR op_eq (pe_op op_mod (pe_op op_fdiv (pe_cal cCe hr rfl (pa_cons (pv 0) (pa_cons pe_int pa_nil))) pe_int) pe_int) pe_int (nomark _)) (pss_one (ps_setComp (i := 2) (N' := ["number"]) (mp := [none]) (g := (gName 0)) (tt := tYes) (te := (tOp (rI0 fun i j => .int (i + j)) (tOp (rI CMul fun i j => .int (i * j)) (tOp (rI CPowB fun i j => .int (i ^ j.toNat)) (tVar 0) (tC (.int 4))) (tC (.int 48270))) (tVar 0))) scSt.nd rfl (Or.inl rfl) (CompOk.of (by kernel_rfl)) rfl (pi_list (pv 2)) (fun C s H fp => (pg_name (i := 0) nd_scSt_1 rfl (Or.inl rfl))) (fun C s H fp => pts_nil) (fun C s H fp => (pe_op op_add (pe_op op_mul (pe_op op_powB (pv 0) pe_int) pe_int) (pv 0))))) pss_nil))
    (pss_cons (ps_setComp (i := 2) (N' := ["number"]) (mp := [none]) (g := (gName 0)) (tt := tYes) (te := (tOp (rI0 fun i j => .int (i - j)) (tOp (rI (fun _ j => 0 < j) fun i j => .int (i % j)) (tVar 0) (tOp (rI CMul fun i j => .int (i * j)) (tC (.int 2)) (tOp (rI CPow fun i j => .int (i ^ j.toNat)) (tC (.int 10)) (tC (.int 58))))) (tOp (rI CPow fun i j => .int (i ^ j.toNat)) (tC (.int 10)) (tC (.int 58))))) scSt.nd rfl (Or.inl rfl) (CompOk.of (by kernel_rfl)) rfl (pi_list (pv 2)) (fun C s H fp => (pg_name (i := 0) nd_scSt_2 rfl (Or.inl rfl))) (fun C s H fp => pts_nil) (fun C s H fp => (pe_op op_sub (pe_op op_mod (pv 0) (pe_op op_mul pe_int (pe_op op_pow pe_int pe_int))) (pe_op op_pow pe_int pe_int))))
    (pss_cons (ps_join (ps_if (pt_cmpR op_eq (pe_op op_mod (pe_op op_fdiv (pe_cal cCe hr rfl (pa_cons (pv 0) (pa_cons pe_int pa_nil))) pe_int) pe_int) pe_int (nomark _)) (pss_one (ps_setComp (i := 2) (N' := ["number"]) (mp := [none]) (g := (gName 0)) (tt := tYes) (te := (tOp (rI0 fun i j => .int (i - j)) (tOp (rI (fun _ j => 0 < j) fun i j => .int (i % j)) (tVar 0) (tC (.int 13))) (tC (.int 6)))) scSt.nd rfl (Or.inl rfl) (CompOk.of (by kernel_rfl)) rfl (pi_list (pv 2)) (fun C s H fp => (pg_name (i := 0) nd_scSt_3 rfl (Or.inl rfl))) (fun C s H fp => pts_nil) (fun C s H fp => (pe_op op_sub (pe_op op_mod (pv 0) pe_int) pe_int)))) pss_nil))
    (pss_cons (ps_set (i := 5) scSt.nd rfl (Or.inl rfl) (pe_slice sl_list (pv 2) po_none (po_some (pv 1))))
    (pss_cons (ps_set (i := 6) scSt.nd rfl (Or.inl rfl) (pe_slice sl_list (pv 2) (po_some (pv 1)) po_none))
    (pss_cons (ps_join (ps_if (pt_cmpR op_gt (pe_op op_mod (pe_cal cCe hr rfl (pa_cons (pv 0) (pa_cons pe_int pa_nil))) pe_int) pe_int (nomark _)) (pss_one (ps_asg (pe_op op_sub (pe_callB (call_sum rfl) rfl B.sum PyProof.Rows.boot_sum (pa_cons (pv 5) pa_nil)) (pe_callB (call_sum rfl) rfl B.sum PyProof.Rows.boot_sum (pa_cons (pe_slice sl_list (pv 6) po_none (po_some (pe_op op_sub (pv 1) pe_int))) pa_nil))) (pg_sub (pv 6) (pe_op op_sub (pv 1) pe_int) set_list))) pss_nil))
    (pss_one (ps_ret (pe_tup (pa_cons (pv 5) (pa_cons (pv 6) pa_nil))))))))))))), ?_⟩
  refine ⟨_, rfl, _, _, rfl, rfl, .inl ⟨by decide, by decide⟩, 2 * (n : Int), rfl, by omega, by omega, ?_⟩
  refine comp_range (n := (2 * (n : Int)).toNat) (fun i σ H4 acc => H4 = H ∧ (∃ o, σ = [o]) ∧ acc = (List.replicate i (0 : Int)).map V.int) ⟨rfl, ⟨_, rfl⟩, rfl⟩ ?_ (Nat.le_of_lt (small1000 (by omega))) ?_ ?_
  · rintro i σ H4 acc hi ⟨_, _, rfl⟩
    rw [List.length_map, List.length_replicate]; omega
  · rintro i σ H4 acc hi ⟨rfl, ⟨o, rfl⟩, rfl⟩
    refine ⟨rfl, ⟨_, rfl⟩, ?_⟩
    rw [List.replicate_succ', List.map_append]; rfl
  rintro σ H4 acc ⟨rfl, _, rfl⟩ pn hpn
  have e1 := same_new hpn (.lst ((List.replicate (2 * (n : Int)).toNat (0 : Int)).map V.int))
  refine ⟨_, rfl, a, _, rfl, .inl (e1.seq hS), _, _, rfl, 2, ((ns.length : Nat) : Int), ?_, ⟨by omega, by omega, by omega, by omega⟩, ?_⟩
  · show [V.int 2, V.int (if (64 : Int) < (((ns.map V.int).length : Nat) : Int) then 64 else (((ns.map V.int).length : Nat) : Int))] = _
    rw [List.length_map, if_neg (by omega)]
  refine for_range (n := (((ns.length : Nat) : Int) - 2).toNat) (fun i σ H' => ∃ (o3 o4 : Option V) (xs : List Int), σ = [some (.ref a), some (.int n), some (.ref pn), o3, o4, none, none] ∧ Same H4 H' ∧ H' pn = some (.lst (xs.map V.int)) ∧ xs.length = 2 * n ∧ ∀ x ∈ xs, x.natAbs ≤ 2 ^ (201 + 21 * i)) ⟨none, none, _, rfl, e1, upd_same, by rw [List.length_replicate]; omega, fun x hx => by rw [(List.mem_replicate.mp hx).2]; exact Nat.zero_le _⟩ ?_ ?_
  · rintro i σ H' hi ⟨o3, o4, xs, rfl, e2, hx, lx, bx⟩
    have k0 := Int.emod_nonneg (2 + (i : Int)) (show (2 * (n : Int)) ≠ 0 by omega)
    have k1 := Int.emod_lt_of_pos (2 + (i : Int)) (show (0 : Int) < 2 * (n : Int) by omega)
    refine ⟨_, rfl, _, rfl, _, _, rfl, rfl, .inl ⟨by decide, by decide⟩, _, _, rfl, rfl, (by show (0 : Int) < 2 * (n : Int); omega), ?_⟩
    have kt : ((2 + (i : Int)) % (2 * (n : Int))).toNat < xs.length := by omega
    have ck : ∃ c, ns[(2 + (i : Int)).toNat]? = some c := ⟨_, List.getElem?_eq_getElem (by omega)⟩
    obtain ⟨c, hc⟩ := ck
    have xk : atI (ns.map V.int) (2 + (i : Int)) = some (.int c) := by
      rw [show 2 + (i : Int) = (((2 + (i : Int)).toNat : Nat) : Int) by omega]
      exact atI_nat (by rw [List.getElem?_map, hc]; rfl)
    refine ⟨_, rfl, _, rfl, pn, _, _, _, rfl, rfl, SqL.of hx, atI_ints k0 (by omega), _, _, rfl, rfl, .inr ⟨by decide, by decide⟩, _, rfl, _, rfl, a, _, _, _, rfl, rfl, e2.seq hS, xk, c, rfl, fun v hv => ?_⟩
    refine ⟨_, _, rfl, rfl, _, rfl, _, rfl, pn, _, _, _, rfl, rfl, hx, ixN_nat k0 (by rw [List.length_map]; omega), ?_⟩
    refine ⟨_, _, xs.set ((2 + (i : Int)) % (2 * (n : Int))).toNat (xs.getD ((2 + (i : Int)) % (2 * (n : Int))).toNat 0 * 1000003 + v), rfl, same_upd hpn e2 _, ?_, by rw [List.length_set]; exact lx, fun x hx' => ?_⟩
    · rw [upd_same, List.map_set]
    · rcases List.mem_or_eq_of_mem_set hx' with z | z
      · exact Nat.le_trans (bx x z) (Nat.pow_le_pow_right (by decide) (by omega))
      · rw [z]; exact bd_step (bx _ (getD_mem kt)) hv
  rintro σ H1 ⟨o3, o4, xs, rfl, e2, hx, lx, bx⟩
  have bx' : ∀ x ∈ xs, x.natAbs < 2 ^ 2000 := fun x hx' => Nat.lt_of_le_of_lt (bx x hx') (Nat.pow_lt_pow_right (by decide) (by omega))
  clear bx
  -- to the fourth
  refine ⟨fun σ' H' => ∃ (pn : Addr) (o3 o4 : Option V) (xs : List Int), σ' = [some (.ref a), some (.int n), some (.ref pn), o3, o4, none, none] ∧ Same H4 H' ∧ H' pn = some (.lst (xs.map V.int)) ∧ xs.length = 2 * n, ?_, ?_⟩
  · refine ⟨_, rfl, a, ns, 0, rfl, e2.seq hS, by decide, _, _, rfl, rfl, ⟨by decide, by decide⟩, _, _, rfl, rfl, (by show (0 : Int) < 2; decide), rfl, _, rfl, ?_⟩
    refine ite2B (fun g => ?_) (fun g => ?_)
    · refine ⟨_, rfl, pn, rfl, ⟨_, SqL.of hx⟩, ?_⟩
      refine comp_list (xs := xs.map V.int) (fun i σ H' acc => H' = H1 ∧ (∃ o, σ = [o]) ∧ ∃ ys : List Int, acc = ys.map V.int ∧ ys.length = i) ⟨rfl, ⟨_, rfl⟩, [], rfl, rfl⟩ ?_ (Nat.le_of_lt (small1000 (by rw [List.length_map]; omega))) ?_ ?_
      · rintro i σ H' acc hi ⟨rfl, _, ys, rfl, hl⟩
        exact ⟨SqL.of hx, by rw [List.length_map]; omega⟩
      · rintro i v σ H' acc hv ⟨rfl, ⟨o, rfl⟩, ys, rfl, hl⟩
        obtain ⟨x, hx', rfl⟩ := mapI_get hv
        have w4 := bits_le (bx' x (List.mem_of_getElem? hx'))
        refine ⟨_, rfl, _, _, rfl, rfl, ⟨by decide, by show (Builtin.Int.intBits x : Int) * 4 ≤ 2 ^ 27; omega⟩, _, _, rfl, rfl, .inr ⟨by decide, by decide⟩, _, rfl, _, _, rfl, rfl, ?_⟩
        exact ⟨rfl, ⟨_, rfl⟩, ys ++ [_], by rw [List.map_append]; rfl, by rw [List.length_append, List.length_singleton, hl]⟩
      rintro σ H' acc ⟨rfl, _, ys, rfl, hl⟩ pc hpc
      rw [List.length_map] at hl
      exact ⟨pc, _, _, ys, rfl, e2.trans (same_new hpc _), upd_same, by omega⟩
    · exact ⟨pn, _, _, xs, rfl, e2, hx, lx⟩
  clear hx lx bx' e2 e1 hpn
  rintro σ' H1 ⟨pn, o3, o4, xs, rfl, e2, hx, lx⟩
  -- within bounds
  refine ⟨_, rfl, pn, rfl, ⟨_, SqL.of hx⟩, ?_⟩
  refine comp_list (xs := xs.map V.int) (fun i σ H' acc => H' = H1 ∧ (∃ o, σ = [o]) ∧ ∃ ys : List Int, acc = ys.map V.int ∧ ys.length = i ∧ ∀ y ∈ ys, y.natAbs ≤ 2 ^ 200) ⟨rfl, ⟨_, rfl⟩, [], rfl, rfl, fun y hy => nomatch hy⟩ ?_ (Nat.le_of_lt (small1000 (by rw [List.length_map]; omega))) ?_ ?_
  · rintro i σ H' acc hi ⟨rfl, _, ys, rfl, hl, _⟩
    exact ⟨SqL.of hx, by rw [List.length_map]; omega⟩
  · rintro i v σ H' acc hv ⟨rfl, ⟨o, rfl⟩, ys, rfl, hl, by'⟩
    obtain ⟨x, hx', rfl⟩ := mapI_get hv
    refine ⟨_, rfl, _, _, rfl, rfl, ⟨by decide, by decide, by decide⟩, _, _, rfl, rfl, .inl ⟨by decide, by decide⟩, _, _, rfl, rfl, (by show (0 : Int) < 2 * 10 ^ (58 : Int).toNat; decide), _, _, rfl, rfl, ⟨by decide, by decide, by decide⟩, _, _, rfl, rfl, ?_⟩
    refine ⟨rfl, ⟨_, rfl⟩, ys ++ [x % (2 * 10 ^ (58 : Int).toNat) - 10 ^ (58 : Int).toNat], by rw [List.map_append]; rfl, by rw [List.length_append, List.length_singleton, hl], fun y hy => ?_⟩
    rcases List.mem_append.mp hy with z | z
    · exact by' y z
    · rw [List.mem_singleton.mp z]; exact mod58 x
  rintro σ H1' acc ⟨rfl, _, ys, rfl, ly, bY⟩ pm hpm
  rw [List.length_map, lx] at ly
  have f2 := same_new hpm (.lst (ys.map V.int))
  have e3 := e2.trans f2
  have hy : upd H1' pm (.lst (ys.map V.int)) pm = some (.lst (ys.map V.int)) := upd_same
  show tSeq _ _ _ (List.set _ 2 (some (.ref pm))) _
  generalize upd H1' pm (.lst (ys.map V.int)) = H2 at e3 hy ⊢
  clear f2 hx lx hpm e2
  refine ⟨fun σ' H' => ∃ (pn : Addr) (o3 o4 : Option V) (xs : List Int), σ' = [some (.ref a), some (.int n), some (.ref pn), o3, o4, none, none] ∧ Same H4 H' ∧ H' pn = some (.lst (xs.map V.int)) ∧ xs.length = 2 * n ∧ ∀ x ∈ xs, x.natAbs ≤ 2 ^ 200, ?_, ?_⟩
  · refine ⟨_, rfl, a, ns, 0, rfl, e3.seq hS, by decide, _, _, rfl, rfl, ⟨by decide, by decide⟩, _, _, rfl, rfl, (by show (0 : Int) < 2; decide), rfl, _, rfl, ?_⟩
    refine ite2B (fun g => ?_) (fun g => ?_)
    · refine ⟨_, rfl, pm, rfl, ⟨_, SqL.of hy⟩, ?_⟩
      refine comp_list (xs := ys.map V.int) (fun i σ H' acc => H' = H2 ∧ (∃ o, σ = [o]) ∧ ∃ zs : List Int, acc = zs.map V.int ∧ zs.length = i ∧ ∀ y ∈ zs, y.natAbs ≤ 2 ^ 200) ⟨rfl, ⟨_, rfl⟩, [], rfl, rfl, fun y hy => nomatch hy⟩ ?_ (Nat.le_of_lt (small1000 (by rw [List.length_map]; omega))) ?_ ?_
      · rintro i σ H' acc hi ⟨rfl, _, zs, rfl, hl, _⟩
        exact ⟨SqL.of hy, by rw [List.length_map]; omega⟩
      · rintro i v σ H' acc hv ⟨rfl, ⟨o, rfl⟩, zs, rfl, hl, by'⟩
        obtain ⟨x, hx', rfl⟩ := mapI_get hv
        refine ⟨_, rfl, _, _, rfl, rfl, (by show (0 : Int) < 13; decide), _, _, rfl, rfl, ?_⟩
        refine ⟨rfl, ⟨_, rfl⟩, zs ++ [x % 13 - 6], by rw [List.map_append]; rfl, by rw [List.length_append, List.length_singleton, hl], fun y hy' => ?_⟩
        rcases List.mem_append.mp hy' with z | z
        · exact by' y z
        · rw [List.mem_singleton.mp z]
          have a0 := Int.emod_nonneg x (show (13 : Int) ≠ 0 by decide)
          have a1 := Int.emod_lt_of_pos x (show (0 : Int) < 13 by decide)
          exact Nat.le_trans (show (x % 13 - 6).natAbs ≤ 6 by omega) (by decide)
      rintro σ H' acc ⟨rfl, _, zs, rfl, hl, bz⟩ pc hpc
      rw [List.length_map] at hl
      exact ⟨pc, _, _, zs, rfl, e3.trans (same_new hpc _), upd_same, by omega, bz⟩
    · exact ⟨pm, _, _, ys, rfl, e3, hy, ly, bY⟩
  clear hy ly bY e3
  rintro σ' H2 ⟨pn, o3, o4, xs, rfl, e3, hx, lx, bx⟩
  -- the two
  refine ⟨_, rfl, _, rfl, _, rfl, pn, _, rfl, SqL.of hx, fun pa hpa => ?_⟩
  rw [cutV_take, ← List.map_take]
  have f3 := same_new hpa (.lst ((xs.take n).map V.int))
  refine ⟨_, rfl, _, rfl, _, rfl, pn, _, rfl, SqL.of (f3 _ _ hx), fun pb hpb => ?_⟩
  rw [cutV_drop, ← List.map_drop]
  have f4 := same_new hpb (.lst ((xs.drop n).map V.int))
  have nb4 : H4 pb = none := ((e3.trans f3)).free hpb
  have e5 := (e3.trans f3).trans f4
  have ha5 := f4 _ _ (upd_same (H := H2) (a := pa) (o := .lst ((xs.take n).map V.int)))
  have hb5 : upd (upd H2 pa (.lst ((xs.take n).map V.int))) pb (.lst ((xs.drop n).map V.int)) pb = some (.lst ((xs.drop n).map V.int)) := upd_same
  have hab : pa ≠ pb := fun z => by rw [← z, upd_same] at hpb; cases hpb
  show tSeq _ _ _ (List.set _ 6 (some (.ref pb))) _
  generalize upd (upd H2 pa (.lst ((xs.take n).map V.int))) pb (.lst ((xs.drop n).map V.int)) = H5 at e5 ha5 hb5 ⊢
  have b1 : ∀ x ∈ xs.take n, x.natAbs ≤ 2 ^ 200 := fun x hx' => bx x (List.mem_of_mem_take hx')
  have b2 : ∀ x ∈ xs.drop n, x.natAbs ≤ 2 ^ 200 := fun x hx' => bx x (List.mem_of_mem_drop hx')
  have l1 : (xs.take n).length = n := by rw [List.length_take]; omega
  have l2 : (xs.drop n).length = n := by rw [List.length_drop]; omega
  generalize xs.take n = one at ha5 b1 l1
  generalize xs.drop n = other at hb5 b2 l2
  have up : ∀ {l : List Int}, (∀ x ∈ l, x.natAbs ≤ 2 ^ 200) → ∀ x ∈ l, x.natAbs ≤ 2 ^ 400 := fun h x hx' => Nat.le_trans (h x hx') (Nat.pow_le_pow_right (by decide) (by decide))
  refine ⟨fun σ' H' => ∃ (o2 o3 o4 : Option V) (other : List Int), σ' = [some (.ref a), some (.int n), o2, o3, o4, some (.ref pa), some (.ref pb)] ∧ Same H4 H' ∧ H' pa = some (.lst (one.map V.int)) ∧ H' pb = some (.lst (other.map V.int)) ∧ other.length = n ∧ ∀ x ∈ other, x.natAbs ≤ 2 ^ 400, ?_, ?_⟩
  · refine ⟨_, rfl, a, ns, 1, rfl, e5.seq hS, by decide, _, _, rfl, rfl, (by show (0 : Int) < 4; decide), _, _, rfl, rfl, _, rfl, ?_⟩
    refine ite2B (fun g => ?_) (fun g => ?_)
    · refine ⟨_, rfl, pa, _, rfl, SqL.of ha5, _, rfl, _, rfl, _, _, rfl, rfl, _, rfl, pb, _, rfl, SqL.of hb5, fun pc hpc => ?_⟩
      have f6 := same_new hpc (.lst (cutV (other.map V.int) none (some ((n : Int) - 1))))
      rw [show (n : Int) - 1 = ((n - 1 : Nat) : Int) by omega, cutV_take, ← List.map_take] at f6 ⊢
      refine ⟨pc, _, rfl, SqL.of upd_same, _, _, rfl, rfl, _, rfl, _, rfl, _, _, rfl, rfl, pb, _, _, _, rfl, rfl, f6 _ _ hb5, ixN_nat (show (0 : Int) ≤ (n : Int) - 1 by omega) (by rw [List.length_map]; omega), ?_⟩
      refine ⟨_, _, _, other.set ((n : Int) - 1).toNat (one.sum - (other.take (n - 1)).sum), rfl, same_upd nb4 (e5.trans f6) _, ?_, ?_, by rw [List.length_set]; exact l2, fun x hx' => ?_⟩
      · rw [upd_ne hab]; exact f6 _ _ ha5
      · rw [upd_same, List.map_set]
      · rcases List.mem_or_eq_of_mem_set hx' with z | z
        · exact up b2 x z
        · have s1 := sum_bd b1
          have s2 := sum_bd (l := other.take (n - 1)) fun x hx' => b2 x (List.mem_of_mem_take hx')
          have s3 := Int.natAbs_sub_le one.sum (other.take (n - 1)).sum
          have t1 : one.length * 2 ^ 200 ≤ 5 * 2 ^ 200 := Nat.mul_le_mul_right _ (by omega)
          have t2 : (other.take (n - 1)).length * 2 ^ 200 ≤ 5 * 2 ^ 200 := Nat.mul_le_mul_right _ (by rw [List.length_take]; omega)
          have t3 : 5 * 2 ^ 200 + 5 * 2 ^ 200 ≤ 2 ^ 400 := by decide
          rw [z]
          exact Nat.le_trans s3 (Nat.le_trans (Nat.add_le_add (Nat.le_trans s1 t1) (Nat.le_trans s2 t2)) t3)
    · exact ⟨_, _, _, other, rfl, e5, ha5, hb5, l2, up b2⟩
  rintro σ' H6 ⟨o2, o3, o4, other', rfl, e6, ha6, hb6, l6, b6⟩
  refine ⟨_, rfl, _, rfl, by show 2 ≤ sizeLine; decide, fun pz hpz => ?_⟩
  have f7 := same_new hpz (.tup [.ref pa, .ref pb])
  exact q pz pa pb one other' _ (e6.trans f7) upd_same (f7 _ _ ha6) (f7 _ _ hb6) l1 l6 (up b1) b6
theorem scRf : FnScope ["web", "one", "other", "right", "e"] ["web", "one", "other"] (defScope sRf) := ⟨rfl, rfl, rfl, by decide +kernel, rfl, by decide +kernel, by decide +kernel⟩

def spRf (K : PySem.W.Frag) : Sp := fun vs H Q _ => ∃ (wv : Addr) (n : Nat) (T : List (Int × Int)) (p r : Addr) (one other : List Int), vs = [.ref wv, .ref p, .ref r] ∧ WebG H wv n T ∧ H p = some (.lst (one.map V.int)) ∧ H r = some (.lst (other.map V.int)) ∧ (one.length ≠ n ∨ other.length ≠ n) ∧ ∀ H', Same H H' → Q (.bl true) H'
theorem ok_rf {f cOwingError cBadStanding cBadHouse : Addr} {fd : FuncData} (F : Fun K "_law_refused" "_law_refused" sRf f fd) (B : Blt mg) (hve : mg "ValueError" = none) (mOwingError : mg "OwingError" = some (.ref cOwingError)) (mBadStanding : mg "BadStanding" = some (.ref cBadStanding)) (mBadHouse : mg "BadHouse" = some (.ref cBadHouse))
    (yB : XCls K mg "BadStanding" cBadStanding cOwingError) (kH : PySem.W.kitOne K (.ref cBadStanding) (.ref cBadHouse) = some false) (cAl : CalX P w K mg base 8 "alike" ["web", "one", "other"] (spAx K cBadStanding)) : FnOk P w K mg base CX0 9 f fd ["web", "one", "other"] (spRf K) := by
  refine F.ok scRf (fun vs H Q E h => ?_) (fun cdv A outer s H vs Q E hr h => ?_)
  · obtain ⟨wv, n, T, p, r, one, other, rfl, _⟩ := h; rfl
  obtain ⟨wv, n, T, p, r, one, other, rfl, hW, hp, hr1, hne, q⟩ := h
  refine ⟨_, (pss_cons (ps_set (i := 3) scRf.nd rfl (Or.inl rfl) pe_bl)
    (pss_cons (ps_try (i := 4) (tb := fun ES => (tDrop (tCallX (spAx K cBadStanding) ES (tCons (tVar 0) (tCons (tVar 1) (tCons (tVar 2) tNil)))))) (ts := (tAsg (tAndV (tCB (rExc K) (tCons (tVar 4) (tCons (tC (.ref cBadStanding)) tNil))) (tAndV (tCB (rExc K) (tCons (tVar 4) (tCons (tC (.ty "ValueError")) tNil))) (tNotV (tCB (rExc K) (tCons (tVar 4) (tCons (tC (.ref cBadHouse)) tNil)))))) (gName 3))) (fun pins E ES T => (pss_one (ps_expr (pe_calX T cAl hr rfl (pa_cons (pv 0) (pa_cons (pv 1) (pa_cons (pv 2) pa_nil))))))) (fun pins e => (pss_one (ps_set (i := 3) scRf.nd rfl (Or.inl rfl) (pe_and (pe_callB call_isExc rfl B.isinst PyProof.Rows.boot_isinstance (pa_cons (pv 4) (pa_cons (pe_glob (v := .ref cBadStanding) rfl mBadStanding rfl) pa_nil))) (pe_and (pe_callB call_isExc rfl B.isinst PyProof.Rows.boot_isinstance (pa_cons (pv 4) (pa_cons (pe_bltn (v := .ty "ValueError") rfl hve PyProof.Rows.Boot.«ValueError» rfl) pa_nil))) (pe_one (pe_not (pe_callB call_isExc rfl B.isinst PyProof.Rows.boot_isinstance (pa_cons (pv 4) (pa_cons (pe_glob (v := .ref cBadHouse) rfl mBadHouse rfl) pa_nil)))))))))) scRf.nd rfl rfl rfl mOwingError)
    (pss_one (ps_ret (pv 3))))), ?_⟩
  refine ⟨fun σ' C H' => σ' = [some (.ref wv), some (.ref p), some (.ref r), some (.bl false), none] ∧ C = .ref cBadStanding ∧ H' = H, ?_, ?_⟩
  · refine ⟨_, rfl, _, rfl, _, rfl, wv, n, T, p, r, one, other, rfl, hW, hp, hr1, fun h1 h2 => ?_, fun _ => ⟨rfl, rfl, rfl⟩⟩
    rcases hne with z | z
    · exact absurd h1 z
    · exact absurd h2 z
  · rintro σ' C H' ⟨rfl, rfl, rfl⟩
    refine ⟨yB.ex, fun ea hea => ?_⟩
    have ef := same_new hea (.ext (ExcAt ea (.ref cBadStanding)))
    generalize hHb : upd H' ea (.ext (ExcAt ea (.ref cBadStanding))) = Hb at ef
    have hxe : Hb ea = some (.ext (ExcAt ea (.ref cBadStanding))) := hHb ▸ upd_same
    clear hHb
    refine ⟨_, rfl, ea, _, _, _, _, rfl, rfl, hxe, yB.k, yB.me, _, rfl, iteBT rfl ?_⟩
    refine ⟨_, rfl, ea, _, _, _, _, rfl, rfl, hxe, yB.k, yB.ve, _, rfl, iteBT rfl ?_⟩
    refine ⟨_, rfl, ea, _, _, _, _, rfl, rfl, hxe, yB.k, kH, _, rfl, ?_⟩
    exact ⟨_, rfl, q _ ef⟩


theorem scWe : FnScope ["web", "ties", "found", "parts", "m", "back", "products_v", "at", "number"] ["web", "ties", "found", "parts"] (defScope sWe) := ⟨rfl, rfl, rfl, by decide +kernel, rfl, by decide +kernel, by decide +kernel⟩
theorem nd_scWe_0 : (["row", "parts"] : List Str).Nodup := by decide +kernel
theorem nd_scWe_1 : (["k", "row", "parts"] : List Str).Nodup := by decide +kernel
theorem nd_scWe_2 : (["part"] : List Str).Nodup := by decide +kernel
theorem nd_scWe_3 : (["k", "found", "parts"] : List Str).Nodup := by decide +kernel

def spWe (K : PySem.W.Frag) : Sp := fun vs H Q _ => ∃ (wv pt z pp pl : Addr) (n i : Nat) (T T' : List (Int × Int)) (zs : List V) (one other r : List Int) (t : Int), vs = [.ref wv, .ref pt, .ref z, .ref pp] ∧ WebG H wv n T' ∧ H pt = some (.lst zs) ∧ Pairs H zs T ∧ Good n T ∧ T'.Perm (T.map nrm) ∧
  H z = some (.tup [.str "weighed", .int (kin n T'), .ref pl]) ∧ H pl = some (.lst ((0 :: r).map V.int)) ∧ H pp = some (.lst ((dif one other).map V.int)) ∧ one.length = n ∧ other.length = n ∧ (∀ x ∈ one, x.natAbs ≤ 2 ^ 400) ∧ (∀ x ∈ other, x.natAbs ≤ 2 ^ 400) ∧
  (ajt (smT n T'))[i]? = some r ∧ (tots n T' one other)[i]? = some t ∧ t % kin n T' ≠ 0 ∧ (∀ u ∈ (tots n T' one other).take i, u % kin n T' = 0) ∧ ∀ H', Same H H' → Q (.bl true) H'
theorem dif_bd0 {one other : List Int} (hl : one.length = other.length) (h1 : ∀ x ∈ one, x.natAbs ≤ 2 ^ 400) (h2 : ∀ x ∈ other, x.natAbs ≤ 2 ^ 400) : ∀ x ∈ dif one other, x.natAbs < 2 ^ 9000 := fun x hx => by
  obtain ⟨k, hk, rfl⟩ := List.mem_map.mp hx
  have hk' := List.mem_range.mp hk
  have a := h1 _ (getD_mem (l := one) (i := k) hk')
  have b := h2 _ (getD_mem (l := other) (i := k) (by omega))
  have c : (one.getD k 0 - other.getD k 0).natAbs ≤ 2 ^ 400 + 2 ^ 400 := by
    have := Int.natAbs_sub_le (one.getD k 0) (other.getD k 0)
    omega
  refine Nat.lt_of_le_of_lt c ?_
  rw [show (2 : Nat) ^ 400 + 2 ^ 400 = 2 ^ 401 by rw [Nat.pow_succ]; omega]
  exact Nat.pow_lt_pow_right (by decide) (by decide)
set_option maxHeartbeats 8000000 in
theorem ok_we {f : Addr} {fd : FuncData} (F : Fun K "_law_weighed" "_law_weighed" sWe f fd) (B : Blt mg) (cAj : Cal P w K mg base 8 "adjoint" ["table"] spAj) (cSm : Cal P w K mg base 8 "small_table" ["web"] spSm) (cWh : Cal P w K mg base 8 "_law_whole" ["found"] spWh) (cKi : Cal P w K mg base 8 "kinds" ["web"] spKi) (cNu : Cal P w K mg base 8 "_law_numbers" ["found", "due"] spNu) (cLt : Cal P w K mg base 8 "_law_lent" ["ties", "standing", "script"] spLt) : FnOk P w K mg base CX0 9 f fd ["web", "ties", "found", "parts"] (spWe K) := by
  refine F.ok scWe (fun vs H Q E h => ?_) (fun cdv A outer s H vs Q E hr h => ?_)
  · obtain ⟨wv, pt, z, pp, pl, n, i, T, T', zs, one, other, r, t, rfl, _⟩ := h; rfl
  obtain ⟨wv, pt, z, pp, pl, n, i, T, T', zs, one, other, r, t, rfl, hW, hpt, hP, hG, hTp, hz, hpl, hpp, l1, l2, b1, b2, hr', ht, hne, hev, q⟩ := h
  have n1 := hW.n1
  have n8 := hW.n8
  have hk := kin_pos' hW.good n1
  have lM := smT_len n T'
  have lA : (ajt (smT n T')).length = n - 1 := by rw [ajt_len, lM]
  have lt : (tots n T' one other).length = n - 1 := by unfold tots; rw [List.length_map, lA]
  have hi : i < n - 1 := by
    have := (List.getElem?_eq_some_iff.mp hr').1
    omega
  have lr : r.length = n - 1 := by rw [ajt_row_len hr', lM]
  have ld : (dif one other).length = n := by unfold dif; rw [List.length_map, List.length_range, l1]
  have bd := dif_bd0 (by omega) b1 b2
  refine ⟨_, (pss_cons (ps_if (PW.pt (pw_or (pt_cmpR op_ne (pe_callB call_len_seq rfl B.len PySem.boot_len (pa_cons (pv 2) pa_nil)) pe_int (nomark _)) (pw_or (pt_cmpR op_ne (pe_ix ix_tup (pv 2) pe_int (fun _ _ => rfl)) pe_str (nomark _)) (pw_or1 (pt_not (pt_val (pe_callB call_isinst rfl B.isinst PyProof.Rows.boot_isinstance (pa_cons (pe_ix ix_tup (pv 2) pe_int (fun _ _ => rfl)) (pa_cons (pe_bltn (v := .ty "list") rfl B.list PyProof.Rows.boot_list rfl) pa_nil))))))))) pss_never pss_nil)
    (pss_cons (ps_set (i := 4) scWe.nd rfl (Or.inl rfl) (pe_ix ix_tup (pv 2) pe_int (fun _ _ => rfl)))
    (pss_cons (ps_set (i := 5) scWe.nd rfl (Or.inl rfl) (pe_cal cAj hr rfl (pa_cons (pe_cal cSm hr rfl (pa_cons (pv 0) pa_nil)) pa_nil)))
    (pss_cons (ps_setCompC (i := 6) (N' := ["row", "parts"]) (mp := [none, some 3]) (g := (gName 0)) (tt := tYes) (te := (tCB (rSum K) (tCons (tComp [none, some 0, some 1] (iRng1 (tCons (tCB (fun xs H Q => ∃ p ys, xs = [.ref p] ∧ (SqL K H p ys ∨ SqT K H p ys) ∧ Q (.int ys.length) H) (tCons (tVar 0) tNil)) tNil)) (gName 0) tYes (tOp (rI CMulB fun i j => .int (i * j)) (tOp (rIxL K) (tVar 1) (tVar 0)) (tOp (rIxL K) (tVar 2) (tOp (rI0 fun i j => .int (i + j)) (tVar 0) (tC (.int 1)))))) tNil))) scWe.nd rfl (Or.inl rfl) (CompOkC.of (by kernel_rfl)) rfl (pi_list (pv 5)) (fun C s H fp => (pg_name (i := 0) nd_scWe_0 rfl (Or.inr rfl))) (fun C s H fp => pts_nil) (fun C s H fp => (pe_callB (call_sum rfl) rfl B.sum PyProof.Rows.boot_sum (pa_cons (pe_comp (N' := ["k", "row", "parts"]) (mp := [none, some 0, some 1]) (g := (gName 0)) (tt := tYes) (te := (tOp (rI CMulB fun i j => .int (i * j)) (tOp (rIxL K) (tVar 1) (tVar 0)) (tOp (rIxL K) (tVar 2) (tOp (rI0 fun i j => .int (i + j)) (tVar 0) (tC (.int 1)))))) (CompOk.of (by kernel_rfl)) rfl (pi_range1 rfl B.range (pa_cons (pe_callB call_len_seq rfl B.len PySem.boot_len (pa_cons (pv 0) pa_nil)) pa_nil)) (fun C s H fp => (pg_name (i := 0) nd_scWe_1 rfl (Or.inl rfl))) (fun C s H fp => pts_nil) (fun C s H fp => (pe_op op_mulB (pe_ix ix_list (pv 1) (pv 0) (fun _ _ => rfl)) (pe_ix ix_list (pv 2) (pe_op op_add (pv 0) pe_int) (fun _ _ => rfl))))) pa_nil))))
    (pss_cons (ps_if (PW.pt (pw_or (pt_not (pt_val (pe_cal cWh hr rfl (pa_cons (pv 4) pa_nil)))) (pw_or (pt_cmpR op_lt (pv 4) pe_int (nomark _)) (pw_or1 (pt_cmpR op_ne (pv 4) (pe_cal cKi hr rfl (pa_cons (pv 0) pa_nil)) (nomark _)))))) pss_never pss_nil)
    (pss_cons (ps_set (i := 7) scWe.nd rfl (Or.inl rfl) pe_int)
    (pss_cons (ps_while PassesOwn.never (PW.pt (pw_and (pt_cmpR op_lt (pv 7) (pe_callB call_len_seq rfl B.len PySem.boot_len (pa_cons (pv 6) pa_nil)) (nomark _)) (pw_and1 (pt_cmpR op_eq (pe_op op_mod (pe_ix ix_list (pv 6) (pv 7) (fun _ _ => rfl)) (pv 4)) pe_int (nomark _))))) (pss_one (ps_set (i := 7) scWe.nd rfl (Or.inl rfl) (pe_op op_add (pv 7) pe_int))))
    (pss_cons (ps_if (PW.pt (pw_or (pt_cmpR op_eq (pv 7) (pe_callB call_len_seq rfl B.len PySem.boot_len (pa_cons (pv 6) pa_nil)) (nomark _)) (pw_or1 (pt_not (pt_val (pe_cal cNu hr rfl (pa_cons (pe_ix ix_tup (pv 2) pe_int (fun _ _ => rfl)) (pa_cons (pe_op op_cat (pe_lst (pa_cons pe_int pa_nil)) (pe_ix ix_list (pv 5) (pv 7) (fun _ _ => rfl))) pa_nil)))))))) pss_never pss_nil)
    (pss_cons (ps_for PassesOwn.never rfl (pi_list (pe_cal cLt hr rfl (pa_cons (pv 1) (pa_cons (pe_comp (N' := ["part"]) (mp := [none]) (g := (gName 0)) (tt := tYes) (te := (tC (.int 0))) (CompOk.of (by kernel_rfl)) rfl (pi_list (pv 3)) (fun C s H fp => (pg_name (i := 0) nd_scWe_2 rfl (Or.inl rfl))) (fun C s H fp => pts_nil) (fun C s H fp => pe_int)) (pa_cons (pe_ix ix_tup (pv 2) pe_int (fun _ _ => rfl)) pa_nil))))) (pg_name (i := 8) scWe.nd rfl (Or.inl rfl)) (pss_one (ps_if (pt_cmpR op_ne (pe_op op_mod (pv 8) (pv 4)) pe_int (nomark _)) pss_never pss_nil)))
    (pss_one (ps_ret (pe_cmpR op_ne (pe_op op_mod (pe_callB (call_sum rfl) rfl B.sum PyProof.Rows.boot_sum (pa_cons (pe_comp (N' := ["k", "found", "parts"]) (mp := [none, some 2, some 3]) (g := (gName 0)) (tt := tYes) (te := (tOp (rI CMulB fun i j => .int (i * j)) (tOp (rIxL K) (tOp (rIxT K) (tVar 1) (tC (.int 2))) (tVar 0)) (tOp (rIxL K) (tVar 2) (tVar 0)))) (CompOk.of (by kernel_rfl)) rfl (pi_range1 rfl B.range (pa_cons (pe_callB call_len_seq rfl B.len PySem.boot_len (pa_cons (pv 3) pa_nil)) pa_nil)) (fun C s H fp => (pg_name (i := 0) nd_scWe_3 rfl (Or.inl rfl))) (fun C s H fp => pts_nil) (fun C s H fp => (pe_op op_mulB (pe_ix ix_list (pe_ix ix_tup (pv 1) pe_int (fun _ _ => rfl)) (pv 0) (fun _ _ => rfl)) (pe_ix ix_list (pv 2) (pv 0) (fun _ _ => rfl))))) pa_nil)) (pv 4)) pe_int (nomark _))))))))))))), ?_⟩
  refine ⟨_, rfl, z, _, rfl, .inr (SqT.of hz), rfl, _, rfl, iteB rfl ?_⟩
  refine ⟨_, rfl, z, _, _, _, rfl, rfl, SqT.of hz, rfl, rfl, _, rfl, iteB (by rw [decide_eq_true rfl]; rfl) ?_⟩
  refine ⟨_, rfl, z, _, _, _, rfl, rfl, SqT.of hz, rfl, _, _, _, _, rfl, .lst hpl, kit_ll K, _, rfl, iteB rfl ?_⟩
  refine ⟨_, rfl, z, _, _, _, rfl, rfl, SqT.of hz, rfl, ?_⟩
  refine ⟨_, rfl, wv, n, T', rfl, hW.web, n1, n8, fun pf as H2 hpf has e2 tf => ?_⟩
  rw [hW.tab] at tf
  have tb := hW.tb tf
  refine ⟨pf, as, smT n T', 2 ^ 200, rfl, tb, fun pa bs H3 hpa hbs e3 ta => ?_⟩
  have e03 := e2.trans e3
  have la := ta.len
  rw [lA] at la
  have bA := ajt_big tb
  -- the products
  refine ⟨_, rfl, pa, rfl, ⟨_, SqL.of ta.1⟩, ?_⟩
  refine comp_list (xs := bs.map V.ref) (fun i σ H' acc => Same H3 H' ∧ (∃ o, σ = [o, some (.ref pp)]) ∧ acc = ((tots n T' one other).take i).map V.int) ⟨Same.refl _, ⟨_, rfl⟩, rfl⟩ ?_ (Nat.le_of_lt (small1000 (by rw [List.length_map]; omega))) ?_ ?_
  · rintro j σ H' acc hj ⟨e, _, rfl⟩
    exact ⟨SqL.of (e _ _ ta.1), by rw [List.length_map, List.length_take]; omega⟩
  · rintro j v σ H' acc hv ⟨e, ⟨o, rfl⟩, rfl⟩
    rw [List.getElem?_map] at hv
    obtain ⟨xa, ex, rfl⟩ := Option.map_eq_some_iff.mp hv
    obtain ⟨xa', m, ex', em, hm⟩ := paired_get ta.2 (i := j) (List.getElem?_eq_some_iff.mp ex).1
    rw [ex] at ex'
    cases ex'
    have hm' := e _ _ hm
    have lm : m.length = n - 1 := by rw [ajt_row_len em, lM]
    have hpp' := e _ _ (e03 _ _ hpp)
    have bm := bA m (List.mem_of_getElem? em)
    refine ⟨_, rfl, xa, _, rfl, .inl (SqL.of hm'), _, rfl, by omega, by rw [List.length_map]; omega, ?_⟩
    refine comp_range (n := (((m.map V.int).length : Nat) : Int).toNat) (fun k σ H'' acc' => H'' = H' ∧ (∃ o, σ = [o, some (.ref xa), some (.ref pp)]) ∧ acc' = ((List.range k).map fun k => m.getD k 0 * ((dif one other).drop 1).getD k 0).map V.int) ⟨rfl, ⟨_, rfl⟩, rfl⟩ ?_ (Nat.le_of_lt (small1000 (by rw [List.length_map]; omega))) ?_ ?_
    · rintro k σ H'' acc' hk' ⟨_, _, rfl⟩
      rw [List.length_map, List.length_map, List.length_range]; exact Nat.le_refl _
    · rintro k σ H'' acc' hk' ⟨rfl, ⟨o, rfl⟩, rfl⟩
      rw [List.length_map] at hk'
      rw [Int.zero_add]
      have m1 := bm _ (getD_mem (l := m) (i := k) (by omega))
      have m2 := bd _ (getD_mem (l := dif one other) (i := k + 1) (by omega))
      have x1 : atI (m.map V.int) (k : Int) = some (.int (m.getD k 0)) := by
        have := atI_ints (ns := m) (show (0 : Int) ≤ (k : Int) by omega) (by omega)
        rwa [show ((k : Int)).toNat = k by omega] at this
      have x2 : atI ((dif one other).map V.int) ((k : Int) + 1) = some (.int ((dif one other).getD (k + 1) 0)) := by
        have := atI_ints (ns := dif one other) (show (0 : Int) ≤ (k : Int) + 1 by omega) (by omega)
        rwa [show ((k : Int) + 1).toNat = k + 1 by omega] at this
      refine ⟨_, rfl, _, rfl, xa, _, _, _, rfl, rfl, SqL.of hm', x1, _, rfl, _, rfl, _, _, rfl, rfl, pp, _, _, _, rfl, rfl, SqL.of hpp', x2, _, _, rfl, rfl, ⟨m1, m2⟩, rfl, ⟨_, rfl⟩, ?_⟩
      rw [List.range_succ (n := k), List.map_append, List.map_append, List.map_cons, List.map_nil, drop1_get]
      rfl
    rintro σ H'' acc' ⟨rfl, _, rfl⟩ pc hpc
    refine ⟨pc, _, rfl, SqL.of upd_same, e.trans (same_new hpc _), ⟨_, rfl⟩, ?_⟩
    have et : (tots n T' one other)[j]? = some (dot m ((dif one other).drop 1)) := by
      unfold tots
      rw [List.getElem?_map, em]; rfl
    rw [take_one et, List.map_append, List.map_cons, List.map_nil]
    unfold dot
    rw [List.length_map, show ((m.length : Nat) : Int).toNat = m.length by omega]
  rintro σ H4 acc ⟨e4, _, rfl⟩ pq hpq
  rw [List.length_map, la, ← lt, List.take_length]
  have f4 := same_new hpq (.lst ((tots n T' one other).map V.int))
  have e35 := e4.trans f4
  have hq5 : upd H4 pq (.lst ((tots n T' one other).map V.int)) pq = some (.lst ((tots n T' one other).map V.int)) := upd_same
  show tSeq _ _ _ (List.set _ 6 (some (.ref pq))) _
  generalize upd H4 pq (.lst ((tots n T' one other).map V.int)) = H5 at e35 hq5 ⊢
  have e05 := e03.trans e35
  have m2 : 2 ≤ kin n T' := by
    refine Classical.byContradiction fun z => hne ?_
    rw [show kin n T' = 1 by omega, Int.emod_one]
  refine ⟨_, rfl, _, rfl, _, rfl, iteB rfl ?_⟩
  refine ⟨_, rfl, _, _, rfl, rfl, _, rfl, iteB (decide_eq_false (by omega)) ?_⟩
  refine ⟨_, rfl, _, rfl, wv, n, T', rfl, hW.same e05, fun H6 e6 => ⟨rfl, _, rfl, iteB (by simp) ?_⟩⟩
  have e06 := e05.trans e6
  have hq6 := e6 _ _ hq5
  have ta6 := (ta.same e35).same e6
  -- the first that is not even
  refine ⟨fun m σ H' => ∃ k : Nat, σ = [some (.ref wv), some (.ref pt), some (.ref z), some (.ref pp), some (.int (kin n T')), some (.ref pa), some (.ref pq), some (.int (k : Int)), none] ∧ H' = H6 ∧ k ≤ i ∧ m = i - k, ⟨_, 0, rfl, rfl, Nat.zero_le _, rfl⟩, ?_⟩
  rintro m σ H' ⟨k, rfl, rfl, hki, rfl⟩
  have xk : atI ((tots n T' one other).map V.int) (k : Int) = some (.int ((tots n T' one other).getD k 0)) := by
    have := atI_ints (ns := tots n T' one other) (show (0 : Int) ≤ (k : Int) by omega) (by omega)
    rwa [show ((k : Int)).toNat = k by omega] at this
  refine ⟨_, rfl, _, rfl, pq, _, rfl, .inl (SqL.of hq6), _, _, rfl, rfl, _, rfl, iteBT (decide_eq_true (by rw [List.length_map]; omega)) ?_⟩
  refine ⟨_, rfl, _, rfl, pq, _, _, _, rfl, rfl, SqL.of hq6, xk, _, rfl, _, _, rfl, rfl, hk, rfl, _, rfl, ?_⟩
  by_cases hlt : k < i
  · have hz0 : (tots n T' one other).getD k 0 % kin n T' = 0 := hev _ (by
      have : (tots n T' one other)[k]? = some ((tots n T' one other).getD k 0) := by
        rw [List.getD_eq_getElem?_getD, List.getElem?_eq_getElem (by omega)]; rfl
      exact List.mem_of_getElem? (l := (tots n T' one other).take i) (i := k) (by rw [List.getElem?_take, if_pos hlt]; exact this))
    refine iteBT (by show decide (V.int ((tots n T' one other).getD k 0 % kin n T') = V.int 0) = true; rw [hz0]; exact decide_eq_true rfl) ?_
    refine ⟨fun σ' H2 => ∃ k' : Nat, σ' = [some (.ref wv), some (.ref pt), some (.ref z), some (.ref pp), some (.int (kin n T')), some (.ref pa), some (.ref pq), some (.int (k' : Int)), none] ∧ H2 = H' ∧ k' = k + 1, ?_, ?_⟩
    · rintro σ' H2 ⟨k', rfl, rfl, rfl⟩
      exact ⟨i - (k + 1), by omega, k + 1, rfl, rfl, by omega, rfl⟩
    · refine ⟨_, rfl, _, _, rfl, rfl, k + 1, ?_, rfl, rfl⟩
      rfl
  have hkk : k = i := by omega
  subst hkk
  have ek : (tots n T' one other).getD k 0 = t := getD_ofAt ht
  rw [ek]
  refine iteB (decide_eq_false fun w => hne (by injection w)) ?_
  -- its row
  refine ⟨_, rfl, _, rfl, pq, _, rfl, .inl (SqL.of hq6), rfl, _, rfl, iteB (decide_eq_false fun w => by
    have w' : (k : Int) = (((tots n T' one other).map V.int).length : Nat) := by injection w
    rw [List.length_map] at w'; omega) ?_⟩
  obtain ⟨xa, m, ex, em, hm⟩ := paired_get ta6.2 (i := k) (by omega)
  rw [hr'] at em
  cases em
  have xb : atI (bs.map V.ref) (k : Int) = some (.ref xa) := atI_nat (by rw [List.getElem?_map, ex]; rfl)
  have hz6 := e06 _ _ hz
  refine ⟨_, rfl, z, _, _, _, rfl, rfl, SqT.of hz6, rfl, by show 1 ≤ sizeLine; decide, fun c1 hc1 => ?_⟩
  have fA := same_new hc1 (.lst [.int 0])
  refine ⟨_, rfl, _, rfl, pa, _, _, _, rfl, rfl, SqL.of (fA _ _ ta6.1), xb, c1, xa, _, _, rfl, rfl, upd_same, fA _ _ hm, by rw [List.length_map]; exact Nat.le_of_lt (small1000 (by simp; omega)), fun c2 hc2 => ?_⟩
  have fB := same_new hc2 (.lst ([.int 0] ++ r.map V.int))
  have e0B := (e06.trans fA).trans fB
  refine ⟨pl, c2, 0 :: r, rfl, e0B _ _ hpl, upd_same, by simp; omega, _, rfl, iteB rfl ?_⟩
  have hpl7 := e0B _ _ hpl
  have hz7 := e0B _ _ hz
  generalize upd (upd H' c1 (.lst [.int 0])) c2 (.lst ([.int 0] ++ r.map V.int)) = H7 at e0B hpl7 hz7
  have hpp7 := e0B _ _ hpp
  -- in no lending
  refine ⟨_, rfl, _, rfl, pp, rfl, ⟨_, SqL.of hpp7⟩, ?_⟩
  refine comp_list (xs := (dif one other).map V.int) (fun j σ H8 acc => H8 = H7 ∧ (∃ o, σ = [o]) ∧ acc = (List.replicate j (0 : Int)).map V.int) ⟨rfl, ⟨_, rfl⟩, rfl⟩ ?_ (Nat.le_of_lt (small1000 (by rw [List.length_map]; omega))) ?_ ?_
  · rintro j σ H8 acc hj ⟨rfl, _, rfl⟩
    exact ⟨SqL.of hpp7, by rw [List.length_map, List.length_replicate]; exact Nat.le_refl _⟩
  · rintro j v σ H8 acc hv ⟨rfl, ⟨o, rfl⟩, rfl⟩
    refine ⟨rfl, ⟨_, rfl⟩, ?_⟩
    rw [List.replicate_succ', List.map_append]; rfl
  rintro σ H8 acc ⟨rfl, _, rfl⟩ pz hpz
  rw [List.length_map, ld]
  have f8 := same_new hpz (.lst ((List.replicate n (0 : Int)).map V.int))
  have e08 := e0B.trans f8
  refine ⟨_, rfl, z, _, _, _, rfl, rfl, SqT.of (f8 _ _ hz7), rfl, ?_⟩
  refine ⟨pt, pz, pl, n, zs, T, List.replicate n 0, 0 :: r, rfl, e08 _ _ hpt, hP.same e08, hG.rng, upd_same, f8 _ _ hpl7, List.length_replicate, by simp; omega, by have := hG.len; omega, fun py H9 hpy e9 hy9 => ?_⟩
  have e09 := e08.trans e9
  have hz9 := e9 _ _ (f8 _ _ hz7)
  have hpl9 := e9 _ _ (f8 _ _ hpl7)
  have hpp9 := e9 _ _ (f8 _ _ hpp7)
  have hall : ∀ x ∈ lentL T (List.replicate n 0) (0 :: r), x % kin n T' = 0 := fun x hx => by
    obtain ⟨j, hj, rfl⟩ := List.mem_iff_getElem.mp hx
    have hj' : j < n := by rw [len_lentL, List.length_replicate] at hj; exact hj
    have e := get_lentL (T := T) (sc := 0 :: r) (st := List.replicate n 0) List.length_replicate hG.rng j
    have e0 : (List.replicate n (0 : Int)).getD j 0 = 0 := by
      rw [List.getD_eq_getElem?_getD, List.getElem?_replicate, if_pos hj']; rfl
    rw [List.getD_eq_getElem?_getD, List.getElem?_eq_getElem hj, e0, ← delta_nrm hG.rng hTp j] at e
    have e' : (lentL T (List.replicate n 0) (0 :: r))[j] = delta T' (0 :: r) j := by
      have : (some (lentL T (List.replicate n 0) (0 :: r))[j]).getD 0 = 0 + delta T' (0 :: r) j := e
      rw [Int.zero_add] at this
      exact this
    rw [e']
    exact wei_even (st := one) hW.good n1 l1 hr' j hj'
  refine ⟨py, rfl, ⟨_, SqL.of hy9⟩, ?_⟩
  refine for_list (xs := (lentL T (List.replicate n 0) (0 :: r)).map V.int) (fun j σ H' => H' = H9 ∧ ∃ o8, σ = [some (.ref wv), some (.ref pt), some (.ref z), some (.ref pp), some (.int (kin n T')), some (.ref pa), some (.ref pq), some (.int (k : Int)), o8]) ⟨rfl, _, rfl⟩ (fun j σ H' _ ⟨e, _⟩ => e ▸ SqL.of hy9) ?_ ?_
  · rintro j v σ H' hv ⟨rfl, o8, rfl⟩
    obtain ⟨x, hx', rfl⟩ := mapI_get hv
    refine ⟨_, rfl, _, rfl, _, _, rfl, rfl, hk, rfl, _, rfl, iteB ?_ ⟨rfl, _, rfl⟩⟩
    show (!decide (V.int (x % kin n T') = V.int 0)) = false
    rw [hall x (List.mem_of_getElem? hx')]; rfl
  rintro σ H' ⟨rfl, o8, rfl⟩
  -- but in the differences
  refine ⟨_, rfl, pp, _, rfl, .inl (SqL.of hpp9), _, rfl, by omega, by rw [List.length_map]; omega, ?_⟩
  have bw : ∀ x ∈ (0 :: r : List Int), x.natAbs < 2 ^ 9000 := fun x hx => by
    rcases List.mem_cons.mp hx with w | w
    · rw [w]; exact Nat.pow_pos (by decide)
    · exact bA r (List.mem_of_getElem? hr') x w
  refine comp_range (n := ((((dif one other).map V.int).length : Nat) : Int).toNat) (fun j σ H8 acc => H8 = H' ∧ (∃ o, σ = [o, some (.ref z), some (.ref pp)]) ∧ acc = ((List.range j).map fun j => (0 :: r).getD j 0 * (dif one other).getD j 0).map V.int) ⟨rfl, ⟨_, rfl⟩, rfl⟩ ?_ (Nat.le_of_lt (small1000 (by rw [List.length_map]; omega))) ?_ ?_
  · rintro j σ H8 acc hj ⟨_, _, rfl⟩
    rw [List.length_map, List.length_map, List.length_range]; exact Nat.le_refl _
  · rintro j σ H8 acc hj ⟨rfl, ⟨o, rfl⟩, rfl⟩
    rw [List.length_map] at hj
    rw [Int.zero_add]
    have lr1 : (0 :: r : List Int).length = n := by simp; omega
    have m1 := bw _ (getD_mem (l := 0 :: r) (i := j) (by omega))
    have m2 := bd _ (getD_mem (l := dif one other) (i := j) (by omega))
    have x1 : atI ((0 :: r).map V.int) (j : Int) = some (.int ((0 :: r).getD j 0)) := by
      have := atI_ints (ns := 0 :: r) (show (0 : Int) ≤ (j : Int) by omega) (by omega)
      rwa [show ((j : Int)).toNat = j by omega] at this
    have x2 : atI ((dif one other).map V.int) (j : Int) = some (.int ((dif one other).getD j 0)) := by
      have := atI_ints (ns := dif one other) (show (0 : Int) ≤ (j : Int) by omega) (by omega)
      rwa [show ((j : Int)).toNat = j by omega] at this
    refine ⟨_, rfl, z, _, _, _, rfl, rfl, SqT.of hz9, rfl, _, rfl, pl, _, _, _, rfl, rfl, SqL.of hpl9, x1, _, rfl, _, rfl, pp, _, _, _, rfl, rfl, SqL.of hpp9, x2, _, _, rfl, rfl, ⟨m1, m2⟩, rfl, ⟨_, rfl⟩, ?_⟩
    rw [List.range_succ (n := j), List.map_append, List.map_append, List.map_cons, List.map_nil]
    rfl
  rintro σ H8 acc ⟨rfl, _, rfl⟩ pc hpc
  rw [List.length_map, ld]
  have es : ((List.range ((n : Nat) : Int).toNat).map fun j => (0 :: r).getD j 0 * (dif one other).getD j 0).sum = t := by
    rw [tots_get (T := T') (other := other) l1 hr' ht, show ((n : Nat) : Int).toNat = (n - 1) + 1 by omega, List.range_succ_eq_map, List.map_cons, List.sum_cons, List.map_map]
    have : (0 :: r).getD 0 0 * (dif one other).getD 0 0 = 0 := Int.zero_mul _
    rw [this, Int.zero_add]
    refine sum_congr fun j hj => ?_
    have := List.mem_range.mp hj
    show r.getD j 0 * (dif one other).getD (j + 1) 0 = _
    rw [dif_get (by omega)]
  refine ⟨pc, _, rfl, SqL.of upd_same, _, rfl, _, _, rfl, rfl, hk, rfl, ?_⟩
  rw [es]
  rw [show (!decide (V.int (t % kin n T') = V.int 0)) = true by rw [decide_eq_false fun w => hne (by injection w)]; rfl]
  exact q _ (e09.trans (same_new hpc _))

theorem kit_il (K : PySem.W.Frag) : PySem.W.kitOne K (.type "int") (.type "list") = some false := by kernel_rfl
theorem scSa : FnScope ["web", "one", "other", "found", "kept", "part"] ["web", "one", "other", "found"] (defScope sSa) := ⟨rfl, rfl, rfl, by decide +kernel, rfl, by decide +kernel, by decide +kernel⟩

def spSa (K : PySem.W.Frag) : Sp := fun vs H Q _ => ∃ (wv p r z : Addr) (n : Nat) (T : List (Int × Int)) (one other : List Int) (H0 : Hp), vs = [.ref wv, .ref p, .ref r, .ref z] ∧ WebG H0 wv n T ∧ H0 p = some (.lst (one.map V.int)) ∧ H0 r = some (.lst (other.map V.int)) ∧ one.length = n ∧ other.length = n ∧ (∀ x ∈ one, x.natAbs ≤ 2 ^ 400) ∧ (∀ x ∈ other, x.natAbs ≤ 2 ^ 400) ∧ Same H0 H ∧ PapAt H0 H z (AL n T one other) ∧ ∀ H', Q (.bl true) H'
set_option maxHeartbeats 8000000 in
theorem ok_sa {f cBadStanding : Addr} {fd : FuncData} (F : Fun K "_law_same_again" "_law_same_again" sSa f fd) (B : Blt mg) (cAl : CalX P w K mg base 8 "alike" ["web", "one", "other"] (spAx K cBadStanding)) : FnOk P w K mg base CX0 9 f fd ["web", "one", "other", "found"] (spSa K) := by
  refine F.ok scSa (fun vs H Q E h => ?_) (fun cdv A outer s H vs Q E hr h => ?_)
  · obtain ⟨wv, p, r, z, n, T, one, other, H0, rfl, _⟩ := h; rfl
  obtain ⟨wv, p, r, z, n, T, one, other, H0, rfl, hW, hp, hr1, l1, l2, b1, b2, e0, pap, q⟩ := h
  have n1 := hW.n1
  have n8 := hW.n8
  refine ⟨_, (pss_cons (ps_set (i := 4) scSa.nd rfl (Or.inl rfl) (pe_lst (pa_cons (pe_ix ix_tup (pv 3) pe_int (fun _ _ => rfl)) pa_nil)))
    (pss_cons (ps_for PassesOwn.never rfl (pi_tup (pe_slice sl_tup (pv 3) (po_some pe_int) po_none)) (pg_name (i := 5) scSa.nd rfl (Or.inl rfl)) (pss_cons (ps_expr (pe_bm PySem.F.plainAttrs_list PySem.F.slot_list_append PySem.F.type_list_append mt_append (pv 4) (pa_cons (pe_ifExp (pt_val (pe_callB call_isinst rfl B.isinst PyProof.Rows.boot_isinstance (pa_cons (pv 5) (pa_cons (pe_bltn (v := .ty "list") rfl B.list PyProof.Rows.boot_list rfl) pa_nil)))) (pe_callTy call_list_of rfl B.list PyProof.Rows.boot_list (pa_cons (pv 5) pa_nil)) (pv 5)) pa_nil)))
    (pss_one (ps_join (ps_if (pt_val (pe_callB call_isinst rfl B.isinst PyProof.Rows.boot_isinstance (pa_cons (pv 5) (pa_cons (pe_bltn (v := .ty "list") rfl B.list PyProof.Rows.boot_list rfl) pa_nil)))) (pss_cons (ps_asg (pe_op op_add (pe_ix ix_list (pv 5) pe_int (fun _ _ => rfl)) pe_int) (pg_sub (pv 5) pe_int set_list))
    (pss_one (ps_expr (pe_bm PySem.F.plainAttrs_list PySem.F.slot_list_append PySem.F.type_list_append mt_append (pv 5) (pa_cons pe_int pa_nil))))) pss_nil)))))
    (pss_one (ps_ret (pe_cmpR (op_eqT 1 (Nat.lt_of_le_of_lt (Nat.add_le_add_left (by decide : 1 + 1 ≤ 64) _) hr.units)) (pe_calX thr_no cAl hr rfl (pa_cons (pv 0) (pa_cons (pe_callTy call_list_of rfl B.list PyProof.Rows.boot_list (pa_cons (pv 1) pa_nil)) (pa_cons (pe_callTy call_list_of rfl B.list PyProof.Rows.boot_list (pa_cons (pv 2) pa_nil)) pa_nil)))) (pe_callTy call_tuple_of rfl B.tuple PyProof.Rows.boot_tuple (pa_cons (pv 4) pa_nil)) (nomark _)))))), ?_⟩
  have hc := AL_cases hW.good n1 l1 l2
  generalize hA : AL n T one other = AA at hc pap
  cases hc with
  | sums hs =>
  have hz : H z = some (.tup [.str "sums"]) := pap
  refine ⟨_, rfl, z, _, _, _, rfl, rfl, SqT.of hz, rfl, by show 1 ≤ sizeLine; decide, fun pk hpk => ?_⟩
  have f1 := same_new hpk (.lst [.str "sums"])
  have hk1 : upd H pk (.lst [.str "sums"]) pk = some (.lst [.str "sums"]) := upd_same
  refine ⟨_, rfl, _, rfl, z, _, rfl, SqT.of (f1 _ _ hz), (fun w => absurd w.1 (by decide)), fun ps hps => ?_⟩
  rw [cutV_drop1]
  have f2 := same_new hps (.tup (List.drop 1 [V.str "sums"]))
  refine ⟨ps, rfl, ⟨_, SqT.of upd_same⟩, ?_⟩
  refine for_tup (xs := []) (fun i σ H' => (∃ o5, σ = [some (.ref wv), some (.ref p), some (.ref r), some (.ref z), some (.ref pk), o5]) ∧ H' = upd (upd H pk (.lst [.str "sums"])) ps (.tup (List.drop 1 [V.str "sums"]))) ⟨⟨_, rfl⟩, rfl⟩ (fun i σ H' _ ⟨_, e⟩ => e ▸ SqT.of upd_same) (fun i x σ H' hx => by simp at hx) ?_
  rintro σ H5 ⟨⟨o5, rfl⟩, rfl⟩
  have e5 := (e0.trans f1).trans f2
  have hk5 := f2 _ _ hk1
  refine ⟨_, rfl, _, rfl, p, _, rfl, .inl (SqL.of (e5 _ _ hp)), fun p1 hp1 => ?_⟩
  have g1 := same_new hp1 (.lst (one.map V.int))
  refine ⟨_, rfl, r, _, rfl, .inl (SqL.of (g1 _ _ (e5 _ _ hr1))), fun p2 hp2 => ?_⟩
  have g2 := same_new hp2 (.lst (other.map V.int))
  have e6 := (e5.trans g1).trans g2
  refine ⟨wv, n, T, p1, p2, one, other, rfl, hW.same e6, g2 _ _ upd_same, upd_same, fun _ _ => ⟨b1, b2, fun z2 H8 e8 pap8 => ?_⟩, fun w => absurd w (by omega)⟩
  rw [hA] at pap8
  have hk8 := e8 _ _ (g2 _ _ (g1 _ _ hk5))
  have hz8 : H8 z2 = some (.tup [.str "sums"]) := pap8
  refine ⟨_, rfl, pk, _, rfl, .inl ⟨SqL.of hk8, fun pt hpt => ?_⟩⟩
  have g9 := same_new hpt (.tup [.str "sums"])
  refine ⟨z2, pt, _, _, rfl, rfl, SqT.of (g9 _ _ hz8), SqT.of upd_same, paired_refl rfl, q _⟩
  | lent sc hs ls hl =>
  obtain ⟨pl, hpl0, hz, hpl⟩ := pap
  refine ⟨_, rfl, z, _, _, _, rfl, rfl, SqT.of hz, rfl, by show 1 ≤ sizeLine; decide, fun pk hpk => ?_⟩
  have f1 := same_new hpk (.lst [.str "lent"])
  have hk1 : upd H pk (.lst [.str "lent"]) pk = some (.lst [.str "lent"]) := upd_same
  have hkl : pl ≠ pk := fun w => by rw [← w, hpl] at hpk; cases hpk
  have hk0 : H0 pk = none := e0.free hpk
  refine ⟨_, rfl, _, rfl, z, _, rfl, SqT.of (f1 _ _ hz), (fun w => absurd w.1 (by show ¬ HT.sIx 2 0 (some 1) = 0; decide)), fun ps hps => ?_⟩
  rw [cutV_drop1]
  have f2 := same_new hps (.tup (List.drop 1 [V.str "lent", .ref pl]))
  have hkp : ps ≠ pk := fun w => by rw [w, hk1] at hps; cases hps
  have hpp : ps ≠ pl := fun w => by rw [w, f1 _ _ hpl] at hps; cases hps
  refine ⟨ps, rfl, ⟨_, SqT.of upd_same⟩, ?_⟩
  refine for_tup (xs := [V.ref pl]) (fun i σ H' => (∃ o5, σ = [some (.ref wv), some (.ref p), some (.ref r), some (.ref z), some (.ref pk), o5]) ∧ Same H0 H' ∧ H' ps = some (.tup [.ref pl]) ∧ (i = 0 → H' pk = some (.lst [.str "lent"]) ∧ H' pl = some (.lst ((0 :: sc).map V.int))) ∧ (i = 1 → ∃ pc, H' pk = some (.lst [.str "lent", .ref pc]) ∧ H' pc = some (.lst ((0 :: sc).map V.int)))) ⟨⟨_, rfl⟩, (e0.trans f1).trans f2, upd_same, fun _ => ⟨f2 _ _ hk1, f2 _ _ (f1 _ _ hpl)⟩, fun w => by cases w⟩ (fun i σ H' _ ⟨_, _, e, _⟩ => SqT.of e) ?_ ?_
  · rintro i x σ H' hx ⟨⟨o5, rfl⟩, e1, h1, h2, _⟩
    cases i with
    | succ i => simp at hx
    | zero =>
    have ex : x = .ref pl := by simpa using hx.symm
    subst ex
    obtain ⟨hkk, hll⟩ := h2 rfl
    refine ⟨_, rfl, .inl ⟨rfl, _, SqL.of hkk⟩, _, rfl, _, _, _, _, rfl, .lst hll, kit_ll K, _, rfl, iteBT rfl ?_⟩
    refine ⟨_, rfl, pl, _, rfl, .inl (SqL.of hll), fun pc hpc => ?_⟩
    have g1 := same_new hpc (.lst ((0 :: sc).map V.int))
    have ncl : pc ≠ pl := fun w => by rw [w, hll] at hpc; cases hpc
    have nck : pc ≠ pk := fun w => by rw [w, hkk] at hpc; cases hpc
    have e2 := e1.trans g1
    refine ⟨pk, _, _, rfl, rfl, g1 _ _ hkk, by show 1 < sizeLine; decide, ?_⟩
    have e3 : Same H0 (upd (upd H' pc (.lst ((0 :: sc).map V.int))) pk (.lst ([.str "lent"] ++ [.ref pc]))) := same_upd hk0 e2 _
    have a1 : upd (upd H' pc (.lst ((0 :: sc).map V.int))) pk (.lst ([.str "lent"] ++ [.ref pc])) pk = some (.lst [.str "lent", .ref pc]) := upd_same
    have a2 : upd (upd H' pc (.lst ((0 :: sc).map V.int))) pk (.lst ([.str "lent"] ++ [.ref pc])) pc = some (.lst ((0 :: sc).map V.int)) := by rw [upd_ne nck]; exact upd_same
    have a3 : upd (upd H' pc (.lst ((0 :: sc).map V.int))) pk (.lst ([.str "lent"] ++ [.ref pc])) pl = some (.lst ((0 :: sc).map V.int)) := by rw [upd_ne hkl]; exact g1 _ _ hll
    have a4 : upd (upd H' pc (.lst ((0 :: sc).map V.int))) pk (.lst ([.str "lent"] ++ [.ref pc])) ps = some (.tup [.ref pl]) := by rw [upd_ne hkp]; exact g1 _ _ h1
    generalize upd (upd H' pc (.lst ((0 :: sc).map V.int))) pk (.lst ([.str "lent"] ++ [.ref pc])) = H3 at e3 a1 a2 a3 a4
    refine ⟨_, ?_, fun _ _ w => w⟩
    refine ⟨_, rfl, _, _, _, _, rfl, .lst a3, kit_ll K, _, rfl, iteBT rfl ?_⟩
    refine ⟨_, rfl, pl, _, _, _, rfl, rfl, SqL.of a3, (atI_nat (j := 0) rfl : atI ((0 :: sc).map V.int) 0 = some (.int 0)), _, _, rfl, rfl, _, rfl, pl, _, _, _, rfl, rfl, a3, ixN_nat (show (0 : Int) ≤ 0 by decide) (by rw [List.length_map, List.length_cons]; omega), ?_⟩
    have c3 : upd H3 pl (.lst (((0 :: sc).map V.int).set 0 (.int (0 + 1)))) pl = some (.lst ((1 :: sc).map V.int)) := upd_same
    have e4 : Same H0 (upd H3 pl (.lst (((0 :: sc).map V.int).set 0 (.int (0 + 1))))) := same_upd hpl0 e3 _
    refine ⟨_, rfl, .inl ⟨rfl, _, SqL.of c3⟩, pl, _, _, rfl, rfl, c3, by rw [List.length_map]; exact small1000 (by simp; omega), ?_⟩
    refine ⟨⟨_, rfl⟩, same_upd hpl0 e4 _, ?_, fun w => (by cases w), fun _ => ⟨pc, ?_, ?_⟩⟩
    · rw [upd_ne hpp, upd_ne hpp]; exact a4
    · rw [upd_ne hkl.symm, upd_ne hkl.symm]; exact a1
    · rw [upd_ne ncl, upd_ne ncl]; exact a2
  rintro σ H5 ⟨⟨o5, rfl⟩, e5, _, _, h5⟩
  obtain ⟨pc, hk5, hc5⟩ := h5 rfl
  refine ⟨_, rfl, _, rfl, p, _, rfl, .inl (SqL.of (e5 _ _ hp)), fun p1 hp1 => ?_⟩
  have g1 := same_new hp1 (.lst (one.map V.int))
  refine ⟨_, rfl, r, _, rfl, .inl (SqL.of (g1 _ _ (e5 _ _ hr1))), fun p2 hp2 => ?_⟩
  have g2 := same_new hp2 (.lst (other.map V.int))
  have e6 := (e5.trans g1).trans g2
  refine ⟨wv, n, T, p1, p2, one, other, rfl, hW.same e6, g2 _ _ upd_same, upd_same, fun _ _ => ⟨b1, b2, fun z2 H8 e8 pap8 => ?_⟩, fun w => absurd w (by omega)⟩
  rw [hA] at pap8
  have hk8 := e8 _ _ (g2 _ _ (g1 _ _ hk5))
  obtain ⟨pl2, _, hz8, hl8⟩ := pap8
  have hc8 := e8 _ _ (g2 _ _ (g1 _ _ hc5))
  refine ⟨_, rfl, pk, _, rfl, .inl ⟨SqL.of hk8, fun pt hpt => ?_⟩⟩
  have g9 := same_new hpt (.tup [.str "lent", .ref pc])
  refine ⟨z2, pt, _, _, rfl, rfl, SqT.of (g9 _ _ hz8), SqT.of upd_same, .cons (.inl ⟨rfl, rfl⟩) (.cons (.inr ⟨_, _, _, _, rfl, rfl, .inl ⟨SqL.of (g9 _ _ hl8), SqL.of (g9 _ _ hc8)⟩, paired_refl (ok_ints _)⟩) .nil), q _⟩
  | wei i0 rw0 t0 hs hr0 ht0 hb0 hz0 =>
  obtain ⟨pl, hpl0, hz, hpl⟩ := pap
  have lr0 : rw0.length = n - 1 := by rw [ajt_row_len hr0, smT_len]
  generalize kin n T = m at hz hA
  refine ⟨_, rfl, z, _, _, _, rfl, rfl, SqT.of hz, rfl, by show 1 ≤ sizeLine; decide, fun pk hpk => ?_⟩
  have f1 := same_new hpk (.lst [.str "weighed"])
  have hk1 : upd H pk (.lst [.str "weighed"]) pk = some (.lst [.str "weighed"]) := upd_same
  have hkl : pl ≠ pk := fun w => by rw [← w, hpl] at hpk; cases hpk
  have hk0 : H0 pk = none := e0.free hpk
  refine ⟨_, rfl, _, rfl, z, _, rfl, SqT.of (f1 _ _ hz), (fun w => absurd w.1 (by show ¬ HT.sIx 3 0 (some 1) = 0; decide)), fun ps hps => ?_⟩
  rw [cutV_drop1]
  have f2 := same_new hps (.tup (List.drop 1 [V.str "weighed", .int m, .ref pl]))
  have hkp : ps ≠ pk := fun w => by rw [w, hk1] at hps; cases hps
  have hpp : ps ≠ pl := fun w => by rw [w, f1 _ _ hpl] at hps; cases hps
  refine ⟨ps, rfl, ⟨_, SqT.of upd_same⟩, ?_⟩
  refine for_tup (xs := [V.int m, .ref pl]) (fun i σ H' => (∃ o5, σ = [some (.ref wv), some (.ref p), some (.ref r), some (.ref z), some (.ref pk), o5]) ∧ Same H0 H' ∧ H' ps = some (.tup [.int m, .ref pl]) ∧ (i = 0 → H' pk = some (.lst [.str "weighed"]) ∧ H' pl = some (.lst ((0 :: rw0).map V.int))) ∧ (i = 1 → H' pk = some (.lst [.str "weighed", .int m]) ∧ H' pl = some (.lst ((0 :: rw0).map V.int))) ∧ (i = 2 → ∃ pc, H' pk = some (.lst [.str "weighed", .int m, .ref pc]) ∧ H' pc = some (.lst ((0 :: rw0).map V.int)))) ⟨⟨_, rfl⟩, (e0.trans f1).trans f2, upd_same, fun _ => ⟨f2 _ _ hk1, f2 _ _ (f1 _ _ hpl)⟩, (fun w => by cases w), fun w => by cases w⟩ (fun i σ H' _ ⟨_, _, e, _⟩ => SqT.of e) ?_ ?_
  · rintro i x σ H' hx ⟨⟨o5, rfl⟩, e1, h1, h2, h3, _⟩
    match i, hx with
    | 0, hx =>
      have ex : x = .int m := by simpa using hx.symm
      subst ex
      obtain ⟨hkk, hll⟩ := h2 rfl
      refine ⟨_, rfl, .inl ⟨rfl, _, SqL.of hkk⟩, _, rfl, _, _, _, _, rfl, .int _, kit_il K, _, rfl, iteB rfl ?_⟩
      refine ⟨_, rfl, pk, _, _, rfl, rfl, hkk, by show 1 < sizeLine; decide, ?_⟩
      refine ⟨_, ?_, fun _ _ w => w⟩
      refine ⟨_, rfl, _, _, _, _, rfl, .int _, kit_il K, _, rfl, iteB rfl ?_⟩
      refine ⟨⟨_, rfl⟩, same_upd hk0 e1 _, ?_, fun w => (by cases w), fun _ => ⟨upd_same, ?_⟩, fun w => (by cases w)⟩
      · rw [upd_ne hkp]; exact h1
      · rw [upd_ne hkl]; exact hll
    | 1, hx =>
      have ex : x = .ref pl := by simpa using hx.symm
      subst ex
      obtain ⟨hkk, hll⟩ := h3 rfl
      refine ⟨_, rfl, .inl ⟨rfl, _, SqL.of hkk⟩, _, rfl, _, _, _, _, rfl, .lst hll, kit_ll K, _, rfl, iteBT rfl ?_⟩
      refine ⟨_, rfl, pl, _, rfl, .inl (SqL.of hll), fun pc hpc => ?_⟩
      have g1 := same_new hpc (.lst ((0 :: rw0).map V.int))
      have ncl : pc ≠ pl := fun w => by rw [w, hll] at hpc; cases hpc
      have nck : pc ≠ pk := fun w => by rw [w, hkk] at hpc; cases hpc
      have e2 := e1.trans g1
      refine ⟨pk, _, _, rfl, rfl, g1 _ _ hkk, by show 2 < sizeLine; decide, ?_⟩
      have e3 : Same H0 (upd (upd H' pc (.lst ((0 :: rw0).map V.int))) pk (.lst ([.str "weighed", .int m] ++ [.ref pc]))) := same_upd hk0 e2 _
      have a1 : upd (upd H' pc (.lst ((0 :: rw0).map V.int))) pk (.lst ([.str "weighed", .int m] ++ [.ref pc])) pk = some (.lst [.str "weighed", .int m, .ref pc]) := upd_same
      have a2 : upd (upd H' pc (.lst ((0 :: rw0).map V.int))) pk (.lst ([.str "weighed", .int m] ++ [.ref pc])) pc = some (.lst ((0 :: rw0).map V.int)) := by rw [upd_ne nck]; exact upd_same
      have a3 : upd (upd H' pc (.lst ((0 :: rw0).map V.int))) pk (.lst ([.str "weighed", .int m] ++ [.ref pc])) pl = some (.lst ((0 :: rw0).map V.int)) := by rw [upd_ne hkl]; exact g1 _ _ hll
      have a4 : upd (upd H' pc (.lst ((0 :: rw0).map V.int))) pk (.lst ([.str "weighed", .int m] ++ [.ref pc])) ps = some (.tup [.int m, .ref pl]) := by rw [upd_ne hkp]; exact g1 _ _ h1
      generalize upd (upd H' pc (.lst ((0 :: rw0).map V.int))) pk (.lst ([.str "weighed", .int m] ++ [.ref pc])) = H3 at e3 a1 a2 a3 a4
      refine ⟨_, ?_, fun _ _ w => w⟩
      refine ⟨_, rfl, _, _, _, _, rfl, .lst a3, kit_ll K, _, rfl, iteBT rfl ?_⟩
      refine ⟨_, rfl, pl, _, _, _, rfl, rfl, SqL.of a3, (atI_nat (j := 0) rfl : atI ((0 :: rw0).map V.int) 0 = some (.int 0)), _, _, rfl, rfl, _, rfl, pl, _, _, _, rfl, rfl, a3, ixN_nat (show (0 : Int) ≤ 0 by decide) (by rw [List.length_map, List.length_cons]; omega), ?_⟩
      have c3 : upd H3 pl (.lst (((0 :: rw0).map V.int).set 0 (.int (0 + 1)))) pl = some (.lst ((1 :: rw0).map V.int)) := upd_same
      have e4 : Same H0 (upd H3 pl (.lst (((0 :: rw0).map V.int).set 0 (.int (0 + 1))))) := same_upd hpl0 e3 _
      refine ⟨_, rfl, .inl ⟨rfl, _, SqL.of c3⟩, pl, _, _, rfl, rfl, c3, by rw [List.length_map]; exact small1000 (by simp; omega), ?_⟩
      refine ⟨⟨_, rfl⟩, same_upd hpl0 e4 _, ?_, fun w => (by cases w), fun w => (by cases w), fun _ => ⟨pc, ?_, ?_⟩⟩
      · rw [upd_ne hpp, upd_ne hpp]; exact a4
      · rw [upd_ne hkl.symm, upd_ne hkl.symm]; exact a1
      · rw [upd_ne ncl, upd_ne ncl]; exact a2
    | i + 2, hx => simp at hx
  rintro σ H5 ⟨⟨o5, rfl⟩, e5, _, _, _, h5⟩
  obtain ⟨pc, hk5, hc5⟩ := h5 rfl
  refine ⟨_, rfl, _, rfl, p, _, rfl, .inl (SqL.of (e5 _ _ hp)), fun p1 hp1 => ?_⟩
  have g1 := same_new hp1 (.lst (one.map V.int))
  refine ⟨_, rfl, r, _, rfl, .inl (SqL.of (g1 _ _ (e5 _ _ hr1))), fun p2 hp2 => ?_⟩
  have g2 := same_new hp2 (.lst (other.map V.int))
  have e6 := (e5.trans g1).trans g2
  refine ⟨wv, n, T, p1, p2, one, other, rfl, hW.same e6, g2 _ _ upd_same, upd_same, fun _ _ => ⟨b1, b2, fun z2 H8 e8 pap8 => ?_⟩, fun w => absurd w (by omega)⟩
  rw [hA] at pap8
  have hk8 := e8 _ _ (g2 _ _ (g1 _ _ hk5))
  obtain ⟨pl2, _, hz8, hl8⟩ := pap8
  have hc8 := e8 _ _ (g2 _ _ (g1 _ _ hc5))
  refine ⟨_, rfl, pk, _, rfl, .inl ⟨SqL.of hk8, fun pt hpt => ?_⟩⟩
  have g9 := same_new hpt (.tup [.str "weighed", .int m, .ref pc])
  refine ⟨z2, pt, _, _, rfl, rfl, SqT.of (g9 _ _ hz8), SqT.of upd_same, .cons (.inl ⟨rfl, rfl⟩) (.cons (.inl ⟨rfl, rfl⟩) (.cons (.inr ⟨_, _, _, _, rfl, rfl, .inl ⟨SqL.of (g9 _ _ hl8), SqL.of (g9 _ _ hc8)⟩, paired_refl (ok_ints _)⟩) .nil)), q _⟩


end
end Oh

namespace Oh
open PySem PySem.Spec PyProof.Rows L2
section
variable {P : Program} {w : World} {K : PySem.W.Frag} {mg : Str → Option Value} {base : Heap}

theorem scLw : FnScope ["script", "houses", "more", "ties", "web", "one", "other", "found", "number"] ["script"] (defScope sLw) := ⟨rfl, rfl, rfl, by decide +kernel, rfl, by decide +kernel, by decide +kernel⟩
theorem nd_scLw_0 : (["k", "one", "other"] : List Str).Nodup := by decide +kernel

theorem papSame {H0 H H' : Hp} {z : Addr} : ∀ {A : Pap}, PapAt H0 H z A → Same H H' → PapAt H0 H' z A
  | .sums, h, e => e _ _ h
  | .lent _, ⟨p, a, b, c⟩, e => ⟨p, a, e _ _ b, e _ _ c⟩
  | .wei _ _, ⟨p, a, b, c⟩, e => ⟨p, a, e _ _ b, e _ _ c⟩
theorem lent_nrm {n : Nat} {T T' : List (Int × Int)} {st sc : List Int} (hst : st.length = n) (hT : ∀ t ∈ T, inb n t) (hT' : ∀ t ∈ T', inb n t) (hp : T'.Perm (T.map nrm)) : lentL T st sc = lentL T' st sc := by
  refine getD_ext (by rw [len_lentL, len_lentL]) fun i _ => ?_
  rw [get_lentL hst hT, get_lentL hst hT', delta_nrm hT hp]
set_option maxHeartbeats 16000000 in
theorem ok_lw {f cBadStanding : Addr} {fd : FuncData} (F : Fun K "law" "law" sLw f fd) (B : Blt mg) (hstr : mg "str" = none)
    (cCe : Cal P w K mg base 9 "_law_cell_at" ["script", "k"] (spCe K)) (cSz : Cal P w K mg base 9 "_law_sizes" ["cell"] spSz) (cTi : Cal P w K mg base 9 "_law_ties" ["houses", "more", "cell"] spTi) (cMa : Cal P w K mg base 9 "made" ["houses", "ties"] (spMa K)) (cSt : Cal P w K mg base 9 "_law_standings" ["script", "houses"] (spSt K)) (cRf : Cal P w K mg base 9 "_law_refused" ["web", "one", "other"] (spRf K)) (cAl : CalX P w K mg base 9 "alike" ["web", "one", "other"] (spAx K cBadStanding)) (cWh : Cal P w K mg base 9 "_law_whole" ["found"] spWh) (cLt : Cal P w K mg base 9 "_law_lent" ["ties", "standing", "script"] spLt) (cWe : Cal P w K mg base 9 "_law_weighed" ["web", "ties", "found", "parts"] (spWe K)) (cSa : Cal P w K mg base 9 "_law_same_again" ["web", "one", "other", "found"] (spSa K)) : FnOk P w K mg base CX0 10 f fd ["script"] (spLaw K) := by
  refine F.ok scLw (fun vs H Q E h => ?_) (fun cdv A outer s H vs Q E hr h => ?_)
  · obtain ⟨a, ns, rfl, _⟩ := h; rfl
  obtain ⟨a, ns, rfl, hS, h63, hsm, q⟩ := h
  refine ⟨_, (pss_cons (ps_asg (pe_cal cSz hr rfl (pa_cons (pe_cal cCe hr rfl (pa_cons (pv 0) (pa_cons pe_int pa_nil))) pa_nil)) (pg_tup rfl (pgs_cons (pg_name (i := 1) scLw.nd rfl (Or.inl rfl)) (pgs_cons (pg_name (i := 2) scLw.nd rfl (Or.inl rfl)) pgs_nil))))
    (pss_cons (ps_set (i := 3) scLw.nd rfl (Or.inl rfl) (pe_cal cTi hr rfl (pa_cons (pv 1) (pa_cons (pv 2) (pa_cons (pe_cal cCe hr rfl (pa_cons (pv 0) (pa_cons pe_int pa_nil))) pa_nil)))))
    (pss_cons (ps_set (i := 4) scLw.nd rfl (Or.inl rfl) (pe_cal cMa hr rfl (pa_cons (pv 1) (pa_cons (pv 3) pa_nil))))
    (pss_cons (ps_asg (pe_cal cSt hr rfl (pa_cons (pv 0) (pa_cons (pv 1) pa_nil))) (pg_tup rfl (pgs_cons (pg_name (i := 5) scLw.nd rfl (Or.inr rfl)) (pgs_cons (pg_name (i := 6) scLw.nd rfl (Or.inr rfl)) pgs_nil))))
    (pss_cons (ps_if (PW.pt (pw_or (pt_not (pt_val (pe_cal cRf hr rfl (pa_cons (pv 4) (pa_cons (pe_op op_cat (pv 5) (pe_lst (pa_cons pe_int pa_nil))) (pa_cons (pv 6) pa_nil)))))) (pw_or1 (pt_not (pt_val (pe_cal cRf hr rfl (pa_cons (pv 4) (pa_cons (pv 5) (pa_cons (pe_slice sl_list (pv 6) po_none (po_some (pe_op op_sub (pv 1) pe_int))) pa_nil))))))))) pss_never pss_nil)
    (pss_cons (ps_if (PW.pt (pw_or (pt_not (pt_val (pe_cal cRf hr rfl (pa_cons (pv 4) (pa_cons (pe_op op_cat (pv 5) (pe_lst (pa_cons pe_int pa_nil))) (pa_cons (pe_op op_cat (pv 6) (pe_lst (pa_cons pe_int pa_nil))) pa_nil)))))) (pw_or1 (pt_not (pt_val (pe_cal cRf hr rfl (pa_cons (pv 4) (pa_cons (pe_slice sl_list (pv 5) (po_some pe_int) po_none) (pa_cons (pe_slice sl_list (pv 6) (po_some pe_int) po_none) pa_nil))))))))) pss_never pss_nil)
    (pss_cons (ps_set (i := 7) scLw.nd rfl (Or.inl rfl) (pe_calX thr_no cAl hr rfl (pa_cons (pv 4) (pa_cons (pe_callTy call_list_of rfl B.list PyProof.Rows.boot_list (pa_cons (pv 5) pa_nil)) (pa_cons (pe_callTy call_list_of rfl B.list PyProof.Rows.boot_list (pa_cons (pv 6) pa_nil)) pa_nil)))))
    (pss_cons (ps_if (PW.pt (pw_or (pt_not (pt_val (pe_callB call_isinst rfl B.isinst PyProof.Rows.boot_isinstance (pa_cons (pv 7) (pa_cons (pe_bltn (v := .ty "tuple") rfl B.tuple PyProof.Rows.boot_tuple rfl) pa_nil))))) (pw_or (pt_cmpR op_lt (pe_callB call_len_seq rfl B.len PySem.boot_len (pa_cons (pv 7) pa_nil)) pe_int (nomark _)) (pw_or1 (pt_not (pt_val (pe_callB call_isinst rfl B.isinst PyProof.Rows.boot_isinstance (pa_cons (pe_ix ix_tup (pv 7) pe_int (fun _ _ => rfl)) (pa_cons (pe_bltn (v := .ty "str") rfl hstr PyProof.Rows.boot_str rfl) pa_nil))))))))) pss_never pss_nil)
    (pss_cons (ps_if (pt_cmpR op_ne (pe_callB (call_sum rfl) rfl B.sum PyProof.Rows.boot_sum (pa_cons (pv 5) pa_nil)) (pe_callB (call_sum rfl) rfl B.sum PyProof.Rows.boot_sum (pa_cons (pv 6) pa_nil)) (nomark _)) (pss_one (ps_ret (pe_cmpR (op_eqT 1 (Nat.lt_of_le_of_lt (Nat.add_le_add_left (by decide : 1 + 1 ≤ 64) _) hr.units)) (pv 7) (pe_tup (pa_cons pe_str pa_nil)) (nomark _)))) pss_nil)
    (pss_cons (ps_join (ps_if (pt_cmpR op_eq (pe_ix ix_tup (pv 7) pe_int (fun _ _ => rfl)) pe_str (nomark _)) (pss_cons (ps_if (PW.pt (pw_or (pt_cmpR op_ne (pe_callB call_len_seq rfl B.len PySem.boot_len (pa_cons (pv 7) pa_nil)) pe_int (nomark _)) (pw_or (pt_not (pt_val (pe_callB call_isinst rfl B.isinst PyProof.Rows.boot_isinstance (pa_cons (pe_ix ix_tup (pv 7) pe_int (fun _ _ => rfl)) (pa_cons (pe_bltn (v := .ty "list") rfl B.list PyProof.Rows.boot_list rfl) pa_nil))))) (pw_or1 (pt_cmpR op_ne (pe_callB call_len_seq rfl B.len PySem.boot_len (pa_cons (pe_ix ix_tup (pv 7) pe_int (fun _ _ => rfl)) pa_nil)) (pv 1) (nomark _)))))) pss_never pss_nil)
    (pss_cons (ps_for PassesOwn.never rfl (pi_list (pe_ix ix_tup (pv 7) pe_int (fun _ _ => rfl))) (pg_name (i := 8) scLw.nd rfl (Or.inl rfl)) (pss_one (ps_if (pt_not (pt_val (pe_cal cWh hr rfl (pa_cons (pv 8) pa_nil)))) pss_never pss_nil)))
    (pss_one (ps_if (PW.pt (pw_or (pt_cmpR op_ne (pe_ix ix_list (pe_ix ix_tup (pv 7) pe_int (fun _ _ => rfl)) pe_int (fun _ _ => rfl)) pe_int (nomark _)) (pw_or1 (pt_cmpR (op_neL 0 (Nat.lt_of_le_of_lt (Nat.add_le_add_left (by decide : 0 + 1 ≤ 64) _) hr.units)) (pe_cal cLt hr rfl (pa_cons (pv 3) (pa_cons (pv 5) (pa_cons (pe_ix ix_tup (pv 7) pe_int (fun _ _ => rfl)) pa_nil)))) (pv 6) (nomark _))))) pss_never pss_nil)))) (pss_one (ps_if (pt_not (pt_val (pe_cal cWe hr rfl (pa_cons (pv 4) (pa_cons (pv 3) (pa_cons (pv 7) (pa_cons (pe_comp (N' := ["k", "one", "other"]) (mp := [none, some 5, some 6]) (g := (gName 0)) (tt := tYes) (te := (tOp (rI0 fun i j => .int (i - j)) (tOp (rIxL K) (tVar 1) (tVar 0)) (tOp (rIxL K) (tVar 2) (tVar 0)))) (CompOk.of (by kernel_rfl)) rfl (pi_range1 rfl B.range (pa_cons (pv 1) pa_nil)) (fun C s H fp => (pg_name (i := 0) nd_scLw_0 rfl (Or.inl rfl))) (fun C s H fp => pts_nil) (fun C s H fp => (pe_op op_sub (pe_ix ix_list (pv 1) (pv 0) (fun _ _ => rfl)) (pe_ix ix_list (pv 2) (pv 0) (fun _ _ => rfl))))) pa_nil))))))) pss_never pss_nil))))
    (pss_one (ps_ret (pe_cal cSa hr rfl (pa_cons (pv 4) (pa_cons (pv 5) (pa_cons (pv 6) (pa_cons (pv 7) pa_nil))))))))))))))))), ?_⟩
  refine ⟨_, rfl, a, ns, 0, rfl, hS, by decide, _, rfl, fun pz n mo H1 e1 hz n1 n5 h16 hm0 => ?_⟩
  refine ⟨pz, _, rfl, SqT.of hz, rfl, _, _, rfl, _, _, rfl, rfl, ?_⟩
  refine ⟨_, rfl, _, rfl, _, rfl, a, ns, 1, rfl, e1.seq hS, by decide, n, mo, _, rfl, n1, by omega, h16, hm0, fun pt zs T H2 e2 ht hP hG => ?_⟩
  have hT16 := hG.len
  refine ⟨_, rfl, _, rfl, n, pt, zs, T, rfl, SqL.of ht, hP, hG, n1, by omega, fun wv pw ob ws T' H3 e3 hwv hpw hob hPw hTp hTs => ?_⟩
  have hG' := good_nrm hG hTp
  have hnm : ∀ t ∈ T', nrm t = t := fun t htm => by
    obtain ⟨u, hu, rfl⟩ := List.mem_map.mp (hTp.mem_iff.mp htm)
    rcases nrm_or u with ⟨e, l⟩ | ⟨e, l⟩
    · rw [e]; exact e
    · rw [e]
      rcases nrm_or (u.2, u.1) with ⟨e', _⟩ | ⟨e', l'⟩
      · exact e'
      · dsimp only at l'; omega
  have hW : WebG H3 wv n T' := ⟨⟨⟨pw, ob, ws, hwv, hpw, hob, hPw⟩, hG'.len⟩, hG', hnm, n1, by omega⟩
  have e03 := (e1.trans e2).trans e3
  refine ⟨_, rfl, _, rfl, a, ns, n, rfl, e03.seq hS, h63, n1, n5, fun zz p r one other H4 e4 hzz hp hr1 l1 l2 b1 b2 => ?_⟩
  refine ⟨zz, _, rfl, SqT.of hzz, rfl, _, _, rfl, _, _, rfl, rfl, ?_⟩
  have hW4 := hW.same e4
  have e24 := e3.trans e4
  have ht4 := e24 _ _ ht
  have hP4 := hP.same e24
  clear hzz hz hW hwv hpw hob hPw
  have s1 : ∀ l : List Int, l.length ≤ 5 → (l.map V.int).length + [V.int 0].length ≤ sizeLine := fun l hl => by
    rw [List.length_map]; exact Nat.le_of_lt (small1000 (by simp; omega))
  -- refused: the one longer
  refine ⟨_, rfl, _, rfl, by show 1 ≤ sizeLine; decide, fun c1 hc1 => ?_⟩
  have f1 := same_new hc1 (.lst [.int 0])
  refine ⟨p, c1, _, _, rfl, rfl, f1 _ _ hp, upd_same, s1 one (by omega), fun c2 hc2 => ?_⟩
  have f2 := same_new hc2 (.lst (one.map V.int ++ [.int 0]))
  have e45 := f1.trans f2
  have h2 : upd (upd H4 c1 (.lst [.int 0])) c2 (.lst (one.map V.int ++ [.int 0])) c2 = some (.lst ((one ++ [0]).map V.int)) := by rw [upd_same, List.map_append]; rfl
  generalize upd (upd H4 c1 (.lst [.int 0])) c2 (.lst (one.map V.int ++ [.int 0])) = H5 at e45 h2
  refine ⟨_, rfl, wv, n, T', c2, r, one ++ [0], other, rfl, hW4.same e45, h2, e45 _ _ hr1, .inl (by rw [List.length_append, List.length_singleton]; omega), fun H6 e6 => ⟨_, rfl, iteB rfl ?_⟩⟩
  have e46 := e45.trans e6
  clear h2 f1 f2 hc1 hc2 e45 e6
  -- the other shorter
  refine ⟨_, rfl, _, rfl, _, rfl, _, rfl, _, _, rfl, rfl, _, rfl, r, _, rfl, SqL.of (e46 _ _ hr1), fun c3 hc3 => ?_⟩
  rw [show (n : Int) - 1 = ((n - 1 : Nat) : Int) by omega, cutV_take, ← List.map_take]
  have f3 := same_new hc3 (.lst ((other.take (n - 1)).map V.int))
  have e47 := e46.trans f3
  refine ⟨wv, n, T', p, c3, one, other.take (n - 1), rfl, hW4.same e47, e47 _ _ hp, upd_same, .inr (by rw [List.length_take]; omega), fun H6' e6 => ⟨_, rfl, iteB rfl ?_⟩⟩
  have e48 := e47.trans e6
  clear f3 hc3 e47 e6 e46
  -- both longer
  refine ⟨_, rfl, _, rfl, by show 1 ≤ sizeLine; decide, fun c1 hc1 => ?_⟩
  have f1 := same_new hc1 (.lst [.int 0])
  refine ⟨p, c1, _, _, rfl, rfl, f1 _ _ (e48 _ _ hp), upd_same, s1 one (by omega), fun c2 hc2 => ?_⟩
  have f2 := same_new hc2 (.lst (one.map V.int ++ [.int 0]))
  have h2 : upd (upd H6' c1 (.lst [.int 0])) c2 (.lst (one.map V.int ++ [.int 0])) c2 = some (.lst ((one ++ [0]).map V.int)) := by rw [upd_same, List.map_append]; rfl
  have e45 := (e48.trans f1).trans f2
  generalize upd (upd H6' c1 (.lst [.int 0])) c2 (.lst (one.map V.int ++ [.int 0])) = H5 at e45 h2
  refine ⟨_, rfl, by show 1 ≤ sizeLine; decide, fun c3 hc3 => ?_⟩
  have f3 := same_new hc3 (.lst [.int 0])
  refine ⟨r, c3, _, _, rfl, rfl, f3 _ _ (e45 _ _ hr1), upd_same, s1 other (by omega), fun c4 hc4 => ?_⟩
  have f4 := same_new hc4 (.lst (other.map V.int ++ [.int 0]))
  have h4 : upd (upd H5 c3 (.lst [.int 0])) c4 (.lst (other.map V.int ++ [.int 0])) c4 = some (.lst ((other ++ [0]).map V.int)) := by rw [upd_same, List.map_append]; rfl
  have e46 := (e45.trans f3).trans f4
  have h2' := f4 _ _ (f3 _ _ h2)
  generalize upd (upd H5 c3 (.lst [.int 0])) c4 (.lst (other.map V.int ++ [.int 0])) = H5' at e46 h4 h2'
  refine ⟨wv, n, T', c2, c4, one ++ [0], other ++ [0], rfl, hW4.same e46, h2', h4, .inl (by rw [List.length_append, List.length_singleton]; omega), fun H7 e7 => ⟨_, rfl, iteB rfl ?_⟩⟩
  have e47 := e46.trans e7
  clear h2 h2' h4 f1 f2 f3 f4 hc1 hc2 hc3 hc4 e45 e46 e48 e7
  -- both shorter
  refine ⟨_, rfl, _, rfl, _, rfl, p, _, rfl, SqL.of (e47 _ _ hp), fun c1 hc1 => ?_⟩
  rw [cutV_drop1, ← List.map_drop]
  have f1 := same_new hc1 (.lst ((one.drop 1).map V.int))
  refine ⟨_, rfl, _, rfl, r, _, rfl, SqL.of (f1 _ _ (e47 _ _ hr1)), fun c2 hc2 => ?_⟩
  rw [cutV_drop1, ← List.map_drop]
  have f2 := same_new hc2 (.lst ((other.drop 1).map V.int))
  have e46 := (e47.trans f1).trans f2
  refine ⟨wv, n, T', c1, c2, one.drop 1, other.drop 1, rfl, hW4.same e46, f2 _ _ upd_same, upd_same, .inl (by rw [List.length_drop]; omega), fun H7' e7 => ⟨_, rfl, iteB rfl ?_⟩⟩
  have e4a := e46.trans e7
  clear f1 f2 hc1 hc2 e46 e7 e47
  -- the paper
  refine ⟨_, rfl, _, rfl, p, _, rfl, .inl (SqL.of (e4a _ _ hp)), fun p1 hp1 => ?_⟩
  have g1 := same_new hp1 (.lst (one.map V.int))
  refine ⟨_, rfl, r, _, rfl, .inl (SqL.of (g1 _ _ (e4a _ _ hr1))), fun p2 hp2 => ?_⟩
  have g2 := same_new hp2 (.lst (other.map V.int))
  have e48 := (e4a.trans g1).trans g2
  have hq1 := g2 _ _ (upd_same (H := H7') (a := p1) (o := .lst (one.map V.int)))
  have hq2 : upd (upd H7' p1 (.lst (one.map V.int))) p2 (.lst (other.map V.int)) p2 = some (.lst (other.map V.int)) := upd_same
  generalize upd (upd H7' p1 (.lst (one.map V.int))) p2 (.lst (other.map V.int)) = H8 at e48 hq1 hq2
  have hW8 := hW4.same e48
  have hp8 := e48 _ _ hp
  have hr8 := e48 _ _ hr1
  refine ⟨wv, n, T', p1, p2, one, other, rfl, hW8, hq1, hq2, fun _ _ => ⟨b1, b2, fun z H9 e9 pap => ?_⟩, fun w => absurd w (by omega)⟩
  have e49 := e48.trans e9
  have hc := AL_cases hG' n1 l1 l2
  generalize hA : AL n T' one other = AA at hc pap
  cases hc with
  | sums hs =>
  have hz9 : H9 z = some (.tup [.str "sums"]) := pap
  refine ⟨_, rfl, _, _, _, _, rfl, .tup hz9, kit_tt K, _, rfl, iteB rfl ?_⟩
  refine ⟨_, rfl, z, _, rfl, .inr (SqT.of hz9), _, _, rfl, rfl, _, rfl, iteB rfl ?_⟩
  refine ⟨_, rfl, z, _, _, _, rfl, rfl, SqT.of hz9, rfl, _, _, _, _, rfl, .str _, kit_ss K, _, rfl, iteB rfl ?_⟩
  refine ⟨_, rfl, p, _, rfl, SqL.of (e49 _ _ hp), _, rfl, r, _, rfl, SqL.of (e49 _ _ hr1), rfl, _, rfl, ?_⟩
  refine iteBT (by simp only [V.int.injEq, Bool.not_eq_true', decide_eq_false_iff_not]; exact hs) ?_
  refine ⟨_, rfl, by show 1 ≤ sizeLine; decide, fun c hc' => ?_⟩
  have g3 := same_new hc' (.tup [.str "sums"])
  exact ⟨z, c, _, _, rfl, rfl, SqT.of (g3 _ _ hz9), SqT.of upd_same, paired_refl rfl, q _⟩
  | lent sc hs ls hl =>
  have pap0 := pap
  obtain ⟨pl, hpl0, hz9, hpl⟩ := pap
  refine ⟨_, rfl, _, _, _, _, rfl, .tup hz9, kit_tt K, _, rfl, iteB rfl ?_⟩
  refine ⟨_, rfl, z, _, rfl, .inr (SqT.of hz9), _, _, rfl, rfl, _, rfl, iteB rfl ?_⟩
  refine ⟨_, rfl, z, _, _, _, rfl, rfl, SqT.of hz9, rfl, _, _, _, _, rfl, .str _, kit_ss K, _, rfl, iteB rfl ?_⟩
  refine ⟨_, rfl, p, _, rfl, SqL.of (e49 _ _ hp), _, rfl, r, _, rfl, SqL.of (e49 _ _ hr1), rfl, _, rfl, ?_⟩
  refine iteB (by rw [hs]; simp) ?_
  refine ⟨fun σ' H' => ∃ o8 : Option V, σ' = [some (.ref a), some (.int n), some (.int mo), some (.ref pt), some (.ref wv), some (.ref p), some (.ref r), some (.ref z), o8] ∧ Same H9 H', ?_, ?_⟩
  · refine ⟨_, rfl, z, _, _, _, rfl, rfl, SqT.of hz9, rfl, rfl, _, rfl, iteBT (by rw [decide_eq_true rfl]) ?_⟩
    refine ⟨_, rfl, z, _, rfl, .inr (SqT.of hz9), rfl, _, rfl, iteB rfl ?_⟩
    refine ⟨_, rfl, z, _, _, _, rfl, rfl, SqT.of hz9, rfl, _, _, _, _, rfl, .lst hpl, kit_ll K, _, rfl, iteB rfl ?_⟩
    refine ⟨_, rfl, z, _, _, _, rfl, rfl, SqT.of hz9, rfl, pl, _, rfl, .inl (SqL.of hpl), _, rfl, rfl, _, rfl, iteB ?_ ?_⟩
    · rw [List.length_map, List.length_cons, ls, show n - 1 + 1 = n by omega]; simp
    refine ⟨_, rfl, z, _, _, _, rfl, rfl, SqT.of hz9, rfl, pl, rfl, ⟨_, SqL.of hpl⟩, ?_⟩
    refine for_list (xs := (0 :: sc).map V.int) (fun i σ H' => H' = H9 ∧ ∃ o8, σ = [some (.ref a), some (.int n), some (.int mo), some (.ref pt), some (.ref wv), some (.ref p), some (.ref r), some (.ref z), o8]) ⟨rfl, _, rfl⟩ (fun i σ H' _ ⟨e, _⟩ => e ▸ SqL.of hpl) ?_ ?_
    · rintro i v σ H' hv ⟨rfl, o8, rfl⟩
      obtain ⟨x, hx', rfl⟩ := mapI_get hv
      exact ⟨_, rfl, x, rfl, _, rfl, iteB rfl ⟨rfl, _, rfl⟩⟩
    rintro σ H' ⟨rfl, o8, rfl⟩
    refine ⟨_, rfl, z, _, _, _, rfl, rfl, SqT.of hz9, rfl, pl, _, _, _, rfl, rfl, SqL.of hpl, (atI_nat (j := 0) rfl : atI ((0 :: sc).map V.int) 0 = some (.int 0)), rfl, _, rfl, iteB (by rw [decide_eq_true rfl]; rfl) ?_⟩
    refine ⟨_, rfl, _, rfl, _, rfl, z, _, _, _, rfl, rfl, SqT.of hz9, rfl, pt, p, pl, n, zs, T, one, 0 :: sc, rfl, e49 _ _ ht4, hP4.same e49, hG.rng, e49 _ _ hp, hpl, l1, by simp; omega, by omega, fun py HA hpy eA hyA => ?_⟩
    rw [lent_nrm l1 hG.rng hG'.rng hTp, hl] at hyA
    refine ⟨_, rfl, py, r, _, _, rfl, rfl, SqL.of hyA, SqL.of (eA _ _ (e49 _ _ hr1)), paired_refl (ok_ints _), _, rfl, iteB rfl ?_⟩
    exact ⟨_, rfl, eA⟩
  rintro σ' HA ⟨o8, rfl, eA⟩
  exact ⟨_, rfl, _, rfl, _, rfl, _, rfl, wv, p, r, z, n, T', one, other, H8, rfl, hW8, hp8, hr8, l1, l2, b1, b2, e9.trans eA, by rw [hA]; exact papSame pap0 eA, q⟩
  | wei i0 rw0 t0 hs hr0 ht0 hb0 hz0 =>
  have pap0 := pap
  obtain ⟨pl, hpl0, hz9, hpl⟩ := pap
  refine ⟨_, rfl, _, _, _, _, rfl, .tup hz9, kit_tt K, _, rfl, iteB rfl ?_⟩
  refine ⟨_, rfl, z, _, rfl, .inr (SqT.of hz9), _, _, rfl, rfl, _, rfl, iteB rfl ?_⟩
  refine ⟨_, rfl, z, _, _, _, rfl, rfl, SqT.of hz9, rfl, _, _, _, _, rfl, .str _, kit_ss K, _, rfl, iteB rfl ?_⟩
  refine ⟨_, rfl, p, _, rfl, SqL.of (e49 _ _ hp), _, rfl, r, _, rfl, SqL.of (e49 _ _ hr1), rfl, _, rfl, ?_⟩
  refine iteB (by rw [hs]; simp) ?_
  refine ⟨fun σ' H' => ∃ o8 : Option V, σ' = [some (.ref a), some (.int n), some (.int mo), some (.ref pt), some (.ref wv), some (.ref p), some (.ref r), some (.ref z), o8] ∧ Same H9 H', ?_, ?_⟩
  · refine ⟨_, rfl, z, _, _, _, rfl, rfl, SqT.of hz9, rfl, rfl, _, rfl, iteB (by rw [decide_eq_false (by intro w; injection w with w; exact absurd w (by decide))]) ?_⟩
    refine ⟨_, rfl, _, rfl, _, rfl, _, rfl, n, rfl, by omega, by omega, ?_⟩
    refine comp_range (n := (n : Int).toNat) (fun j σ H' acc => H' = H9 ∧ (∃ o, σ = [o, some (.ref p), some (.ref r)]) ∧ acc = ((List.range j).map fun k => one.getD k 0 - other.getD k 0).map V.int) ⟨rfl, ⟨_, rfl⟩, rfl⟩ ?_ (Nat.le_of_lt (small1000 (by omega))) ?_ ?_
    · rintro j σ H' acc hj ⟨_, _, rfl⟩
      rw [List.length_map, List.length_map, List.length_range]; exact Nat.le_refl _
    · rintro j σ H' acc hj ⟨rfl, ⟨o, rfl⟩, rfl⟩
      rw [Int.zero_add]
      have x1 : atI (one.map V.int) (j : Int) = some (.int (one.getD j 0)) := by
        have := atI_ints (ns := one) (show (0 : Int) ≤ (j : Int) by omega) (by omega)
        rwa [show ((j : Int)).toNat = j by omega] at this
      have x2 : atI (other.map V.int) (j : Int) = some (.int (other.getD j 0)) := by
        have := atI_ints (ns := other) (show (0 : Int) ≤ (j : Int) by omega) (by omega)
        rwa [show ((j : Int)).toNat = j by omega] at this
      refine ⟨_, rfl, _, rfl, p, _, _, _, rfl, rfl, SqL.of (e49 _ _ hp), x1, _, rfl, _, rfl, r, _, _, _, rfl, rfl, SqL.of (e49 _ _ hr1), x2, _, _, rfl, rfl, rfl, ⟨_, rfl⟩, ?_⟩
      rw [List.range_succ (n := j), List.map_append, List.map_append, List.map_cons, List.map_nil]
      rfl
    rintro σ H9' acc ⟨rfl, _, rfl⟩ pd hpd
    have f9 := same_new hpd (.lst (((List.range (n : Int).toNat).map fun k => one.getD k 0 - other.getD k 0).map V.int))
    have hd : upd H9' pd (.lst (((List.range (n : Int).toNat).map fun k => one.getD k 0 - other.getD k 0).map V.int)) pd = some (.lst ((dif one other).map V.int)) := by
      rw [upd_same]
      unfold dif
      rw [l1, show ((n : Nat) : Int).toNat = n by omega]
    have e4b := e49.trans f9
    refine ⟨wv, pt, z, pd, pl, n, i0, T, T', zs, one, other, rw0, t0, rfl, hW4.same e4b, e4b _ _ ht4, hP4.same e4b, hG, hTp, f9 _ _ hz9, f9 _ _ hpl, hd, l1, l2, b1, b2, hr0, ht0, hb0, hz0, fun HB eB => ⟨_, rfl, iteB rfl ?_⟩⟩
    exact ⟨_, rfl, f9.trans eB⟩
  rintro σ' HA ⟨o8, rfl, eA⟩
  exact ⟨_, rfl, _, rfl, _, rfl, _, rfl, wv, p, r, z, n, T', one, other, H8, rfl, hW8, hp8, hr8, l1, l2, b1, b2, e9.trans eA, by rw [hA]; exact papSame pap0 eA, q⟩


end
set_option maxHeartbeats 4000000 in
theorem all_mk {l : PySem.W.OpenLaw} {w : World} {K : PySem.W.Frag} {h : Heap} {mg : Str → Option Value} {fa f0 f1 f2 f3 f4 f5 f6 f7 f8 f9 f10 f11 f12 f13 f14 f15 f16 f17 f18 f19 f20 f21 f22 f23 f24 f25 f26 f27 f28 f29 f30 f31 f32 f33 f34 f35 f36 f37 f38 f39 cOwingError cBadStanding cBadHouse : Addr} (X : K.In h) (G : h.Ns mainGlobals mg) (hfa : mg "law" = some (.ref fa))
    {od0 an0 od1 an1 od2 an2 od3 an3 od4 an4 od5 an5 od6 an6 od7 an7 od8 an8 od9 an9 od10 an10 od11 an11 od12 an12 od13 an13 od14 an14 od15 an15 od16 an16 od17 an17 od18 an18 od19 an19 od20 an20 od21 an21 od22 an22 od23 an23 od24 an24 od25 an25 od26 an26 od27 an27 od28 an28 od29 an29 od30 an30 od31 an31 od32 an32 od33 an33 od34 an34 od35 an35 od36 an36 od37 an37 od38 an38 od39 an39 : Option Addr} {sl0 sl1 sl2 sl3 sl4 sl5 sl6 sl7 sl8 sl9 sl10 sl11 sl12 sl13 sl14 sl15 sl16 sl17 sl18 sl19 sl20 sl21 sl22 sl23 sl24 sl25 sl26 sl27 sl28 sl29 sl30 sl31 sl32 sl33 sl34 sl35 sl36 sl37 sl38 sl39 : Array (Option Value)} {oc0 kV0 dc0 pm0 cd0 ct0 oc1 kV1 dc1 pm1 cd1 ct1 oc2 kV2 dc2 pm2 cd2 ct2 oc3 kV3 dc3 pm3 cd3 ct3 oc4 kV4 dc4 pm4 cd4 ct4 oc5 kV5 dc5 pm5 cd5 ct5 oc6 kV6 dc6 pm6 cd6 ct6 oc7 kV7 dc7 pm7 cd7 ct7 oc8 kV8 dc8 pm8 cd8 ct8 oc9 kV9 dc9 pm9 cd9 ct9 oc10 kV10 dc10 pm10 cd10 ct10 oc11 kV11 dc11 pm11 cd11 ct11 oc12 kV12 dc12 pm12 cd12 ct12 oc13 kV13 dc13 pm13 cd13 ct13 oc14 kV14 dc14 pm14 cd14 ct14 oc15 kV15 dc15 pm15 cd15 ct15 oc16 kV16 dc16 pm16 cd16 ct16 oc17 kV17 dc17 pm17 cd17 ct17 oc18 kV18 dc18 pm18 cd18 ct18 oc19 kV19 dc19 pm19 cd19 ct19 oc20 kV20 dc20 pm20 cd20 ct20 oc21 kV21 dc21 pm21 cd21 ct21 oc22 kV22 dc22 pm22 cd22 ct22 oc23 kV23 dc23 pm23 cd23 ct23 oc24 kV24 dc24 pm24 cd24 ct24 oc25 kV25 dc25 pm25 cd25 ct25 oc26 kV26 dc26 pm26 cd26 ct26 oc27 kV27 dc27 pm27 cd27 ct27 oc28 kV28 dc28 pm28 cd28 ct28 oc29 kV29 dc29 pm29 cd29 ct29 oc30 kV30 dc30 pm30 cd30 ct30 oc31 kV31 dc31 pm31 cd31 ct31 oc32 kV32 dc32 pm32 cd32 ct32 oc33 kV33 dc33 pm33 cd33 ct33 oc34 kV34 dc34 pm34 cd34 ct34 oc35 kV35 dc35 pm35 cd35 ct35 oc36 kV36 dc36 pm36 cd36 ct36 oc37 kV37 dc37 pm37 cd37 ct37 oc38 kV38 dc38 pm38 cd38 ct38 oc39 kV39 dc39 pm39 cd39 ct39 : Value} {t8 t16 : Tok}
    (a0 : PySem.W.nsIn K mainGlobals "product" = some (some (.ref f0))) (l0 : K.lookup f0 = some ⟨oc0, od0, .func (PySem.W.fnOf "product" "product" (defArgs sPd) (defBody sPd) (defScope sPd) .none kV0 dc0 pm0 an0 cd0 ct0), sl0⟩) (c0 : PySem.W.codeIn K cd0 "product" = true) (k0 : PySem.W.keepIn K (.ref f0) = true)
    (a1 : PySem.W.nsIn K mainGlobals "products" = some (some (.ref f1))) (l1 : K.lookup f1 = some ⟨oc1, od1, .func (PySem.W.fnOf "products" "products" (defArgs sPs) (defBody sPs) (defScope sPs) .none kV1 dc1 pm1 an1 cd1 ct1), sl1⟩) (c1 : PySem.W.codeIn K cd1 "products" = true) (k1 : PySem.W.keepIn K (.ref f1) = true)
    (a2 : PySem.W.nsIn K mainGlobals "floored" = some (some (.ref f2))) (l2 : K.lookup f2 = some ⟨oc2, od2, .func (PySem.W.fnOf "floored" "floored" (defArgs sFl) (defBody sFl) (defScope sFl) .none kV2 dc2 pm2 an2 cd2 ct2), sl2⟩) (c2 : PySem.W.codeIn K cd2 "floored" = true) (k2 : PySem.W.keepIn K (.ref f2) = true)
    (a3 : PySem.W.nsIn K mainGlobals "left_over" = some (some (.ref f3))) (l3 : K.lookup f3 = some ⟨oc3, od3, .func (PySem.W.fnOf "left_over" "left_over" (defArgs sLo) (defBody sLo) (defScope sLo) .none kV3 dc3 pm3 an3 cd3 ct3), sl3⟩) (c3 : PySem.W.codeIn K cd3 "left_over" = true) (k3 : PySem.W.keepIn K (.ref f3) = true)
    (a4 : PySem.W.nsIn K mainGlobals "need_standing" = some (some (.ref f4))) (l4 : K.lookup f4 = some ⟨oc4, od4, .func (PySem.W.fnOf "need_standing" "need_standing" (defArgs sNs) (defBody sNs) (defScope sNs) .none kV4 dc4 pm4 an4 cd4 ct4), sl4⟩) (c4 : PySem.W.codeIn K cd4 "need_standing" = true) (k4 : PySem.W.keepIn K (.ref f4) = true)
    (a5 : PySem.W.nsIn K mainGlobals "coins" = some (some (.ref f5))) (l5 : K.lookup f5 = some ⟨oc5, od5, .func (PySem.W.fnOf "coins" "coins" (defArgs sCn) (defBody sCn) (defScope sCn) .none kV5 dc5 pm5 an5 cd5 ct5), sl5⟩) (c5 : PySem.W.codeIn K cd5 "coins" = true) (k5 : PySem.W.keepIn K (.ref f5) = true)
    (a6 : PySem.W.nsIn K mainGlobals "less" = some (some (.ref f6))) (l6 : K.lookup f6 = some ⟨oc6, od6, .func (PySem.W.fnOf "less" "less" (defArgs sLs) (defBody sLs) (defScope sLs) .none kV6 dc6 pm6 an6 cd6 ct6), sl6⟩) (c6 : PySem.W.codeIn K cd6 "less" = true) (k6 : PySem.W.keepIn K (.ref f6) = true)
    (a7 : PySem.W.nsIn K mainGlobals "made" = some (some (.ref f7))) (l7 : K.lookup f7 = some ⟨oc7, od7, .func (PySem.W.fnOf "made" "made" (defArgs sMa) (defBody sMa) (defScope sMa) .none kV7 dc7 pm7 an7 cd7 ct7), sl7⟩) (c7 : PySem.W.codeIn K cd7 "made" = true) (k7 : PySem.W.keepIn K (.ref f7) = true)
    (a8 : PySem.W.nsIn K mainGlobals "need_bounds" = some (some (.ref f8))) (l8 : K.lookup f8 = some ⟨oc8, od8, .func (PySem.W.fnOf "need_bounds" "need_bounds" (defArgs sNb) (defBody sNb) (defScope sNb) .none kV8 dc8 pm8 an8 cd8 ct8), sl8⟩) (c8 : PySem.W.codeIn K cd8 "need_bounds" = true) (k8 : PySem.W.keepIn K (.ref f8) = true)
    (a9 : PySem.W.nsIn K mainGlobals "need_tie" = some (some (.ref f9))) (l9 : K.lookup f9 = some ⟨oc9, od9, .func (PySem.W.fnOf "need_tie" "need_tie" (defArgs sNt) (defBody sNt) (defScope sNt) .none kV9 dc9 pm9 an9 cd9 ct9), sl9⟩) (c9 : PySem.W.codeIn K cd9 "need_tie" = true) (k9 : PySem.W.keepIn K (.ref f9) = true)
    (a10 : PySem.W.nsIn K mainGlobals "is_house" = some (some (.ref f10))) (l10 : K.lookup f10 = some ⟨oc10, od10, .func (PySem.W.fnOf "is_house" "is_house" (defArgs sIs) (defBody sIs) (defScope sIs) .none kV10 dc10 pm10 an10 cd10 ct10), sl10⟩) (c10 : PySem.W.codeIn K cd10 "is_house" = true) (k10 : PySem.W.keepIn K (.ref f10) = true)
    (a11 : PySem.W.nsIn K mainGlobals "reached" = some (some (.ref f11))) (l11 : K.lookup f11 = some ⟨oc11, od11, .func (PySem.W.fnOf "reached" "reached" (defArgs sRe) (defBody sRe) (defScope sRe) .none kV11 dc11 pm11 an11 cd11 ct11), sl11⟩) (c11 : PySem.W.codeIn K cd11 "reached" = true) (k11 : PySem.W.keepIn K (.ref f11) = true)
    (a12 : PySem.W.nsIn K mainGlobals "need_house" = some (some (.ref f12))) (l12 : K.lookup f12 = some ⟨oc12, od12, .func (PySem.W.fnOf "need_house" "need_house" (defArgs sNh) (defBody sNh) (defScope sNh) .none kV12 dc12 pm12 an12 cd12 ct12), sl12⟩) (c12 : PySem.W.codeIn K cd12 "need_house" = true) (k12 : PySem.W.keepIn K (.ref f12) = true)
    (a13 : PySem.W.nsIn K mainGlobals "between" = some (some (.ref f13))) (l13 : K.lookup f13 = some ⟨oc13, od13, .func (PySem.W.fnOf "between" "between" (defArgs sBe) (defBody sBe) (defScope sBe) .none kV13 dc13 pm13 an13 cd13 ct13), sl13⟩) (c13 : PySem.W.codeIn K cd13 "between" = true) (k13 : PySem.W.keepIn K (.ref f13) = true)
    (a14 : PySem.W.nsIn K mainGlobals "degree" = some (some (.ref f14))) (l14 : K.lookup f14 = some ⟨oc14, od14, .func (PySem.W.fnOf "degree" "degree" (defArgs sDe) (defBody sDe) (defScope sDe) .none kV14 dc14 pm14 an14 cd14 ct14), sl14⟩) (c14 : PySem.W.codeIn K cd14 "degree" = true) (k14 : PySem.W.keepIn K (.ref f14) = true)
    (a15 : PySem.W.nsIn K mainGlobals "small_table" = some (some (.ref f15))) (l15 : K.lookup f15 = some ⟨oc15, od15, .func (PySem.W.fnOf "small_table" "small_table" (defArgs sSm) (defBody sSm) (defScope sSm) .none kV15 dc15 pm15 an15 cd15 ct15), sl15⟩) (c15 : PySem.W.codeIn K cd15 "small_table" = true) (k15 : PySem.W.keepIn K (.ref f15) = true)
    (a16 : PySem.W.nsIn K mainGlobals "table_among" = some (some (.ref f16))) (l16 : K.lookup f16 = some ⟨oc16, od16, .func (PySem.W.fnOf "table_among" "table_among" (defArgs sTa) (defBody sTa) (defScope sTa) .none kV16 dc16 pm16 an16 cd16 ct16), sl16⟩) (c16 : PySem.W.codeIn K cd16 "table_among" = true) (k16 : PySem.W.keepIn K (.ref f16) = true)
    (a17 : PySem.W.nsIn K mainGlobals "row_among" = some (some (.ref f17))) (l17 : K.lookup f17 = some ⟨oc17, od17, .func (PySem.W.fnOf "row_among" "row_among" (defArgs sRa) (defBody sRa) (defScope sRa) .none kV17 dc17 pm17 an17 cd17 ct17), sl17⟩) (c17 : PySem.W.codeIn K cd17 "row_among" = true) (k17 : PySem.W.keepIn K (.ref f17) = true)
    (a18 : PySem.W.nsIn K mainGlobals "det" = some (some (.ref f18))) (l18 : K.lookup f18 = some ⟨oc18, od18, .func (PySem.W.fnOf "det" "det" (defArgs sDt) (defBody sDt) (defScope sDt) .none kV18 dc18 pm18 an18 cd18 ct18), sl18⟩) (c18 : PySem.W.codeIn K cd18 "det" = true) (k18 : PySem.W.keepIn K (.ref f18) = true)
    (a19 : PySem.W.nsIn K mainGlobals "first_filled" = some (some (.ref f19))) (l19 : K.lookup f19 = some ⟨oc19, od19, .func (PySem.W.fnOf "first_filled" "first_filled" (defArgs sFf) (defBody sFf) (defScope sFf) .none kV19 dc19 pm19 an19 cd19 ct19), sl19⟩) (c19 : PySem.W.codeIn K cd19 "first_filled" = true) (k19 : PySem.W.keepIn K (.ref f19) = true)
    (a20 : PySem.W.nsIn K mainGlobals "reduced" = some (some (.ref f20))) (l20 : K.lookup f20 = some ⟨oc20, od20, .func (PySem.W.fnOf "reduced" "reduced" (defArgs sRd) (defBody sRd) (defScope sRd) .none kV20 dc20 pm20 an20 cd20 ct20), sl20⟩) (c20 : PySem.W.codeIn K cd20 "reduced" = true) (k20 : PySem.W.keepIn K (.ref f20) = true)
    (a21 : PySem.W.nsIn K mainGlobals "lacking" = some (some (.ref f21))) (l21 : K.lookup f21 = some ⟨oc21, od21, .func (PySem.W.fnOf "lacking" "lacking" (defArgs sLk) (defBody sLk) (defScope sLk) .none kV21 dc21 pm21 an21 cd21 ct21), sl21⟩) (c21 : PySem.W.codeIn K cd21 "lacking" = true) (k21 : PySem.W.keepIn K (.ref f21) = true)
    (a22 : PySem.W.nsIn K mainGlobals "adjoint" = some (some (.ref f22))) (l22 : K.lookup f22 = some ⟨oc22, od22, .func (PySem.W.fnOf "adjoint" "adjoint" (defArgs sAj) (defBody sAj) (defScope sAj) .none kV22 dc22 pm22 an22 cd22 ct22), sl22⟩) (c22 : PySem.W.codeIn K cd22 "adjoint" = true) (k22 : PySem.W.keepIn K (.ref f22) = true)
    (a23 : PySem.W.nsIn K mainGlobals "adjoint_row" = some (some (.ref f23))) (l23 : K.lookup f23 = some ⟨oc23, od23, .func (PySem.W.fnOf "adjoint_row" "adjoint_row" (defArgs sAr) (defBody sAr) (defScope sAr) .none kV23 dc23 pm23 an23 cd23 ct23), sl23⟩) (c23 : PySem.W.codeIn K cd23 "adjoint_row" = true) (k23 : PySem.W.keepIn K (.ref f23) = true)
    (a24 : PySem.W.nsIn K mainGlobals "cofactor" = some (some (.ref f24))) (l24 : K.lookup f24 = some ⟨oc24, od24, .func (PySem.W.fnOf "cofactor" "cofactor" (defArgs sCf) (defBody sCf) (defScope sCf) .none kV24 dc24 pm24 an24 cd24 ct24), sl24⟩) (c24 : PySem.W.codeIn K cd24 "cofactor" = true) (k24 : PySem.W.keepIn K (.ref f24) = true)
    (a25 : PySem.W.nsIn K mainGlobals "kinds" = some (some (.ref f25))) (l25 : K.lookup f25 = some ⟨oc25, od25, .func (PySem.W.fnOf "kinds" "kinds" (defArgs sKi) (defBody sKi) (defScope sKi) .none kV25 dc25 pm25 an25 cd25 ct25), sl25⟩) (c25 : PySem.W.codeIn K cd25 "kinds" = true) (k25 : PySem.W.keepIn K (.ref f25) = true)
    (a26 : PySem.W.nsIn K mainGlobals "alike" = some (some (.ref f26))) (l26 : K.lookup f26 = some ⟨oc26, od26, .func (PySem.W.fnOf "alike" "alike" (defArgs sAl) (defBody sAl) (defScope sAl) .none kV26 dc26 pm26 an26 cd26 ct26), sl26⟩) (c26 : PySem.W.codeIn K cd26 "alike" = true) (k26 : PySem.W.keepIn K (.ref f26) = true)
    (a27 : PySem.W.nsIn K mainGlobals "_law_cell_at" = some (some (.ref f27))) (l27 : K.lookup f27 = some ⟨oc27, od27, .func (PySem.W.fnOf "_law_cell_at" "_law_cell_at" (defArgs sCe) (defBody sCe) (defScope sCe) .none kV27 dc27 pm27 an27 cd27 ct27), sl27⟩) (c27 : PySem.W.codeIn K cd27 "_law_cell_at" = true) (k27 : PySem.W.keepIn K (.ref f27) = true)
    (a28 : PySem.W.nsIn K mainGlobals "_law_mixed" = some (some (.ref f28))) (l28 : K.lookup f28 = some ⟨oc28, od28, .func (PySem.W.fnOf "_law_mixed" "_law_mixed" (defArgs sMi) (defBody sMi) (defScope sMi) .none kV28 dc28 pm28 an28 cd28 ct28), sl28⟩) (c28 : PySem.W.codeIn K cd28 "_law_mixed" = true) (k28 : PySem.W.keepIn K (.ref f28) = true)
    (a29 : PySem.W.nsIn K mainGlobals "_law_ties" = some (some (.ref f29))) (l29 : K.lookup f29 = some ⟨oc29, od29, .func (PySem.W.fnOf "_law_ties" "_law_ties" (defArgs sTi) (defBody sTi) (defScope sTi) .none kV29 dc29 pm29 an29 cd29 ct29), sl29⟩) (c29 : PySem.W.codeIn K cd29 "_law_ties" = true) (k29 : PySem.W.keepIn K (.ref f29) = true)
    (a30 : PySem.W.nsIn K mainGlobals "_law_sizes" = some (some (.ref f30))) (l30 : K.lookup f30 = some ⟨oc30, od30, .func (PySem.W.fnOf "_law_sizes" "_law_sizes" (defArgs sSz) (defBody sSz) (defScope sSz) .none kV30 dc30 pm30 an30 cd30 ct30), sl30⟩) (c30 : PySem.W.codeIn K cd30 "_law_sizes" = true) (k30 : PySem.W.keepIn K (.ref f30) = true)
    (a31 : PySem.W.nsIn K mainGlobals "_law_whole" = some (some (.ref f31))) (l31 : K.lookup f31 = some ⟨oc31, od31, .func (PySem.W.fnOf "_law_whole" "_law_whole" (defArgs sWh) (defBody sWh) (defScope sWh) .none kV31 dc31 pm31 an31 cd31 ct31), sl31⟩) (c31 : PySem.W.codeIn K cd31 "_law_whole" = true) (k31 : PySem.W.keepIn K (.ref f31) = true)
    (a32 : PySem.W.nsIn K mainGlobals "_law_numbers" = some (some (.ref f32))) (l32 : K.lookup f32 = some ⟨oc32, od32, .func (PySem.W.fnOf "_law_numbers" "_law_numbers" (defArgs sNu) (defBody sNu) (defScope sNu) .none kV32 dc32 pm32 an32 cd32 ct32), sl32⟩) (c32 : PySem.W.codeIn K cd32 "_law_numbers" = true) (k32 : PySem.W.keepIn K (.ref f32) = true)
    (a33 : PySem.W.nsIn K mainGlobals "_law_lent" = some (some (.ref f33))) (l33 : K.lookup f33 = some ⟨oc33, od33, .func (PySem.W.fnOf "_law_lent" "_law_lent" (defArgs sLt) (defBody sLt) (defScope sLt) .none kV33 dc33 pm33 an33 cd33 ct33), sl33⟩) (c33 : PySem.W.codeIn K cd33 "_law_lent" = true) (k33 : PySem.W.keepIn K (.ref f33) = true)
    (a34 : PySem.W.nsIn K mainGlobals "_law_big" = some (some (.ref f34))) (l34 : K.lookup f34 = some ⟨oc34, od34, .func (PySem.W.fnOf "_law_big" "_law_big" (defArgs sBg) (defBody sBg) (defScope sBg) .none kV34 dc34 pm34 an34 cd34 ct34), sl34⟩) (c34 : PySem.W.codeIn K cd34 "_law_big" = true) (k34 : PySem.W.keepIn K (.ref f34) = true)
    (a35 : PySem.W.nsIn K mainGlobals "_law_standings" = some (some (.ref f35))) (l35 : K.lookup f35 = some ⟨oc35, od35, .func (PySem.W.fnOf "_law_standings" "_law_standings" (defArgs sSt) (defBody sSt) (defScope sSt) .none kV35 dc35 pm35 an35 cd35 ct35), sl35⟩) (c35 : PySem.W.codeIn K cd35 "_law_standings" = true) (k35 : PySem.W.keepIn K (.ref f35) = true)
    (a36 : PySem.W.nsIn K mainGlobals "_law_weighed" = some (some (.ref f36))) (l36 : K.lookup f36 = some ⟨oc36, od36, .func (PySem.W.fnOf "_law_weighed" "_law_weighed" (defArgs sWe) (defBody sWe) (defScope sWe) .none kV36 dc36 pm36 an36 cd36 ct36), sl36⟩) (c36 : PySem.W.codeIn K cd36 "_law_weighed" = true) (k36 : PySem.W.keepIn K (.ref f36) = true)
    (a37 : PySem.W.nsIn K mainGlobals "_law_refused" = some (some (.ref f37))) (l37 : K.lookup f37 = some ⟨oc37, od37, .func (PySem.W.fnOf "_law_refused" "_law_refused" (defArgs sRf) (defBody sRf) (defScope sRf) .none kV37 dc37 pm37 an37 cd37 ct37), sl37⟩) (c37 : PySem.W.codeIn K cd37 "_law_refused" = true) (k37 : PySem.W.keepIn K (.ref f37) = true)
    (a38 : PySem.W.nsIn K mainGlobals "_law_same_again" = some (some (.ref f38))) (l38 : K.lookup f38 = some ⟨oc38, od38, .func (PySem.W.fnOf "_law_same_again" "_law_same_again" (defArgs sSa) (defBody sSa) (defScope sSa) .none kV38 dc38 pm38 an38 cd38 ct38), sl38⟩) (c38 : PySem.W.codeIn K cd38 "_law_same_again" = true) (k38 : PySem.W.keepIn K (.ref f38) = true)
    (a39 : PySem.W.nsIn K mainGlobals "law" = some (some (.ref f39))) (l39 : K.lookup f39 = some ⟨oc39, od39, .func (PySem.W.fnOf "law" "law" (defArgs sLw) (defBody sLw) (defScope sLw) .none kV39 dc39 pm39 an39 cd39 ct39), sl39⟩) (c39 : PySem.W.codeIn K cd39 "law" = true) (k39 : PySem.W.keepIn K (.ref f39) = true)
    (g8 : PySem.W.nsIn K mainGlobals "MOST_HOUSES" = some (some (.int 8 t8))) (g16 : PySem.W.nsIn K mainGlobals "MOST_TIES" = some (some (.int 16 t16)))
    (z0 : PySem.W.nsIn K mainGlobals "len" = some none)
    (z1 : PySem.W.nsIn K mainGlobals "range" = some none)
    (z2 : PySem.W.nsIn K mainGlobals "list" = some none)
    (z3 : PySem.W.nsIn K mainGlobals "tuple" = some none)
    (z4 : PySem.W.nsIn K mainGlobals "sorted" = some none)
    (z5 : PySem.W.nsIn K mainGlobals "min" = some none)
    (z6 : PySem.W.nsIn K mainGlobals "max" = some none)
    (z7 : PySem.W.nsIn K mainGlobals "sum" = some none)
    (z8 : PySem.W.nsIn K mainGlobals "isinstance" = some none)
    (z9 : PySem.W.nsIn K mainGlobals "int" = some none)
    (z10 : PySem.W.nsIn K mainGlobals "bool" = some none)
    (z11 : PySem.W.nsIn K mainGlobals "enumerate" = some none)
    (z12 : PySem.W.nsIn K mainGlobals "zip" = some none)
    (z13 : PySem.W.nsIn K mainGlobals "str" = some none)
    (z14 : PySem.W.nsIn K mainGlobals "ValueError" = some none)
    (nOwingError : PySem.W.nsIn K mainGlobals "OwingError" = some (some (.ref cOwingError)))
    (nBadStanding : PySem.W.nsIn K mainGlobals "BadStanding" = some (some (.ref cBadStanding)))
    (nBadHouse : PySem.W.nsIn K mainGlobals "BadHouse" = some (some (.ref cBadHouse)))
    (xBadStanding : xOk K cBadStanding cOwingError = true)
    (kH : PySem.W.kitOne K (.ref cBadStanding) (.ref cBadHouse) = some false)
    : ∃ fd : FuncData, (∀ (s : Shared) (v : Value), BindsTo s fd ⟨[v], []⟩ [("script", v)]) ∧ ∀ base : Heap, K.In base → base.Ns mainGlobals mg → FnOk l.prog w K mg base CX0 10 fa fd ["script"] (spLaw K) := by
  have e := hfa.symm.trans (PySem.W.mg_of X G a39)
  cases e
  have B : Blt mg := ⟨PySem.W.mg_none_of X G z0, PySem.W.mg_none_of X G z1, PySem.W.mg_none_of X G z2, PySem.W.mg_none_of X G z3, PySem.W.mg_none_of X G z4, PySem.W.mg_none_of X G z5, PySem.W.mg_none_of X G z6, PySem.W.mg_none_of X G z7, PySem.W.mg_none_of X G z8, PySem.W.mg_none_of X G z9, PySem.W.mg_none_of X G z10⟩
  have m8 := PySem.W.mg_of X G g8
  have m16 := PySem.W.mg_of X G g16
  have hen := PySem.W.mg_none_of X G z11
  have hzip := PySem.W.mg_none_of X G z12
  have hstr := PySem.W.mg_none_of X G z13
  have hve := PySem.W.mg_none_of X G z14
  have mOwingError := PySem.W.mg_of X G nOwingError
  have mBadStanding := PySem.W.mg_of X G nBadStanding
  have mBadHouse := PySem.W.mg_of X G nBadHouse
  have yBadStanding := xcls_mk mBadStanding xBadStanding
  have F0 := fun_mk (st := sPd) l0 c0 k0
  have b0 := F0.binds (ps := ["row", "numbers"]) fun _ _ _ _ _ _ us hl => match us, hl with | [_, _], _ => rfl
  have F1 := fun_mk (st := sPs) l1 c1 k1
  have b1 := F1.binds (ps := ["table", "numbers"]) fun _ _ _ _ _ _ us hl => match us, hl with | [_, _], _ => rfl
  have F2 := fun_mk (st := sFl) l2 c2 k2
  have b2 := F2.binds (ps := ["numbers", "divisor"]) fun _ _ _ _ _ _ us hl => match us, hl with | [_, _], _ => rfl
  have F3 := fun_mk (st := sLo) l3 c3 k3
  have b3 := F3.binds (ps := ["numbers", "divisor"]) fun _ _ _ _ _ _ us hl => match us, hl with | [_, _], _ => rfl
  have F4 := fun_mk (st := sNs) l4 c4 k4
  have b4 := F4.binds (ps := ["web", "standing"]) fun _ _ _ _ _ _ us hl => match us, hl with | [_, _], _ => rfl
  have F5 := fun_mk (st := sCn) l5 c5 k5
  have b5 := F5.binds (ps := ["standing"]) fun _ _ _ _ _ _ us hl => match us, hl with | [_], _ => rfl
  have F6 := fun_mk (st := sLs) l6 c6 k6
  have b6 := F6.binds (ps := ["one", "other"]) fun _ _ _ _ _ _ us hl => match us, hl with | [_, _], _ => rfl
  have F7 := fun_mk (st := sMa) l7 c7 k7
  have b7 := F7.binds (ps := ["houses", "ties"]) fun _ _ _ _ _ _ us hl => match us, hl with | [_, _], _ => rfl
  have F8 := fun_mk (st := sNb) l8 c8 k8
  have b8 := F8.binds (ps := ["houses", "ties"]) fun _ _ _ _ _ _ us hl => match us, hl with | [_, _], _ => rfl
  have F9 := fun_mk (st := sNt) l9 c9 k9
  have b9 := F9.binds (ps := ["houses", "tie"]) fun _ _ _ _ _ _ us hl => match us, hl with | [_, _], _ => rfl
  have F10 := fun_mk (st := sIs) l10 c10 k10
  have b10 := F10.binds (ps := ["houses", "number"]) fun _ _ _ _ _ _ us hl => match us, hl with | [_, _], _ => rfl
  have F11 := fun_mk (st := sRe) l11 c11 k11
  have b11 := F11.binds (ps := ["ties"]) fun _ _ _ _ _ _ us hl => match us, hl with | [_], _ => rfl
  have F12 := fun_mk (st := sNh) l12 c12 k12
  have b12 := F12.binds (ps := ["web", "house"]) fun _ _ _ _ _ _ us hl => match us, hl with | [_, _], _ => rfl
  have F13 := fun_mk (st := sBe) l13 c13 k13
  have b13 := F13.binds (ps := ["web", "one", "other"]) fun _ _ _ _ _ _ us hl => match us, hl with | [_, _, _], _ => rfl
  have F14 := fun_mk (st := sDe) l14 c14 k14
  have b14 := F14.binds (ps := ["web", "house"]) fun _ _ _ _ _ _ us hl => match us, hl with | [_, _], _ => rfl
  have F15 := fun_mk (st := sSm) l15 c15 k15
  have b15 := F15.binds (ps := ["web"]) fun _ _ _ _ _ _ us hl => match us, hl with | [_], _ => rfl
  have F16 := fun_mk (st := sTa) l16 c16 k16
  have b16 := F16.binds (ps := ["web", "houses"]) fun _ _ _ _ _ _ us hl => match us, hl with | [_, _], _ => rfl
  have F17 := fun_mk (st := sRa) l17 c17 k17
  have b17 := F17.binds (ps := ["web", "house", "houses"]) fun _ _ _ _ _ _ us hl => match us, hl with | [_, _, _], _ => rfl
  have F18 := fun_mk (st := sDt) l18 c18 k18
  have b18 := F18.binds (ps := ["table"]) fun _ _ _ _ _ _ us hl => match us, hl with | [_], _ => rfl
  have F19 := fun_mk (st := sFf) l19 c19 k19
  have b19 := F19.binds (ps := ["rows"]) fun _ _ _ _ _ _ us hl => match us, hl with | [_], _ => rfl
  have F20 := fun_mk (st := sRd) l20 c20 k20
  have b20 := F20.binds (ps := ["top", "row", "last"]) fun _ _ _ _ _ _ us hl => match us, hl with | [_, _, _], _ => rfl
  have F21 := fun_mk (st := sLk) l21 c21 k21
  have b21 := F21.binds (ps := ["things", "place"]) fun _ _ _ _ _ _ us hl => match us, hl with | [_, _], _ => rfl
  have F22 := fun_mk (st := sAj) l22 c22 k22
  have b22 := F22.binds (ps := ["table"]) fun _ _ _ _ _ _ us hl => match us, hl with | [_], _ => rfl
  have F23 := fun_mk (st := sAr) l23 c23 k23
  have b23 := F23.binds (ps := ["table", "row"]) fun _ _ _ _ _ _ us hl => match us, hl with | [_, _], _ => rfl
  have F24 := fun_mk (st := sCf) l24 c24 k24
  have b24 := F24.binds (ps := ["table", "row", "column"]) fun _ _ _ _ _ _ us hl => match us, hl with | [_, _, _], _ => rfl
  have F25 := fun_mk (st := sKi) l25 c25 k25
  have b25 := F25.binds (ps := ["web"]) fun _ _ _ _ _ _ us hl => match us, hl with | [_], _ => rfl
  have F26 := fun_mk (st := sAl) l26 c26 k26
  have b26 := F26.binds (ps := ["web", "one", "other"]) fun _ _ _ _ _ _ us hl => match us, hl with | [_, _, _], _ => rfl
  have F27 := fun_mk (st := sCe) l27 c27 k27
  have b27 := F27.binds (ps := ["script", "k"]) fun _ _ _ _ _ _ us hl => match us, hl with | [_, _], _ => rfl
  have F28 := fun_mk (st := sMi) l28 c28 k28
  have b28 := F28.binds (ps := ["cell", "k"]) fun _ _ _ _ _ _ us hl => match us, hl with | [_, _], _ => rfl
  have F29 := fun_mk (st := sTi) l29 c29 k29
  have b29 := F29.binds (ps := ["houses", "more", "cell"]) fun _ _ _ _ _ _ us hl => match us, hl with | [_, _, _], _ => rfl
  have F30 := fun_mk (st := sSz) l30 c30 k30
  have b30 := F30.binds (ps := ["cell"]) fun _ _ _ _ _ _ us hl => match us, hl with | [_], _ => rfl
  have F31 := fun_mk (st := sWh) l31 c31 k31
  have b31 := F31.binds (ps := ["found"]) fun _ _ _ _ _ _ us hl => match us, hl with | [_], _ => rfl
  have F32 := fun_mk (st := sNu) l32 c32 k32
  have b32 := F32.binds (ps := ["found", "due"]) fun _ _ _ _ _ _ us hl => match us, hl with | [_, _], _ => rfl
  have F33 := fun_mk (st := sLt) l33 c33 k33
  have b33 := F33.binds (ps := ["ties", "standing", "script"]) fun _ _ _ _ _ _ us hl => match us, hl with | [_, _, _], _ => rfl
  have F34 := fun_mk (st := sBg) l34 c34 k34
  have b34 := F34.binds (ps := ["cell"]) fun _ _ _ _ _ _ us hl => match us, hl with | [_], _ => rfl
  have F35 := fun_mk (st := sSt) l35 c35 k35
  have b35 := F35.binds (ps := ["script", "houses"]) fun _ _ _ _ _ _ us hl => match us, hl with | [_, _], _ => rfl
  have F36 := fun_mk (st := sWe) l36 c36 k36
  have b36 := F36.binds (ps := ["web", "ties", "found", "parts"]) fun _ _ _ _ _ _ us hl => match us, hl with | [_, _, _, _], _ => rfl
  have F37 := fun_mk (st := sRf) l37 c37 k37
  have b37 := F37.binds (ps := ["web", "one", "other"]) fun _ _ _ _ _ _ us hl => match us, hl with | [_, _, _], _ => rfl
  have F38 := fun_mk (st := sSa) l38 c38 k38
  have b38 := F38.binds (ps := ["web", "one", "other", "found"]) fun _ _ _ _ _ _ us hl => match us, hl with | [_, _, _, _], _ => rfl
  have F39 := fun_mk (st := sLw) l39 c39 k39
  refine ⟨PySem.W.fnOf "law" "law" (defArgs sLw) (defBody sLw) (defScope sLw) .none kV39 dc39 pm39 an39 cd39 ct39, fun s v => .of_eq rfl, fun base hKb _ => ?_⟩
  have q_is_house : Cal l.prog w K mg base 1 "is_house" ["houses", "number"] spIs := ⟨⟨_, _, ok_is F10, b10, k10, PySem.W.mg_of X G a10⟩⟩
  have q_need_bounds : Cal l.prog w K mg base 1 "need_bounds" ["houses", "ties"] (spNb K) := ⟨⟨_, _, ok_nb F8 B m8 m16, b8, k8, PySem.W.mg_of X G a8⟩⟩
  have q_need_tie : Cal l.prog w K mg base 2 "need_tie" ["houses", "tie"] spNt := ⟨⟨_, _, ok_nt F9 q_is_house, b9, k9, PySem.W.mg_of X G a9⟩⟩
  have q_reached : Cal l.prog w K mg base 1 "reached" ["ties"] (spRe K) := ⟨⟨_, _, ok_re F11, b11, k11, PySem.W.mg_of X G a11⟩⟩
  have q_made : Cal l.prog w K mg base 3 "made" ["houses", "ties"] (spMa K) := ⟨⟨_, _, ok_ma F7 B (q_need_bounds.mono (by decide)) q_need_tie (q_reached.mono (by decide)), b7, k7, PySem.W.mg_of X G a7⟩⟩
  have q_need_house : Cal l.prog w K mg base 2 "need_house" ["web", "house"] spNh := ⟨⟨_, _, ok_nh F12 q_is_house, b12, k12, PySem.W.mg_of X G a12⟩⟩
  have q_between : Cal l.prog w K mg base 3 "between" ["web", "one", "other"] spBe := ⟨⟨_, _, ok_be F13 B q_need_house, b13, k13, PySem.W.mg_of X G a13⟩⟩
  have q_degree : Cal l.prog w K mg base 3 "degree" ["web", "house"] spDe := ⟨⟨_, _, ok_de F14 B q_need_house, b14, k14, PySem.W.mg_of X G a14⟩⟩
  have q_row_among : Cal l.prog w K mg base 4 "row_among" ["web", "house", "houses"] spRa := ⟨⟨_, _, ok_ra F17 B q_between q_degree, b17, k17, PySem.W.mg_of X G a17⟩⟩
  have q_table_among : Cal l.prog w K mg base 5 "table_among" ["web", "houses"] spTa := ⟨⟨_, _, ok_ta F16 B q_row_among, b16, k16, PySem.W.mg_of X G a16⟩⟩
  have q_small_table : Cal l.prog w K mg base 6 "small_table" ["web"] spSm := ⟨⟨_, _, ok_sm F15 B q_table_among, b15, k15, PySem.W.mg_of X G a15⟩⟩
  have q__law_cell_at : Cal l.prog w K mg base 1 "_law_cell_at" ["script", "k"] (spCe K) := ⟨⟨_, _, ok_ce F27 B, b27, k27, PySem.W.mg_of X G a27⟩⟩
  have q__law_mixed : Cal l.prog w K mg base 1 "_law_mixed" ["cell", "k"] spMi := ⟨⟨_, _, ok_mi F28, b28, k28, PySem.W.mg_of X G a28⟩⟩
  have q__law_ties : Cal l.prog w K mg base 2 "_law_ties" ["houses", "more", "cell"] spTi := ⟨⟨_, _, ok_ti F29 B q__law_mixed, b29, k29, PySem.W.mg_of X G a29⟩⟩
  have q__law_sizes : Cal l.prog w K mg base 1 "_law_sizes" ["cell"] spSz := ⟨⟨_, _, ok_sz F30, b30, k30, PySem.W.mg_of X G a30⟩⟩
  have q__law_whole : Cal l.prog w K mg base 1 "_law_whole" ["found"] spWh := ⟨⟨_, _, ok_wh F31 B, b31, k31, PySem.W.mg_of X G a31⟩⟩
  have q__law_numbers : Cal l.prog w K mg base 2 "_law_numbers" ["found", "due"] spNu := ⟨⟨_, _, ok_nu F32 B q__law_whole, b32, k32, PySem.W.mg_of X G a32⟩⟩
  have q_first_filled : Cal l.prog w K mg base 1 "first_filled" ["rows"] spFf := ⟨⟨_, _, ok_ff F19 B hen, b19, k19, PySem.W.mg_of X G a19⟩⟩
  have q_reduced : Cal l.prog w K mg base 1 "reduced" ["top", "row", "last"] spRd := ⟨⟨_, _, ok_rd F20 B hzip, b20, k20, PySem.W.mg_of X G a20⟩⟩
  have q_lacking : Cal l.prog w K mg base 1 "lacking" ["things", "place"] spLk := ⟨⟨_, _, ok_lk F21, b21, k21, PySem.W.mg_of X G a21⟩⟩
  have q_det : Cal l.prog w K mg base 2 "det" ["table"] spDt := ⟨⟨_, _, ok_dt F18 B q_first_filled q_reduced q_lacking, b18, k18, PySem.W.mg_of X G a18⟩⟩
  have q_cofactor : Cal l.prog w K mg base 3 "cofactor" ["table", "row", "column"] spCf := ⟨⟨_, _, ok_cf F24 B (q_lacking.mono (by decide)) q_det, b24, k24, PySem.W.mg_of X G a24⟩⟩
  have q_adjoint_row : Cal l.prog w K mg base 4 "adjoint_row" ["table", "row"] spAr := ⟨⟨_, _, ok_ar F23 B q_cofactor, b23, k23, PySem.W.mg_of X G a23⟩⟩
  have q_adjoint : Cal l.prog w K mg base 5 "adjoint" ["table"] spAj := ⟨⟨_, _, ok_aj F22 B q_adjoint_row, b22, k22, PySem.W.mg_of X G a22⟩⟩
  have q_product : Cal l.prog w K mg base 1 "product" ["row", "numbers"] spPd := ⟨⟨_, _, ok_pd F0 B hzip, b0, k0, PySem.W.mg_of X G a0⟩⟩
  have q_products : Cal l.prog w K mg base 2 "products" ["table", "numbers"] spPs := ⟨⟨_, _, ok_ps F1 B q_product, b1, k1, PySem.W.mg_of X G a1⟩⟩
  have q_floored : Cal l.prog w K mg base 1 "floored" ["numbers", "divisor"] spFl := ⟨⟨_, _, ok_fl F2 B, b2, k2, PySem.W.mg_of X G a2⟩⟩
  have q_left_over : Cal l.prog w K mg base 1 "left_over" ["numbers", "divisor"] spLo := ⟨⟨_, _, ok_lo F3 B, b3, k3, PySem.W.mg_of X G a3⟩⟩
  have q_coins : Cal l.prog w K mg base 1 "coins" ["standing"] spCn := ⟨⟨_, _, ok_cn F5 B, b5, k5, PySem.W.mg_of X G a5⟩⟩
  have q_less : Cal l.prog w K mg base 1 "less" ["one", "other"] spLs := ⟨⟨_, _, ok_ls F6 B hzip, b6, k6, PySem.W.mg_of X G a6⟩⟩
  have q_kinds : Cal l.prog w K mg base 7 "kinds" ["web"] spKi := ⟨⟨_, _, ok_ki F25 q_small_table (q_det.mono (by decide)), b25, k25, PySem.W.mg_of X G a25⟩⟩
  have q_need_standing : CalX l.prog w K mg base 1 "need_standing" ["web", "standing"] (spNx K cBadStanding) := ⟨⟨_, _, ok_ns F4 B hKb yBadStanding, b4, k4, PySem.W.mg_of X G a4⟩⟩
  have q_alike : CalX l.prog w K mg base 8 "alike" ["web", "one", "other"] (spAx K cBadStanding) := ⟨⟨_, _, ok_al F26 B hzip (q_need_standing.mono (by decide)) (q_coins.mono (by decide)) (q_kinds.mono (by decide)) (q_adjoint.mono (by decide)) (q_small_table.mono (by decide)) (q_products.mono (by decide)) (q_less.mono (by decide)) (q_left_over.mono (by decide)) (q_floored.mono (by decide)), b26, k26, PySem.W.mg_of X G a26⟩⟩
  have q__law_lent : Cal l.prog w K mg base 1 "_law_lent" ["ties", "standing", "script"] spLt := ⟨⟨_, _, ok_lt F33 B, b33, k33, PySem.W.mg_of X G a33⟩⟩
  have q__law_big : Cal l.prog w K mg base 1 "_law_big" ["cell"] spBg := ⟨⟨_, _, ok_bg F34, b34, k34, PySem.W.mg_of X G a34⟩⟩
  have q__law_standings : Cal l.prog w K mg base 2 "_law_standings" ["script", "houses"] (spSt K) := ⟨⟨_, _, ok_st F35 B q__law_big q__law_cell_at, b35, k35, PySem.W.mg_of X G a35⟩⟩
  have q__law_refused : Cal l.prog w K mg base 9 "_law_refused" ["web", "one", "other"] (spRf K) := ⟨⟨_, _, ok_rf F37 B hve mOwingError mBadStanding mBadHouse yBadStanding kH q_alike, b37, k37, PySem.W.mg_of X G a37⟩⟩
  have q__law_same_again : Cal l.prog w K mg base 9 "_law_same_again" ["web", "one", "other", "found"] (spSa K) := ⟨⟨_, _, ok_sa F38 B q_alike, b38, k38, PySem.W.mg_of X G a38⟩⟩
  have q__law_weighed : Cal l.prog w K mg base 9 "_law_weighed" ["web", "ties", "found", "parts"] (spWe K) := ⟨⟨_, _, ok_we F36 B (q_adjoint.mono (by decide)) (q_small_table.mono (by decide)) (q__law_whole.mono (by decide)) (q_kinds.mono (by decide)) (q__law_numbers.mono (by decide)) (q__law_lent.mono (by decide)), b36, k36, PySem.W.mg_of X G a36⟩⟩
  exact (ok_lw F39 B hstr (q__law_cell_at.mono (by decide)) (q__law_sizes.mono (by decide)) (q__law_ties.mono (by decide)) (q_made.mono (by decide)) (q__law_standings.mono (by decide)) (q__law_refused.mono (by decide)) (q_alike.mono (by decide)) (q__law_whole.mono (by decide)) (q__law_lent.mono (by decide)) (q__law_weighed.mono (by decide)) (q__law_same_again.mono (by decide))).mono (by decide)
end Oh

def PySem.W.Fast.tw5073680627475309914 : Unit := ()
def PySem.W.Fast.tw8050426439322295030 : Unit := ()
def PySem.W.Fast.tw18324307690197534808 : Unit := ()
def PySem.W.Fast.tw16905749638127395016 : Unit := ()
def PySem.W.Fast.tw2097207321520619357 : Unit := ()
def PySem.W.Fast.tw3516228173927400056 : Unit := ()
def PySem.W.Fast.tw10685737699799475424 : Unit := ()
def PySem.W.Fast.tw11281188425313673254 : Unit := ()
def PySem.W.Fast.tw7336136888348214798 : Unit := ()
def PySem.W.Fast.tw5588171480767758768 : Unit := ()
def PySem.W.Fast.tw7079117690448262315 : Unit := ()
def PySem.W.Fast.tw9371085709659905223 : Unit := ()
def PySem.W.Fast.tw13126861515485734514 : Unit := ()
open PySem PySem.W PyProof.Rows
set_option maxRecDepth 100000 in
set_option maxHeartbeats 0 in
theorem PySem.Challenge.cw_owinghall_k12_told_papers_holds : PySem.Challenge.rw_owinghall_k12_told_papers.Holds := by
  w_on; o_law; k_head; (case hw => w_witness2)
  k_fill
  refine Oh.walkB (l := PySem.Challenge.rw_owinghall_k12_told_papers) (k := 10) (CX := fun _ => L2.CX0) rfl rfl ⟨rfl, by decide, by decide⟩ (fun w h Y => PySem.W.kIn_of Y) ?F (fun _ _ _ _ _ z => z)
  case F =>
    intro w mg fa h KX G hmg
    refine' Oh.all_mk KX G hmg ?a0 ?l0 ?c0 ?k0 ?a1 ?l1 ?c1 ?k1 ?a2 ?l2 ?c2 ?k2 ?a3 ?l3 ?c3 ?k3 ?a4 ?l4 ?c4 ?k4 ?a5 ?l5 ?c5 ?k5 ?a6 ?l6 ?c6 ?k6 ?a7 ?l7 ?c7 ?k7 ?a8 ?l8 ?c8 ?k8 ?a9 ?l9 ?c9 ?k9 ?a10 ?l10 ?c10 ?k10 ?a11 ?l11 ?c11 ?k11 ?a12 ?l12 ?c12 ?k12 ?a13 ?l13 ?c13 ?k13 ?a14 ?l14 ?c14 ?k14 ?a15 ?l15 ?c15 ?k15 ?a16 ?l16 ?c16 ?k16 ?a17 ?l17 ?c17 ?k17 ?a18 ?l18 ?c18 ?k18 ?a19 ?l19 ?c19 ?k19 ?a20 ?l20 ?c20 ?k20 ?a21 ?l21 ?c21 ?k21 ?a22 ?l22 ?c22 ?k22 ?a23 ?l23 ?c23 ?k23 ?a24 ?l24 ?c24 ?k24 ?a25 ?l25 ?c25 ?k25 ?a26 ?l26 ?c26 ?k26 ?a27 ?l27 ?c27 ?k27 ?a28 ?l28 ?c28 ?k28 ?a29 ?l29 ?c29 ?k29 ?a30 ?l30 ?c30 ?k30 ?a31 ?l31 ?c31 ?k31 ?a32 ?l32 ?c32 ?k32 ?a33 ?l33 ?c33 ?k33 ?a34 ?l34 ?c34 ?k34 ?a35 ?l35 ?c35 ?k35 ?a36 ?l36 ?c36 ?k36 ?a37 ?l37 ?c37 ?k37 ?a38 ?l38 ?c38 ?k38 ?a39 ?l39 ?c39 ?k39 ?g8 ?g16 ?z0 ?z1 ?z2 ?z3 ?z4 ?z5 ?z6 ?z7 ?z8 ?z9 ?z10 ?z11 ?z12 ?z13 ?z14 ?nOwingError ?nBadStanding ?nBadHouse ?xBadStanding ?kH
    (case a0 => k_is)
    (case l0 => k_is)
    (case c0 => k_is)
    (case k0 => k_is)
    (case a1 => k_is)
    (case l1 => k_is)
    (case c1 => k_is)
    (case k1 => k_is)
    (case a2 => k_is)
    (case l2 => k_is)
    (case c2 => k_is)
    (case k2 => k_is)
    (case a3 => k_is)
    (case l3 => k_is)
    (case c3 => k_is)
    (case k3 => k_is)
    (case a4 => k_is)
    (case l4 => k_is)
    (case c4 => k_is)
    (case k4 => k_is)
    (case a5 => k_is)
    (case l5 => k_is)
    (case c5 => k_is)
    (case k5 => k_is)
    (case a6 => k_is)
    (case l6 => k_is)
    (case c6 => k_is)
    (case k6 => k_is)
    (case a7 => k_is)
    (case l7 => k_is)
    (case c7 => k_is)
    (case k7 => k_is)
    (case a8 => k_is)
    (case l8 => k_is)
    (case c8 => k_is)
    (case k8 => k_is)
    (case a9 => k_is)
    (case l9 => k_is)
    (case c9 => k_is)
    (case k9 => k_is)
    (case a10 => k_is)
    (case l10 => k_is)
    (case c10 => k_is)
    (case k10 => k_is)
    (case a11 => k_is)
    (case l11 => k_is)
    (case c11 => k_is)
    (case k11 => k_is)
    (case a12 => k_is)
    (case l12 => k_is)
    (case c12 => k_is)
    (case k12 => k_is)
    (case a13 => k_is)
    (case l13 => k_is)
    (case c13 => k_is)
    (case k13 => k_is)
    (case a14 => k_is)
    (case l14 => k_is)
    (case c14 => k_is)
    (case k14 => k_is)
    (case a15 => k_is)
    (case l15 => k_is)
    (case c15 => k_is)
    (case k15 => k_is)
    (case a16 => k_is)
    (case l16 => k_is)
    (case c16 => k_is)
    (case k16 => k_is)
    (case a17 => k_is)
    (case l17 => k_is)
    (case c17 => k_is)
    (case k17 => k_is)
    (case a18 => k_is)
    (case l18 => k_is)
    (case c18 => k_is)
    (case k18 => k_is)
    (case a19 => k_is)
    (case l19 => k_is)
    (case c19 => k_is)
    (case k19 => k_is)
    (case a20 => k_is)
    (case l20 => k_is)
    (case c20 => k_is)
    (case k20 => k_is)
    (case a21 => k_is)
    (case l21 => k_is)
    (case c21 => k_is)
    (case k21 => k_is)
    (case a22 => k_is)
    (case l22 => k_is)
    (case c22 => k_is)
    (case k22 => k_is)
    (case a23 => k_is)
    (case l23 => k_is)
    (case c23 => k_is)
    (case k23 => k_is)
    (case a24 => k_is)
    (case l24 => k_is)
    (case c24 => k_is)
    (case k24 => k_is)
    (case a25 => k_is)
    (case l25 => k_is)
    (case c25 => k_is)
    (case k25 => k_is)
    (case a26 => k_is)
    (case l26 => k_is)
    (case c26 => k_is)
    (case k26 => k_is)
    (case a27 => k_is)
    (case l27 => k_is)
    (case c27 => k_is)
    (case k27 => k_is)
    (case a28 => k_is)
    (case l28 => k_is)
    (case c28 => k_is)
    (case k28 => k_is)
    (case a29 => k_is)
    (case l29 => k_is)
    (case c29 => k_is)
    (case k29 => k_is)
    (case a30 => k_is)
    (case l30 => k_is)
    (case c30 => k_is)
    (case k30 => k_is)
    (case a31 => k_is)
    (case l31 => k_is)
    (case c31 => k_is)
    (case k31 => k_is)
    (case a32 => k_is)
    (case l32 => k_is)
    (case c32 => k_is)
    (case k32 => k_is)
    (case a33 => k_is)
    (case l33 => k_is)
    (case c33 => k_is)
    (case k33 => k_is)
    (case a34 => k_is)
    (case l34 => k_is)
    (case c34 => k_is)
    (case k34 => k_is)
    (case a35 => k_is)
    (case l35 => k_is)
    (case c35 => k_is)
    (case k35 => k_is)
    (case a36 => k_is)
    (case l36 => k_is)
    (case c36 => k_is)
    (case k36 => k_is)
    (case a37 => k_is)
    (case l37 => k_is)
    (case c37 => k_is)
    (case k37 => k_is)
    (case a38 => k_is)
    (case l38 => k_is)
    (case c38 => k_is)
    (case k38 => k_is)
    (case a39 => k_is)
    (case l39 => k_is)
    (case c39 => k_is)
    (case k39 => k_is)
    (case g8 => k_is)
    (case g16 => k_is)
    (case z0 => k_is)
    (case z1 => k_is)
    (case z2 => k_is)
    (case z3 => k_is)
    (case z4 => k_is)
    (case z5 => k_is)
    (case z6 => k_is)
    (case z7 => k_is)
    (case z8 => k_is)
    (case z9 => k_is)
    (case z10 => k_is)
    (case z11 => k_is)
    (case z12 => k_is)
    (case z13 => k_is)
    (case z14 => k_is)
    (case nOwingError => k_is)
    (case nBadStanding => k_is)
    (case nBadHouse => k_is)
    (case xBadStanding => kernel_rfl)
    (case kH => kernel_rfl)

