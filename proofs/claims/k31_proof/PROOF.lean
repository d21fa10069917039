import PyProof.Rows.All
import Wide.All
import OpenK.AllK
import Wide.FinOn
import PyProof.EqAt
import PyProof.EqKinds
import PyProof.TupleCall
import KE.BitLaws
import KE.KSortTupG
import KE.KEqDict
import KE.KTryMore
import KE.KIsAll
import PyProof.ExcInit
import KE.KSuper
import PyProof.InstStoreFacts
import OpenK.KCell
import PyProof.Rows.FStr
import KE.KStar
import KE.KTupSum
import KE.KUnpackStar
import PyProof.SetKind
import PyProof.SetScanFacts
import PyProof.Rows.SetFrom
import PyProof.CollectWalk
import PyProof.IsiPairs
import PyProof.IsiHeapPairs
import PyProof.IsiNone
import PyProof.FactsAll.tuple_2
import PyProof.ListMulRoad
import PyProof.SliceStr2
import KE.KDictLaws
import KE.KLam
import KE.KSortKeySt
import PyProof.Rows.CallKwBuiltin
import PyProof.AutoListH
import KE.KNestM
import PyProof.Rows.BitMore
import KE.KDictList
import PySem.Challenge.RW_holdshelf_k31_least_rooms_of_trees
set_option Elab.async false
set_option linter.all false
set_option maxRecDepth 100000
/-! THE HAND LAYER, for ints, bools, texts, own classes, lists, tuples, dicts, comprehensions, walks over dicts, enumerate, zip, reversed, texts, calls, loops. Paste it whole ahead of your own text; what your proof does not reach may be deleted. -/
namespace L2
open PySem PySem.Spec PyProof.Rows

/-- a key: an int or a str -/
abbrev Key := Sum Int Str
def keyIs : Key → Value → Bool
  | .inl k, v => Value.isInt k v
  | .inr x, v => Value.isStrOf x v
def keyH (w : World) : Key → Int
  | .inl k => hashInt k
  | .inr x => hashStr w x
theorem keyIs_shape : ∀ {k : Key} {v : Value}, keyIs k v = true → (∃ i t, k = Sum.inl i ∧ v = Value.int i t) ∨ (∃ x t, k = Sum.inr x ∧ v = Value.str x t)
  | .inl i, v, h => by
    obtain ⟨t, e⟩ := Value.isInt_shape (k := i) (v := v) h
    exact .inl ⟨i, t, rfl, e⟩
  | .inr x, v, h => by
    obtain ⟨t, e⟩ := Value.isStrOf_shape (x := x) (v := v) h
    exact .inr ⟨x, t, rfl, e⟩
theorem keyIs_int (i : Int) (t : Tok) : keyIs (.inl i) (.int i t) = true := by simp [keyIs, Value.isInt]
theorem keyIs_str (x : Str) (t : Tok) : keyIs (.inr x) (.str x t) = true := by simp [keyIs, Value.isStrOf]
theorem key_ll (a b : Int) : decide ((Sum.inl a : Key) = Sum.inl b) = (a == b) := by
  by_cases e : a = b
  · subst e; simp
  · have h : ¬ (Sum.inl a : Key) = Sum.inl b := fun q => e (Sum.inl.inj q)
    rw [decide_eq_false h]
    exact (beq_eq_false_iff_ne.mpr e).symm
theorem key_rr (a b : Str) : decide ((Sum.inr a : Key) = Sum.inr b) = decide (a = b) := by
  by_cases e : a = b
  · subst e; simp
  · have h : ¬ (Sum.inr a : Key) = Sum.inr b := fun q => e (Sum.inr.inj q)
    rw [decide_eq_false h, decide_eq_false e]
theorem key_lr (a : Int) (b : Str) : decide ((Sum.inl a : Key) = Sum.inr b) = false := decide_eq_false (fun q => nomatch q)
theorem key_rl (a : Str) (b : Int) : decide ((Sum.inr a : Key) = Sum.inl b) = false := decide_eq_false (fun q => nomatch q)

def mixKind (prog : Program) (w : World) : PySem.KeyKind prog w Key where
  is := keyIs
  hash := keyH w
  inj := fun v a b ha hb => by
    rcases keyIs_shape ha with ⟨i, t, rfl, rfl⟩ | ⟨x, t, rfl, rfl⟩
    · rcases keyIs_shape hb with ⟨j, u, rfl, e⟩ | ⟨y, u, rfl, e⟩
      · injection e with e1 _; rw [e1]
      · exact nomatch e
    · rcases keyIs_shape hb with ⟨j, u, rfl, e⟩ | ⟨y, u, rfl, e⟩
      · exact nomatch e
      · injection e with e1 _; rw [e1]
  byValue := fun k v h => by
    rcases keyIs_shape h with ⟨i, t, rfl, rfl⟩ | ⟨x, t, rfl, rfl⟩ <;> rfl
  pyHash := fun hv h => by
    rcases keyIs_shape hv with ⟨i, t, rfl, rfl⟩ | ⟨x, t, rfl, rfl⟩
    · exact wpAny_pyHash_int h
    · exact wpAny_pyHash_str h
  eqBool := fun hu hv h => by
    rcases keyIs_shape hu with ⟨i, t, rfl, rfl⟩ | ⟨x, t, rfl, rfl⟩
    · rcases keyIs_shape hv with ⟨j, u, rfl, rfl⟩ | ⟨y, u, rfl, rfl⟩
      · rw [key_ll] at h; exact wpAny_eqBool_int h
      · rw [key_lr] at h; exact SeqAt.EqAt.int_str i t y u _ _ _ _ h
    · rcases keyIs_shape hv with ⟨j, u, rfl, rfl⟩ | ⟨y, u, rfl, rfl⟩
      · rw [key_rl] at h; exact SeqAt.EqAt.str_int x t j u _ _ _ _ h
      · rw [key_rr] at h; exact wpAny_eqBool_str h
  «strs» := fun k x t v h => by
    rcases keyIs_shape h with ⟨i, u, rfl, e⟩ | ⟨y, u, rfl, e⟩
    · exact nomatch e
    · injection e with e1 _
      subst e1
      cases v <;> rfl

theorem mixKind_int (prog : Program) (w : World) (i : Int) (t : Tok) : (mixKind prog w).is (.inl i) (.int i t) = true := keyIs_int i t
theorem mixKind_str (prog : Program) (w : World) (x : Str) (t : Tok) : (mixKind prog w).is (.inr x) (.str x t) = true := keyIs_str x t
end L2

namespace L2
open PySem PySem.Spec PyProof.Rows

/-- a value, without the heap -/
inductive V where
  | non | bl (b : Bool) | int (i : Int) | str (x : Str) | byt (b : Array UInt8) | flt (b : UInt64) | ref (a : Addr) | ty (n : String)
  deriving DecidableEq

def RelV : V → Value → Prop
  | .non, u => u = Value.none
  | .bl b, u => u = Value.bool b
  | .int i, u => ∃ t, u = Value.int i t
  | .str x, u => ∃ t, u = Value.str x t
  | .byt b, u => ∃ t, u = Value.bytes b t
  | .flt b, u => ∃ t, u = Value.float b t
  | .ref a, u => u = Value.ref a
  | .ty n, u => u = Value.type n

abbrev Vals : List V → List Value → Prop := Paired RelV
theorem Vals.length {xs : List V} {us : List Value} (r : Vals xs us) : xs.length = us.length := Paired.length r
theorem Vals.get : ∀ {xs : List V} {us : List Value} {i : Nat} {x : V}, Vals xs us → xs[i]? = some x → ∃ u, us[i]? = some u ∧ RelV x u
  | _, _, _, _, .nil, e => by simp at e
  | _, _, 0, _, .cons r _, e => by simp at e; subst e; exact ⟨_, rfl, r⟩
  | _, _, i + 1, x, .cons _ t, e => by
    obtain ⟨u, h1, h2⟩ := Vals.get (i := i) (x := x) t (by simpa using e)
    exact ⟨u, by simpa using h1, h2⟩
theorem Vals.set {x : V} {u : Value} (r : RelV x u) : ∀ {xs : List V} {us : List Value} (i : Nat), Vals xs us → Vals (xs.set i x) (us.set i u)
  | _, _, _, .nil => .nil
  | _, _, 0, .cons _ t => .cons r t
  | _, _, i + 1, .cons q t => .cons q (Vals.set r i t)
theorem Vals.append : ∀ {xs ys : List V} {us ws : List Value}, Vals xs us → Vals ys ws → Vals (xs ++ ys) (us ++ ws)
  | _, _, _, _, .nil, s => s
  | _, _, _, _, .cons r t, s => .cons r (Vals.append t s)
def RelO : Option V → Option Value → Prop
  | some v, some u => RelV v u
  | none, none => True
  | _, _ => False
def KV {κ : Type} : List (κ × V) → List (κ × Value) → Prop := Paired fun (p : κ × V) (q : κ × Value) => p.1 = q.1 ∧ RelV p.2 q.2

/-- a key of a dict (00_mix): an int or a text -/
def kV : Key → V
  | .inl i => .int i
  | .inr x => .str x

/-- what stands at a tracked address -/
inductive HO where
  /-- a list -/
  | lst (xs : List V)
  /-- a tuple (never changes) -/
  | tup (xs : List V)
  /-- a dict whose keys are ints and texts; one whose keys are tuples of ints and texts (the empty one is both) -/
  | dK (kvs : List (Key × V)) | dT (kvs : List (List Key × V))
  /-- a set of ints: its members, its size -/
  | set (S : Int → Bool) (n : Nat)
  /-- an instance of the class at C, its dict at dx, its attributes -/
  | ins (C dx : Addr) (fs : List (Str × V))
  /-- the dict of the instance at x -/
  | own (x : Addr)
  /-- the dict of an exception -/
  | xd (fs : List (Str × V))
  /-- a bound method, f of x -/
  | met (f x : Addr)
  /-- a range object lo, lo + 1, .. below hi -/
  | rng (lo hi : Int)
  /-- a thing that is known to the object (the script; a dict while a loop walks it): read, never written while it is so -/
  | frz (o : Obj) (u : HO)
  /-- a code object's table -/
  | tbl (ps : Array Value)
  /-- any other thing, by what is true of its one object (a def of one's own: SetO a S n := HO.ext fun h => ..) -/
  | ext (φ : Heap → Prop)

abbrev Hp := Addr → Option HO
def upd (H : Hp) (a : Addr) (o : HO) : Hp := fun b => if b = a then some o else H b
theorem upd_same {H : Hp} {a : Addr} {o : HO} : upd H a o a = some o := by unfold upd; rw [if_pos rfl]
theorem upd_ne {H : Hp} {a b : Addr} {o : HO} (h : b ≠ a) : upd H a o b = H b := by unfold upd; rw [if_neg h]
theorem upd_upd {H : Hp} {a : Addr} {o u : HO} : upd (upd H a o) a u = upd H a u := by
  funext b; unfold upd; split <;> rfl
/-- two objects of different content stand apart -/
theorem ne_of {H : Hp} {a b : Addr} {o u : HO} (h : H a = some o) (h' : H b = some u) (d : o ≠ u) : a ≠ b := by
  intro e; subst e; rw [h] at h'; exact d (Option.some.inj h')
theorem ne_of_none {H : Hp} {a b : Addr} {o : HO} (h : H a = some o) (h' : H b = none) : a ≠ b := by
  intro e; subst e; rw [h] at h'; cases h'

section
variable (P : Program) (w : World)
def ObjOk (H : Hp) (h : Heap) (a : Addr) : HO → Prop
  | .lst xs => xs.length ≤ sizeLine ∧ ∃ (its : List Value) (n : Nat), Vals xs its ∧ h.get? a = some { cls := .type "list", data := .seq its.toArray n }
  | .tup xs => xs.length ≤ sizeLine ∧ ∃ its : List Value, Vals xs its ∧ IsTup h a its.toArray
  | .dK kvs => kvs.length ≤ sizeLine ∧ (a == sysModules) = false ∧ ∃ vs, KV kvs vs ∧ h.DictOf (mixKind P w) a vs
  | .dT kvs => kvs.length ≤ sizeLine ∧ (a == sysModules) = false ∧ ∃ xs : List (List Key × Addr × Value),
      Paired (fun (p : List Key × V) (q : List Key × Addr × Value) => p.1 = q.1 ∧ H q.2.1 = some (.tup (p.1.map kV)) ∧ RelV p.2 q.2.2) kvs xs ∧
      ∃ o es ep, h.get? a = some o ∧ o.ExactDict ∧ o.data = .dict es ep ∧ es.toList = xs.map (entryOfKey (tupleKind (mixKind P w))) ∧ (xs.map (·.1)).Nodup
  | .set S n => h.SetOf (intKind P w) a S n
  | .ins C dx fs => H dx = some (.own a) ∧ fs.length ≤ 1000 ∧ dx ≠ a ∧ h.get? a = some (PySem.W.instObj C dx) ∧
      ∃ mA, h.Ns1 dx mA ∧ (∀ f, RelO (fs.lookup f) (mA f)) ∧ PySem.Within mA (fs.map (·.1))
  | .own _ => ∃ o, h.get? a = some o
  | .xd fs => ∃ mA, h.Ns1 a mA ∧ ∀ f, RelO (fs.lookup f) (mA f)
  | .rng lo hi => ∃ t u v, h.get? a = some { cls := .type "range", data := .fields #[.int lo t, .int hi u, .int 1 v] }
  | .frz o u => h.get? a = some o ∧ ObjOk H h a u
  | .tbl ps => h.get? a = some { cls := .none, data := .fields ps }
  | .met f x => h.get? a = some (PySem.W.methodObj (.ref f) (.ref x))
  | .ext φ => φ h ∧ (∃ o, h.get? a = some o) ∧ ∀ h1 h2 : Heap, φ h1 → (∀ o, h1.get? a = some o → h2.get? a = some o) → φ h2
/-- the abstract heap is held -/
def HOk (H : Hp) (h : Heap) : Prop := ∀ a o, H a = some o → ObjOk P w H h a o
end

section
variable {P : Program} {w : World} {H H' : Hp} {h h' : Heap} {a : Addr} {o : HO}
theorem ObjOk.lt (x : ObjOk P w H h a o) : a < h.objs.size := by
  cases o with
  | lst xs => obtain ⟨_, _, _, _, e⟩ := x; exact Heap.lt_size e
  | tup xs => obtain ⟨_, _, _, p⟩ := x; exact p.lt
  | dK kvs => obtain ⟨_, _, _, _, o, _, _, e, _⟩ := x; exact Heap.lt_size e
  | dT kvs => obtain ⟨_, _, _, _, o, _, _, e, _⟩ := x; exact Heap.lt_size e
  | set S n => obtain ⟨o, _, _, _, e, _⟩ := x; exact Heap.lt_size e
  | ins C dx fs => obtain ⟨_, _, _, e, _⟩ := x; exact Heap.lt_size e
  | own y => obtain ⟨_, e⟩ := x; exact Heap.lt_size e
  | xd fs => obtain ⟨_, ⟨_, _, _, e, _⟩, _⟩ := x; exact Heap.lt_size e
  | rng lo hi => obtain ⟨_, _, _, e⟩ := x; exact Heap.lt_size e
  | frz ob u => obtain ⟨e, _⟩ := x; exact Heap.lt_size e
  | tbl ps => exact Heap.lt_size (show h.get? a = some _ from x)
  | met f y => exact Heap.lt_size (show h.get? a = some _ from x)
  | ext φ => obtain ⟨_, ⟨_, e⟩, _⟩ := x; exact Heap.lt_size e
theorem Paired.mapP {α β : Type} {F G : α → β → Prop} : ∀ {l₁ : List α} {l₂ : List β}, Paired F l₁ l₂ → (∀ a b, F a b → G a b) → Paired G l₁ l₂
  | _, _, .nil, _ => .nil
  | _, _, .cons r t, f => .cons (f _ _ r) (Paired.mapP t f)
/-- what an object's description leans on: its own object, its own dict, the tuples -/
theorem ObjOk.stay (x : ObjOk P w H h a o) (k : ∀ b u, (b = a ∨ H b = some (.own a)) → h.get? b = some u → h'.get? b = some u)
    (ho : ∀ b, H b = some (.own a) → H' b = some (.own a)) (ht : ∀ b xs, H b = some (.tup xs) → H' b = some (.tup xs)) : ObjOk P w H' h' a o := by
  induction o with
  | lst xs => obtain ⟨z, its, n, r, e⟩ := x; exact ⟨z, its, n, r, k _ _ (.inl rfl) e⟩
  | tup xs => obtain ⟨z, its, r, ob, e, c⟩ := x; exact ⟨z, its, r, ob, k _ _ (.inl rfl) e, c⟩
  | dK kvs => obtain ⟨z, y, vs, r, ob, es, ep, e, c⟩ := x; exact ⟨z, y, vs, r, ob, es, ep, k _ _ (.inl rfl) e, c⟩
  | dT kvs =>
    obtain ⟨z, y, xs, r, ob, es, ep, e, c⟩ := x
    exact ⟨z, y, xs, Paired.mapP r fun p q z => ⟨z.1, ht _ _ z.2.1, z.2.2⟩, ob, es, ep, k _ _ (.inl rfl) e, c⟩
  | set S n => obtain ⟨ob, es, ep, t, e, c⟩ := x; exact ⟨ob, es, ep, t, k _ _ (.inl rfl) e, c⟩
  | ins C dx fs =>
    obtain ⟨d, z, ne, e, mA, ⟨od, es, ep, e2, c⟩, r⟩ := x
    exact ⟨ho _ d, z, ne, k _ _ (.inl rfl) e, mA, ⟨od, es, ep, k _ _ (.inr d) e2, c⟩, r⟩
  | own y => obtain ⟨ob, e⟩ := x; exact ⟨ob, k _ _ (.inl rfl) e⟩
  | xd fs => obtain ⟨mA, ⟨od, es, ep, e, c⟩, r⟩ := x; exact ⟨mA, ⟨od, es, ep, k _ _ (.inl rfl) e, c⟩, r⟩
  | rng lo hi => obtain ⟨t, u, v, e⟩ := x; exact ⟨t, u, v, k _ _ (.inl rfl) e⟩
  | frz ob u ih => obtain ⟨e, q⟩ := x; exact ⟨k _ _ (.inl rfl) e, ih q⟩
  | tbl ps =>
    have e : h.get? a = some { cls := .none, data := .fields ps } := x
    show h'.get? a = some { cls := .none, data := .fields ps }
    exact k a _ (.inl rfl) e
  | met f y =>
    have e : h.get? a = some (PySem.W.methodObj (.ref f) (.ref y)) := x
    show h'.get? a = some (PySem.W.methodObj (.ref f) (.ref y))
    exact k a _ (.inl rfl) e
  | ext φ => obtain ⟨p, ⟨o, e⟩, st⟩ := x; exact ⟨st _ _ p fun o q => k _ _ (.inl rfl) q, ⟨o, k _ _ (.inl rfl) e⟩, st⟩
theorem HOk.lt (x : HOk P w H h) (e : H a = some o) : a < h.objs.size := (x a o e).lt
theorem HOk.fresh (x : HOk P w H h) (e : h.objs.size ≤ a) : H a = none := by
  cases q : H a with
  | none => rfl
  | some u => exact absurd (Nat.lt_of_lt_of_le (x.lt q) e) (Nat.lt_irrefl _)
/-- every object of the heap is kept -/
theorem HOk.kept (x : HOk P w H h) (k : ∀ b u, h.get? b = some u → h'.get? b = some u) : HOk P w H h' := fun a o e =>
  (x a o e).stay (fun b u _ q => k b u q) (fun _ q => q) fun _ _ q => q
/-- a new object is laid and tracked -/
theorem HOk.laid (x : HOk P w H h) (k : ∀ b u, h.get? b = some u → h'.get? b = some u) (hp : h.objs.size ≤ a) (new : ObjOk P w (upd H a o) h' a o) : HOk P w (upd H a o) h' := fun b u e => by
  have hn := x.fresh hp
  by_cases hb : b = a
  · subst hb; rw [upd_same] at e; cases e; exact new
  · rw [upd_ne hb] at e
    exact (x b u e).stay (fun c v _ q => k c v q) (fun c q => by rw [upd_ne (ne_of_none q hn)]; exact q) fun c xs q => by rw [upd_ne (ne_of_none q hn)]; exact q
end

/-- what may be read as u: it is u, or a known u -/
def Rd (H : Hp) (a : Addr) (u : HO) : Prop := H a = some u ∨ ∃ o, H a = some (.frz o u)
theorem Rd.ok {P : Program} {w : World} {H : Hp} {h : Heap} {a : Addr} {u : HO} (r : Rd H a u) (x : HOk P w H h) : ObjOk P w H h a u := by
  rcases r with r | ⟨o, r⟩
  · exact x a u r
  · obtain ⟨_, q⟩ := x a _ r
    exact q
/-- what may be written -/
def Mut : Option HO → Prop
  | some (.lst _) => True
  | some (.dK _) => True
  | some (.dT _) => True
  | some (.set _ _) => True
  | some (.ins _ _ _) => True
  | some (.ext _) => True
  | _ => False
section
variable {P : Program} {w : World} {H : Hp} {h h' : Heap} {x e : Addr} {o' : HO}
/-- the object at e is changed: x itself, or the dict of the instance x -/
theorem HOk.write (ok : HOk P w H h) (mu : Mut (H x)) (he : e = x ∨ H e = some (.own x)) (k : ∀ b u, b ≠ e → h.get? b = some u → h'.get? b = some u) (heo : ∃ u, h'.get? e = some u)
    (new : ObjOk P w (upd H x o') h' x o') : HOk P w (upd H x o') h' := fun b u q => by
  have nown : ∀ c y, H c = some (.own y) → c ≠ x := fun c y r z => by subst z; rw [r] at mu; exact mu
  have ntup : ∀ c xs, H c = some (.tup xs) → c ≠ x := fun c xs r z => by subst z; rw [r] at mu; exact mu
  by_cases hb : b = x
  · subst hb; rw [upd_same] at q; cases q; exact new
  · rw [upd_ne hb] at q
    by_cases hbe : b = e
    · have q' : H b = some (.own x) := by
        rcases he with z | z
        · exact absurd (hbe.trans z) hb
        · rw [hbe]; exact z
      rw [q] at q'; cases q'
      obtain ⟨v, hv⟩ := heo
      exact ⟨v, by rw [hbe]; exact hv⟩
    · refine (ok b u q).stay (fun c v hc r => k c v ?_ r) (fun c r => by rw [upd_ne (nown c b r)]; exact r) fun c xs r => by rw [upd_ne (ntup c xs r)]; exact r
      rcases hc with rfl | hc
      · exact hbe
      · rintro rfl
        rcases he with z | z
        · exact nown c b hc z
        · rw [hc] at z; cases z; exact hb rfl
end

/-! ### kept unless tracked; of the frames at fs (the callers') the slots may change (an exception that passes writes there); of the records at ex (iterators) nothing is said -/
structure Un (fs ex : List Addr) (H H' : Hp) (h h' : Heap) : Prop where
  keep : ∀ b o, h.get? b = some o → H b = none → b ∉ fs → b ∉ ex → h'.get? b = some o
  slot : ∀ b o, h.get? b = some o → H b = none → b ∈ fs → b ∉ ex → ∃ sl, h'.get? b = some { o with slots := sl }
  free : ∀ b o, h.get? b = some o → H b = none → b ∉ ex → H' b = none
  there : ∀ b o, h.get? b = some o → b ∉ ex → ∃ o', h'.get? b = some o'
  tups : ∀ b xs, H b = some (.tup xs) → H' b = some (.tup xs)
  frzs : ∀ b o u, H b = some (.frz o u) → H' b = some (.frz o u)
  tbls : ∀ b ps, H b = some (.tbl ps) → ∃ more, H' b = some (.tbl (ps ++ more))
section
variable {fs fs' ex ex' : List Addr} {H H1 H2 : Hp} {h h1 h2 h' : Heap} {a x e : Addr} {o : HO}
theorem Un.any (u : Un fs ex H H1 h h1) {b : Addr} {ob : Obj} (q : h.get? b = some ob) (n : H b = none) (hx : b ∉ ex) : ∃ sl, h1.get? b = some { ob with slots := sl } := by
  by_cases hb : b ∈ fs
  · exact u.slot b ob q n hb hx
  · exact ⟨ob.slots, u.keep b ob q n hb hx⟩
theorem Un.kept (k : ∀ b u, h.get? b = some u → h'.get? b = some u) : Un fs ex H H h h' :=
  ⟨fun b ob q _ _ _ => k b ob q, fun b ob q _ _ _ => ⟨ob.slots, k b ob q⟩, fun _ _ _ n _ => n, fun b ob q _ => ⟨ob, k b ob q⟩, fun _ _ q => q, fun _ _ _ q => q, fun _ ps q => ⟨#[], by rw [q]; simp⟩⟩
theorem Un.refl : Un fs ex H H h h := Un.kept fun _ _ q => q
theorem Un.laid (k : ∀ b u, h.get? b = some u → h'.get? b = some u) (hp : h.objs.size ≤ a) (hn : H a = none) : Un fs ex H (upd H a o) h h' where
  keep := fun b u q _ _ _ => k b u q
  slot := fun b u q _ _ _ => ⟨u.slots, k b u q⟩
  free := fun b u q n _ => by rw [upd_ne (Nat.ne_of_lt (Nat.lt_of_lt_of_le (Heap.lt_size q) hp))]; exact n
  there := fun b u q _ => ⟨u, k b u q⟩
  tups := fun b xs q => by rw [upd_ne (ne_of_none q hn)]; exact q
  frzs := fun b u xs q => by rw [upd_ne (ne_of_none q hn)]; exact q
  tbls := fun b ps q => ⟨#[], by rw [upd_ne (ne_of_none q hn), q]; simp⟩
theorem Un.write (mu : Mut (H x)) (he : e = x ∨ H e = some (.own x)) (k : ∀ b u, b ≠ e → h.get? b = some u → h'.get? b = some u) (heo : ∃ u, h'.get? e = some u) : Un fs ex H (upd H x o) h h' := by
  have hx : ∀ b, H b = none → b ≠ x := fun b n z => by subst z; rw [n] at mu; exact mu
  have hb : ∀ b, H b = none → b ≠ e := fun b n z => by
    subst z
    rcases he with r | r
    · exact hx b n r
    · rw [n] at r; cases r
  have hm : ∀ b u, H b = some u → ¬ Mut (some u) → b ≠ x := fun b u q nm z => by subst z; rw [q] at mu; exact nm mu
  refine ⟨fun b u q n _ _ => k b u (hb b n) q, fun b u q n _ _ => ⟨u.slots, k b u (hb b n) q⟩, fun b u q n _ => by rw [upd_ne (hx b n)]; exact n, fun b u q _ => ?_,
    fun b xs q => by rw [upd_ne (hm b _ q fun z => z)]; exact q, fun b u xs q => by rw [upd_ne (hm b _ q fun z => z)]; exact q, fun b ps q => ⟨#[], by rw [upd_ne (hm b _ q fun z => z), q]; simp⟩⟩
  by_cases hbe : b = e
  · subst hbe; exact heo
  · exact ⟨u, k b u hbe q⟩
end

/-! ### the heap without what is tracked -/
def trk (h : Heap) (H : Hp) : List Addr := (List.range h.objs.size).filter fun a => (H a).isSome
def hidT (h : Heap) (H : Hp) : Heap := PySem.W.hideAll h (trk h H)
theorem hidT_size (h : Heap) (H : Hp) : (hidT h H).objs.size = h.objs.size := PySem.W.hideAll_size _ _
theorem hidT_get {h : Heap} {H : Hp} {b : Addr} {o : Obj} (e : h.get? b = some o) (n : H b = none) : (hidT h H).get? b = some o :=
  PySem.W.hideAll_get _ e fun hm => by
    have q : (H b).isSome = true := (List.mem_filter.mp hm).2
    rw [n] at q; simp at q
theorem of_hidT {h : Heap} {H : Hp} {b : Addr} {o : Obj} (e : (hidT h H).get? b = some o) : h.get? b = some o ∧ H b = none := by
  have e' : h.get? b = some o := PySem.W.of_hideAll (trk h H) e
  refine ⟨e', ?_⟩
  cases q : H b with
  | none => rfl
  | some x =>
    have hm : b ∈ trk h H := List.mem_filter.mpr ⟨List.mem_range.mpr (Heap.lt_size e'), by simp [q]⟩
    have z : (hidT h H).get? b = none := PySem.W.hideAll_none (trk h H) hm
    rw [z] at e; cases e

/-! ### OpenK's ledger, filled with every new object but one -/
end L2

namespace L2
open PySem PySem.Spec PyProof.Rows

/-- the module's facts, over the base: the heap at the law's entry without what is tracked there -/
structure Mod (K : PySem.W.Frag) (mg : Str → Option Value) (base : Heap) : Prop where
  kin : K.In base
  glob : base.Ns mainGlobals mg
  blt : ∃ mb, base.Ns builtinsNs mb ∧ ∀ x : Str, x ≠ "__name__" → mb x = bootBuiltins x
  nolimit : base.NoLimit

/-- the context: a def's body (or a comprehension's block) running. base: fixed through the whole law; s₀, H₀: the entry; outer: the frames whose slots others may change (a def's callers); stack: all frames that run;
   ex: iterators that were made ahead of the entry and are walked here (a comprehension's); fn: the names whose cells were made at the entry (a def: all; a comprehension's block: its own); calm: not within an except suite; pn: pins that every state bears; xe: what is wanted of an exception that leaves the code -/
structure Cx where
  prog : Program
  w : World
  K : PySem.W.Frag
  mg : Str → Option Value
  base : Heap
  A : Around
  N : List Str
  s_0 : Shared
  H_0 : Hp
  env : Env
  outer : List Env
  stack : List Env
  ex : List Addr
  fn : Str → Bool
  calm : Bool
  pn : List (Addr × Obj)
  xe : Value → Shared → Prop
/-- the callers' frames -/
def frs (l : List Env) : List Addr := l.filterMap (·.frame)
abbrev Cx.fs (X : Cx) : List Addr := frs X.outer

def Vis (sc : Scope) (x : Str) : Prop := sc.names.lookup x = some .local ∨ sc.names.lookup x = some .cell ∨ sc.names.lookup x = some .free
def Loc (sc : Scope) (x : Str) : Prop := sc.names.lookup x = some .local ∨ sc.names.lookup x = some .cell
def Look (env : Env) (h : Heap) (m : Str → Option Value) (x : Str) (u : Value) : Prop :=
  (env.kindOf x = some .local ∧ m x = some u) ∨ ((env.kindOf x = some .cell ∨ env.kindOf x = some .free) ∧ ∃ c, env.cells.lookup x = some c ∧ h.IsCell c (some u))

structure Cx.Ok (X : Cx) : Prop where
  mod : Mod X.K X.mg X.base
  kind : X.env.scope.kind = .function
  glob : X.env.globals = mainGlobals
  blt : X.env.builtins = builtinsNs
  above : X.s_0.heap.objs.size ≤ X.env.locals
  inj : ∀ x y c, X.env.cells.lookup x = some c → X.env.cells.lookup y = some c → x = y
  has : ∀ x, (X.env.kindOf x = some .cell ∨ X.env.kindOf x = some .free) → ∃ c, X.env.cells.lookup x = some c
  cab : ∀ x c, X.fn x = true → X.env.cells.lookup x = some c → X.s_0.heap.objs.size ≤ c
  hd : X.calm = true → X.A.handled = none
  frames : X.A.frames = some X.stack
  stk : X.stack = X.outer ∨ (X.stack = X.env :: X.outer ∧ X.env.frame = some X.env.locals)
  exf : ∀ b ∈ X.ex, b ≠ X.env.locals ∧ ∀ x c, X.env.cells.lookup x = some c → c ≠ b
  bs : ∀ b o, X.base.get? b = some o → X.s_0.heap.get? b = some o ∧ X.H_0 b = none
  bsz : X.base.objs.size ≤ X.s_0.heap.objs.size
  noex : ∀ b o, X.base.get? b = some o → b ∉ X.ex
  exfs : ∀ b ∈ X.ex, b ∉ X.fs
  funs : X.s_0.heap.FunFrames X.base X.outer
  frf : ∀ b ∈ X.fs, X.H_0 b = none

structure Inv (X : Cx) (pins : List (Addr × Obj)) (σ : List (Option V)) (H : Hp) (s : Shared) : Prop where
  ok : X.Ok
  os : s.os = X.s_0.os
  bare : AllBare s.gens
  base : Un X.fs X.ex X.H_0 H X.s_0.heap s.heap
  loc : ∃ m, s.heap.Ns X.env.locals m ∧ ∀ (i : Nat) (x : Str) (v : V), X.N[i]? = some x → σ[i]? = some (some v) → Vis X.env.scope x → ∃ u, RelV v u ∧ Look X.env s.heap m x u
  cell : ∀ x c, X.env.cells.lookup x = some c → ∃ v, s.heap.IsCell c v
  free : H X.env.locals = none
  freeC : ∀ x c, X.env.cells.lookup x = some c → H c = none
  pin : ∀ p ∈ X.pn ++ pins, s.heap.get? p.1 = some p.2 ∧ H p.1 = none ∧ p.1 ≠ X.env.locals ∧ p.1 ∉ X.fs ∧ ∀ v, p.2.data ≠ .cell v
  hok : HOk X.prog X.w H s.heap
  len : σ.length = X.N.length

section
variable {X : Cx} {pins : List (Addr × Obj)} {σ : List (Option V)} {H H' : Hp} {s : Shared} {h' : Heap}

theorem Cx.Ok.nofr (ok : X.Ok) {b : Addr} {o : Obj} (e : X.base.get? b = some o) : b ∉ X.fs := fun hb => by
  have := (ok.funs.mem hb).1
  rw [e] at this; cases this
theorem Inv.bs (I : Inv X pins σ H s) : ∀ b o, X.base.get? b = some o → s.heap.get? b = some o ∧ H b = none := fun b o e =>
  ⟨I.base.keep b o (I.ok.bs b o e).1 (I.ok.bs b o e).2 (I.ok.nofr e) (I.ok.noex b o e), I.base.free b o (I.ok.bs b o e).1 (I.ok.bs b o e).2 (I.ok.noex b o e)⟩
theorem Inv.bk (I : Inv X pins σ H s) : ∀ b o, X.base.get? b = some o → s.heap.get? b = some o := fun b o e => (I.bs b o e).1
theorem Inv.mod (I : Inv X pins σ H s) : Mod X.K X.mg X.base := I.ok.mod
theorem Inv.kIn (I : Inv X pins σ H s) : X.K.In s.heap := I.ok.mod.kin.keeps I.bk
/-- the frame over the base: for OpenK's rules (K.In X.base is I.mod.kin) -/
theorem Inv.fr (I : Inv X pins σ H s) : ∃ m, Fr X.base X.env.locals s.heap m :=
  let ⟨m, hn, _⟩ := I.loc
  ⟨m, hn, I.bk, Nat.le_trans I.ok.bsz I.ok.above⟩
theorem Inv.lt (I : Inv X pins σ H s) : X.env.locals < s.heap.objs.size := let ⟨_, hn, _⟩ := I.loc; hn.lt
theorem Inv.sz (I : Inv X pins σ H s) : X.s_0.heap.objs.size ≤ s.heap.objs.size := Nat.le_trans I.ok.above (Nat.le_of_lt I.lt)
theorem Inv.nofs (I : Inv X pins σ H s) {a : Addr} (h : s.heap.objs.size ≤ a) : a ∉ X.fs := fun hb => by
  obtain ⟨_, o, ho, _⟩ := I.ok.funs.mem hb
  exact absurd (Nat.lt_of_lt_of_le (Heap.lt_size ho) (Nat.le_trans I.sz h)) (Nat.lt_irrefl _)
theorem Inv.cne (I : Inv X pins σ H s) : ∀ x c, X.env.cells.lookup x = some c → c ≠ X.env.locals := fun x c e z => by
  obtain ⟨v, o, ho, hd⟩ := I.cell x c e
  obtain ⟨m, ⟨o', es, ep, ho', hd', _⟩, _⟩ := I.loc
  rw [z, ho'] at ho; cases ho; rw [hd'] at hd; cases hd
theorem Inv.funs (I : Inv X pins σ H s) : s.heap.FunFrames X.base X.outer := by
  have all : ∀ (l : List Env), (∀ b ∈ frs l, b ∈ X.fs) → X.s_0.heap.FunFrames X.base l → s.heap.FunFrames X.base l := by
    intro l
    induction l with
    | nil => intro _ _; trivial
    | cons env r ih =>
      intro hs hl
      obtain ⟨hk, ⟨L, o, hf, hn, ho, hd⟩, hr⟩ := hl
      have hL : L ∈ X.fs := hs L (by unfold frs; rw [List.filterMap_cons, hf]; exact List.mem_cons_self)
      obtain ⟨sl, e⟩ := I.base.slot L o ho (I.ok.frf L hL) hL fun z => I.ok.exfs L z hL
      exact ⟨hk, ⟨L, _, hf, hn, e, hd⟩, ih (fun b hb => hs b (by unfold frs; rw [List.filterMap_cons, hf]; exact List.mem_cons_of_mem _ hb)) hr⟩
  exact all X.outer (fun _ hb => hb) I.ok.funs

/-- the frames that run, for a call -/
theorem Inv.stack (I : Inv X pins σ H s) : s.heap.FunFrames X.base X.stack := by
  rcases I.ok.stk with e | ⟨e, hf⟩
  · rw [e]; exact I.funs
  · rw [e]
    obtain ⟨m, hn, _⟩ := I.loc
    refine .cons (by rw [I.ok.kind]; decide) hf hn ?_ I.funs
    exact Heap.get?_none_of_le (Nat.le_trans I.ok.bsz I.ok.above)
theorem Inv.stkSub (I : Inv X pins σ H s) : ∀ b ∈ frs X.stack, b ∈ X.env.locals :: X.fs := fun b hb => by
  rcases I.ok.stk with e | ⟨e, hf⟩
  · rw [e] at hb; exact List.mem_cons_of_mem _ hb
  · rw [e] at hb
    unfold frs at hb
    rw [List.filterMap_cons, hf] at hb
    exact hb
theorem Inv.stkFree (I : Inv X pins σ H s) : ∀ b ∈ frs X.stack, H b = none := fun b hb => by
  rcases List.mem_cons.mp (I.stkSub b hb) with e | hb
  · rw [e]; exact I.free
  · obtain ⟨_, o, ho, _⟩ := I.ok.funs.mem hb
    exact I.base.free b o ho (I.ok.frf b hb) fun z => I.ok.exfs b z hb

/-- THE STEP: the untracked objects but the frame and the records at ch are kept (the callers' frames up to slots), the frame's map is kept, the new abstract heap is held -/
theorem Inv.step {g' : Array GenState} {t' : Nat} {d' : Drawn} {ch : List Addr} (I : Inv X pins σ H s)
    (hch : ∀ b ∈ ch, (b ∈ X.ex ∨ X.s_0.heap.objs.size ≤ b) ∧ b ≠ X.env.locals ∧ (∀ x c, X.env.cells.lookup x = some c → c ≠ b) ∧ ∀ p ∈ X.pn ++ pins, p.1 ≠ b)
    (keep : ∀ b o, b ≠ X.env.locals → b ∉ X.fs → b ∉ ch → s.heap.get? b = some o → H b = none → h'.get? b = some o)
    (slot : ∀ b o, b ≠ X.env.locals → b ∈ X.fs → b ∉ ch → s.heap.get? b = some o → H b = none → ∃ sl, h'.get? b = some { o with slots := sl }) (free : ∀ b o, b ∉ ch → s.heap.get? b = some o → H b = none → H' b = none)
    (there : ∀ b o, b ∉ ch → s.heap.get? b = some o → ∃ o', h'.get? b = some o')
    (tups : ∀ b xs, H b = some (.tup xs) → H' b = some (.tup xs)) (frzs : ∀ b o u, H b = some (.frz o u) → H' b = some (.frz o u)) (tbls : ∀ b ps, H b = some (.tbl ps) → ∃ more, H' b = some (.tbl (ps ++ more)))
    (ns : ∀ m, s.heap.Ns X.env.locals m → h'.Ns X.env.locals m) (hok : HOk X.prog X.w H' h') (hg : AllBare g') :
    Inv X pins σ H' { s with heap := h', gens := g', drawn := d', toks := t' } := by
  have neL : ∀ b o, X.s_0.heap.get? b = some o → b ≠ X.env.locals := fun b o e => Nat.ne_of_lt (Nat.lt_of_lt_of_le (Heap.lt_size e) I.ok.above)
  have neC : ∀ b o, X.s_0.heap.get? b = some o → b ∉ X.ex → b ∉ ch := fun b o e hx hb => by
    rcases (hch b hb).1 with z | z
    · exact hx z
    · exact absurd (Nat.lt_of_lt_of_le (Heap.lt_size e) z) (Nat.lt_irrefl _)
  have cellK : ∀ x c, X.env.cells.lookup x = some c → ∀ v, s.heap.IsCell c v → h'.IsCell c v := fun x c e v ⟨o, ho, hd⟩ => by
    have nch : c ∉ ch := fun z => (hch c z).2.2.1 x c e rfl
    by_cases hc : c ∈ X.fs
    · obtain ⟨sl, q⟩ := slot c o (I.cne x c e) hc nch ho (I.freeC x c e)
      exact ⟨_, q, hd⟩
    · exact ⟨o, keep c o (I.cne x c e) hc nch ho (I.freeC x c e), hd⟩
  refine ⟨I.ok, I.os, hg, ⟨fun b o e n hb hx => ?_, fun b o e n hb hx => ?_, fun b o e n hx => ?_, fun b o e hx => ?_, fun b xs e => tups b xs (I.base.tups b xs e), fun b o xs e => frzs b o xs (I.base.frzs b o xs e), fun b ps e => ?_⟩, ?_, fun x c e => ?_, ?_, fun x c e => ?_, fun p hp => ?_, hok, I.len⟩
  · exact keep b o (neL b o e) hb (neC b o e hx) (I.base.keep b o e n hb hx) (I.base.free b o e n hx)
  · obtain ⟨sl, e1⟩ := I.base.slot b o e n hb hx
    obtain ⟨sl', e2⟩ := slot b _ (neL b o e) hb (neC b o e hx) e1 (I.base.free b o e n hx)
    exact ⟨sl', e2⟩
  · obtain ⟨o', e1⟩ := I.base.there b o e hx
    exact free b o' (neC b o e hx) e1 (I.base.free b o e n hx)
  · obtain ⟨o', e1⟩ := I.base.there b o e hx
    exact there b o' (neC b o e hx) e1
  · obtain ⟨m1, e1⟩ := I.base.tbls b ps e
    obtain ⟨m2, e2⟩ := tbls b _ e1
    exact ⟨m1 ++ m2, by rw [e2, Array.append_assoc]⟩
  · obtain ⟨m, hn, hl⟩ := I.loc
    refine ⟨m, ns m hn, fun i x v e1 e2 e3 => ?_⟩
    obtain ⟨u, r, l⟩ := hl i x v e1 e2 e3
    refine ⟨u, r, ?_⟩
    rcases l with l | ⟨k, c, e, z⟩
    · exact .inl l
    · exact .inr ⟨k, c, e, cellK x c e _ z⟩
  · obtain ⟨v, z⟩ := I.cell x c e
    exact ⟨v, cellK x c e v z⟩
  · obtain ⟨m, ⟨o, _, _, ho, _⟩, _⟩ := I.loc
    exact free _ o (fun z => (hch _ z).2.1 rfl) ho I.free
  · obtain ⟨v, o, ho, hd⟩ := I.cell x c e
    exact free c o (fun z => (hch c z).2.2.1 x c e rfl) ho (I.freeC x c e)
  · obtain ⟨e, n, ne, nf, d⟩ := I.pin p hp
    have nch : p.1 ∉ ch := fun z => (hch p.1 z).2.2.2 p hp rfl
    exact ⟨keep p.1 p.2 ne nf nch e n, free p.1 p.2 nch e n, ne, nf, d⟩
/-- .. where the frame's own object is kept too -/
theorem Inv.un {t' : Nat} (I : Inv X pins σ H s) (u : Un X.fs [] H H' s.heap h') (hok : HOk X.prog X.w H' h') : Inv X pins σ H' { s with heap := h', toks := t' } := by
  obtain ⟨m, ⟨o, es, ep, ho, r⟩, _⟩ := id I.loc
  obtain ⟨sl, hL⟩ := u.any ho I.free (by simp)
  exact I.step (g' := s.gens) (d' := s.drawn) (ch := []) (fun _ z => nomatch z) (fun b o _ hb _ e n => u.keep b o e n hb (by simp)) (fun b o _ hb _ e n => u.slot b o e n hb (by simp)) (fun b o _ e n => u.free b o e n (by simp)) (fun b o _ e => u.there b o e (by simp)) u.tups u.frzs u.tbls (fun m' hm => by
    obtain ⟨o', es', ep', ho', r'⟩ := hm
    rw [ho] at ho'; cases ho'
    exact ⟨_, es', ep', hL, r'⟩) hok I.bare
/-- behind a call (or a comprehension's block): the slots of this frame may have changed too, the records at ch may have turned -/
theorem Inv.call {g' : Array GenState} {t' : Nat} {d' : Drawn} {ch : List Addr} (I : Inv X pins σ H s) (u : Un (frs X.stack) ch H H' s.heap h') (hok : HOk X.prog X.w H' h') (hg : AllBare g')
    (hch : ∀ b ∈ ch, (b ∈ X.ex ∨ X.s_0.heap.objs.size ≤ b) ∧ b ≠ X.env.locals ∧ (∀ x c, X.env.cells.lookup x = some c → c ≠ b) ∧ ∀ p ∈ X.pn ++ pins, p.1 ≠ b) :
    Inv X pins σ H' { s with heap := h', gens := g', drawn := d', toks := t' } := by
  obtain ⟨m, ⟨o, es, ep, ho, r⟩, _⟩ := id I.loc
  obtain ⟨sl, hL⟩ := u.any ho I.free fun z => (hch _ z).2.1 rfl
  exact I.step (ch := ch) hch (fun b o hL hb hc e n => u.keep b o e n (fun z => (List.mem_cons.mp (I.stkSub b z)).elim hL hb) hc) (fun b o _ _ hc e n => u.any e n hc) (fun b o hc e n => u.free b o e n hc) (fun b o hc e => u.there b o e hc) u.tups u.frzs u.tbls (fun m' hm => by
    obtain ⟨o', es', ep', ho', r'⟩ := hm
    rw [ho] at ho'; cases ho'
    exact ⟨_, es', ep', hL, r'⟩) hok hg
/-- an untracked record of ours (an iterator) has turned -/
theorem Inv.turned {t' : Nat} {it : Addr} (I : Inv X pins σ H s) (k : ∀ b o, b ≠ it → s.heap.get? b = some o → h'.get? b = some o) (hn : H it = none) (hL : it ≠ X.env.locals)
    (h1 : it ∈ X.ex ∨ X.s_0.heap.objs.size ≤ it) (h2 : ∀ x c, X.env.cells.lookup x = some c → c ≠ it) (h3 : ∀ p ∈ X.pn ++ pins, p.1 ≠ it) : Inv X pins σ H { s with heap := h', toks := t' } := by
  have nit : ∀ b u, H b = some u → b ≠ it := fun b u e z => by rw [z, hn] at e; cases e
  refine I.step (g' := s.gens) (d' := s.drawn) (ch := [it]) (fun b hb => ?_) (fun b o _ _ hc e _ => k b o (fun z => hc (by simp [z])) e) (fun b o _ _ hc e _ => ⟨o.slots, k b o (fun z => hc (by simp [z])) e⟩) (fun _ _ _ _ n => n)
    (fun b o hc e => ⟨o, k b o (fun z => hc (by simp [z])) e⟩) (fun _ _ e => e) (fun _ _ _ e => e) (fun b ps e => ⟨#[], by rw [e]; simp⟩) (fun m hm => ?_) (fun b u e => ?_) I.bare
  · have e : b = it := by simpa using hb
    subst e
    exact ⟨h1, hL, h2, h3⟩
  · obtain ⟨o, es, ep, ho, r⟩ := hm
    exact ⟨o, es, ep, k _ o (Ne.symm hL) ho, r⟩
  · refine (I.hok b u e).stay (fun c v hc q => k c v ?_ q) (fun _ q => q) fun _ _ q => q
    rcases hc with z | z
    · rw [z]; exact nit b u e
    · exact nit c _ z
theorem Inv.tok (I : Inv X pins σ H s) (t : Nat) : Inv X pins σ H { s with toks := t } := I.un (h' := s.heap) (t' := t) Un.refl I.hok
/-- all objects kept -/
theorem Inv.kept {t' : Nat} (I : Inv X pins σ H s) (k : ∀ b u, s.heap.get? b = some u → h'.get? b = some u) : Inv X pins σ H { s with heap := h', toks := t' } := I.un (Un.kept k) (I.hok.kept k)
/-- a new object laid and tracked -/
theorem Inv.laid {a : Addr} {o : HO} {t' : Nat} (I : Inv X pins σ H s) (k : ∀ b u, s.heap.get? b = some u → h'.get? b = some u) (hp : s.heap.objs.size ≤ a) (new : ObjOk X.prog X.w (upd H a o) h' a o) :
    Inv X pins σ (upd H a o) { s with heap := h', toks := t' } := I.un (Un.laid k hp (I.hok.fresh hp)) (I.hok.laid k hp new)
/-- an object written -/
theorem Inv.write {x e : Addr} {o : HO} {t' : Nat} (I : Inv X pins σ H s) (mu : Mut (H x)) (he : e = x ∨ H e = some (.own x)) (k : ∀ b u, b ≠ e → s.heap.get? b = some u → h'.get? b = some u) (heo : ∃ u, h'.get? e = some u)
    (new : ObjOk X.prog X.w (upd H x o) h' x o) : Inv X pins σ (upd H x o) { s with heap := h', toks := t' } := I.un (Un.write mu he k heo) (I.hok.write mu he k heo new)
/-- forgetting slots, pins -/
theorem Inv.weak {σ' : List (Option V)} (I : Inv X pins σ H s) (hl : σ'.length = σ.length) (w : ∀ (i : Nat) v, σ'[i]? = some (some v) → σ[i]? = some (some v)) : Inv X pins σ' H s :=
  ⟨I.ok, I.os, I.bare, I.base, let ⟨m, hn, hl'⟩ := I.loc; ⟨m, hn, fun i x v e1 e2 e3 => hl' i x v e1 (w i v e2) e3⟩, I.cell, I.free, I.freeC, I.pin, I.hok, hl.trans I.len⟩
theorem Inv.pins_of {pins' : List (Addr × Obj)} (I : Inv X pins σ H s) (h : ∀ p ∈ pins', s.heap.get? p.1 = some p.2 ∧ H p.1 = none ∧ p.1 ≠ X.env.locals ∧ p.1 ∉ X.fs ∧ ∀ v, p.2.data ≠ .cell v) : Inv X pins' σ H s :=
  ⟨I.ok, I.os, I.bare, I.base, I.loc, I.cell, I.free, I.freeC, fun p hp => (List.mem_append.mp hp).elim (fun z => I.pin p (List.mem_append_left _ z)) (h p), I.hok, I.len⟩

theorem nodup_ix {N : List Str} (hN : N.Nodup) {i j : Nat} {x : Str} (a : N[i]? = some x) (b : N[j]? = some x) : i = j := by
  obtain ⟨h1, e1⟩ := List.getElem?_eq_some_iff.mp a
  obtain ⟨h2, e2⟩ := List.getElem?_eq_some_iff.mp b
  exact (List.getElem_inj hN).mp (e1.trans e2.symm)

/-- a name is stored; what changed -/
theorem store_ok2 {M : Model} {A : Around} {E : Value → Shared → Prop} {i : Nat} {x : Str} {v : V} {u : Value} {Q : Unit → Shared → Prop} (I : Inv X pins σ H s) (hN : X.N.Nodup) (hi : X.N[i]? = some x) (hx : Loc X.env.scope x) (r : RelV v u)
    (h : ∀ s', Inv X pins (σ.set i (some v)) H s' → (∃ a, Heap.SameBut a s.heap s'.heap ∧ (a = X.env.locals ∨ X.env.cells.lookup x = some a)) → Q () s') (hf : X.fn x = true ∨ X.env.scope.names.lookup x = some .local := by first | exact .inl rfl | exact .inr rfl | assumption) : wpAny M A (storeName X.env x u) Q E s := by
  obtain ⟨m, hn, hl⟩ := id I.loc
  have hcls : (X.env.scope.kind == .class || (X.env.scope.kind == .module && X.env.locals != X.env.globals)) = false := by rw [I.ok.kind]; rfl
  have hiσ : i < σ.length := by rw [I.len]; exact (List.getElem?_eq_some_iff.mp hi).1
  have cne := I.cne
  have tracked : ∀ {a : Addr} {h' : Heap}, (∃ o, s.heap.get? a = some o ∧ H a = none) → Heap.SameBut a s.heap h' → HOk X.prog X.w H h' := fun {a h'} ha hs b ob e => by
    obtain ⟨_, _, hfree⟩ := ha
    refine (I.hok b ob e).stay (fun c w' hc q => (hs.2 c ?_).trans q) (fun _ q => q) fun _ _ q => q
    rintro rfl
    rcases hc with rfl | hc
    · rw [hfree] at e; cases e
    · rw [hfree] at hc; cases hc
  rcases hx with hk | hk
  · refine wpAny_storeName_local hk hn (fun h' hn' hs => ?_) hcls
    obtain ⟨oL, _, _, hoL, _⟩ := id hn
    refine h _ ⟨I.ok, I.os, I.bare, ⟨fun b o e n hb hx => ?_, fun b o e n hb hx => ?_, I.base.free, fun b o e hx => ?_, I.base.tups, I.base.frzs, I.base.tbls⟩, ⟨_, hn', fun j y v' e1 e2 e3 => ?_⟩, fun y c e => ?_, I.free, I.freeC, fun p hp => ?_, tracked ⟨oL, hoL, I.free⟩ hs, by simpa using I.len⟩ ⟨_, hs, .inl rfl⟩
    · exact (hs.2 b (Nat.ne_of_lt (Nat.lt_of_lt_of_le (Heap.lt_size e) I.ok.above))).trans (I.base.keep b o e n hb hx)
    · obtain ⟨sl, e1⟩ := I.base.slot b o e n hb hx
      exact ⟨sl, (hs.2 b (Nat.ne_of_lt (Nat.lt_of_lt_of_le (Heap.lt_size e) I.ok.above))).trans e1⟩
    · obtain ⟨o', e1⟩ := I.base.there b o e hx
      exact ⟨o', (hs.2 b (Nat.ne_of_lt (Nat.lt_of_lt_of_le (Heap.lt_size e) I.ok.above))).trans e1⟩
    · by_cases hj : j = i
      · subst hj
        rw [hi] at e1; cases e1
        rw [List.getElem?_set_self hiσ] at e2
        cases e2
        exact ⟨u, r, .inl ⟨hk, by simp⟩⟩
      · rw [List.getElem?_set_ne (Ne.symm hj)] at e2
        obtain ⟨u', r', q⟩ := hl j y v' e1 e2 e3
        refine ⟨u', r', ?_⟩
        rcases q with ⟨k, e⟩ | ⟨k, c, e, z⟩
        · refine .inl ⟨k, ?_⟩
          have : y ≠ x := fun e => hj (nodup_ix hN e1 (e ▸ hi))
          simp [this, e]
        · exact .inr ⟨k, c, e, z.sameBut hs (cne y c e)⟩
    · obtain ⟨w', z⟩ := I.cell y c e
      exact ⟨w', z.sameBut hs (cne y c e)⟩
    · obtain ⟨e, n, ne, nf, d⟩ := I.pin p hp
      exact ⟨(hs.2 p.1 ne).trans e, n, ne, nf, d⟩
  · have hfn : X.fn x = true := by
      rcases hf with z | z
      · exact z
      · rw [z] at hk; cases hk
    obtain ⟨c, hc⟩ := I.ok.has x (.inl hk)
    obtain ⟨w', z⟩ := I.cell x c hc
    refine wpAny_storeName_cell I.ok.kind hk hc z (fun h' hc' hs => ?_)
    obtain ⟨oc, hoc, hocd⟩ := id z
    refine h { s with heap := h' } ⟨I.ok, I.os, I.bare, ⟨fun b o e n hb hx => ?_, fun b o e n hb hx => ?_, I.base.free, fun b o e hx => ?_, I.base.tups, I.base.frzs, I.base.tbls⟩, ⟨m, hn.sameBut hs (Ne.symm (cne x c hc)), fun j y v' e1 e2 e3 => ?_⟩, fun y c' e => ?_, I.free, I.freeC, fun p hp => ?_, tracked ⟨oc, hoc, I.freeC x c hc⟩ hs, by simpa using I.len⟩ ⟨c, hs, .inr hc⟩
    · exact (hs.2 b (Nat.ne_of_lt (Nat.lt_of_lt_of_le (Heap.lt_size e) (I.ok.cab x c hfn hc)))).trans (I.base.keep b o e n hb hx)
    · obtain ⟨sl, e1⟩ := I.base.slot b o e n hb hx
      exact ⟨sl, (hs.2 b (Nat.ne_of_lt (Nat.lt_of_lt_of_le (Heap.lt_size e) (I.ok.cab x c hfn hc)))).trans e1⟩
    · obtain ⟨o', e1⟩ := I.base.there b o e hx
      exact ⟨o', (hs.2 b (Nat.ne_of_lt (Nat.lt_of_lt_of_le (Heap.lt_size e) (I.ok.cab x c hfn hc)))).trans e1⟩
    · by_cases hj : j = i
      · subst hj
        rw [hi] at e1; cases e1
        rw [List.getElem?_set_self hiσ] at e2
        cases e2
        exact ⟨u, r, .inr ⟨.inl hk, c, hc, hc'⟩⟩
      · rw [List.getElem?_set_ne (Ne.symm hj)] at e2
        obtain ⟨u', r', q⟩ := hl j y v' e1 e2 e3
        refine ⟨u', r', ?_⟩
        rcases q with q | ⟨k, c', e, z'⟩
        · exact .inl q
        · refine .inr ⟨k, c', e, z'.sameBut hs ?_⟩
          rintro rfl
          exact hj (nodup_ix hN e1 (I.ok.inj _ _ _ e hc ▸ hi))
    · by_cases hcc : c' = c
      · subst hcc; exact ⟨_, hc'⟩
      · obtain ⟨w2, z2⟩ := I.cell y c' e
        exact ⟨w2, z2.sameBut hs hcc⟩
    · obtain ⟨e, n, ne, nf, d⟩ := I.pin p hp
      refine ⟨(hs.2 p.1 ?_).trans e, n, ne, nf, d⟩
      intro q
      rw [q, hoc] at e
      have q' : oc = p.2 := Option.some.inj e
      exact d w' (by rw [← q']; exact hocd)
theorem store_ok {M : Model} {A : Around} {E : Value → Shared → Prop} {i : Nat} {x : Str} {v : V} {u : Value} {Q : Unit → Shared → Prop} (I : Inv X pins σ H s) (hN : X.N.Nodup) (hi : X.N[i]? = some x) (hx : Loc X.env.scope x) (r : RelV v u)
    (h : ∀ s', Inv X pins (σ.set i (some v)) H s' → Q () s') (hf : X.fn x = true ∨ X.env.scope.names.lookup x = some .local := by first | exact .inl rfl | exact .inr rfl | assumption) : wpAny M A (storeName X.env x u) Q E s :=
  store_ok2 I hN hi hx r (fun s' I' _ => h s' I') hf
/-- behind a call or a block, the state as it is -/
theorem Inv.call' {s' : Shared} {ch : List Addr} (I : Inv X pins σ H s) (ho : s'.os = s.os) (u : Un (frs X.stack) ch H H' s.heap s'.heap) (hok : HOk X.prog X.w H' s'.heap) (hg : AllBare s'.gens)
    (hch : ∀ b ∈ ch, (b ∈ X.ex ∨ X.s_0.heap.objs.size ≤ b) ∧ b ≠ X.env.locals ∧ (∀ x c, X.env.cells.lookup x = some c → c ≠ b) ∧ ∀ p ∈ X.pn ++ pins, p.1 ≠ b) : Inv X pins σ H' s' := by
  obtain ⟨h', g', d', t', o'⟩ := s'
  have e : o' = s.os := ho
  subst e
  exact I.call (g' := g') (t' := t') (d' := d') u hok hg hch
end

/-! ### the judgements -/
/-- an exception: its class, its own dict's address (where it has one), the abstract heap behind it -/
abbrev XK := Value → Option Addr → Hp → Prop
abbrev St := List (Option V)
abbrev VK := V → Hp → Prop
/-- an expression's reading; a test's; an argument list's -/
abbrev TE := St → Hp → VK → Prop
abbrev TT := St → Hp → (Bool → Hp → Prop) → Prop
abbrev TA := St → Hp → (List V → Hp → Prop) → Prop
/-- what is wanted behind a statement -/
structure Ends where
  nx : St → Hp → Prop
  rt : VK
  bk : St → Hp → Prop := fun _ _ => False
  ct : St → Hp → Prop := fun _ _ => False
abbrev TS := Ends → St → Hp → Prop

def EP (X : Cx) (pins : List (Addr × Obj)) (σ : St) (Q : VK) (u : Value) (s' : Shared) : Prop := ∃ v H', Inv X pins σ H' s' ∧ RelV v u ∧ Q v H'
def TP (X : Cx) (pins : List (Addr × Obj)) (σ : St) (Q : Bool → Hp → Prop) (b : Bool) (s' : Shared) : Prop := ∃ H', Inv X pins σ H' s' ∧ Q b H'
def AP (X : Cx) (pins : List (Addr × Obj)) (σ : St) (Q : List V → Hp → Prop) (us : List Value) (s' : Shared) : Prop := ∃ vs H', Inv X pins σ H' s' ∧ Vals vs us ∧ Q vs H'
def SP (X : Cx) (pins : List (Addr × Obj)) (D : Ends) (f : Flow) (s' : Shared) : Prop :=
  match f with
  | .next => ∃ σ' H', Inv X pins σ' H' s' ∧ D.nx σ' H'
  | .brk => ∃ σ' H', Inv X pins σ' H' s' ∧ D.bk σ' H'
  | .cont => ∃ σ' H', Inv X pins σ' H' s' ∧ D.ct σ' H'
  | .ret u => ∃ v σ' H', Inv X pins σ' H' s' ∧ RelV v u ∧ D.rt v H'

def PE (X : Cx) (e : Expr) (t : TE) : Prop :=
  ∀ (pins : List (Addr × Obj)) (s : Shared) (σ : St) (H : Hp) (Q : VK), Inv X pins σ H s → t σ H Q → wpAny (model X.prog X.w) X.A (eval e X.env) (EP X pins σ Q) X.xe s
def PT (X : Cx) (e : Expr) (t : TT) : Prop :=
  ∀ (pins : List (Addr × Obj)) (s : Shared) (σ : St) (H : Hp) (Q : Bool → Hp → Prop), Inv X pins σ H s → t σ H Q → wpAny (model X.prog X.w) X.A (isTrue e X.env (eval e X.env)) (TP X pins σ Q) X.xe s
/-- a test whatever its 'whole' is (and, or) -/
def PW (X : Cx) (e : Expr) (t : TT) : Prop :=
  ∀ (whole : Sem Value) (pins : List (Addr × Obj)) (s : Shared) (σ : St) (H : Hp) (Q : Bool → Hp → Prop), Inv X pins σ H s → t σ H Q → wpAny (model X.prog X.w) X.A (isTrue e X.env whole) (TP X pins σ Q) X.xe s
theorem PW.pt {X : Cx} {e : Expr} {t : TT} (h : PW X e t) : PT X e t := h _
/-- an argument list (no star), from the left -/
def PA (X : Cx) (es : List Expr) (t : TA) : Prop :=
  ∀ (pos : Pos) (pins : List (Addr × Obj)) (s : Shared) (σ : St) (H : Hp) (Q : List V → Hp → Prop), Inv X pins σ H s → t σ H Q → wpAny (model X.prog X.w) X.A (spliced (backTo pos (starEach es X.env))) (AP X pins σ Q) X.xe s
def PS (X : Cx) (st : Stmt) (t : TS) : Prop :=
  ∀ (pins : List (Addr × Obj)) (s : Shared) (σ : St) (H : Hp) (D : Ends), Inv X pins σ H s → t D σ H → wpAny (model X.prog X.w) X.A (exec st X.env) (SP X pins D) X.xe s
def PSs (X : Cx) (st : List Stmt) (t : TS) : Prop :=
  ∀ (pins : List (Addr × Obj)) (s : Shared) (σ : St) (H : Hp) (D : Ends), Inv X pins σ H s → t D σ H → wpAny (model X.prog X.w) X.A (execs st X.env) (SP X pins D) X.xe s
/-- weaken the end -/
theorem thn {α : Type} {t : Sem α} {Q Q' : α → Shared → Prop} {M : Model} {A : Around} {E : Value → Shared → Prop} {s : Shared} (h : wpAny M A t Q E s) (hQ : ∀ a s, Q a s → Q' a s) : wpAny M A t Q' E s := wpAny_mono h hQ fun _ _ x => x
end L2

namespace L2
open PySem PySem.Spec PyProof.Rows
section
variable {X : Cx}

/-! ### names and constants -/
def tVar (i : Nat) : TE := fun σ H Q => ∃ v, σ[i]? = some (some v) ∧ Q v H
def tC (v : V) : TE := fun _ H Q => Q v H
theorem pe_var {i : Nat} {x : Str} {pos : Pos} (hN : X.N[i]? = some x) (hv : Vis X.env.scope x) (hd : (x == ("__debug__" : Str)) = false := by decide) (hcd : (x == ("__classdict__" : Str)) = false := by decide) : PE X (.Name x pos) (tVar i) := by
  intro pins s σ H Q I h
  obtain ⟨v, e, h⟩ := h
  obtain ⟨m, hn, hl⟩ := I.loc
  obtain ⟨u, r, l⟩ := hl i x v hN e hv
  have fin : EP X pins σ Q u s := ⟨v, H, I, r, h⟩
  rcases l with ⟨hk, hm⟩ | ⟨hk, c, hc, hcell⟩
  · exact wpAny_Name (wpAny_loadName_local I.ok.kind hk hn hm fin) hd
  · rcases hk with hk | hk
    · exact wpAny_Name (wpAny_loadName_cell I.ok.kind hk hc hcell fin) hd
    · exact wpAny_Name (wpAny_loadName_free I.ok.kind hk hc hcell fin hcd) hd
theorem pe_int {i j pos} : PE X (.Constant (.int i) j pos) (tC (.int i)) := fun _ _ _ H _ I h => wpAny_Constant_int ⟨.int i, H, I.tok _, ⟨_, rfl⟩, h⟩
theorem pe_bl {b j pos} : PE X (.Constant (.bool b) j pos) (tC (.bl b)) := fun _ _ _ H _ I h => Constant_bool ⟨.bl b, H, I, rfl, h⟩
theorem pe_non {j pos} : PE X (.Constant .none j pos) (tC .non) := fun _ _ _ H _ I h => Constant_none ⟨.non, H, I, rfl, h⟩
theorem pe_str {x j pos} : PE X (.Constant (.str x) j pos) (tC (.str x)) := fun _ _ _ H _ I h => Calls.Constant_str ⟨.str x, H, I.tok _, ⟨_, rfl⟩, h⟩

/-- a global name of the def -/
def Gl (X : Cx) (x : Str) : Prop := X.env.kindOf x = some .globalImplicit
theorem ld_glob {E : Value → Shared → Prop} {pins : List (Addr × Obj)} {s : Shared} {σ : St} {H : Hp} {x : Str} {u : Value} {pos : Pos} {Q : Value → Shared → Prop} (I : Inv X pins σ H s) (hg : Gl X x) (hm : X.mg x = some u) (h : Q u s)
    (hd : (x == ("__debug__" : Str)) = false := by decide) : wpAny (model X.prog X.w) X.A (eval (.Name x pos) X.env) Q E s :=
  Calls.Name_function_global I.ok.kind hg (Calls.loadGlobal_global (by rw [I.ok.glob]; exact I.mod.glob.keeps I.bk) hm h) hd
theorem ld_blt {E : Value → Shared → Prop} {pins : List (Addr × Obj)} {s : Shared} {σ : St} {H : Hp} {x : Str} {u : Value} {pos : Pos} {Q : Value → Shared → Prop} (I : Inv X pins σ H s) (hg : Gl X x) (hm : X.mg x = none) (hv : bootBuiltins x = some u) (h : Q u s)
    (hn : x ≠ "__name__" := by decide) (hd : (x == ("__debug__" : Str)) = false := by decide) : wpAny (model X.prog X.w) X.A (eval (.Name x pos) X.env) Q E s := by
  obtain ⟨mb, h1, h2⟩ := I.mod.blt
  exact Calls.Name_function_global I.ok.kind hg (Calls.loadGlobal_builtin (by rw [I.ok.glob]; exact I.mod.glob.keeps I.bk) hm (by rw [I.ok.blt]; exact h1.keeps I.bk) ((h2 x hn).trans hv) h) hd
theorem pe_bltn {x : Str} {v : V} {u : Value} {pos : Pos} (hg : Gl X x) (hm : X.mg x = none) (hv : bootBuiltins x = some u) (r : RelV v u) (hn : x ≠ "__name__" := by decide) (hd : (x == ("__debug__" : Str)) = false := by decide) : PE X (.Name x pos) (tC v) :=
  fun _ _ _ H _ I h => ld_blt I hg hm hv ⟨v, H, I, r, h⟩ hn hd

/-! ### arithmetic -/
variable {a b : Expr} {ta tb : TE} {pos : Pos}
/-! ### comparisons -/
def PC (X : Cx) (op : CmpOp) (a b : Expr) (t : TE) : Prop :=
  ∀ (pins : List (Addr × Obj)) (s : Shared) (σ : St) (H : Hp) (Q : VK), Inv X pins σ H s → t σ H Q →
    wpAny (model X.prog X.w) X.A (eval a X.env) (fun v s₁ => wpAny (model X.prog X.w) X.A (eval b X.env) (fun u s₂ => wpAny (model X.prog X.w) X.A (compareOp op v u) (EP X pins σ Q) X.xe s₂) X.xe s₁) X.xe s
/-- a comparison as a value, as a test -/
def tB (t : TE) : TT := fun σ H Q => t σ H fun x H1 => ∃ c, x = .bl c ∧ Q c H1
theorem pt_cmp {op : CmpOp} {t : TE} (h : PC X op a b t) (h1 : behindInMarks op b = false := by first | exact nobehind _ (by decide) (by decide) | rfl) : PT X (.Compare a [op] [b] pos) (tB t) := by
  intro pins s σ H Q I hw
  refine wpAny_isTrue_Compare1 (thn (h pins s σ H _ I hw) fun v s1 h1 => thn h1 fun u s2 h2 => thn h2 fun c s3 ⟨x, H1, I1, r1, q1⟩ => ?_) h1
  obtain ⟨d, rfl, q⟩ := q1
  cases r1
  exact wpAny_truthy_bool ⟨H1, I1, q⟩
/-- an expression whose value is a bool, as a test -/
theorem pt_val {e : Expr} {t : TE} (h : PE X e t) (he : ∀ whole, isTrue e X.env whole = (do let v ← whole; standAt e.pos; holding [v] (truthy v)) := by intro _; rfl) : PT X e (tB t) := by
  intro pins s σ H Q I hw
  refine isTrue_plain (thn (h pins s σ H _ I hw) fun v s1 ⟨x, H1, I1, r1, q1⟩ => ?_) (he _)
  obtain ⟨d, rfl, q⟩ := q1
  cases r1
  exact wpAny_truthy_bool ⟨H1, I1, q⟩

/-! ### and, or, not -/
variable {tA tB' : TT} {rest : List Expr}
def tAnd (t u : TT) : TT := fun σ H Q => t σ H fun c H1 => if c = true then u σ H1 Q else Q false H1
def tOr (t u : TT) : TT := fun σ H Q => t σ H fun c H1 => if c = true then Q true H1 else u σ H1 Q
def tNot (t : TT) : TT := fun σ H Q => t σ H fun c H1 => Q (!c) H1
theorem pw_and1 (ha : PT X a tA) : PW X (.BoolOp .And [a] pos) tA := by
  intro wh pins s σ H Q I h
  refine isTrue_and (thn (ha pins s σ H Q I h) fun c s1 e => ?_)
  cases c with
  | true => exact isTrue_and_nil e
  | false => exact e
theorem pw_or1 (ha : PT X a tA) : PW X (.BoolOp .Or [a] pos) tA := by
  intro wh pins s σ H Q I h
  refine isTrue_or (thn (ha pins s σ H Q I h) fun c s1 e => ?_)
  cases c with
  | false => exact isTrue_or_nil e
  | true => exact e
theorem pw_and (ha : PT X a tA) (hb : PW X (.BoolOp .And (b :: rest) pos) tB') : PW X (.BoolOp .And (a :: b :: rest) pos) (tAnd tA tB') := by
  intro wh pins s σ H Q I h
  refine isTrue_and (thn (ha pins s σ H _ I h) fun c s1 ⟨H1, I1, q1⟩ => ?_)
  cases c with
  | true => exact hb wh pins s1 σ H1 Q I1 q1
  | false => exact ⟨H1, I1, q1⟩
theorem pw_or (ha : PT X a tA) (hb : PW X (.BoolOp .Or (b :: rest) pos) tB') : PW X (.BoolOp .Or (a :: b :: rest) pos) (tOr tA tB') := by
  intro wh pins s σ H Q I h
  refine isTrue_or (thn (ha pins s σ H _ I h) fun c s1 ⟨H1, I1, q1⟩ => ?_)
  cases c with
  | true => exact ⟨H1, I1, q1⟩
  | false => exact hb wh pins s1 σ H1 Q I1 q1
theorem pt_not (ha : PT X a tA) : PT X (.UnaryOp .Not a pos) (tNot tA) := by
  intro pins s σ H Q I h
  exact isTrue_not (ha pins s σ H (fun c H1 => Q (!c) H1) I h)
/-- .. as values (bools) -/
def tAndV (ta tb : TE) : TE := fun σ H Q => ta σ H fun x H1 => ∃ c, x = .bl c ∧ if c = true then tb σ H1 Q else Q (.bl false) H1
def tNotV (ta : TE) : TE := fun σ H Q => ta σ H fun x H1 => ∃ c, x = .bl c ∧ Q (.bl (!c)) H1
theorem pe_one {op} {t : TE} (h : PE X a t) : PE X (.BoolOp op [a] pos) t := fun pins s σ H Q I hw => BoolOp_one (h pins s σ H Q I hw)
theorem pe_and (ha : PE X a ta) (hb : PE X (.BoolOp .And (b :: rest) pos) tb) : PE X (.BoolOp .And (a :: b :: rest) pos) (tAndV ta tb) := by
  intro pins s σ H Q I h
  refine BoolOp_and (thn (ha pins s σ H _ I h) fun v s1 ⟨x, H1, I1, r1, q1⟩ => ?_)
  obtain ⟨c, rfl, q1⟩ := q1
  cases r1
  refine wpAny_truthy_bool ?_
  cases c with
  | true => exact hb pins s1 σ H1 Q I1 q1
  | false => exact ⟨.bl false, H1, I1, rfl, q1⟩
theorem pe_not (ha : PE X a ta) : PE X (.UnaryOp .Not a pos) (tNotV ta) := by
  intro pins s σ H Q I h
  refine UnaryOp_ (thn (ha pins s σ H _ I h) fun v s1 ⟨x, H1, I1, r1, q1⟩ => ?_)
  obtain ⟨c, rfl, q1⟩ := q1
  cases r1
  exact not_of (wpAny_truthy_bool ⟨.bl (!c), H1, I1, rfl, q1⟩)
/-- a if t else b -/
def tIf (t : TT) (ta tb : TE) : TE := fun σ H Q => t σ H fun c H1 => if c = true then ta σ H1 Q else tb σ H1 Q
theorem pe_ifExp {c : Expr} (hc : PT X c tA) (ha : PE X a ta) (hb : PE X b tb) : PE X (.IfExp c a b pos) (tIf tA ta tb) := by
  intro pins s σ H Q I h
  refine wpAny_IfExp (thn (hc pins s σ H _ I h) fun d s1 ⟨H1, I1, q1⟩ => ?_)
  cases d with
  | true => exact ha pins s1 σ H1 Q I1 q1
  | false => exact hb pins s1 σ H1 Q I1 q1
end
end L2

namespace L2
open PySem PySem.Spec PyProof.Rows

/-! ### a list, a tuple that is read: tracked, frozen, or an object of the module -/
def SqL (K : PySem.W.Frag) (H : Hp) (a : Addr) (xs : List V) : Prop :=
  Rd H a (.lst xs) ∨
    ∃ (o : Obj) (its : Array Value) (n : Nat), K.lookup a = some o ∧ o.cls = .type "list" ∧ o.dict = none ∧ o.data = .seq its n ∧ its.size ≤ sizeLine ∧ Vals xs its.toList
def SqT (K : PySem.W.Frag) (H : Hp) (a : Addr) (xs : List V) : Prop :=
  Rd H a (.tup xs) ∨
    ∃ (o : Obj) (its : Array Value) (n : Nat), K.lookup a = some o ∧ o.cls = .type "tuple" ∧ o.data = .seq its n ∧ its.size ≤ sizeLine ∧ Vals xs its.toList
def absV : Value → Option V
  | .none => some .non
  | .bool b => some (.bl b)
  | .int i _ => some (.int i)
  | .str x _ => some (.str x)
  | .bytes b _ => some (.byt b)
  | .float b _ => some (.flt b)
  | .ref a => some (.ref a)
  | .type n => some (.ty n)
  | _ => none
theorem RelV.abs {x : V} {u : Value} (r : RelV x u) : absV u = some x := by
  cases x with
  | non => cases r; rfl
  | bl _ => cases r; rfl
  | int _ => obtain ⟨t, rfl⟩ := r; rfl
  | str _ => obtain ⟨t, rfl⟩ := r; rfl
  | byt _ => obtain ⟨t, rfl⟩ := r; rfl
  | flt _ => obtain ⟨t, rfl⟩ := r; rfl
  | ref _ => cases r; rfl
  | ty _ => cases r; rfl
theorem RelV.inj {x y : V} {u : Value} (r : RelV x u) (q : RelV y u) : x = y := Option.some.inj (r.abs.symm.trans q.abs)
theorem Vals.inj : ∀ {xs ys : List V} {us : List Value}, Vals xs us → Vals ys us → xs = ys
  | _, _, _, .nil, .nil => rfl
  | _, _, _, .cons r t, .cons r' t' => by rw [r.inj r', Vals.inj t t']
section
variable {X : Cx} {pins : List (Addr × Obj)} {σ : St} {H : Hp} {s : Shared} {a : Addr} {xs ys : List V}
theorem SqL.of {K : PySem.W.Frag} (h : H a = some (.lst xs)) : SqL K H a xs := .inl (.inl h)
theorem SqT.of {K : PySem.W.Frag} (h : H a = some (.tup xs)) : SqT K H a xs := .inl (.inl h)
theorem Inv.list (I : Inv X pins σ H s) (h : SqL X.K H a xs) : ∃ its : List Value, Vals xs its ∧ PlainL s.heap a its.toArray ∧ xs.length ≤ sizeLine := by
  rcases h with h | ⟨o, its, n, hk, hc, hd, hs, hz, r⟩
  · obtain ⟨z, its, n, r, e⟩ := h.ok I.hok
    exact ⟨its, r, ⟨_, n, e, rfl, rfl, rfl⟩, z⟩
  · refine ⟨its.toList, r, ⟨o, n, I.kIn a o hk, hc, hd, by simpa using hs⟩, ?_⟩
    have e := r.length
    simp only [Array.length_toList] at e
    omega
theorem Inv.tuple (I : Inv X pins σ H s) (h : SqT X.K H a xs) : ∃ its : List Value, Vals xs its ∧ IsTup s.heap a its.toArray ∧ xs.length ≤ sizeLine := by
  rcases h with h | ⟨o, its, n, hk, hc, hs, hz, r⟩
  · obtain ⟨z, its, r, p⟩ := h.ok I.hok
    exact ⟨its, r, p, z⟩
  · refine ⟨its.toList, r, ⟨o, I.kIn a o hk, hc, n, by simpa using hs⟩, ?_⟩
    have e := r.length
    simp only [Array.length_toList] at e
    omega
theorem Inv.list_inj (I : Inv X pins σ H s) (h : SqL X.K H a xs) (h' : SqL X.K H a ys) : xs = ys := by
  obtain ⟨its, r, ⟨o, n, e, _, _, d⟩, _⟩ := I.list h
  obtain ⟨its', r', ⟨o', n', e', _, _, d'⟩, _⟩ := I.list h'
  rw [e] at e'; cases e'
  rw [d] at d'
  injection d' with d1 _
  have : its = its' := by simpa using congrArg Array.toList d1
  subst this
  exact r.inj r'
theorem Inv.tuple_inj (I : Inv X pins σ H s) (h : SqT X.K H a xs) (h' : SqT X.K H a ys) : xs = ys := by
  obtain ⟨its, r, ⟨o, e, _, n, d⟩, _⟩ := I.tuple h
  obtain ⟨its', r', ⟨o', e', _, n', d'⟩, _⟩ := I.tuple h'
  rw [e] at e'; cases e'
  rw [d] at d'
  injection d' with d1 _
  have : its = its' := by simpa using congrArg Array.toList d1
  subst this
  exact r.inj r'
end

/-! ### another wish about exceptions -/
abbrev Cx.wish (X : Cx) (E : Value → Shared → Prop) : Cx := { X with xe := E }
/-- no exception leaves -/
abbrev Cx.nox (X : Cx) : Cx := X.wish fun _ _ => False
theorem Cx.Ok.wish {X : Cx} (ok : X.Ok) (E : Value → Shared → Prop) : (X.wish E).Ok :=
  ⟨ok.mod, ok.kind, ok.glob, ok.blt, ok.above, ok.inj, ok.has, ok.cab, ok.hd, ok.frames, ok.stk, ok.exf, ok.bs, ok.bsz, ok.noex, ok.exfs, ok.funs, ok.frf⟩
theorem Cx.Ok.unwish {X : Cx} {E : Value → Shared → Prop} (ok : (X.wish E).Ok) : X.Ok :=
  ⟨ok.mod, ok.kind, ok.glob, ok.blt, ok.above, ok.inj, ok.has, ok.cab, ok.hd, ok.frames, ok.stk, ok.exf, ok.bs, ok.bsz, ok.noex, ok.exfs, ok.funs, ok.frf⟩
section
variable {X : Cx} {pins : List (Addr × Obj)} {σ : St} {H : Hp} {s : Shared} {E : Value → Shared → Prop}
theorem Inv.wish (I : Inv X pins σ H s) (E : Value → Shared → Prop) : Inv (X.wish E) pins σ H s := ⟨I.ok.wish E, I.os, I.bare, I.base, I.loc, I.cell, I.free, I.freeC, I.pin, I.hok, I.len⟩
theorem Inv.unwish (I : Inv (X.wish E) pins σ H s) : Inv X pins σ H s := ⟨I.ok.unwish, I.os, I.bare, I.base, I.loc, I.cell, I.free, I.freeC, I.pin, I.hok, I.len⟩
theorem SP.unwish {D : Ends} {f : Flow} {s' : Shared} (h : SP (X.wish E) pins D f s') : SP X pins D f s' := by
  cases f with
  | next => obtain ⟨σ', H', I, q⟩ := h; exact ⟨σ', H', I.unwish, q⟩
  | brk => obtain ⟨σ', H', I, q⟩ := h; exact ⟨σ', H', I.unwish, q⟩
  | cont => obtain ⟨σ', H', I, q⟩ := h; exact ⟨σ', H', I.unwish, q⟩
  | ret u => obtain ⟨v, σ', H', I, r, q⟩ := h; exact ⟨v, σ', H', I.unwish, r, q⟩
theorem PSs.nox {st : List Stmt} {t : TS} (h : PSs X.nox st t) : PSs X st t := fun pins s σ H D I hw =>
  wpAny_mono (h pins s σ H D (I.wish _) hw) (fun _ _ q => q.unwish) fun _ _ z => False.elim z
end

/-! ### blocks and small statements -/
section
variable {X : Cx} {st : Stmt} {rest : List Stmt} {t u : TS} {e : Expr} {te : TE} {pos : Pos}
def tNext : TS := fun D σ H => D.nx σ H
def tSeq (t u : TS) : TS := fun D σ H => t { D with nx := u D } σ H
theorem pss_nil : PSs X [] tNext := fun _ _ σ H _ I h => wpAny_execs_nil ⟨σ, H, I, h⟩
theorem pss_cons (h1 : PS X st t) (h2 : PSs X rest u) : PSs X (st :: rest) (tSeq t u) := by
  intro pins s σ H D I h
  refine wpAny_execs_cons (thn (h1 pins s σ H { D with nx := u D } I h) fun f s1 q => ?_)
  cases f with
  | next =>
    obtain ⟨σ', H', I', q⟩ := q
    exact h2 pins s1 σ' H' D I' q
  | ret v => exact q
  | brk => exact q
  | cont => exact q
theorem pss_one (h1 : PS X st t) : PSs X [st] t := by
  intro pins s σ H D I h
  refine wpAny_execs_cons (thn (h1 pins s σ H D I h) fun f s1 q => ?_)
  cases f with
  | next => exact wpAny_execs_nil q
  | ret v => exact q
  | brk => exact q
  | cont => exact q
/-- in a def's body nothing is shown -/
theorem Inv.quiet {pins : List (Addr × Obj)} {σ : St} {H : Hp} {s : Shared} (I : Inv X pins σ H s) : interactive X.env = false := by simp [interactive, I.ok.kind]
/-- an expression whose value is dropped -/
def tDrop (te : TE) : TS := fun D σ H => te σ H fun _ H1 => D.nx σ H1
theorem ps_expr (he : PE X e te) (hs : swapsWith e none pos.line X.env = pure false := by rfl) : PS X (.Expr e pos) (tDrop te) := by
  intro pins s σ H D I h
  exact wpAny_Expr_any (thn (he pins s σ H _ I h) fun v s1 ⟨x, H1, I1, r1, q1⟩ => ⟨σ, H1, I1, q1⟩) I.quiet hs
def tRet (te : TE) : TS := fun D σ H => te σ H D.rt
theorem ps_ret (he : PE X e te) : PS X (.Return (some e) pos) (tRet te) := by
  intro pins s σ H D I h
  exact wpAny_Return_some (thn (he pins s σ H _ I h) fun v s1 ⟨x, H1, I1, r1, q1⟩ => ⟨x, σ, H1, I1, r1, q1⟩)
def tIfS (c : TT) (t u : TS) : TS := fun D σ H => c σ H fun b H1 => if b = true then t D σ H1 else u D σ H1
theorem ps_if {c : Expr} {a b : List Stmt} {tc : TT} (hc : PT X c tc) (ha : PSs X a t) (hb : PSs X b u) : PS X (.If c a b pos) (tIfS tc t u) := by
  intro pins s σ H D I h
  refine wpAny_If (thn (hc pins s σ H _ I h) fun d s1 ⟨H1, I1, q1⟩ => ?_)
  cases d with
  | true => exact ha pins s1 σ H1 D I1 q1
  | false => exact hb pins s1 σ H1 D I1 q1
/-- code that the proof never comes to -/
def tNever : TS := fun _ _ _ => False
theorem ps_never : PS X st tNever := fun _ _ _ _ _ _ h => h.elim
end

/-! ### targets -/
abbrev TG := V → St → Hp → (St → Hp → Prop) → Prop
abbrev TGs := List V → St → Hp → (St → Hp → Prop) → Prop
def PG (X : Cx) (target : Expr) (t : TG) : Prop :=
  ∀ (pins : List (Addr × Obj)) (s : Shared) (σ : St) (H : Hp) (v : V) (u : Value) (Q : St → Hp → Prop), Inv X pins σ H s → RelV v u → t v σ H Q →
    wpAny (model X.prog X.w) X.A (assign target X.env u) (fun _ s' => ∃ σ' H', Inv X pins σ' H' s' ∧ Q σ' H') X.xe s
/-- several targets, one after another -/
def PGs (X : Cx) (ts : List Expr) (t : TGs) : Prop :=
  ∀ (pins : List (Addr × Obj)) (s : Shared) (σ : St) (H : Hp) (vs : List V) (us : List Value) (Q : St → Hp → Prop), Inv X pins σ H s → Vals vs us → t vs σ H Q →
    wpAny (model X.prog X.w) X.A (assignInOrder ((assignEach ts X.env).map (·.2)) us) (fun _ s' => ∃ σ' H', Inv X pins σ' H' s' ∧ Q σ' H') X.xe s
/-- o[i] = v, by values -/
abbrev TSet := V → V → V → Hp → (Hp → Prop) → Prop
def PSet (X : Cx) (t : TSet) : Prop :=
  ∀ (pins : List (Addr × Obj)) (s : Shared) (σ : St) (H : Hp) (o i v : V) (ov iv u : Value) (Q : Hp → Prop), Inv X pins σ H s → RelV o ov → RelV i iv → RelV v u → t o i v H Q →
    wpAny (model X.prog X.w) X.A (setItem ov iv u) (fun _ s' => ∃ H', Inv X pins σ H' s' ∧ Q H') X.xe s
/-- a op= b, by values -/
abbrev TIp := V → V → Hp → VK → Prop
def PIp (X : Cx) (op : Operator) (t : TIp) : Prop :=
  ∀ (pins : List (Addr × Obj)) (s : Shared) (σ : St) (H : Hp) (x y : V) (v u : Value) (Q : VK), Inv X pins σ H s → RelV x v → RelV y u → t x y H Q →
    wpAny (model X.prog X.w) X.A (inplaceOp op v u) (EP X pins σ Q) X.xe s
section
variable {X : Cx} {pos : Pos}
def gName (i : Nat) : TG := fun v σ H Q => Q (σ.set i (some v)) H
theorem pg_name {i : Nat} {x : Str} (hN : X.N.Nodup) (hi : X.N[i]? = some x) (hx : Loc X.env.scope x) (hf : X.fn x = true ∨ X.env.scope.names.lookup x = some .local := by first | exact .inl rfl | exact .inr rfl | assumption) : PG X (.Name x pos) (gName i) := by
  intro pins s σ H v u Q I r h
  exact wpAny_assign_Name (store_ok I hN hi hx r (fun s' I' => ⟨_, H, I', h⟩) hf)
def gNil : TGs := fun vs σ H Q => vs = [] ∧ Q σ H
def gCons (t : TG) (u : TGs) : TGs := fun vs σ H Q => ∃ v r, vs = v :: r ∧ t v σ H fun σ' H' => u r σ' H' Q
theorem pgs_nil : PGs X [] gNil := by
  intro pins s σ H vs us Q I r h
  obtain ⟨e, h⟩ := h
  subst e
  cases r
  exact assignInOrder_nil ⟨σ, H, I, h⟩
theorem pgs_cons {e : Expr} {es : List Expr} {t : TG} {u : TGs} (h1 : PG X e t) (h2 : PGs X es u)
    (hs : (assignEach (e :: es) X.env).map (·.2) = assign e X.env :: (assignEach es X.env).map (·.2) := by rfl) : PGs X (e :: es) (gCons t u) := by
  intro pins s σ H vs us Q I r h
  obtain ⟨v, vr, e1, h⟩ := h
  subst e1
  cases r with
  | cons r rr =>
    rw [hs]
    refine assignInOrder_cons (thn (h1 pins s σ H _ _ _ I r h) fun _ s1 ⟨σ1, H1, I1, q1⟩ => ?_)
    exact h2 pins s1 σ1 H1 _ _ Q I1 rr q1
/-- (a, b, ..) = a tuple of that length -/
def gTup (K : PySem.W.Frag) (n : Nat) (t : TGs) : TG := fun v σ H Q => ∃ a xs, v = .ref a ∧ SqT K H a xs ∧ xs.length = n ∧ t xs σ H Q
theorem pg_tup {es : List Expr} {k : Nat} {t : TGs} {n : Nat} (hc : X.calm = true) (h : PGs X es t)
    (hn : (assignEach es X.env).length = n := by rfl) (hst : (assignEach es X.env).findIdx? (·.1) = none := by rfl) : PG X (.Tuple es k pos) (gTup X.K n t) := by
  intro pins s σ H v u Q I r hw
  obtain ⟨a, xs, e1, hq, hl, hw⟩ := hw
  subst e1
  cases r
  obtain ⟨its, rv, ht, hz⟩ := I.tuple hq
  refine assign_Tuple_tuple (I.ok.hd hc) ht (by simp [hn, ← hl, rv.length]) hst fun h' hx => ?_
  have I1 : Inv X pins σ H { s with heap := h' } := I.kept (t' := s.toks) fun b o e => hx b o (Nat.ne_of_lt (Heap.lt_size e)) e
  exact h pins _ σ H xs _ Q I1 (by simpa using rv) hw
/-- o[i] = .. -/
def gSub (to ti : TE) (t : TSet) : TG := fun v σ H Q => to σ H fun o H1 => ti σ H1 fun i H2 => t o i v H2 fun H3 => Q σ H3
theorem pg_sub {o i : Expr} {to ti : TE} {t : TSet} (ho : PE X o to) (hi : PE X i ti) (hs : PSet X t)
    (ha : ∀ v, assign (.Subscript o i pos) X.env v = (do
      let ov ← holding [v] (eval o X.env)
      let iv ← holding [v, ov] (eval i X.env)
      standAt pos
      holding [v, ov, iv] (setItem ov iv v)
      release [v, ov, iv] []) := by intro _; rfl) : PG X (.Subscript o i pos) (gSub to ti t) := by
  intro pins s σ H v u Q I r h
  rw [ha]
  refine wpAny_bind (wpAny_holding (thn (ho pins s σ H _ I h) fun ov s1 ⟨x, H1, I1, r1, q1⟩ => ?_))
  refine wpAny_bind (wpAny_holding (thn (hi pins s1 σ H1 _ I1 q1) fun iv s2 ⟨y, H2, I2, r2, q2⟩ => ?_))
  refine wpAny_bind (wpAny_standAt (wpAny_bind (wpAny_holding (thn (hs pins s2 σ H2 x y v ov iv u _ I2 r1 r2 r q2) fun _ s3 ⟨H3, I3, q3⟩ => ?_))))
  exact wpAny_release ⟨σ, H3, I3, q3⟩
/-- target = value -/
def tAsg (te : TE) (g : TG) : TS := fun D σ H => te σ H fun x H1 => g x σ H1 D.nx
theorem ps_asg {tg e : Expr} {te : TE} {g : TG} (he : PE X e te) (hg : PG X tg g) (hs : swapsWithSole [tg] e pos.line X.env = pure false := by rfl) (hw : swappedStores [tg] e X.env = pure none := by rfl)
    (h1 : (assignEach [tg] X.env).map (·.2) = [assign tg X.env] := by rfl) : PS X (.Assign [tg] e pos) (tAsg te g) := by
  intro pins s σ H D I h
  refine wpAny_Assign_stores (thn (he pins s σ H _ I h) fun v s1 ⟨x, H1, I1, r1, q1⟩ => ?_) hs hw
  rw [h1]
  exact thn (hg pins s1 σ H1 x v _ I1 r1 q1) fun _ s2 q => q
/-- name = value -/
theorem ps_set {i : Nat} {x : Str} {e : Expr} {te : TE} {pos' : Pos} (hN : X.N.Nodup) (hi : X.N[i]? = some x) (hx : Loc X.env.scope x) (he : PE X e te) (hs : swapsWith e (some (.Name x pos')) pos.line X.env = pure false := by rfl) (hf : X.fn x = true ∨ X.env.scope.names.lookup x = some .local := by first | exact .inl rfl | exact .inr rfl | assumption) :
    PS X (.Assign [.Name x pos'] e pos) (tAsg te (gName i)) := by
  intro pins s σ H D I h
  refine wpAny_Assign_Name (thn (he pins s σ H _ I h) fun v s1 ⟨y, H1, I1, r1, q1⟩ => ?_) hs
  exact store_ok I1 hN hi hx r1 (fun s2 I2 => ⟨_, H1, I2, q1⟩) hf
/-- name op= e -/
def tAug (i : Nat) (te : TE) (ti : TIp) : TS := fun D σ H => ∃ x, σ[i]? = some (some x) ∧ te σ H fun y H1 => ti x y H1 fun z H2 => D.nx (σ.set i (some z)) H2
theorem ps_aug {i : Nat} {x : Str} {e : Expr} {te : TE} {op : Operator} {ti : TIp} {pos' : Pos} (hN : X.N.Nodup) (hi : X.N[i]? = some x) (hx : Loc X.env.scope x) (he : PE X e te) (ho : PIp X op ti) (hf : X.fn x = true ∨ X.env.scope.names.lookup x = some .local := by first | exact .inl rfl | exact .inr rfl | assumption) :
    PS X (.AugAssign (.Name x pos') op e pos) (tAug i te ti) := by
  intro pins s σ H D I h
  obtain ⟨v, e1, h⟩ := h
  obtain ⟨m, hn, hl⟩ := I.loc
  have vis : Vis X.env.scope x := by rcases hx with k | k; exact .inl k; exact .inr (.inl k)
  obtain ⟨u, r, l⟩ := hl i x v hi e1 vis
  refine wpAny_AugAssign_Name ?_
  have go : wpAny (model X.prog X.w) X.A (eval e X.env) (fun w s₂ => wpAny (model X.prog X.w) X.A (inplaceOp op u w) (fun r s₃ => wpAny (model X.prog X.w) X.A (storeName X.env x r) (fun _ => SP X pins D .next) X.xe s₃) X.xe s₂) X.xe s := by
    refine thn (he pins s σ H _ I h) fun w s1 ⟨y, H1, I1, r1, q1⟩ => ?_
    refine thn (ho pins s1 σ H1 v y u w _ I1 r r1 q1) fun z s2 ⟨zv, H2, I2, r2, q2⟩ => ?_
    exact store_ok I2 hN hi hx r2 (fun s3 I3 => ⟨_, H2, I3, q2⟩) hf
  rcases l with ⟨hk, hm⟩ | ⟨hk, c, hc, hcell⟩
  · exact wpAny_loadName_local I.ok.kind hk hn hm go
  · rcases hk with hk | hk
    · exact wpAny_loadName_cell I.ok.kind hk hc hcell go
    · rcases hx with k | k
      · have : X.env.scope.names.lookup x = some .free := hk
        rw [k] at this; cases this
      · have : X.env.scope.names.lookup x = some .free := hk
        rw [k] at this; cases this
/-- ints -/
def ipI (f : Int → Int → Int) : TIp := fun x y H Q => ∃ i j, x = .int i ∧ y = .int j ∧ Q (.int (f i j)) H
theorem ip_add : PIp X .Add (ipI fun i j => i + j) := by
  intro pins s σ H x y v u Q I r1 r2 h
  obtain ⟨i, j, e1, e2, q⟩ := h
  subst e1; subst e2
  obtain ⟨t, rfl⟩ := r1
  obtain ⟨t', rfl⟩ := r2
  exact iadd_int ⟨.int _, H, I.tok _, ⟨_, rfl⟩, q⟩
end

/-! ### while -/
section
variable {X : Cx} {pos : Pos}
/-- the invariant W with its measure -/
def tWhile (c : TT) (tb : TS) : TS := fun D σ H => ∃ W : Nat → St → Hp → Prop, (∃ m, W m σ H) ∧ ∀ m σ H, W m σ H →
  c σ H fun b H1 => if b = true then ∃ N : St → Hp → Prop, (∀ σ' H', N σ' H' → ∃ m', m' < m ∧ W m' σ' H') ∧ tb { D with nx := N, ct := N, bk := D.nx } σ H1 else D.nx σ H1
theorem ps_while {c : Expr} {body : List Stmt} {tc : TT} {tb : TS} (hp : PassesOwn (model X.prog X.w) X.A X.env X.xe) (hc : PT X c tc) (hb : PSs X body tb) : PS X (.While c body [] pos) (tWhile tc tb) := by
  intro pins s σ H D I h
  obtain ⟨W, ⟨m0, w0⟩, turn⟩ := h
  refine wpAny_While (codeAny_whileLoop (fun n s' => ∃ σ' H', Inv X pins σ' H' s' ∧ W n σ' H') ?_ m0 ⟨σ, H, I, w0⟩)
  rintro n s1 ⟨σ1, H1, I1, w1⟩
  refine wpAny_passesOwn hp (thn (hc pins s1 σ1 H1 _ I1 (turn n σ1 H1 w1)) fun b s2 ⟨H2, I2, q2⟩ => ?_)
  cases b with
  | true =>
    obtain ⟨N, hN, q2⟩ := q2
    rw [if_pos rfl]
    refine wpAny_passesOwn hp (thn (hb pins s2 σ1 H2 _ I2 q2) fun f s3 q3 => ?_)
    cases f with
    | next =>
      obtain ⟨σ3, H3, I3, n3⟩ := q3
      obtain ⟨m', hm, w3⟩ := hN σ3 H3 n3
      exact ⟨m', hm, σ3, H3, I3, w3⟩
    | cont =>
      obtain ⟨σ3, H3, I3, n3⟩ := q3
      obtain ⟨m', hm, w3⟩ := hN σ3 H3 n3
      exact ⟨m', hm, σ3, H3, I3, w3⟩
    | brk => exact q3
    | ret v => exact q3
  | false =>
    rw [if_neg Bool.false_ne_true]
    exact wpAny_execs_nil ⟨σ1, H2, I2, q2⟩
end

/-! ### what a loop or a comprehension walks -/
/-- at turn i: it yields x (the heap may grow), or it stops -/
structure It where
  go : Nat → Hp → Prop
  yld : Nat → Hp → V → Hp → Prop
  stop : Nat → Hp → Prop
/-- the iterator's own objects may turn: they are not the frame's, not pinned, younger than the entry (or a comprehension's own) -/
def FpOk (X : Cx) (pins : List (Addr × Obj)) (H : Hp) (b : Addr) : Prop :=
  H b = none ∧ b ≠ X.env.locals ∧ b ∉ X.fs ∧ (b ∈ X.ex ∨ X.s_0.heap.objs.size ≤ b) ∧ (∀ x c, X.env.cells.lookup x = some c → c ≠ b) ∧ ∀ p ∈ X.pn ++ pins, p.1 ≠ b
theorem Inv.fpOk {X : Cx} {pins : List (Addr × Obj)} {σ : St} {H H' : Hp} {s : Shared} {b : Addr} (I : Inv X pins σ H s) (hb : s.heap.objs.size ≤ b) (hn : H' b = none) : FpOk X pins H' b := by
  refine ⟨hn, Nat.ne_of_gt (Nat.lt_of_lt_of_le I.lt hb), I.nofs hb, .inr (Nat.le_trans I.sz hb), fun x c e z => ?_, fun p hp z => ?_⟩
  · obtain ⟨v, q⟩ := I.cell x c e
    exact absurd (Nat.lt_of_lt_of_le q.lt (by rw [z]; exact hb)) (Nat.lt_irrefl _)
  · exact absurd (Nat.lt_of_lt_of_le (Heap.lt_size (I.pin p hp).1) (by rw [z]; exact hb)) (Nat.lt_irrefl _)
structure Turn (P : Program) (w : World) (K : PySem.W.Frag) (tg : Expr) (J : It) (fp : List Addr) (it : Addr) (tn : Nat → Heap → Prop) : Prop where
  mem : it ∈ fp
  obj : ∀ i h, tn i h → ∀ b ∈ fp, ∃ o, h.get? b = some o ∧ ∀ v, o.data ≠ .cell v
  keep : ∀ i h h', tn i h → (∀ b ∈ fp, ∀ o, h.get? b = some o → h'.get? b = some o) → tn i h'
  item : ∀ (X : Cx), X.prog = P → X.w = w → X.K = K → X.calm = true → ∀ (i : Nat) (pins : List (Addr × Obj)) (s : Shared) (σ : St) (H : Hp) (E : Value → Shared → Prop), Inv X pins σ H s → (∀ b ∈ fp, FpOk X pins H b) → tn i s.heap → J.go i H →
    wpAny (model P w) X.A (pyNext (.ref it)) (fun r s1 => ∃ u, r = some u ∧
      wpAny (model P w) X.A (letOwnedTupleGo tg (.ref it) u) (fun _ s2 => ∃ x H', Inv X pins σ H' s2 ∧ RelV x u ∧ J.yld i H x H' ∧ tn (i + 1) s2.heap ∧ ∀ b ∈ fp, H' b = none) E s1) E s
  done : ∀ (X : Cx), X.prog = P → X.w = w → X.K = K → X.calm = true → ∀ (i : Nat) (pins : List (Addr × Obj)) (s : Shared) (σ : St) (H : Hp) (E : Value → Shared → Prop), Inv X pins σ H s → (∀ b ∈ fp, FpOk X pins H b) → tn i s.heap → J.stop i H →
    wpAny (model P w) X.A (pyNext (.ref it)) (fun r s1 => r = none ∧ Inv X pins σ H s1) E s
  self : ∀ (A : Around) (i : Nat) (s : Shared) (Q : Value → Shared → Prop) (E : Value → Shared → Prop), tn i s.heap → Q (.ref it) s → wpAny (model P w) A (pyIter (.ref it)) Q E s
abbrev TI := St → Hp → (It → Hp → Prop) → Prop
/-- an iterator has come -/
def PIE (X : Cx) (pins : List (Addr × Obj)) (σ : St) (tg : Expr) (R : It → Hp → Prop) (itv : Value) (s2 : Shared) : Prop :=
  ∃ (it : Addr) (fp : List Addr) (tn : Nat → Heap → Prop) (J : It) (H' : Hp), itv = .ref it ∧ Inv X pins σ H' s2 ∧ Turn X.prog X.w X.K tg J fp it tn ∧ tn 0 s2.heap ∧ (∀ b ∈ fp, FpOk X pins H' b) ∧ R J H'
def PI (X : Cx) (tg iter : Expr) (wi : TI) : Prop :=
  ∀ (pins : List (Addr × Obj)) (s : Shared) (σ : St) (H : Hp) (R : It → Hp → Prop), Inv X pins σ H s → wi σ H R →
    wpAny (model X.prog X.w) X.A (eval iter X.env) (fun v s1 => wpAny (model X.prog X.w) X.A (pyIter v) (PIE X pins σ tg R) X.xe s1) X.xe s

/-- the step ahead of the store is nothing for an iterator that keeps no tuple -/
theorem go_of {M : Model} {A : Around} {E : Value → Shared → Prop} {s : Shared} {tg : Expr} {it : Addr} {u : Value} {o : Obj} {n : String} {vs : Array Value} {Q : Unit → Shared → Prop} (ho : s.heap.get? it = some o) (hc : o.cls = .type n) (hd : o.data = .fields vs)
    (hn : ["enumerate", "zip", "dict_itemiterator", "dict_reverseitemiterator", "odict_iterator", "itertools.zip_longest", "itertools.pairwise"].contains n = false) (hQ : Q () s) : wpAny M A (letOwnedTupleGo tg (.ref it) u) Q E s := by
  unfold letOwnedTupleGo
  cases tg <;> first
    | exact wpAny_pure hQ
    | (cases u <;> first
        | exact wpAny_pure hQ
        | (refine wpAny_bind (wpAny_load ho ?_)
           rw [hc, hd]
           show wpAny M A (if (["enumerate", "zip", "dict_itemiterator", "dict_reverseitemiterator", "odict_iterator", "itertools.zip_longest", "itertools.pairwise"].contains n && vs[0]? == some (rawInt _)) = true then _ else _) Q E s
           rw [if_neg (by intro h; rw [hn, Bool.false_and] at h; cases h)]
           exact wpAny_pure hQ))

/-- the list at a, as it stands at each turn (a loop may append to it) -/
def Itl (K : PySem.W.Frag) (a : Addr) : It :=
  ⟨fun i H => ∃ xs x, SqL K H a xs ∧ xs[i]? = some x, fun i H x H' => H' = H ∧ ∀ xs, SqL K H a xs → xs[i]? = some x, fun i H => ∃ xs, SqL K H a xs ∧ xs.length ≤ i⟩
def Itt (K : PySem.W.Frag) (a : Addr) : It :=
  ⟨fun i H => ∃ xs x, SqT K H a xs ∧ xs[i]? = some x, fun i H x H' => H' = H ∧ ∀ xs, SqT K H a xs → xs[i]? = some x, fun i H => ∃ xs, SqT K H a xs ∧ xs.length ≤ i⟩
/-- lo, lo + 1, .. (n of them) -/
def Itr (lo : Int) (n : Nat) : It := ⟨fun i _ => i < n, fun i H x H' => H' = H ∧ x = .int (lo + i), fun i _ => n ≤ i⟩
theorem turn_list {P : Program} {w : World} {K : PySem.W.Frag} {tg : Expr} (a it : Addr) : Turn P w K tg (Itl K a) [it] it (fun i h => h.IsListIter it a i) where
  mem := by simp
  obj := fun i h st b hb => by
    have e : b = it := by simpa using hb
    subst e
    obtain ⟨o, e, c, d⟩ := st
    exact ⟨o, e, fun v z => by rw [d] at z; cases z⟩
  keep := fun i h h' st k => st.at fun o e => k it (by simp) o e
  item := by
    intro X hP hw hK hc i pins s σ H E I hf st hg
    subst hP hw hK
    obtain ⟨xs, x, hq, hx⟩ := hg
    obtain ⟨its, rv, p, hz⟩ := I.list hq
    obtain ⟨u, hu, ru⟩ := rv.get hx
    obtain ⟨f0, f1, f2, f3, f4, f5⟩ := hf it (by simp)
    refine wpAny_pyNext_list_item st p.isList (x := u) (by simpa using hu) fun h' st' sb => ?_
    have I1 : Inv X pins σ H { s with heap := h' } := I.turned (t' := s.toks) (fun b o hb e => (sb.2 b hb).trans e) f0 f1 f3 f4 f5
    obtain ⟨o, e, c, d⟩ := id st'
    exact ⟨u, rfl, go_of (s := { s with heap := h' }) e c d (by decide) ⟨x, H, I1, ru, ⟨rfl, fun ys hy => by rw [I.list_inj hy hq]; exact hx⟩, st', fun b hb => (hf b hb).1⟩⟩
  done := by
    intro X hP hw hK hc i pins s σ H E I hf st hg
    subst hP hw hK
    obtain ⟨xs, hq, hx⟩ := hg
    obtain ⟨its, rv, p, hz⟩ := I.list hq
    obtain ⟨f0, f1, f2, f3, f4, f5⟩ := hf it (by simp)
    have hl := rv.length
    exact wpAny_pyNext_list_end (I.ok.hd hc) st p.isList (by simp; omega) fun h' eb => ⟨rfl, I.turned (t' := s.toks) (fun b o hb e => eb b o hb e) f0 f1 f3 f4 f5⟩
  self := fun _ _ _ _ _ st h => wpAny_pyIter_listiter st h
theorem turn_tuple {P : Program} {w : World} {K : PySem.W.Frag} {tg : Expr} (a it : Addr) : Turn P w K tg (Itt K a) [it] it (fun i h => h.IsTupleIter it a i) where
  mem := by simp
  obj := fun i h st b hb => by
    have e : b = it := by simpa using hb
    subst e
    obtain ⟨o, e, c, d⟩ := st
    exact ⟨o, e, fun v z => by rw [d] at z; cases z⟩
  keep := fun i h h' st k => st.at fun o e => k it (by simp) o e
  item := by
    intro X hP hw hK hc i pins s σ H E I hf st hg
    subst hP hw hK
    obtain ⟨xs, x, hq, hx⟩ := hg
    obtain ⟨its, rv, p, hz⟩ := I.tuple hq
    obtain ⟨u, hu, ru⟩ := rv.get hx
    obtain ⟨f0, f1, f2, f3, f4, f5⟩ := hf it (by simp)
    refine wpAny_pyNext_tuple_item st (show s.heap.IsTuple a its.toArray from p) (x := u) (by simpa using hu) fun h' st' sb => ?_
    have I1 : Inv X pins σ H { s with heap := h' } := I.turned (t' := s.toks) (fun b o hb e => (sb.2 b hb).trans e) f0 f1 f3 f4 f5
    obtain ⟨o, e, c, d⟩ := id st'
    exact ⟨u, rfl, go_of (s := { s with heap := h' }) e c d (by decide) ⟨x, H, I1, ru, ⟨rfl, fun ys hy => by rw [I.tuple_inj hy hq]; exact hx⟩, st', fun b hb => (hf b hb).1⟩⟩
  done := by
    intro X hP hw hK hc i pins s σ H E I hf st hg
    subst hP hw hK
    obtain ⟨xs, hq, hx⟩ := hg
    obtain ⟨its, rv, p, hz⟩ := I.tuple hq
    obtain ⟨f0, f1, f2, f3, f4, f5⟩ := hf it (by simp)
    have hl := rv.length
    exact wpAny_pyNext_tuple_end (I.ok.hd hc) st (show s.heap.IsTuple a its.toArray from p) (by simp; omega) fun h' eb => ⟨rfl, I.turned (t' := s.toks) (fun b o hb e => eb b o hb e) f0 f1 f3 f4 f5⟩
  self := fun _ _ _ _ _ st h => wpAny_pyIter_tupleiter st h
theorem turn_range {P : Program} {w : World} {K : PySem.W.Frag} {tg : Expr} (it : Addr) (lo : Int) (n : Nat) : Turn P w K tg (Itr lo n) [it] it (fun i h => IsRangeIter h it (lo + (i : Nat) * 1) ((n : Int) - (i : Nat)) 1) where
  mem := by simp
  obj := fun i h st b hb => by
    have e : b = it := by simpa using hb
    subst e
    exact ⟨_, st, fun v z => by
      have z' : Data.fields _ = Data.cell v := z
      cases z'⟩
  keep := fun i h h' st k => k it (by simp) _ st
  item := by
    intro X hP hw hK hc i pins s σ H E I hf st hg
    subst hP hw hK
    obtain ⟨f0, f1, f2, f3, f4, f5⟩ := hf it (by simp)
    have W := Walks.range (prog := X.prog) (w := X.w) (I.ok.hd hc) it lo 1 n
    refine W.item i s _ _ hg st fun v h' tk hv st' kk => ?_
    obtain ⟨t, rfl⟩ := hv
    have I1 : Inv X pins σ H { s with heap := h', toks := tk } := I.turned (fun b o hb e => kk b o (by simpa using hb) e) f0 f1 f3 f4 f5
    refine ⟨_, rfl, go_of (s := { s with heap := h', toks := tk }) (n := "range_iterator") st' rfl rfl (by decide) ⟨.int (lo + i), H, I1, ⟨t, ?_⟩, ⟨rfl, rfl⟩, st', fun b hb => (hf b hb).1⟩⟩
    rw [Int.mul_one]
  done := by
    intro X hP hw hK hc i pins s σ H E I hf st hg
    subst hP hw hK
    obtain ⟨f0, f1, f2, f3, f4, f5⟩ := hf it (by simp)
    exact wpAny_pyNext_range_end (I.ok.hd hc) st (by have : n ≤ i := hg; omega) fun h' eb => ⟨rfl, I.turned (t' := s.toks) (fun b o hb e => eb b o hb e) f0 f1 f3 f4 f5⟩
  self := fun _ _ _ _ _ st h => wpAny_pyIter_rangeiter st h
end L2

namespace L2
open PySem PySem.Spec PyProof.Rows
section
variable {X : Cx} {tg : Expr}
def iList (K : PySem.W.Frag) (tl : TE) : TI := fun σ H R => tl σ H fun x H1 => ∃ a, x = .ref a ∧ (∃ xs, SqL K H1 a xs) ∧ R (Itl K a) H1
def iTup (K : PySem.W.Frag) (tl : TE) : TI := fun σ H R => tl σ H fun x H1 => ∃ a, x = .ref a ∧ (∃ xs, SqT K H1 a xs) ∧ R (Itt K a) H1
theorem pi_list {l : Expr} {tl : TE} (hl : PE X l tl) : PI X tg l (iList X.K tl) := by
  intro pins s σ H R I h
  refine thn (hl pins s σ H _ I h) fun v s1 ⟨x, H1, I1, r1, q1⟩ => ?_
  obtain ⟨a, e, ⟨xs, hq⟩, q⟩ := q1
  subst e
  cases r1
  obtain ⟨its, rv, p, hz⟩ := I1.list hq
  refine wpAny_pyIter_list p.isList ?_
  refine ⟨s1.heap.objs.size, [s1.heap.objs.size], _, _, H1, rfl, I1.kept (t' := s1.toks) fun b o e => Heap.get?_push_of_some _ e, turn_list a _, ⟨_, Heap.get?_push_size _ rfl, rfl, rfl⟩, fun b hb => ?_, q⟩
  have e : b = s1.heap.objs.size := by simpa using hb
  subst e
  exact I1.fpOk (Nat.le_refl _) (I1.hok.fresh (Nat.le_refl _))
theorem pi_tup {l : Expr} {tl : TE} (hl : PE X l tl) : PI X tg l (iTup X.K tl) := by
  intro pins s σ H R I h
  refine thn (hl pins s σ H _ I h) fun v s1 ⟨x, H1, I1, r1, q1⟩ => ?_
  obtain ⟨a, e, ⟨xs, hq⟩, q⟩ := q1
  subst e
  cases r1
  obtain ⟨its, rv, p, hz⟩ := I1.tuple hq
  refine wpAny_pyIter_tuple (show s1.heap.IsTuple a its.toArray from p) ?_
  refine ⟨s1.heap.objs.size, [s1.heap.objs.size], _, _, H1, rfl, I1.kept (t' := s1.toks) fun b o e => Heap.get?_push_of_some _ e, turn_tuple a _, ⟨_, Heap.get?_push_size _ rfl, rfl, rfl⟩, fun b hb => ?_, q⟩
  have e : b = s1.heap.objs.size := by simpa using hb
  subst e
  exact I1.fpOk (Nat.le_refl _) (I1.hok.fresh (Nat.le_refl _))
/-- a range object just made, walked -/
theorem range_it {pins : List (Addr × Obj)} {σ : St} {H : Hp} {s : Shared} {R : It → Hp → Prop} {E : Value → Shared → Prop} {lo hi : Int} {t u v : Tok} {tk : Nat} (I : Inv X pins σ H s) (h1 : -(2 ^ 62) ≤ lo) (h2 : lo < 2 ^ 62) (h3 : -(2 ^ 62) ≤ hi) (h4 : hi < 2 ^ 62)
    (q : R (Itr lo (hi - lo).toNat) H) : wpAny (model X.prog X.w) X.A (pyIter (.ref s.heap.objs.size)) (PIE X pins σ tg R) E { s with heap := s.heap.push { cls := .type "range", data := .fields #[.int lo t, .int hi u, .int 1 v] }, toks := tk } := by
  refine wpAny_pyIter_range (IsRange.new ..) (small_one h1 h2 h3 h4) ?_
  have I1 : Inv X pins σ H { s with heap := s.heap.push { cls := .type "range", data := .fields #[.int lo t, .int hi u, .int 1 v] }, toks := tk } := I.kept fun b o e => Heap.get?_push_of_some _ e
  refine ⟨(s.heap.push { cls := .type "range", data := .fields #[.int lo t, .int hi u, .int 1 v] }).objs.size, [(s.heap.push { cls := .type "range", data := .fields #[.int lo t, .int hi u, .int 1 v] }).objs.size], _, _, H, rfl,
    I1.kept (t' := tk) fun b o e => Heap.get?_push_of_some _ e, turn_range _ lo (hi - lo).toNat, ?_, fun b hb => ?_, q⟩
  · have e1 : lo + ((0 : Nat) : Int) * 1 = lo := by simp
    have e2 : (((hi - lo).toNat : Nat) : Int) - ((0 : Nat) : Int) = Builtin.Range.rangeSize lo hi 1 := by rw [rangeSize_one]; split <;> omega
    show IsRangeIter _ _ (lo + ((0 : Nat) : Int) * 1) ((((hi - lo).toNat : Nat) : Int) - ((0 : Nat) : Int)) 1
    rw [e1, e2]
    exact Heap.get?_push_size _ rfl
  · have e : b = (s.heap.push { cls := .type "range", data := .fields #[.int lo t, .int hi u, .int 1 v] }).objs.size := by simpa using hb
    subst e
    exact I1.fpOk (Nat.le_refl _) (I1.hok.fresh (Nat.le_refl _))
def iRng1 (ta : TA) : TI := fun σ H R => ta σ H fun vs H1 => ∃ j : Int, vs = [.int j] ∧ -(2 ^ 62) ≤ j ∧ j < 2 ^ 62 ∧ R (Itr 0 j.toNat) H1
def iRng2 (ta : TA) : TI := fun σ H R => ta σ H fun vs H1 => ∃ i j : Int, vs = [.int i, .int j] ∧ (-(2 ^ 62) ≤ i ∧ i < 2 ^ 62 ∧ -(2 ^ 62) ≤ j ∧ j < 2 ^ 62) ∧ R (Itr i (j - i).toNat) H1
theorem pi_range1 {a : Expr} {ta : TA} {p pos : Pos} (hg : Gl X "range") (hm : X.mg "range" = none) (ha : PA X [a] ta) (hs : starEach [a] X.env = [(false, eval a X.env)] := by rfl) : PI X tg (.Call (.Name "range" p) [a] [] pos) (iRng1 ta) := by
  intro pins s σ H R I h
  refine Call_ (ld_blt I hg hm boot_range (PyProof.Rows.callWith_type1 (thn (ha pos pins s σ H _ I h) fun us s1 ⟨vs, H1, I1, r1, q1⟩ => ?_) hs rfl))
  obtain ⟨j, e, q1, q2, q⟩ := q1
  subst e
  cases r1 with
  | cons r rr =>
    cases rr
    obtain ⟨t, rfl⟩ := r
    exact call_range_1 (range_it I1 (by omega) (by omega) q1 q2 (by simpa using q))
theorem pi_range2 {a b : Expr} {ta : TA} {p pos : Pos} (hg : Gl X "range") (hm : X.mg "range" = none) (ha : PA X [a, b] ta) (hs : starEach [a, b] X.env = [(false, eval a X.env), (false, eval b X.env)] := by rfl) (hs2 : starEach [b] X.env = [(false, eval b X.env)] := by rfl) :
    PI X tg (.Call (.Name "range" p) [a, b] [] pos) (iRng2 ta) := by
  intro pins s σ H R I h
  refine Call_ (ld_blt I hg hm boot_range (PyProof.Rows.callWith_type1 (thn (ha pos pins s σ H _ I h) fun us s1 ⟨vs, H1, I1, r1, q1⟩ => ?_) (by rw [hs, hs2]) (by rw [hs2]; rfl)))
  obtain ⟨i, j, e, ⟨q1, q2, q3, q4⟩, q⟩ := q1
  subst e
  cases r1 with
  | cons r rr =>
    cases rr with
    | cons r' rr =>
      cases rr
      obtain ⟨t, rfl⟩ := r
      obtain ⟨t', rfl⟩ := r'
      exact call_range_2 (range_it I1 q1 q2 q3 q4 q)

/-! ### for -/
/-- W: the invariant by the turn and a measure; N: what the body is to reach -/
def tFor (wi : TI) (g : TG) (tb : TS) : TS := fun D σ H => wi σ H fun J H1 => ∃ W : Nat → Nat → St → Hp → Prop, (∃ m, W 0 m σ H1) ∧ ∀ i m σ H, W i m σ H →
  (J.stop i H ∧ D.nx σ H) ∨ (J.go i H ∧ ∃ N : St → Hp → Prop, (∀ σ' H', N σ' H' → ∃ m', m' < m ∧ W (i + 1) m' σ' H') ∧ ∀ x H', J.yld i H x H' → g x σ H' fun σ2 H2 => tb { D with nx := N, ct := N, bk := D.nx } σ2 H2)
/-- the records at fp as they stand -/
def pinsAt (fp : List Addr) (h : Heap) : List (Addr × Obj) := fp.filterMap fun b => (h.get? b).map fun o => (b, o)
theorem mem_pinsAt {fp : List Addr} {h : Heap} {b : Addr} {o : Obj} (hb : b ∈ fp) (e : h.get? b = some o) : (b, o) ∈ pinsAt fp h := List.mem_filterMap.mpr ⟨b, hb, by rw [e]; rfl⟩
theorem of_pinsAt {fp : List Addr} {h : Heap} {p : Addr × Obj} (hp : p ∈ pinsAt fp h) : p.1 ∈ fp ∧ h.get? p.1 = some p.2 := by
  obtain ⟨b, hb, e⟩ := List.mem_filterMap.mp hp
  cases q : h.get? b with
  | none => rw [q] at e; cases e
  | some o =>
    rw [q] at e
    have e' : (b, o) = p := Option.some.inj e
    subst e'
    exact ⟨hb, q⟩
theorem Inv.pinned {pins : List (Addr × Obj)} {σ : St} {H : Hp} {s : Shared} {fp : List Addr} (I : Inv X pins σ H s) (hf : ∀ b ∈ fp, FpOk X pins H b) (ho : ∀ b ∈ fp, ∃ o, s.heap.get? b = some o ∧ ∀ v, o.data ≠ .cell v) : Inv X (pins ++ pinsAt fp s.heap) σ H s :=
  I.pins_of fun p hp => (List.mem_append.mp hp).elim (fun z => I.pin p (List.mem_append_right _ z)) fun z => by
    obtain ⟨hb, e⟩ := of_pinsAt z
    obtain ⟨f0, f1, f2, _⟩ := hf p.1 hb
    obtain ⟨o, e', d⟩ := ho p.1 hb
    rw [e] at e'; cases e'
    exact ⟨e, f0, f1, f2, d⟩
theorem Inv.unpinned {pins pl : List (Addr × Obj)} {σ : St} {H : Hp} {s : Shared} (I : Inv X (pins ++ pl) σ H s) : Inv X pins σ H s := I.pins_of fun p hp => I.pin p (List.mem_append_right _ (List.mem_append_left _ hp))
theorem ps_for {iter : Expr} {body : List Stmt} {wi : TI} {g : TG} {tb : TS} {pos : Pos} (hp : PassesOwn (model X.prog X.w) X.A X.env X.xe) (hc : X.calm = true) (hi : PI X tg iter wi) (hg : PG X tg g) (hb : PSs X body tb)
    (hs : ∀ x, foldedSetIterable iter X.env x = pure x := by intro _; rfl) : PS X (.For tg iter body [] pos) (tFor wi g tb) := by
  intro pins s σ H D I h
  refine wpAny_For (thn (hi pins s σ H _ I h) fun v s1 h1 => thn h1 fun itv s2 h2 => ?_) hs
  obtain ⟨it, fp, tn, J, H2, e, I2, T, st2, f2, W, ⟨m0, w0⟩, turn⟩ := h2
  subst e
  -- what stays true of the iterator's objects through the loop
  have stat : ∀ {H' : Hp}, (∀ b ∈ fp, H' b = none) → ∀ b ∈ fp, FpOk X pins H' b := fun hn b hb => ⟨hn b hb, (f2 b hb).2⟩
  refine codeAny_forLoop_any (fun n s' => ∃ i σ' H', Inv X pins σ' H' s' ∧ tn i s'.heap ∧ (∀ b ∈ fp, H' b = none) ∧ W i n σ' H') ?_ m0 ⟨0, σ, H2, I2, st2, fun b hb => (f2 b hb).1, w0⟩
  rintro n s3 ⟨i, σ3, H3, I3, st3, fr3, w3⟩
  rcases turn i n σ3 H3 w3 with ⟨stop, qn⟩ | ⟨go, N, hN, step⟩
  · refine wpAny_passesOwn hp (thn (T.done X rfl rfl rfl hc i pins s3 σ3 H3 X.xe I3 (stat fr3) st3 stop) fun r s4 ⟨hr, I4⟩ => ?_)
    subst hr
    exact wpAny_execs_nil ⟨σ3, H3, I4, qn⟩
  · refine wpAny_passesOwn hp (thn (T.item X rfl rfl rfl hc i pins s3 σ3 H3 X.xe I3 (stat fr3) st3 go) fun r s4 ⟨u, hr, h4⟩ => ?_)
    subst hr
    refine wpAny_passesOwn hp (thn h4 fun _ s5 ⟨x, H5, I5, r5, y5, st5, fr5⟩ => ?_)
    have I5' := I5.pinned (stat fr5) (T.obj _ _ st5)
    refine wpAny_passesOwn hp (thn (hg _ s5 σ3 H5 x u _ I5' r5 (step x H5 y5)) fun _ s6 ⟨σ6, H6, I6, q6⟩ => ?_)
    refine wpAny_passesOwn hp (thn (hb _ s6 σ6 H6 _ I6 q6) fun f s7 q7 => ?_)
    have again : ∀ {σ7 : St} {H7 : Hp}, Inv X (pins ++ pinsAt fp s5.heap) σ7 H7 s7 → N σ7 H7 → ∃ m, m < n ∧ ∃ i σ' H', Inv X pins σ' H' s7 ∧ tn i s7.heap ∧ (∀ b ∈ fp, H' b = none) ∧ W i m σ' H' := fun {σ7 H7} I7 n7 => by
      obtain ⟨m', hm, w7⟩ := hN σ7 H7 n7
      refine ⟨m', hm, i + 1, σ7, H7, I7.unpinned, T.keep _ _ _ st5 fun b hb o e => (I7.pin (b, o) (List.mem_append_right _ (List.mem_append_right _ (mem_pinsAt hb e)))).1, fun b hb => ?_, w7⟩
      obtain ⟨o, e, d⟩ := T.obj _ _ st5 b hb
      exact (I7.pin (b, o) (List.mem_append_right _ (List.mem_append_right _ (mem_pinsAt hb e)))).2.1
    cases f with
    | next => obtain ⟨σ7, H7, I7, n7⟩ := q7; exact again I7 n7
    | cont => obtain ⟨σ7, H7, I7, n7⟩ := q7; exact again I7 n7
    | brk => obtain ⟨σ7, H7, I7, q7⟩ := q7; exact ⟨σ7, H7, I7.unpinned, q7⟩
    | ret v => obtain ⟨x7, σ7, H7, I7, r7, q7⟩ := q7; exact ⟨x7, σ7, H7, I7.unpinned, r7, q7⟩
end

/-! ### the forms one uses -/
/-- over a list that the body leaves as it is -/
theorem for_list {K : PySem.W.Frag} {a : Addr} {xs : List V} {g : TG} {tb : TS} {D : Ends} {σ : St} {H : Hp} (Pv : Nat → St → Hp → Prop) (h0 : Pv 0 σ H) (hl : ∀ i σ H, i ≤ xs.length → Pv i σ H → SqL K H a xs)
    (hs : ∀ i x σ H, xs[i]? = some x → Pv i σ H → g x σ H fun σ2 H2 => tb { D with nx := Pv (i + 1), ct := Pv (i + 1), bk := D.nx } σ2 H2) (hd : ∀ σ H, Pv xs.length σ H → D.nx σ H) :
    ∃ W : Nat → Nat → St → Hp → Prop, (∃ m, W 0 m σ H) ∧ ∀ i m σ H, W i m σ H →
      ((Itl K a).stop i H ∧ D.nx σ H) ∨ ((Itl K a).go i H ∧ ∃ N : St → Hp → Prop, (∀ σ' H', N σ' H' → ∃ m', m' < m ∧ W (i + 1) m' σ' H') ∧ ∀ x H', (Itl K a).yld i H x H' → g x σ H' fun σ2 H2 => tb { D with nx := N, ct := N, bk := D.nx } σ2 H2) := by
  refine ⟨fun i m σ H => m = xs.length - i ∧ i ≤ xs.length ∧ Pv i σ H, ⟨xs.length, by simp, Nat.zero_le _, h0⟩, ?_⟩
  rintro i m σ H ⟨rfl, hi, p⟩
  have q := hl i σ H hi p
  by_cases hlt : i < xs.length
  · refine .inr ⟨⟨xs, xs[i], q, by simp [hlt]⟩, Pv (i + 1), fun σ' H' p' => ⟨xs.length - (i + 1), by omega, rfl, hlt, p'⟩, fun x H' y => ?_⟩
    obtain ⟨e, y⟩ := y
    subst e
    exact hs i x σ _ (y xs q) p
  · have e : i = xs.length := by omega
    subst e
    exact .inl ⟨⟨xs, q, Nat.le_refl _⟩, hd σ H p⟩
theorem for_tup {K : PySem.W.Frag} {a : Addr} {xs : List V} {g : TG} {tb : TS} {D : Ends} {σ : St} {H : Hp} (Pv : Nat → St → Hp → Prop) (h0 : Pv 0 σ H) (hl : ∀ i σ H, i ≤ xs.length → Pv i σ H → SqT K H a xs)
    (hs : ∀ i x σ H, xs[i]? = some x → Pv i σ H → g x σ H fun σ2 H2 => tb { D with nx := Pv (i + 1), ct := Pv (i + 1), bk := D.nx } σ2 H2) (hd : ∀ σ H, Pv xs.length σ H → D.nx σ H) :
    ∃ W : Nat → Nat → St → Hp → Prop, (∃ m, W 0 m σ H) ∧ ∀ i m σ H, W i m σ H →
      ((Itt K a).stop i H ∧ D.nx σ H) ∨ ((Itt K a).go i H ∧ ∃ N : St → Hp → Prop, (∀ σ' H', N σ' H' → ∃ m', m' < m ∧ W (i + 1) m' σ' H') ∧ ∀ x H', (Itt K a).yld i H x H' → g x σ H' fun σ2 H2 => tb { D with nx := N, ct := N, bk := D.nx } σ2 H2) := by
  refine ⟨fun i m σ H => m = xs.length - i ∧ i ≤ xs.length ∧ Pv i σ H, ⟨xs.length, by simp, Nat.zero_le _, h0⟩, ?_⟩
  rintro i m σ H ⟨rfl, hi, p⟩
  have q := hl i σ H hi p
  by_cases hlt : i < xs.length
  · refine .inr ⟨⟨xs, xs[i], q, by simp [hlt]⟩, Pv (i + 1), fun σ' H' p' => ⟨xs.length - (i + 1), by omega, rfl, hlt, p'⟩, fun x H' y => ?_⟩
    obtain ⟨e, y⟩ := y
    subst e
    exact hs i x σ _ (y xs q) p
  · have e : i = xs.length := by omega
    subst e
    exact .inl ⟨⟨xs, q, Nat.le_refl _⟩, hd σ H p⟩
theorem for_range {lo : Int} {n : Nat} {g : TG} {tb : TS} {D : Ends} {σ : St} {H : Hp} (Pv : Nat → St → Hp → Prop) (h0 : Pv 0 σ H)
    (hs : ∀ i σ H, i < n → Pv i σ H → g (.int (lo + i)) σ H fun σ2 H2 => tb { D with nx := Pv (i + 1), ct := Pv (i + 1), bk := D.nx } σ2 H2) (hd : ∀ σ H, Pv n σ H → D.nx σ H) :
    ∃ W : Nat → Nat → St → Hp → Prop, (∃ m, W 0 m σ H) ∧ ∀ i m σ H, W i m σ H →
      ((Itr lo n).stop i H ∧ D.nx σ H) ∨ ((Itr lo n).go i H ∧ ∃ N : St → Hp → Prop, (∀ σ' H', N σ' H' → ∃ m', m' < m ∧ W (i + 1) m' σ' H') ∧ ∀ x H', (Itr lo n).yld i H x H' → g x σ H' fun σ2 H2 => tb { D with nx := N, ct := N, bk := D.nx } σ2 H2) := by
  refine ⟨fun i m σ H => m = n - i ∧ i ≤ n ∧ Pv i σ H, ⟨n, by simp, Nat.zero_le _, h0⟩, ?_⟩
  rintro i m σ H ⟨rfl, hi, p⟩
  by_cases hlt : i < n
  · refine .inr ⟨hlt, Pv (i + 1), fun σ' H' p' => ⟨n - (i + 1), by omega, rfl, hlt, p'⟩, fun x H' y => ?_⟩
    obtain ⟨e, y⟩ := y
    subst e y
    exact hs i σ _ hlt p
  · have e : i = n := by omega
    subst e
    exact .inl ⟨Nat.le_refl _, hd σ H p⟩
/-- while, by a word and a measure of the state -/
theorem while_by {c : TT} {tb : TS} {D : Ends} {σ : St} {H : Hp} (Pv : St → Hp → Prop) (μ : St → Hp → Nat) (h0 : Pv σ H)
    (hs : ∀ σ H, Pv σ H → c σ H fun b H1 => if b = true then tb { D with nx := fun σ' H' => Pv σ' H' ∧ μ σ' H' < μ σ H, ct := fun σ' H' => Pv σ' H' ∧ μ σ' H' < μ σ H, bk := D.nx } σ H1 else D.nx σ H1)
    (mono : ∀ σ H Q Q', (∀ b H1, Q b H1 → Q' b H1) → c σ H Q → c σ H Q') : tWhile c tb D σ H := by
  refine ⟨fun m σ H => m = μ σ H ∧ Pv σ H, ⟨_, rfl, h0⟩, ?_⟩
  rintro m σ H ⟨rfl, p⟩
  refine mono σ H _ _ (fun b H1 q => ?_) (hs σ H p)
  cases b with
  | true => exact ⟨_, fun σ' H' ⟨p', l⟩ => ⟨_, l, rfl, p'⟩, q⟩
  | false => exact q
end L2

namespace L2
open PySem PySem.Spec PyProof.Rows

abbrev R2 := V → V → Hp → VK → Prop
/-- a two-place operation on values: f is binaryOp op, inplaceOp op or compareOp op -/
def OpR (X : Cx) (f : Value → Value → Sem Value) (r : R2) : Prop :=
  ∀ (pins : List (Addr × Obj)) (s : Shared) (σ : St) (H : Hp) (x y : V) (v u : Value) (Q : VK), Inv X pins σ H s → RelV x v → RelV y u → r x y H Q →
    wpAny (model X.prog X.w) X.A (f v u) (EP X pins σ Q) X.xe s
/-- a one-place operation -/
def UnR (X : Cx) (f : Value → Sem Value) (r : V → Hp → VK → Prop) : Prop :=
  ∀ (pins : List (Addr × Obj)) (s : Shared) (σ : St) (H : Hp) (x : V) (v : Value) (Q : VK), Inv X pins σ H s → RelV x v → r x H Q →
    wpAny (model X.prog X.w) X.A (f v) (EP X pins σ Q) X.xe s
/-- a call of a value that is known (a builtin, a type) with values -/
def CallR (X : Cx) (f : Value) (r : List V → Hp → VK → Prop) : Prop :=
  ∀ (pins : List (Addr × Obj)) (s : Shared) (σ : St) (H : Hp) (xs : List V) (us : List Value) (Q : VK), Inv X pins σ H s → Vals xs us → r xs H Q →
    wpAny (model X.prog X.w) X.A (call f us) (EP X pins σ Q) X.xe s
/-- a value's truth -/
def TruR (X : Cx) (r : V → Hp → (Bool → Hp → Prop) → Prop) : Prop :=
  ∀ (pins : List (Addr × Obj)) (s : Shared) (σ : St) (H : Hp) (x : V) (v : Value) (Q : Bool → Hp → Prop), Inv X pins σ H s → RelV x v → r x H Q →
    wpAny (model X.prog X.w) X.A (truthy v) (TP X pins σ Q) X.xe s

def tOp (r : R2) (ta tb : TE) : TE := fun σ H Q => ta σ H fun x H1 => tb σ H1 fun y H2 => r x y H2 Q
def tUn (r : V → Hp → VK → Prop) (ta : TE) : TE := fun σ H Q => ta σ H fun x H1 => r x H1 Q
/-- ints in, under C, and a value out -/
def rI (C : Int → Int → Prop) (g : Int → Int → V) : R2 := fun x y H Q => ∃ i j, x = .int i ∧ y = .int j ∧ C i j ∧ Q (g i j) H
def rI0 (g : Int → Int → V) : R2 := fun x y H Q => ∃ i j, x = .int i ∧ y = .int j ∧ Q (g i j) H
def rU (g : Int → V) : V → Hp → VK → Prop := fun x H Q => ∃ i, x = .int i ∧ Q (g i) H

section
variable {X : Cx} {a b c : Expr} {ta tb tc : TE} {pos : Pos}

theorem binT (ha : PE X a ta) (hb : PE X b tb) {pins : List (Addr × Obj)} {s : Shared} {σ : St} {H : Hp} {R : V → V → Hp → Prop} (I : Inv X pins σ H s)
    (h : ta σ H fun x H1 => tb σ H1 fun y H2 => R x y H2) {Q : Value → Shared → Prop} {f : Value → Value → Sem Value}
    (hf : ∀ v u s2 x y H2, Inv X pins σ H2 s2 → RelV x v → RelV y u → R x y H2 → wpAny (model X.prog X.w) X.A (f v u) Q X.xe s2) :
    wpAny (model X.prog X.w) X.A (eval a X.env) (fun v s₁ => wpAny (model X.prog X.w) X.A (eval b X.env) (fun u s₂ => wpAny (model X.prog X.w) X.A (f v u) Q X.xe s₂) X.xe s₁) X.xe s := by
  refine thn (ha pins s σ H _ I h) fun v s1 ⟨x, H1, I1, r1, q1⟩ => ?_
  refine thn (hb pins s1 σ H1 _ I1 q1) fun u s2 ⟨y, H2, I2, r2, q2⟩ => ?_
  exact hf v u s2 x y H2 I2 r1 r2 q2

theorem pe_op {op : Operator} {r : R2} (ho : OpR X (binaryOp op) r) (ha : PE X a ta) (hb : PE X b tb) : PE X (.BinOp a op b pos) (tOp r ta tb) := by
  intro pins s σ H Q I h
  exact wpAny_BinOp (binT ha hb I h fun v u s2 x y H2 I2 rx ry q => ho pins s2 σ H2 x y v u Q I2 rx ry q)
theorem pe_un {op : UnaryOp} {r : V → Hp → VK → Prop} (ho : UnR X (unaryOp op) r) (ha : PE X a ta) : PE X (.UnaryOp op a pos) (tUn r ta) := by
  intro pins s σ H Q I h
  exact UnaryOp_ (thn (ha pins s σ H _ I h) fun v s1 ⟨x, H1, I1, r1, q1⟩ => ho pins s1 σ H1 x v Q I1 r1 q1)
/-! ### ints -/
theorem opI {f : Value → Value → Sem Value} {C : Int → Int → Prop} {g : Int → Int → Int}
    (rule : ∀ (i j : Int) (t u : Tok) (s : Shared) (Q : Value → Shared → Prop) (E : Value → Shared → Prop), C i j → Q (.int (g i j) s.toks) { s with toks := s.toks + 1 } → wpAny (model X.prog X.w) X.A (f (.int i t) (.int j u)) Q E s) :
    OpR X f (rI C fun i j => .int (g i j)) := by
  intro pins s σ H x y v u Q I rx ry h
  obtain ⟨i, j, rfl, rfl, hc, q⟩ := h
  obtain ⟨t, rfl⟩ := rx
  obtain ⟨t', rfl⟩ := ry
  exact rule i j t t' s _ _ hc ⟨.int (g i j), H, I.tok _, ⟨_, rfl⟩, q⟩
theorem opI0 {f : Value → Value → Sem Value} {g : Int → Int → Int}
    (rule : ∀ (i j : Int) (t u : Tok) (s : Shared) (Q : Value → Shared → Prop) (E : Value → Shared → Prop), Q (.int (g i j) s.toks) { s with toks := s.toks + 1 } → wpAny (model X.prog X.w) X.A (f (.int i t) (.int j u)) Q E s) :
    OpR X f (rI0 fun i j => .int (g i j)) := by
  intro pins s σ H x y v u Q I rx ry h
  obtain ⟨i, j, rfl, rfl, q⟩ := h
  obtain ⟨t, rfl⟩ := rx
  obtain ⟨t', rfl⟩ := ry
  exact rule i j t t' s _ _ ⟨.int (g i j), H, I.tok _, ⟨_, rfl⟩, q⟩
theorem opB0 {f : Value → Value → Sem Value} {g : Int → Int → Bool}
    (rule : ∀ (i j : Int) (t u : Tok) (s : Shared) (Q : Value → Shared → Prop) (E : Value → Shared → Prop), Q (.bool (g i j)) s → wpAny (model X.prog X.w) X.A (f (.int i t) (.int j u)) Q E s) :
    OpR X f (rI0 fun i j => .bl (g i j)) := by
  intro pins s σ H x y v u Q I rx ry h
  obtain ⟨i, j, rfl, rfl, q⟩ := h
  obtain ⟨t, rfl⟩ := rx
  obtain ⟨t', rfl⟩ := ry
  exact rule i j t t' s _ _ ⟨.bl (g i j), H, I, rfl, q⟩

def CDiv (i j : Int) : Prop := 0 < j ∧ j < 1073741824
def CPow (i j : Int) : Prop := 0 ≤ j ∧ j ≤ 1000000 ∧ i.natAbs < 2 ^ 64
def CMul (i j : Int) : Prop := (-(2 ^ 64) < i ∧ i < 2 ^ 64) ∨ (-(2 ^ 64) < j ∧ j < 2 ^ 64)
theorem CMul.ok {i j : Int} (h : CMul i j) : IntMulOk i j := by
  rcases h with ⟨h1, h2⟩ | ⟨h1, h2⟩
  · exact .of_left (intBits_le_64 h1 h2)
  · exact .of_right (intBits_le_64 h1 h2)
theorem two_pow_nn (k : Nat) : (0 : Int) ≤ 2 ^ k := by
  rw [two_pow_cast]
  exact Int.natCast_nonneg _

theorem op_add : OpR X (binaryOp .Add) (rI0 fun i j => .int (i + j)) := opI0 fun _ _ _ _ _ _ _ q => add_int q
theorem op_sub : OpR X (binaryOp .Sub) (rI0 fun i j => .int (i - j)) := opI0 fun _ _ _ _ _ _ _ q => sub_int q
theorem op_mul : OpR X (binaryOp .Mult) (rI CMul fun i j => .int (i * j)) := opI fun _ _ _ _ _ _ _ hc q => mul_int q hc.ok
/-- // by a positive divisor -/
theorem op_fdiv : OpR X (binaryOp .FloorDiv) (rI CDiv fun i j => .int (i / j)) := opI fun i j _ _ _ _ _ hc q => by
  have h1 : (0 : Int) < j := hc.1
  have h2 : j < 1073741824 := hc.2
  exact floordiv_int (by omega) (by rw [Int.fdiv_eq_ediv_of_nonneg i (by omega)]; exact q) (.inl (PyProof.noPylong_small (by omega)))
/-- % by a positive divisor of any size -/
theorem op_mod : OpR X (binaryOp .Mod) (rI (fun _ j => 0 < j) fun i j => .int (i % j)) := opI fun i j _ _ _ _ _ hc q => by
  have h1 : (0 : Int) < j := hc
  exact mod_int' (by omega) (by rw [Int.fmod_eq_emod_of_nonneg i (by omega)]; exact q)
theorem op_pow : OpR X (binaryOp .Pow) (rI CPow fun i j => .int (i ^ j.toNat)) := opI fun _ _ _ _ _ _ _ hc q => pow_int_small hc.1 hc.2.1 hc.2.2 q
theorem op_shl : OpR X (binaryOp .LShift) (rI CPow fun i j => .int (i * 2 ^ j.toNat)) := opI fun _ _ _ _ _ _ _ hc q => lshift_int_small hc.1 hc.2.1 hc.2.2 q
theorem op_shr : OpR X (binaryOp .RShift) (rI (fun _ j => 0 ≤ j) fun i j => .int (i / 2 ^ j.toNat)) := opI fun i j _ _ _ _ _ hc q =>
  rshift_int hc (by rw [Int.fdiv_eq_ediv_of_nonneg i (two_pow_nn _)]; exact q)
theorem op_and : OpR X (binaryOp .BitAnd) (rI0 fun i j => .int (Builtin.bitAnd i j)) := opI0 fun _ _ _ _ _ _ _ q => and_int q
theorem op_or : OpR X (binaryOp .BitOr) (rI0 fun i j => .int (Builtin.bitOr i j)) := opI0 fun _ _ _ _ _ _ _ q => or_int q
theorem unI {f : Value → Sem Value} {g : Int → Int}
    (rule : ∀ (i : Int) (t : Tok) (s : Shared) (Q : Value → Shared → Prop) (E : Value → Shared → Prop), Q (.int (g i) s.toks) { s with toks := s.toks + 1 } → wpAny (model X.prog X.w) X.A (f (.int i t)) Q E s) :
    UnR X f (rU fun i => .int (g i)) := by
  intro pins s σ H x v Q I rx h
  obtain ⟨i, rfl, q⟩ := h
  obtain ⟨t, rfl⟩ := rx
  exact rule i t s _ _ ⟨.int (g i), H, I.tok _, ⟨_, rfl⟩, q⟩
theorem un_neg : UnR X (unaryOp .USub) (rU fun i => .int (-i)) := unI fun _ _ _ _ _ q => neg_int q
/-! ### bools among ints: n += (a < b) -/
end

/-! ### comparisons -/
/-- the scalars that == tells apart as data does -/
def scal : V → V → Bool
  | .non, .non => true | .non, .int _ => true | .int _, .non => true | .non, .bl _ => true | .bl _, .non => true | .non, .str _ => true | .str _, .non => true
  | .int _, .int _ => true | .bl _, .bl _ => true | .str _, .str _ => true | .byt _, .byt _ => true
  | .int _, .str _ => true | .str _, .int _ => true | .bl _, .str _ => true | .str _, .bl _ => true
  | _, _ => false
def rEq : R2 := fun x y H Q => scal x y = true ∧ Q (.bl (decide (x = y))) H
def rNe : R2 := fun x y H Q => scal x y = true ∧ Q (.bl (!decide (x = y))) H

theorem dec_int {i j : Int} : decide (V.int i = V.int j) = (i == j) := by
  rw [Bool.eq_iff_iff]
  simp
theorem dec_bl {i j : Bool} : decide (V.bl i = V.bl j) = (i == j) := by
  rw [Bool.eq_iff_iff]
  simp
theorem dec_str {i j : Str} : decide (V.str i = V.str j) = (i == j) := by
  rw [Bool.eq_iff_iff]
  simp
theorem dec_byt {i j : Array UInt8} : decide (V.byt i = V.byt j) = (i.toList == j.toList) := by
  rw [Bool.eq_iff_iff]
  cases i
  cases j
  simp

section
variable {X : Cx} {a b c : Expr} {ta tb tc : TE} {pos : Pos}
theorem fin_bl {pins : List (Addr × Obj)} {σ : St} {H : Hp} {s : Shared} {Q : VK} {k k' : Bool} (I : Inv X pins σ H s) (q : Q (.bl k) H) (e : k = k') : EP X pins σ Q (.bool k') s := by
  subst e
  exact ⟨.bl k, H, I, rfl, q⟩
theorem op_eq : OpR X (compareOp .Eq) rEq := by
  intro pins s σ H x y v u Q I rx ry h
  obtain ⟨hs, q⟩ := h
  cases x with
  | non =>
    cases rx
    cases y with
    | non => cases ry; exact PySem.EqNone.eq_none_none (fin_bl I q (by simp))
    | bl j => cases ry; exact PySem.EqNone.eq_none_bool (fin_bl I q (by simp))
    | int j => obtain ⟨t', rfl⟩ := ry; exact PySem.EqNone.eq_none_int (fin_bl I q (by simp))
    | str j => obtain ⟨t', rfl⟩ := ry; exact PySem.EqNone.eq_none_str (fin_bl I q (by simp))
    | _ => exact absurd (show false = true from hs) Bool.false_ne_true
  | bl i =>
    cases rx
    cases y with
    | non => cases ry; exact PySem.EqNone.eq_bool_none (fin_bl I q (by simp))
    | bl j => cases ry; exact eq_bool (fin_bl I q dec_bl)
    | str j => obtain ⟨t', rfl⟩ := ry; exact PySem.EqMixed.eq_bool_str (fin_bl I q (by simp))
    | _ => exact absurd (show false = true from hs) Bool.false_ne_true
  | int i =>
    obtain ⟨t, rfl⟩ := rx
    cases y with
    | non => cases ry; exact PySem.EqNone.eq_int_none (fin_bl I q (by simp))
    | int j => obtain ⟨t', rfl⟩ := ry; exact eq_int (fin_bl I q dec_int)
    | str j => obtain ⟨t', rfl⟩ := ry; exact PySem.EqMixed.eq_int_str (fin_bl I q (by simp))
    | _ => exact absurd (show false = true from hs) Bool.false_ne_true
  | str i =>
    obtain ⟨t, rfl⟩ := rx
    cases y with
    | non => cases ry; exact PySem.EqNone.eq_str_none (fin_bl I q (by simp))
    | bl j => cases ry; exact PySem.EqMixed.eq_str_bool (fin_bl I q (by simp))
    | int j => obtain ⟨t', rfl⟩ := ry; exact PySem.EqMixed.eq_str_int (fin_bl I q (by simp))
    | str j => obtain ⟨t', rfl⟩ := ry; exact eq_str (fin_bl I q dec_str)
    | _ => exact absurd (show false = true from hs) Bool.false_ne_true
  | byt i =>
    obtain ⟨t, rfl⟩ := rx
    cases y with
    | byt j => obtain ⟨t', rfl⟩ := ry; exact PySem.W.eq_bytes (fin_bl I q dec_byt)
    | _ => exact absurd (show false = true from hs) Bool.false_ne_true
  | _ => cases y <;> exact absurd (show false = true from hs) Bool.false_ne_true
theorem op_ne : OpR X (compareOp .NotEq) rNe := by
  intro pins s σ H x y v u Q I rx ry h
  obtain ⟨hs, q⟩ := h
  cases x with
  | non =>
    cases rx
    cases y with
    | non => cases ry; exact PySem.EqNone.ne_none_none (fin_bl I q (by simp))
    | bl j => cases ry; exact PySem.EqNone.ne_none_bool (fin_bl I q (by simp))
    | int j => obtain ⟨t', rfl⟩ := ry; exact PySem.EqNone.ne_none_int (fin_bl I q (by simp))
    | str j => obtain ⟨t', rfl⟩ := ry; exact PySem.EqNone.ne_none_str (fin_bl I q (by simp))
    | _ => exact absurd (show false = true from hs) Bool.false_ne_true
  | bl i =>
    cases rx
    cases y with
    | non => cases ry; exact PySem.EqNone.ne_bool_none (fin_bl I q (by simp))
    | bl j => cases ry; exact ne_bool (fin_bl I q (congrArg not dec_bl))
    | str j => obtain ⟨t', rfl⟩ := ry; exact PySem.EqMixed.ne_bool_str (fin_bl I q (by simp))
    | _ => exact absurd (show false = true from hs) Bool.false_ne_true
  | int i =>
    obtain ⟨t, rfl⟩ := rx
    cases y with
    | non => cases ry; exact PySem.EqNone.ne_int_none (fin_bl I q (by simp))
    | int j => obtain ⟨t', rfl⟩ := ry; exact ne_int (fin_bl I q (congrArg not dec_int))
    | str j => obtain ⟨t', rfl⟩ := ry; exact PySem.EqMixed.ne_int_str (fin_bl I q (by simp))
    | _ => exact absurd (show false = true from hs) Bool.false_ne_true
  | str i =>
    obtain ⟨t, rfl⟩ := rx
    cases y with
    | non => cases ry; exact PySem.EqNone.ne_str_none (fin_bl I q (by simp))
    | bl j => cases ry; exact PySem.EqMixed.ne_str_bool (fin_bl I q (by simp))
    | int j => obtain ⟨t', rfl⟩ := ry; exact PySem.EqMixed.ne_str_int (fin_bl I q (by simp))
    | str j => obtain ⟨t', rfl⟩ := ry; exact ne_str (fin_bl I q (congrArg not dec_str))
    | _ => exact absurd (show false = true from hs) Bool.false_ne_true
  | byt i =>
    obtain ⟨t, rfl⟩ := rx
    cases y with
    | byt j => obtain ⟨t', rfl⟩ := ry; exact PySem.W.ne_bytes (fin_bl I q (congrArg not dec_byt))
    | _ => exact absurd (show false = true from hs) Bool.false_ne_true
  | _ => cases y <;> exact absurd (show false = true from hs) Bool.false_ne_true

theorem op_lt : OpR X (compareOp .Lt) (rI0 fun i j => .bl (decide (i < j))) := opB0 fun _ _ _ _ _ _ _ q => lt_int q
theorem op_le : OpR X (compareOp .LtE) (rI0 fun i j => .bl (decide (i ≤ j))) := opB0 fun _ _ _ _ _ _ _ q => le_int q
theorem op_gt : OpR X (compareOp .Gt) (rI0 fun i j => .bl (decide (j < i))) := opB0 fun _ _ _ _ _ _ _ q => gt_int q
theorem op_ge : OpR X (compareOp .GtE) (rI0 fun i j => .bl (decide (j ≤ i))) := opB0 fun _ _ _ _ _ _ _ q => ge_int q
/-- is None, is not None: the right side a value none -/
theorem op_isN : OpR X (compareOp .Is) (fun x y H Q => y = .non ∧ Q (.bl (decide (x = .non))) H) := by
  intro pins s σ H x y v u Q I rx ry h
  obtain ⟨rfl, q⟩ := h
  cases ry
  refine is_none_gen (fin_bl I q ?_)
  cases x <;> first
    | (cases rx; rfl)
    | (obtain ⟨t, rfl⟩ := rx; rfl)
theorem nomark (b : Expr) {op : CmpOp} (h : op ≠ .In := by decide) (h2 : op ≠ .NotIn := by decide) : behindInMarks op b = false := by
  have e1 : (op == CmpOp.In) = false := by cases op <;> first | rfl | exact absurd rfl h
  have e2 : (op == CmpOp.NotIn) = false := by cases op <;> first | rfl | exact absurd rfl h2
  cases b <;> simp [behindInMarks, e1, e2]
/-- a comparison as a value; hm: nomark b, or (for in, not in) by with_unfolding_all rfl -/
theorem pe_cmpR {op : CmpOp} {r : R2} (ho : OpR X (compareOp op) r) (ha : PE X a ta) (hb : PE X b tb) (hm : behindInMarks op b = false) : PE X (.Compare a [op] [b] pos) (tOp r ta tb) := by
  intro pins s σ H Q I h
  exact wpAny_Compare1 (binT ha hb I h fun v u s2 x y H2 I2 rx ry q => ho pins s2 σ H2 x y v u Q I2 rx ry q) hm
/-- a reading of a value as a test -/
def tTest (t : TE) : TT := fun σ H Q => t σ H fun x H' => ∃ k, x = .bl k ∧ Q k H'
theorem pt_cmpR {op : CmpOp} {r : R2} (ho : OpR X (compareOp op) r) (ha : PE X a ta) (hb : PE X b tb) (hm : behindInMarks op b = false) : PT X (.Compare a [op] [b] pos) (tTest (tOp r ta tb)) := by
  intro pins s σ H Q I h
  refine wpAny_isTrue_Compare1 (thn (ha pins s σ H _ I h) fun v s1 ⟨x, H1, I1, r1, q1⟩ => thn (hb pins s1 σ H1 _ I1 q1) fun u s2 ⟨y, H2, I2, r2, q2⟩ =>
    thn (ho pins s2 σ H2 x y v u _ I2 r1 r2 q2) fun c s3 ⟨z, H3, I3, r3, k, e, q3⟩ => ?_) hm
  subst e
  cases r3
  exact wpAny_truthy_bool ⟨H3, I3, q3⟩
/-! ### truth -/
/-- a value's truth by the abstract heap -/
def TruV (K : PySem.W.Frag) (x : V) (H : Hp) (k : Bool) : Prop :=
  match x with
  | .non => k = false
  | .bl b => k = b
  | .int i => k = (i != 0)
  | .str y => y.length ≤ sizeLine ∧ k = ((y.length : Int) != 0)
  | .byt y => y.size ≤ sizeLine ∧ k = ((y.size : Int) != 0)
  | .ref p => (∃ xs, SqL K H p xs ∧ k = !xs.isEmpty) ∨ (∃ xs, SqT K H p xs ∧ k = !xs.isEmpty) ∨ ∃ kvs, H p = some (.dK kvs) ∧ k = !kvs.isEmpty
  | _ => False
theorem isEmpty_kv {κ : Type} {kvs : List (κ × V)} {vs : List (κ × Value)} (r : KV kvs vs) : (!vs.isEmpty) = !kvs.isEmpty := by
  cases r <;> rfl
theorem isEmpty_of {xs : List V} {its : List Value} (r : Vals xs its) : (!its.toArray.isEmpty) = !xs.isEmpty := by
  cases r <;> simp
theorem line63 : (sizeLine : Nat) < 2 ^ 63 := by rw [sizeLine_eq]; decide
theorem tru_ok : TruR X (fun x H Q => ∃ k, TruV X.K x H k ∧ Q k H) := by
  intro pins s σ H x v Q I rx h
  obtain ⟨k, e, q⟩ := h
  have hl := line63
  have hs : sizeLine = 16777216 := sizeLine_eq
  cases x with
  | non =>
    cases rx
    have e' : k = false := e
    subst e'
    exact truthy_none ⟨H, I, q⟩
  | bl b =>
    cases rx
    have e' : k = b := e
    subst e'
    exact wpAny_truthy_bool ⟨H, I, q⟩
  | int i =>
    obtain ⟨t, rfl⟩ := rx
    have e' : k = (i != 0) := e
    subst e'
    exact PySem.P.truthy_int ⟨H, I, q⟩
  | str y =>
    obtain ⟨t, rfl⟩ := rx
    obtain ⟨hy, e'⟩ : y.length ≤ sizeLine ∧ k = ((y.length : Int) != 0) := e
    subst e'
    exact PySem.P.truthy_str (by omega) ⟨H, I.tok _, q⟩
  | byt y =>
    obtain ⟨t, rfl⟩ := rx
    obtain ⟨hy, e'⟩ : y.size ≤ sizeLine ∧ k = ((y.size : Int) != 0) := e
    subst e'
    exact PySem.W.truthy_bytes (by omega) ⟨H, I.tok _, q⟩
  | ref p =>
    cases rx
    have e' : (∃ xs, SqL X.K H p xs ∧ k = !xs.isEmpty) ∨ (∃ xs, SqT X.K H p xs ∧ k = !xs.isEmpty) ∨ ∃ kvs, H p = some (.dK kvs) ∧ k = !kvs.isEmpty := e
    rcases e' with ⟨xs, hx, e'⟩ | ⟨xs, hx, e'⟩ | ⟨kvs, hx, e'⟩
    · subst e'
      obtain ⟨its, r, pl, hz⟩ := I.list hx
      have hlen := r.length
      exact wpAny_truthy_list pl.isList (by simp only [List.size_toArray]; omega) ⟨H, I.tok _, by rw [isEmpty_of r]; exact q⟩
    · subst e'
      obtain ⟨its, r, pl, hz⟩ := I.tuple hx
      have hlen := r.length
      exact truthy_tuple pl (by simp only [List.size_toArray]; omega) ⟨H, I.tok _, by rw [isEmpty_of r]; exact q⟩
    · subst e'
      obtain ⟨hz, hS, vs, r, m⟩ : kvs.length ≤ sizeLine ∧ (p == sysModules) = false ∧ ∃ vs, KV kvs vs ∧ s.heap.DictOf (mixKind X.prog X.w) p vs := I.hok p _ hx
      have hlen : kvs.length = vs.length := Paired.length r
      exact wpAny_truthy_dict hS m (by omega) ⟨H, I.tok _, by rw [isEmpty_kv r]; exact q⟩
  | _ => exact (show False from e).elim
/-- any expression whose test is its value's truth (a name, a call, a subscript, a field ..: he by fun _ => rfl) -/
theorem pt_truth (ha : PE X a ta) (he : ∀ whole, isTrue a X.env whole = (do let v ← whole; standAt a.pos; holding [v] (truthy v))) :
    PT X a (fun σ H Q => ta σ H fun x H' => ∃ k, TruV X.K x H' k ∧ Q k H') := by
  intro pins s σ H Q I h
  exact isTrue_plain (thn (ha pins s σ H _ I h) fun v s1 ⟨x, H1, I1, r1, q1⟩ => tru_ok pins s1 σ H1 x v Q I1 r1 q1) (he _)

/-! ### strs and bytes -/
theorem op_add_str : OpR X (binaryOp .Add) (fun x y H Q => ∃ i j, x = .str i ∧ y = .str j ∧ i.length + j.length ≤ sizeLine ∧ Q (.str (i ++ j)) H) := by
  intro pins s σ H x y v u Q I rx ry h
  obtain ⟨i, j, rfl, rfl, hz, q⟩ := h
  obtain ⟨t, rfl⟩ := rx
  obtain ⟨t', rfl⟩ := ry
  exact add_str (fun t' tk => ⟨.str (i ++ j), H, I.tok _, ⟨_, rfl⟩, q⟩) hz
/-! ### scalar builtins, by CallR -/
theorem vals1 {x : V} {us : List Value} (r : Vals [x] us) : ∃ u, us = [u] ∧ RelV x u := by
  cases r with
  | cons r1 r2 => cases r2; exact ⟨_, rfl, r1⟩
theorem vals2 {x y : V} {us : List Value} (r : Vals [x, y] us) : ∃ u w', us = [u, w'] ∧ RelV x u ∧ RelV y w' := by
  cases r with
  | cons r1 r2 =>
    cases r2 with
    | cons r3 r4 => cases r4; exact ⟨_, _, rfl, r1, r3⟩
theorem call_max2 (hc : X.calm = true) : CallR X (.builtin "max") (fun xs H Q => ∃ i j, xs = [.int i, .int j] ∧ Q (.int (if j > i then j else i)) H) := by
  intro pins s σ H xs us Q I r h
  obtain ⟨i, j, rfl, q⟩ := h
  obtain ⟨u, w', rfl, ⟨t, rfl⟩, ⟨t', rfl⟩⟩ := vals2 r
  refine max_two_ints (I.ok.hd hc) fun h' tk k => ⟨_, H, I.kept k, ?_, q⟩
  by_cases hj : j > i
  · rw [if_pos hj, if_pos hj]; exact ⟨_, rfl⟩
  · rw [if_neg hj, if_neg hj]; exact ⟨_, rfl⟩
theorem call_min2 (hc : X.calm = true) : CallR X (.builtin "min") (fun xs H Q => ∃ i j, xs = [.int i, .int j] ∧ Q (.int (if j < i then j else i)) H) := by
  intro pins s σ H xs us Q I r h
  obtain ⟨i, j, rfl, q⟩ := h
  obtain ⟨u, w', rfl, ⟨t, rfl⟩, ⟨t', rfl⟩⟩ := vals2 r
  refine min_two_ints (I.ok.hd hc) fun h' tk k => ⟨_, H, I.kept k, ?_, q⟩
  by_cases hj : j < i
  · rw [if_pos hj, if_pos hj]; exact ⟨_, rfl⟩
  · rw [if_neg hj, if_neg hj]; exact ⟨_, rfl⟩
end
end L2

namespace L2
open PySem PySem.Spec PyProof.Rows

/-! ### an instance, its attributes a map -/
section
variable {prog : Program} {w : World} {A : Around} {E : Value → Shared → Prop} {s : Shared} {K : PySem.W.Frag} {x dx C f : Addr} {mA : Str → Option Value} {name : Str} {v : Value}

end

/-! ### the attributes as a list of pairs -/
theorem RelO.some_of {v : V} {o : Option Value} (r : RelO (some v) o) : ∃ u, o = some u ∧ RelV v u := by
  cases o with
  | none => exact (show False from r).elim
  | some u => exact ⟨u, rfl, r⟩
section
variable {P : Program} {w : World} {H H' : Hp} {h h' : Heap} {a C dx : Addr} {fs fs' : List (Str × V)}
end

/-! ### what of the text a class must have -/
section
variable {X : Cx} {pins : List (Addr × Obj)} {σ : St} {H : Hp} {s : Shared} {a C dx : Addr} {fs : List (Str × V)} {f : Str} {v : V} {A : Around} {E : Value → Shared → Prop}

end

/-! ### readings and rules -/
/-- an augmented operator on two values -/
def InOp (X : Cx) (op : Operator) (rd : V → V → Hp → VK → Prop) : Prop :=
  ∀ (pins : List (Addr × Obj)) (s : Shared) (σ : St) (H : Hp) (x y : V) (u v : Value) (Q : VK), Inv X pins σ H s → RelV x u → RelV y v → rd x y H Q → wpAny (model X.prog X.w) X.A (inplaceOp op u v) (EP X pins σ Q) X.xe s
section
variable {X : Cx} {o e value : Expr} {f : Str} {pos pos' tpos : Pos} {ta tv : TE}
def rAdd : V → V → Hp → VK → Prop := fun x y H Q => ∃ i j, x = .int i ∧ y = .int j ∧ Q (.int (i + j)) H
theorem in_add : InOp X .Add rAdd := by
  rintro pins s σ H x y u v Q I rx ry ⟨i, j, rfl, rfl, q⟩
  obtain ⟨t, rfl⟩ := (show ∃ t, u = Value.int i t from rx)
  obtain ⟨t', rfl⟩ := (show ∃ t', v = Value.int j t' from ry)
  exact PyProof.Rows.iadd_int ⟨.int (i + j), H, I.tok _, ⟨_, rfl⟩, q⟩
end

/-! ### isinstance -/
section
variable {X : Cx} {pins : List (Addr × Obj)} {σ : St} {H : Hp} {s : Shared} {A : Around} {E : Value → Shared → Prop} {Q : Value → Shared → Prop} {c : Value} {b : Bool}
end
end L2

namespace L2
open PySem PySem.Spec PyProof.Rows

/-! ### room -/
structure Room (k : Nat) (A : Around) : Prop where
  hd : A.handled = none
  dp : A.depth + 3 * k + 5 < recursionLimit
  un : A.units + 16 * k + 200 < cLine
  gd : A.guards = some []
theorem Room.mono {j k : Nat} {A : Around} (r : Room k A) (h : j ≤ k) : Room j A := ⟨r.hd, by have := r.dp; omega, by have := r.un; omega, r.gd⟩
theorem Room.deeper {k : Nat} {A : Around} (r : Room (k + 1) A) (env : Env) : Room k (A.deeper env) :=
  ⟨r.hd, by have := r.dp; show A.depth + 1 + 3 * k + 5 < _; omega, by have := r.un; show A.units + 3 + 16 * k + 200 < _; omega, by first | exact r.gd | (simpa [Around.deeper, Around.under, Code.guards, Code.isGuard, guardIds, pushGuards] using r.gd)⟩
theorem Room.depth {k : Nat} {A : Around} (r : Room k A) : A.depth < recursionLimit := by have := r.dp; omega
theorem Room.units {k : Nat} {A : Around} (r : Room k A) : A.units + 64 < cLine := by have := r.un; omega
/-! ### argument lists and displays -/
def tNil : TA := fun _ H Q => Q [] H
def tCons (ta : TE) (tr : TA) : TA := fun σ H Q => ta σ H fun x H1 => tr σ H1 fun xs H2 => Q (x :: xs) H2
section
variable {X : Cx} {e : Expr} {es : List Expr} {te : TE} {t : TA} {pos : Pos}
theorem pa_nil : PA X [] tNil := fun _ _ _ _ H Q I h => Calls.spliced_nil ⟨[], H, I, .nil, h⟩
theorem pa_cons (ha : PE X e te) (hr : PA X es t) (hs : starEach (e :: es) X.env = (false, eval e X.env) :: starEach es X.env := by rfl) : PA X (e :: es) (tCons te t) := by
  intro pos pins s σ H Q I h
  rw [hs]
  show wpAny _ _ (spliced ((false, eval e X.env) :: backTo pos (starEach es X.env))) _ _ s
  refine Calls.spliced_cons (thn (ha pins s σ H _ I h) fun u s1 ⟨x, H1, I1, r1, q1⟩ => ?_)
  exact thn (hr pos pins s1 σ H1 _ I1 q1) fun us s2 ⟨xs, H2, I2, r2, q2⟩ => ⟨x :: xs, H2, I2, .cons r1 r2, q2⟩

/-- a tuple, a list of written items -/
def tTup (t : TA) : TE := fun σ H Q => t σ H fun xs H1 => xs.length ≤ sizeLine ∧ ∀ p, H1 p = none → Q (.ref p) (upd H1 p (.tup xs))
def tLst (t : TA) : TE := fun σ H Q => t σ H fun xs H1 => xs.length ≤ sizeLine ∧ ∀ p, H1 p = none → Q (.ref p) (upd H1 p (.lst xs))
theorem pe_tup {x1} (h : PA X es t) : PE X (.Tuple es x1 pos) (tTup t) := by
  intro pins s σ H Q I hq
  refine wpAny_Tuple_spliced (thn (h pos pins s σ H _ I hq) fun us s1 ⟨xs, H1, I1, r, z, q⟩ => ⟨by rw [← r.length]; exact z, ?_⟩)
  have hf : H1 s1.heap.objs.size = none := I1.hok.fresh (Nat.le_refl _)
  refine ⟨.ref s1.heap.objs.size, upd H1 s1.heap.objs.size (.tup xs), I1.laid (t' := s1.toks) (fun b u e => Heap.get?_push_of_some _ e) (Nat.le_refl _) ?_, rfl, q _ hf⟩
  exact ⟨z, us, r, ⟨_, Heap.get?_push_size _ rfl, rfl, _, rfl⟩⟩
theorem pe_lst (h : PA X es t) : PE X (.List es pos) (tLst t) := by
  intro pins s σ H Q I hq
  refine wpAny_List_spliced (thn (h pos pins s σ H _ I hq) fun us s1 ⟨xs, H1, I1, r, z, q⟩ => ⟨by rw [← r.length]; exact z, ?_⟩)
  have hf : H1 s1.heap.objs.size = none := I1.hok.fresh (Nat.le_refl _)
  refine ⟨.ref s1.heap.objs.size, upd H1 s1.heap.objs.size (.lst xs), I1.laid (t' := s1.toks) (fun b u e => Heap.get?_push_of_some _ e) (Nat.le_refl _) ?_, rfl, q _ hf⟩
  exact ⟨z, us, 0, r, Heap.get?_push_size _ rfl⟩
end

/-! ### what a def promises -/
/-- a def's promise: the bound arguments in the parameters' order, the heap, the wanted end, the wanted exception -/
abbrev Sp := List V → Hp → VK → XK → Prop
/-- how an exception lies behind a call (file 08 gives it): the callers' frames, abstract heap and state ahead of the call, the wish, the exception, the state -/
abbrev CXT := List Env → Hp → Shared → XK → Value → Shared → Prop

/-- the state at a call -/
structure Env0 (P : Program) (w : World) (K : PySem.W.Frag) (mg : Str → Option Value) (base : Heap) (A : Around) (outer : List Env) (s : Shared) (H : Hp) : Prop where
  frames : A.frames = some outer
  mod : Mod K mg base
  bs : ∀ b o, base.get? b = some o → s.heap.get? b = some o ∧ H b = none
  bsz : base.objs.size ≤ s.heap.objs.size
  funs : s.heap.FunFrames base outer
  frf : ∀ b ∈ frs outer, H b = none
  hok : HOk P w H s.heap
  bare : AllBare s.gens
/-- a call's end -/
def CE (outer : List Env) (P : Program) (w : World) (H : Hp) (s : Shared) (Q : VK) (u : Value) (s' : Shared) : Prop :=
  ∃ v H', s'.os = s.os ∧ AllBare s'.gens ∧ Un (frs outer) [] H H' s.heap s'.heap ∧ HOk P w H' s'.heap ∧ RelV v u ∧ Q v H'
def CR (CX : CXT) (outer : List Env) (P : Program) (w : World) (H : Hp) (s : Shared) (Q : VK) (E : XK) (r : Result) (s' : Shared) : Prop :=
  match r with
  | .ok (.ret u) => CE outer P w H s Q u s'
  | .ok _ => False
  | .error e => CX outer H s E e s'
structure FnOk (P : Program) (w : World) (K : PySem.W.Frag) (mg : Str → Option Value) (base : Heap) (CX : CXT) (k : Nat) (f : Addr) (fd : FuncData) (ps : List Str) (sp : Sp) : Prop where
  len : ∀ vs H Q E, sp vs H Q E → vs.length = ps.length
  run : ∀ (A : Around) (outer : List Env) (s : Shared) (H : Hp) (args : Args) (us : List Value) (vs : List V) (Q : VK) (E : XK), Room k A → Env0 P w K mg base A outer s H → BindsTo s fd args (ps.zip us) → Vals vs us → sp vs H Q E →
    codeAny (model P w) A (.call (.ref f) args) (CR CX outer P w H s Q E) s
theorem FnOk.mono {P : Program} {w : World} {K : PySem.W.Frag} {mg : Str → Option Value} {base : Heap} {CX : CXT} {j k : Nat} {f : Addr} {fd : FuncData} {ps : List Str} {sp : Sp} (F : FnOk P w K mg base CX j f fd ps sp) (h : j ≤ k) :
    FnOk P w K mg base CX k f fd ps sp := ⟨F.len, fun A outer s H args us vs Q E hr => F.run A outer s H args us vs Q E (hr.mono h)⟩
section
variable {X : Cx} {pins : List (Addr × Obj)} {σ : St} {H : Hp} {s s' : Shared}
/-- from a body: what a callee wants -/
theorem Inv.env0 (I : Inv X pins σ H s) : Env0 X.prog X.w X.K X.mg X.base X.A X.stack s H :=
  ⟨I.ok.frames, I.ok.mod, I.bs, Nat.le_trans I.ok.bsz I.sz, I.stack, I.stkFree, I.hok, I.bare⟩
/-- behind a call -/
theorem Inv.after {Q : VK} {u : Value} (I : Inv X pins σ H s) (h : CE X.stack X.prog X.w H s Q u s') : EP X pins σ Q u s' := by
  obtain ⟨v, H', os, bare, un, hok, r, q⟩ := h
  obtain ⟨hh, g, d, t, os'⟩ := s'
  obtain rfl : os' = s.os := os
  exact ⟨v, H', I.call (h' := hh) (g' := g) (d' := d) (t' := t) (ch := []) un hok bare (fun b z => absurd z (by simp)), r, q⟩
end

/-! ### calls -/
/-- f(..): the written arguments, then the defaults dvs; E: what is wanted of an exception -/
def tCall (sp : Sp) (dvs : List V) (E : XK) (t : TA) : TE := fun σ H Q => t σ H fun vs H1 => sp (vs ++ dvs) H1 Q E
/-- how the parameters are bound: us the positional arguments, kw the keywords' values by name, ds the defaults that fill up -/
def Binds (K : PySem.W.Frag) (fd : FuncData) (ps : List Str) (ds : List Value) : Prop :=
  ∀ (s : Shared) (us : List Value), K.In s.heap → (us ++ ds).length = ps.length → BindsTo s fd ⟨us, []⟩ (ps.zip (us ++ ds))
/-- every parameter is given -/
theorem Binds.all {K : PySem.W.Frag} {fd : FuncData} {ps : List Str} (h : ∀ us : List Value, us.length = ps.length → bindArgs fd ⟨us, []⟩ = pure (ps.zip us)) : Binds K fd ps [] := fun s us _ hl => by
  rw [List.append_nil] at hl ⊢
  exact .of_eq (h us hl)

/-- an exception of a callee reaches what this body wants of exceptions -/
def Passes (CX : CXT) (X : Cx) (E : XK) : Prop := ∀ (pins : List (Addr × Obj)) (σ : St) (H : Hp) (s : Shared) (e : Value) (s' : Shared), Inv X pins σ H s → CX X.stack H s E e s' → X.xe e s'

section
variable {X : Cx} {CX : CXT} {k : Nat} {f C : Addr} {fd : FuncData} {ps : List Str} {sp : Sp} {dvs : List V} {ds : List Value} {E : XK} {x m : Str} {p pos apos : Pos} {e o : Expr} {es : List Expr} {ta : TE} {t : TA}

/-- the callee runs -/
theorem run_fn {pins : List (Addr × Obj)} {σ : St} {H : Hp} {s : Shared} {Q : VK} {us : List Value} {vs : List V} (F : FnOk X.prog X.w X.K X.mg X.base CX k f fd ps sp) (hr : Room k X.A) (hb : Binds X.K fd ps ds) (hd : Vals dvs ds) (hx : Passes CX X E)
    (I : Inv X pins σ H s) (r : Vals vs us) (h : sp (vs ++ dvs) H Q E) : wpAny (model X.prog X.w) X.A (call (.ref f) us) (EP X pins σ Q) X.xe s := by
  have r2 : Vals (vs ++ dvs) (us ++ ds) := r.append hd
  have hl : (us ++ ds).length = ps.length := by rw [← r2.length]; exact F.len _ _ _ _ h
  refine wpAny_call (codeAny_mono (F.run X.A X.stack s H ⟨us, []⟩ (us ++ ds) (vs ++ dvs) Q E hr I.env0 (hb s us I.kIn hl) r2 h) fun r s' hq => ?_)
  cases r with
  | error e => exact hx pins σ H s e s' I hq
  | ok fl =>
    cases fl with
    | ret u => exact I.after hq
    | next => exact False.elim hq
    | brk => exact False.elim hq
    | cont => exact False.elim hq

theorem pe_call (F : FnOk X.prog X.w X.K X.mg X.base CX k f fd ps sp) (hr : Room k X.A) (hg : Gl X x) (hm : X.mg x = some (.ref f)) (hk : PySem.W.keepIn X.K (.ref f) = true) (hb : Binds X.K fd ps ds) (hd : Vals dvs ds) (hx : Passes CX X E)
    (ha : PA X (e :: es) t) (hdb : (x == ("__debug__" : Str)) = false := by decide) (he : starEach (e :: es) X.env = (false, eval e X.env) :: starEach es X.env := by rfl) (hpl : (backTo pos (starEach es X.env)).any (·.1) = false := by rfl) :
    PE X (.Call (.Name x p) (e :: es) [] pos) (tCall sp dvs E t) := by
  intro pins s σ H Q I h
  refine wpAny_Call_Name_kw (ld_glob I hg hm ?_ hdb)
  refine PySem.W.callWith_K (h₀ := X.base) I.ok.mod.kin hk (thn (ha pos pins s σ H _ I h) fun us s1 ⟨vs, H1, I1, r, q⟩ => ⟨I1.kIn, ?_⟩) he hpl
  exact run_fn F hr hb hd hx I1 r q
end

/-! ### keywords -/
section
variable {X : Cx} {CX : CXT} {k : Nat} {f C : Addr} {fd : FuncData} {ps ks : List Str} {sp : Sp} {E : XK} {x m : Str} {p pos apos kpos : Pos} {e o : Expr} {es : List Expr} {kws : List Keyword} {te ta : TE} {t tk : TA} {nm : Option Str}
variable {g : List Value → List Value → List Value} {gV : List V → List V → List V}
end

/-! ### a def's body keeps its promise -/
/-- names: the parameters first -/
structure FnScope (N P : List Str) (sc : Scope) : Prop where
  kind : sc.kind = .function
  co : sc.isCoroutine = false
  gen : sc.isGenerator = false
  nd : N.Nodup
  pre : N.take P.length = P
  par : ∀ x ∈ P, sc.names.lookup x = some .local ∨ sc.names.lookup x = some .cell
  nofree : ∀ y ∈ sc.names, y.2 ≠ .free

theorem bindL_out {kindOf : Str → Option NameKind} {x : Str} : ∀ {binds : List (Str × Value)} {m : Str → Option Value}, (∀ v, (x, v) ∉ binds) → bindL kindOf binds m x = m x
  | [], _, _ => rfl
  | (n, v) :: r, m, h => by
    unfold bindL
    rw [bindL_out fun w hw => h w (List.mem_cons_of_mem _ hw)]
    split
    · have : x ≠ n := by rintro rfl; exact h v List.mem_cons_self
      simp [this]
    · rfl
theorem bindC_out {kindOf : Str → Option NameKind} {x : Str} : ∀ {binds : List (Str × Value)} {m : Str → Option Value}, (∀ v, (x, v) ∉ binds) → bindC kindOf binds m x = m x
  | [], _, _ => rfl
  | (n, v) :: r, m, h => by
    unfold bindC
    rw [bindC_out fun w hw => h w (List.mem_cons_of_mem _ hw)]
    split
    · rfl
    · have : x ≠ n := by rintro rfl; exact h v List.mem_cons_self
      simp [this]
theorem bindL_get {kindOf : Str → Option NameKind} {x : Str} {v : Value} : ∀ {P : List Str} {vs : List Value} {i : Nat} {m : Str → Option Value}, P.Nodup → P[i]? = some x → vs[i]? = some v → kindOf x = some .local →
    bindL kindOf (P.zip vs) m x = some v
  | [], _, _, _, _, h, _, _ => by simp at h
  | _ :: _, [], _, _, _, _, h, _ => by simp at h
  | p :: P, w :: vs, 0, m, nd, h1, h2, hk => by
    simp at h1 h2; subst h1; subst h2
    show bindL kindOf ((p, w) :: P.zip vs) m p = _
    unfold bindL
    rw [bindL_out fun v hv => (List.nodup_cons.mp nd).1 (List.of_mem_zip hv).1, if_pos hk]
    simp
  | p :: P, w :: vs, i + 1, m, nd, h1, h2, hk => by
    show bindL kindOf ((p, w) :: P.zip vs) m x = _
    unfold bindL
    exact bindL_get (i := i) (List.nodup_cons.mp nd).2 (by simpa using h1) (by simpa using h2) hk
theorem bindC_get {kindOf : Str → Option NameKind} {x : Str} {v : Value} : ∀ {P : List Str} {vs : List Value} {i : Nat} {m : Str → Option Value}, P.Nodup → P[i]? = some x → vs[i]? = some v → kindOf x ≠ some .local →
    bindC kindOf (P.zip vs) m x = some v
  | [], _, _, _, _, h, _, _ => by simp at h
  | _ :: _, [], _, _, _, _, h, _ => by simp at h
  | p :: P, w :: vs, 0, m, nd, h1, h2, hk => by
    simp at h1 h2; subst h1; subst h2
    show bindC kindOf ((p, w) :: P.zip vs) m p = _
    unfold bindC
    rw [bindC_out fun v hv => (List.nodup_cons.mp nd).1 (List.of_mem_zip hv).1, if_neg hk]
    simp
  | p :: P, w :: vs, i + 1, m, nd, h1, h2, hk => by
    show bindC kindOf ((p, w) :: P.zip vs) m x = _
    unfold bindC
    exact bindC_get (i := i) (List.nodup_cons.mp nd).2 (by simpa using h1) (by simpa using h2) hk

/-- the names' values at the entry -/
def start (N : List Str) (vs : List V) : St := vs.map some ++ List.replicate (N.length - vs.length) none

/-- the context of a def's body, at its entry; an exception leaves the frame, then lies as CX says -/
def cxOf (CX : CXT) (P : Program) (w : World) (K : PySem.W.Frag) (mg : Str → Option Value) (base : Heap) (N : List Str) (qual : Str) (scope : Scope) (f : Addr) (cd : Value) (A : Around) (outer : List Env) (s : Shared) (H : Hp) (E : XK) : Cx where
  prog := P
  w := w
  K := K
  mg := mg
  base := base
  A := A.deeper (envOfC qual scope s.heap.objs.size f cd)
  N := N
  s_0 := s
  H_0 := H
  env := envOfC qual scope s.heap.objs.size f cd
  outer := outer
  stack := envOfC qual scope s.heap.objs.size f cd :: outer
  ex := []
  calm := true
  fn := fun _ => true
  pn := []
  xe := fun e s' => wpAny (model P w) (A.deeper (envOfC qual scope s.heap.objs.size f cd)) (leaving (envOfC qual scope s.heap.objs.size f cd) e) (fun _ s'' => CX outer H s E e s'') (fun e' s'' => CX outer H s E e' s'') s'

theorem cell_has {sc : Scope} {n : Nat} {x : Str} (h : sc.names.lookup x = some .cell) : ∃ c, (cellsFrom n sc.names []).lookup x = some c := by
  have q := PySem.W.cellsFrom_some sc.names n [] (.inl h)
  exact Option.isSome_iff_exists.mp q

theorem inv_start {CX : CXT} {P : Program} {w : World} {K : PySem.W.Frag} {mg : Str → Option Value} {base : Heap} {N ps : List Str} {qual : Str} {scope : Scope} {f : Addr} {cd : Value} {A : Around} {outer : List Env} {s s1 : Shared} {H : Hp} {E : XK} {us : List Value} {vs : List V}
    (S : FnScope N ps scope) (hd : A.handled = none) (e0 : Env0 P w K mg base A outer s H) (hl : vs.length = ps.length) (r : Vals vs us)
    (x : InCallC s s.heap.objs.size (bindL (envOfC qual scope s.heap.objs.size f cd).kindOf (ps.zip us) fun _ => none) (cellsFrom (s.heap.objs.size + 1) scope.names []) (bindC (envOfC qual scope s.heap.objs.size f cd).kindOf (ps.zip us) fun _ => none) s1) :
    Inv (cxOf CX P w K mg base N qual scope f cd A outer s H E) [] (start N vs) H s1 := by
  have hpl : ps.length ≤ N.length := by have := congrArg List.length S.pre; rw [List.length_take] at this; omega
  obtain ⟨h1, tk, rfl, hk⟩ := x.done
  have noA : ∀ b : Addr, b ∉ (cxOf CX P w K mg base N qual scope f cd A outer s H E).ex := fun b z => absurd (show b ∈ ([] : List Addr) from z) (by simp)
  refine ⟨⟨e0.mod, S.kind, rfl, rfl, Nat.le_refl _, fun y z c h1 h2 => ?_, fun y hy => ?_, fun y c _ h => ?_, fun _ => hd, Around.frames_deeper e0.frames, .inr ⟨rfl, rfl⟩, fun b z => absurd z (noA b), e0.bs, e0.bsz, fun b _ _ => noA b, fun b z => absurd z (noA b), e0.funs, e0.frf⟩,
    rfl, e0.bare, Un.kept hk, ⟨_, x.toInCall.ns, fun i y v h1 h2 h3 => ?_⟩, fun y c h => ⟨_, x.cell y c h⟩, e0.hok.fresh (Nat.le_refl _), fun y c h => ?_, fun p hp => absurd (show p ∈ ([] : List (Addr × Obj)) from hp) (by simp), e0.hok.kept hk, ?_⟩
  · exact name_of_addr x.apart (PySem.mem_of_lookup h1) (PySem.mem_of_lookup h2)
  · have hy : scope.names.lookup y = some .cell ∨ scope.names.lookup y = some .free := hy
    rcases hy with hy | hy
    · exact cell_has hy
    · exact absurd rfl (S.nofree _ (PySem.mem_of_lookup hy))
  · exact Nat.le_of_lt (x.above y c (PySem.mem_of_lookup h))
  · have hi : i < vs.length := by
      unfold start at h2
      by_cases hi : i < vs.length
      · exact hi
      · rw [List.getElem?_append_right (by simpa using hi)] at h2
        rw [List.getElem?_replicate] at h2
        split at h2 <;> cases h2
    have ha : vs[i]? = some v := by
      unfold start at h2
      rw [List.getElem?_append_left (by simpa using hi), List.getElem?_map] at h2
      cases e : vs[i]? with
      | none => rw [e] at h2; cases h2
      | some a => rw [e] at h2; cases h2; rfl
    obtain ⟨u, hu, rv⟩ := r.get ha
    have hp : ps[i]? = some y := by
      rw [← S.pre, List.getElem?_take_of_lt (by omega)]; exact h1
    have ndP : ps.Nodup := by rw [← S.pre]; exact S.nd.sublist (List.take_sublist _ _)
    refine ⟨u, rv, ?_⟩
    rcases S.par y (List.mem_of_getElem? hp) with k | k
    · exact .inl ⟨k, bindL_get ndP hp hu k⟩
    · obtain ⟨c, e⟩ := cell_has (n := s.heap.objs.size + 1) k
      refine .inr ⟨.inl k, c, e, ?_⟩
      have q := x.cell y c e
      rw [bindC_get ndP hp hu (by show scope.names.lookup y ≠ _; rw [k]; decide)] at q
      exact q
  · exact e0.hok.fresh (Nat.le_of_lt (x.above y c (PySem.mem_of_lookup h)))
  · unfold start
    show _ = N.length
    rw [List.length_append, List.length_map, List.length_replicate]
    omega

/-- THE RULE: a def (or a method) of the text, by its body. The body's reading t is chosen for each entry; it is run at the parameters' values -/
theorem fn_of {CX : CXT} {P : Program} {w : World} {K : PySem.W.Frag} {mg : Str → Option Value} {base : Heap} {k : Nat} {f : Addr} {name qual : Str} {params : Arguments} {body : List Stmt} {scope : Scope} {dV kV doc pm cdv ct oc : Value} {an od : Option Addr}
    {osl : Array (Option Value)} {N ps : List Str} {sp : Sp} (lk : K.lookup f = some ⟨oc, od, .func (PySem.W.fnOf name qual params body scope dV kV doc pm an cdv ct), osl⟩) (hcd : PySem.W.codeIn K cdv qual = true) (S : FnScope N ps scope)
    (len : ∀ vs H Q E, sp vs H Q E → vs.length = ps.length)
    (hbody : ∀ (A : Around) (outer : List Env) (s : Shared) (H : Hp) (vs : List V) (Q : VK) (E : XK), Room k (A.deeper (envOfC qual scope s.heap.objs.size f cdv)) → sp vs H Q E →
      ∃ t, PSs (cxOf CX P w K mg base N qual scope f cdv A outer s H E) body t ∧ t { nx := fun _ H' => Q .non H', rt := Q } (start N vs) H) :
    FnOk P w K mg base CX (k + 1) f (PySem.W.fnOf name qual params body scope dV kV doc pm an cdv ct) ps sp := by
  refine ⟨len, fun A outer s H args us vs Q E hr e0 hb r hsp => ?_⟩
  have hl := len _ _ _ _ hsp
  have KX : K.In s.heap := e0.mod.kin.keeps fun b o e => (e0.bs b o e).1
  have lim : s.heap.NoLimit := e0.mod.nolimit.keeps fun b o e => (e0.bs b o e).1
  have hkind : ∀ y ∈ ps.zip us, scope.names.lookup y.1 = some .local ∨ (scope.names.lookup y.1 = some .cell ∧ ((cellsFrom (s.heap.objs.size + 1) scope.names []).lookup y.1).isSome = true) := fun ⟨n, v⟩ hy => by
    rcases S.par n (List.of_mem_zip hy).1 with q | q
    · exact .inl q
    · exact .inr ⟨q, PySem.W.cellsFrom_some _ _ _ (.inl q)⟩
  refine codeAny_call_function hr.depth (KX _ _ lk) rfl S.co S.gen rfl (PySem.W.codeRec_of KX hcd) (hb _ _ _ _ ?_)
  refine wpAny_newFunctionEnv_cells S.kind hkind fun env he s1 x => ?_
  subst he
  refine ⟨lim.keeps x.toInCall.keep, codeAny_func ?_⟩
  obtain ⟨t, ht, hq⟩ := hbody A outer s H vs Q E (hr.deeper _) hsp
  have I : Inv (cxOf CX P w K mg base N qual scope f cdv A outer s H E) [] (start N vs) H s1 := inv_start S hr.hd e0 hl r x
  refine wpAny_mono (ht [] s1 (start N vs) H _ I hq) (fun fl s' hs => ?_) fun e s' hs => hs
  have fin : ∀ {σ' : St} {H' : Hp} {v : V} {u : Value}, Inv (cxOf CX P w K mg base N qual scope f cdv A outer s H E) [] σ' H' s' → RelV v u → Q v H' → CE outer P w H s Q u s' :=
    fun {σ' H' v u} J rv q => ⟨v, H', J.os, J.bare, J.base, J.hok, rv, q⟩
  cases fl with
  | ret u =>
    obtain ⟨v, σ', H', J, rv, q⟩ := hs
    exact fin J rv q
  | next =>
    obtain ⟨σ', H', J, q⟩ := hs
    exact fin (v := V.non) (u := Value.none) J rfl q
  | brk =>
    obtain ⟨_, _, _, q⟩ := hs
    exact False.elim q
  | cont =>
    obtain ⟨_, _, _, q⟩ := hs
    exact False.elim q
end L2

namespace L2
open PySem PySem.Spec PyProof.Rows
section
variable {X : Cx} {x : Str} {p pos : Pos} {e : Expr} {es : List Expr} {t : TA} {id T : String} {r : List V → Hp → VK → Prop}

def tCB (r : List V → Hp → VK → Prop) (t : TA) : TE := fun σ H Q => t σ H fun vs H1 => r vs H1 Q
/-- f(e, ..), f a built-in function -/
theorem pe_callB (hc : CallR X (.builtin id) r) (hg : Gl X x) (hm : X.mg x = none) (hv : bootBuiltins x = some (.builtin id)) (ha : PA X (e :: es) t) (hn : x ≠ "__name__" := by decide) (hdb : (x == ("__debug__" : Str)) = false := by decide)
    (he : starEach (e :: es) X.env = (false, eval e X.env) :: starEach es X.env := by rfl) (hpl : (backTo pos (starEach es X.env)).any (·.1) = false := by rfl) : PE X (.Call (.Name x p) (e :: es) [] pos) (tCB r t) := by
  intro pins s σ H Q I h
  refine wpAny_Call_Name_kw (ld_blt I hg hm hv ?_ hn hdb)
  exact PyProof.Rows.callWith_builtin1 (thn (ha pos pins s σ H _ I h) fun us s1 ⟨vs, H1, I1, r1, q1⟩ => hc pins s1 σ H1 vs us Q I1 r1 q1) he hpl
/-- T(e, ..), T a built-in type -/
theorem pe_callTy (hc : CallR X (.type T) r) (hg : Gl X x) (hm : X.mg x = none) (hv : bootBuiltins x = some (.type T)) (ha : PA X (e :: es) t) (hn : x ≠ "__name__" := by decide) (hdb : (x == ("__debug__" : Str)) = false := by decide)
    (he : starEach (e :: es) X.env = (false, eval e X.env) :: starEach es X.env := by rfl) (hpl : (backTo pos (starEach es X.env)).any (·.1) = false := by rfl) : PE X (.Call (.Name x p) (e :: es) [] pos) (tCB r t) := by
  intro pins s σ H Q I h
  refine wpAny_Call_Name_kw (ld_blt I hg hm hv ?_ hn hdb)
  exact PyProof.Rows.callWith_type1 (thn (ha pos pins s σ H _ I h) fun us s1 ⟨vs, H1, I1, r1, q1⟩ => hc pins s1 σ H1 vs us Q I1 r1 q1) he hpl
end
end L2

namespace HT
open PySem PyProof.Rows

section
open PySem.SeqAt
open PySem.AutoSeq1 (wpAny_loadPart')
open PySem.MeetsSeq PySem.MeetsSeq2 PySem.MeetsSeq3

end

section
variable {prog : Program} {w : World} {A : Around} {E : Value → Shared → Prop} {s : Shared}

/-! ### t[a:b], not the whole -/
theorem places_gen (i j : Nat) : Builtin.Slice.slicePlaces (i : Int) (j : Int) 1 = j - i := by
  unfold Builtin.Slice.slicePlaces
  have h1 : (1 : Int) > 0 := by omega
  simp only [h1, if_true, Int.ediv_one]
  split <;> omega
theorem slicePart_ {v : Value} {o : Option Int} {Q : Option Int → Shared → Prop} (p : IsPart v o) (h : Q o s) : wpAny (model prog w) A (Builtin.Slice.slicePartIndex v) Q E s := by
  cases p with
  | none => exact slicePart_none h
  | int i t => exact slicePart_int h
end
end HT

namespace L2
open PySem PySem.Spec PyProof.Rows

/-! ### the parts of a slice -/
section
variable {X : Cx} {e : Expr} {te : TE} {lo hi : Option Expr} {tl th : TO} {pos p2 : Pos}

/-! ### t < u, t + u -/
end
end L2

namespace L2
open PySem PySem.Spec PyProof.Rows

/-! ### places -/
/-- the place that an index of any sign means -/
def ixN (n : Nat) (i : Int) : Option Nat := if 0 ≤ i then (if i < n then some i.toNat else none) else if -(n : Int) ≤ i then some (i + n).toNat else none
def atI {α : Type} (xs : List α) (i : Int) : Option α := (ixN xs.length i).bind fun j => xs[j]?
theorem ixN_seq {n : Nat} {i : Int} {j : Nat} (h : ixN n i = some j) : seqIndex? i n = some j ∧ j < n ∧ -(n : Int) ≤ i ∧ i < n := by
  unfold ixN at h
  by_cases h0 : 0 ≤ i
  · rw [if_pos h0] at h
    by_cases h1 : i < n
    · rw [if_pos h1] at h
      have e : i.toNat = j := Option.some.inj h
      exact ⟨by rw [seqIndex_of h0 h1, e], by omega, by omega, h1⟩
    · rw [if_neg h1] at h; cases h
  · rw [if_neg h0] at h
    by_cases h1 : -(n : Int) ≤ i
    · rw [if_pos h1] at h
      have e : (i + n).toNat = j := Option.some.inj h
      exact ⟨by rw [seqIndex_neg (by omega) h1, e], by omega, h1, by omega⟩
    · rw [if_neg h1] at h; cases h
theorem atI_get {α : Type} {xs : List α} {i : Int} {v : α} (h : atI xs i = some v) : ∃ j, seqIndex? i xs.length = some j ∧ xs[j]? = some v ∧ j < xs.length ∧ -(xs.length : Int) ≤ i ∧ i < xs.length := by
  unfold atI at h
  cases e : ixN xs.length i with
  | none => rw [e] at h; cases h
  | some j =>
    rw [e] at h
    obtain ⟨h1, h2, h3, h4⟩ := ixN_seq e
    exact ⟨j, h1, h, h2, h3, h4⟩
theorem atI_nat {α : Type} {xs : List α} {j : Nat} {v : α} (h : xs[j]? = some v) : atI xs (j : Int) = some v := by
  have hj : j < xs.length := (List.getElem?_eq_some_iff.mp h).1
  have e : ixN xs.length (j : Int) = some j := by
    unfold ixN
    rw [if_pos (by omega), if_pos (by omega)]; simp
  unfold atI; rw [e]; exact h
theorem atI_last {α : Type} (xs : List α) (v : α) : atI (xs ++ [v]) (-1) = some v := by
  have hl : (xs ++ [v]).length = xs.length + 1 := by simp
  have e : ixN (xs ++ [v]).length (-1) = some xs.length := by
    unfold ixN
    rw [hl, if_neg (by decide), if_pos (by omega)]
    congr 1
    omega
  unfold atI
  rw [e]
  show (xs ++ [v])[xs.length]? = some v
  simp

/-! ### what may be subscripted -/
/-- what stands as an index of a plain subscript -/
def PlainIx (b : Expr) : Prop := ∀ o i, subscripted b false o i = operate [o, i] (getItem o i)
/-- a subscript by values -/
def IxR (X : Cx) (r : R2) : Prop :=
  ∀ (value slice : Expr) (pins : List (Addr × Obj)) (s : Shared) (σ : St) (H : Hp) (x y : V) (v u : Value) (Q : VK), Inv X pins σ H s → RelV x v → RelV y u → r x y H Q →
    subscripted slice false v u = operate [v, u] (getItem v u) → wpAny (model X.prog X.w) X.A (subscriptTail value slice v u) (EP X pins σ Q) X.xe s
/-- a call of a builtin's method by values: the receiver, the arguments -/
def MtR (X : Cx) (id : String) (r : V → List V → Hp → VK → Prop) : Prop :=
  ∀ (pins : List (Addr × Obj)) (s : Shared) (σ : St) (H : Hp) (x : V) (xs : List V) (v : Value) (us : List Value) (Q : VK), Inv X pins σ H s → RelV x v → Vals xs us → r x xs H Q →
    wpAny (model X.prog X.w) X.A (call (.builtin id) (v :: us)) (EP X pins σ Q) X.xe s
section
variable {X : Cx} {a b : Expr} {ta tb : TE} {pos : Pos}
/-- a[b] -/
theorem pe_ix {r : R2} (hr : IxR X r) (ha : PE X a ta) (hb : PE X b tb) (hs : PlainIx b) : PE X (.Subscript a b pos) (tOp r ta tb) := by
  intro pins s σ H Q I h
  exact Subscript_ (binT ha hb I h fun v u s2 x y H2 I2 rx ry q => hr a b pins s2 σ H2 x y v u Q I2 rx ry q (hs _ _))

def rIxL (K : PySem.W.Frag) : R2 := fun x y H Q => ∃ p xs i v, x = .ref p ∧ y = .int i ∧ SqL K H p xs ∧ atI xs i = some v ∧ Q v H
def rIxT (K : PySem.W.Frag) : R2 := fun x y H Q => ∃ p xs i v, x = .ref p ∧ y = .int i ∧ SqT K H p xs ∧ atI xs i = some v ∧ Q v H
def rIxS : R2 := fun x y H Q => ∃ z i c, x = .str z ∧ y = .int i ∧ z.length ≤ sizeLine ∧ atI z.cps.toList i = some c ∧ Q (.str ⟨#[c]⟩) H
theorem ix_list : IxR X (rIxL X.K) := by
  intro value slice pins s σ H x y v u Q I rx ry h hs
  obtain ⟨p, xs, i, z, rfl, rfl, hq, he, q⟩ := h
  cases rx
  obtain ⟨t, rfl⟩ := ry
  obtain ⟨its, r, pl, hz⟩ := I.list hq
  obtain ⟨j, h1, h2, h3, h4, h5⟩ := atI_get he
  obtain ⟨w, ew, rw'⟩ := r.get h2
  have hl := r.length
  have hn := line63
  have fin : EP X pins σ Q w s := ⟨z, H, I, rw', q⟩
  by_cases h0 : 0 ≤ i
  · have hj : i.toNat = j := by
      rw [seqIndex_of h0 h5] at h1
      exact Option.some.inj h1
    exact item_listR pl.isList h0 (by omega) (by rw [hj]; simpa using ew) fin hs
  · have hj : (i + (its.toArray.size : Int)).toNat = j := by
      rw [seqIndex_neg (by omega) h4] at h1
      rw [List.size_toArray, ← hl]
      exact Option.some.inj h1
    exact subscriptTail_builtinR (x := w) pl.isList.typeIs slot_list_getitem.lookup
      (wpAny_getItem_list_neg (Q := fun r s' => r = w ∧ EP X pins σ Q r s') pl.isList (by omega) (by rw [List.size_toArray] <;> omega) (by omega) (by rw [hj]; simpa using ew) ⟨rfl, fin⟩) hs
theorem ix_tup : IxR X (rIxT X.K) := by
  intro value slice pins s σ H x y v u Q I rx ry h hs
  obtain ⟨p, xs, i, z, rfl, rfl, hq, he, q⟩ := h
  cases rx
  obtain ⟨t, rfl⟩ := ry
  obtain ⟨its, r, pl, hz⟩ := I.tuple hq
  obtain ⟨j, h1, h2, h3, h4, h5⟩ := atI_get he
  obtain ⟨w, ew, rw'⟩ := r.get h2
  have hl := r.length
  have hn := line63
  have fin : EP X pins σ Q w s := ⟨z, H, I, rw', q⟩
  exact subscriptTail_builtinR (x := w) pl.typeIs slot_tuple_getitem.lookup
    (getItem_tuple (j := j) (Q := fun r s' => r = w ∧ EP X pins σ Q r s') pl (by omega) (by omega) (by rw [List.size_toArray, ← hl]; exact h1) (by simpa using ew) ⟨rfl, fin⟩) hs
theorem ix_str : IxR X rIxS := by
  intro value slice pins s σ H x y v u Q I rx ry h hs
  obtain ⟨z, i, c, rfl, rfl, hz, he, q⟩ := h
  obtain ⟨t, rfl⟩ := rx
  obtain ⟨t', rfl⟩ := ry
  obtain ⟨j, h1, h2, h3, h4, h5⟩ := atI_get he
  have hl : z.cps.toList.length = z.length := by simp [Str.length]
  rw [hl] at h1 h4 h5
  have hn := line63
  exact tail_any (typeIs_str s z t) slot_str_getitem.lookup (getItem_str (c := c) (by
    have e1 : decide (i < -(2 ^ 63 : Int)) = false := decide_eq_false (by omega)
    have e2 : decide (i ≥ 2 ^ 63) = false := decide_eq_false (by omega)
    rw [e1, e2, Bool.or_false]) (by rw [h1]; simpa using h2) ⟨.str ⟨#[c]⟩, H, I.tok _, ⟨_, rfl⟩, q⟩) hs
/-! ### xs[i] = v, any sign -/
/-- the list's object behind a store -/
theorem mapSeq_set (its : List Value) (n j : Nat) (u : Value) : Obj.mapSeq (·.setIfInBounds j u) { cls := .type "list", data := .seq its.toArray n } = { cls := .type "list", data := .seq (its.set j u).toArray n } := by
  simp [Obj.mapSeq]
theorem Inv.lst {pins : List (Addr × Obj)} {σ : St} {H : Hp} {s : Shared} {p : Addr} {xs : List V} (I : Inv X pins σ H s) (h : H p = some (.lst xs)) :
    ∃ (its : List Value) (n : Nat), Vals xs its ∧ s.heap.get? p = some { cls := .type "list", data := .seq its.toArray n } ∧ xs.length ≤ sizeLine := by
  obtain ⟨z, its, n, r, e⟩ := I.hok p _ h
  exact ⟨its, n, r, e, z⟩
/-- the list at p is written by an update of its object -/
theorem Inv.lstUpd {pins : List (Addr × Obj)} {σ : St} {H : Hp} {s : Shared} {p : Addr} {xs ys : List V} {its its' : List Value} {n n' : Nat} {f : Obj → Obj} (I : Inv X pins σ H s) (h : H p = some (.lst xs))
    (ho : s.heap.get? p = some { cls := .type "list", data := .seq its.toArray n }) (hf : f { cls := .type "list", data := .seq its.toArray n } = { cls := .type "list", data := .seq its'.toArray n' }) (r : Vals ys its') (hz : ys.length ≤ sizeLine) (t : Nat) :
    Inv X pins σ (upd H p (.lst ys)) { s with heap := s.heap.update p f, toks := t } := by
  have e : (s.heap.update p f).get? p = some { cls := .type "list", data := .seq its'.toArray n' } := by
    rw [Heap.get?_update_self f ho (by rw [hf] <;> rfl), hf]
  refine I.write (x := p) (e := p) (by rw [h]; trivial) (.inl rfl) (fun b u hb q => (Heap.get?_update_other _ _ (Ne.symm hb)).trans q) ⟨_, e⟩ ?_
  exact ⟨hz, its', n', r, e⟩
def rSetL : V → V → V → Hp → (Hp → Prop) → Prop := fun o i v H Q => ∃ p xs k j, o = .ref p ∧ i = .int k ∧ H p = some (.lst xs) ∧ ixN xs.length k = some j ∧ Q (upd H p (.lst (xs.set j v)))
theorem set_list : PSet X rSetL := by
  intro pins s σ H o i v ov iv u Q I ro ri rv h
  obtain ⟨p, xs, k, j, rfl, rfl, hp, hj, q⟩ := h
  cases ro
  obtain ⟨t, rfl⟩ := ri
  obtain ⟨its, n, r, ho, hz⟩ := I.lst hp
  obtain ⟨h1, h2, h3, h4⟩ := ixN_seq hj
  have hl := r.length
  have hn := line63
  have I' : Inv X pins σ (upd H p (.lst (xs.set j v))) { s with heap := s.heap.update p (Obj.mapSeq (·.setIfInBounds j u)) } :=
    I.lstUpd hp ho (mapSeq_set its n j u) (r.set rv j) (by rw [List.length_set]; exact hz) s.toks
  by_cases h0 : 0 ≤ k
  · have hk : k.toNat = j := by
      rw [seqIndex_of h0 h4] at h1
      exact Option.some.inj h1
    exact PySem.W.ki_setAt ho h0 (by omega) (by rw [List.size_toArray, ← hl]; exact h4) (by rw [hk]; exact ⟨_, I', q⟩)
  · have hk : (k + (its.toArray.size : Int)).toNat = j := by
      rw [seqIndex_neg (by omega) h3] at h1
      rw [List.size_toArray, ← hl]
      exact Option.some.inj h1
    exact PySem.W.ki_setBack ho (by omega) (by rw [List.size_toArray, ← hl]; exact h3) (by omega) (by rw [hk]; exact ⟨_, I', q⟩)

/-! ### slices -/
/-! ### in, not in: flat items -/
def flatV : V → Bool
  | .non => true
  | .bl _ => true
  | .int _ => true
  | .str _ => true
  | _ => false
/-- == of flat values -/
def eqV : V → V → Bool
  | .non, .non => true
  | .bl a, .bl b => a == b
  | .bl a, .int b => (if a then 1 else 0) == b
  | .int a, .bl b => a == (if b then 1 else 0)
  | .int a, .int b => a == b
  | .str a, .str b => a == b
  | _, _ => false
theorem eqAt_V {A : Around} {s : Shared} {y x : V} {u v : Value} (ry : RelV y u) (rx : RelV x v) (fy : flatV y = true) (fx : flatV x = true) : SeqAt.EqAt A s u v (eqV y x) := by
  cases y with
  | non =>
    cases ry
    cases x with
    | non => cases rx; exact SeqAt.EqAt.same _
    | bl b => cases rx; exact SeqAt.EqAt.none_bool b
    | int b => obtain ⟨t, rfl⟩ := rx; exact SeqAt.EqAt.none_int b t
    | str b => obtain ⟨t, rfl⟩ := rx; exact SeqAt.EqAt.none_str b t
    | _ => exact absurd (show false = true from fx) Bool.false_ne_true
  | bl a =>
    cases ry
    cases x with
    | non => cases rx; exact SeqAt.EqAt.bool_none a
    | bl b => cases rx; exact SeqAt.EqAt.bool_bool a b
    | int b => obtain ⟨t, rfl⟩ := rx; exact SeqAt.EqAt.bool_int a b t
    | str b => obtain ⟨t, rfl⟩ := rx; exact SeqAt.EqAt.bool_str a b t
    | _ => exact absurd (show false = true from fx) Bool.false_ne_true
  | int a =>
    obtain ⟨t', rfl⟩ := ry
    cases x with
    | non => cases rx; exact SeqAt.EqAt.int_none a t'
    | bl b => cases rx; exact SeqAt.EqAt.int_bool a t' b
    | int b => obtain ⟨t, rfl⟩ := rx; exact SeqAt.EqAt.int_int a t' b t
    | str b => obtain ⟨t, rfl⟩ := rx; exact SeqAt.EqAt.int_str a t' b t
    | _ => exact absurd (show false = true from fx) Bool.false_ne_true
  | str a =>
    obtain ⟨t', rfl⟩ := ry
    cases x with
    | non => cases rx; exact SeqAt.EqAt.str_none a t'
    | bl b => cases rx; exact SeqAt.EqAt.str_bool a t' b
    | int b => obtain ⟨t, rfl⟩ := rx; exact SeqAt.EqAt.str_int a t' b t
    | str b => obtain ⟨t, rfl⟩ := rx; exact SeqAt.EqAt.str_str a t' b t
    | _ => exact absurd (show false = true from fx) Bool.false_ne_true
  | _ => exact absurd (show false = true from fy) Bool.false_ne_true
/-- the items' answers, read off the values (a value's own answer does not lean on its token) -/
def eqU (x : V) (u : Value) : Bool := match u with
  | .none => eqV .non x
  | .bool b => eqV (.bl b) x
  | .int i _ => eqV (.int i) x
  | .str z _ => eqV (.str z) x
  | _ => false
theorem eqU_of {x y : V} {u : Value} (r : RelV y u) (f : flatV y = true) : eqU x u = eqV y x := by
  cases y with
  | non => cases r; rfl
  | bl b => cases r; rfl
  | int i => obtain ⟨t, rfl⟩ := r; rfl
  | str z => obtain ⟨t, rfl⟩ := r; rfl
  | _ => exact absurd (show false = true from f) Bool.false_ne_true
theorem any_eqU {x : V} : ∀ {xs : List V} {us : List Value}, Vals xs us → xs.all flatV = true → us.any (eqU x) = xs.any fun y => eqV y x
  | _, _, .nil, _ => rfl
  | y :: xs, u :: us, .cons r t, f => by
    rw [List.all_cons, Bool.and_eq_true] at f
    rw [List.any_cons, List.any_cons, eqU_of r f.1, any_eqU t f.2]
theorem mem_eqAt {A : Around} {s : Shared} {x : V} {v : Value} (rx : RelV x v) (fx : flatV x = true) : ∀ {xs : List V} {us : List Value}, Vals xs us → xs.all flatV = true → ∀ u ∈ us, SeqAt.EqAt A s u v (eqU x u)
  | _, _, .nil, _ => fun u hu => by cases hu
  | y :: xs, u :: us, .cons r t, f => fun u' hu => by
    rw [List.all_cons, Bool.and_eq_true] at f
    rcases List.mem_cons.mp hu with rfl | hu
    · rw [eqU_of r f.1]; exact eqAt_V r rx f.1 fx
    · exact mem_eqAt rx fx t f.2 u' hu
def inV (x : V) (xs : List V) : Bool := xs.any fun y => eqV y x
/-- x in a list or tuple of flat items -/
def rIn (K : PySem.W.Frag) (neg : Bool) : R2 := fun x y H Q => ∃ p xs, y = .ref p ∧ (SqL K H p xs ∨ SqT K H p xs) ∧ flatV x = true ∧ xs.all flatV = true ∧ Q (.bl (if neg then !inV x xs else inV x xs)) H
theorem op_in_seq : OpR X (compareOp .In) (rIn X.K false) := by
  intro pins s σ H x y v u Q I rx ry h
  obtain ⟨p, xs, rfl, hq, fx, fs, q⟩ := h
  cases ry
  rcases hq with hq | hq
  · obtain ⟨its, r, pl, hz⟩ := I.list hq
    refine SeqAt.in_listAt (eqU x) pl.isList (fun w hw => mem_eqAt rx fx r fs w (by simpa using hw)) ⟨.bl _, H, I, rfl, ?_⟩
    rw [show its.toArray.any (eqU x) = its.any (eqU x) by simp, any_eqU r fs]
    exact q
  · obtain ⟨its, r, pl, hz⟩ := I.tuple hq
    refine SeqAt.in_tupleAt (eqU x) pl (fun w hw => mem_eqAt rx fx r fs w (by simpa using hw)) ⟨.bl _, H, I, rfl, ?_⟩
    rw [show its.toArray.any (eqU x) = its.any (eqU x) by simp, any_eqU r fs]
    exact q
theorem op_notIn_seq : OpR X (compareOp .NotIn) (rIn X.K true) := by
  intro pins s σ H x y v u Q I rx ry h
  obtain ⟨p, xs, rfl, hq, fx, fs, q⟩ := h
  cases ry
  rcases hq with hq | hq
  · obtain ⟨its, r, pl, hz⟩ := I.list hq
    refine SeqAt.notIn_listAt (eqU x) pl.isList (fun w hw => mem_eqAt rx fx r fs w (by simpa using hw)) ⟨.bl _, H, I, rfl, ?_⟩
    rw [show its.toArray.any (eqU x) = its.any (eqU x) by simp, any_eqU r fs]
    exact q
  · obtain ⟨its, r, pl, hz⟩ := I.tuple hq
    refine SeqAt.notIn_tupleAt (eqU x) pl (fun w hw => mem_eqAt rx fx r fs w (by simpa using hw)) ⟨.bl _, H, I, rfl, ?_⟩
    rw [show its.toArray.any (eqU x) = its.any (eqU x) by simp, any_eqU r fs]
    exact q
/-! ### len, list(x), tuple(x) of any list or tuple that is read -/
theorem call_len_seq : CallR X (.builtin "len") (fun xs H Q => ∃ p ys, xs = [.ref p] ∧ (SqL X.K H p ys ∨ SqT X.K H p ys) ∧ Q (.int ys.length) H) := by
  intro pins s σ H xs us Q I r h
  obtain ⟨p, ys, rfl, hq, q⟩ := h
  obtain ⟨u, rfl, rx⟩ := vals1 r
  cases rx
  have hn := line63
  rcases hq with hq | hq
  · obtain ⟨its, r', pl, hz⟩ := I.list hq
    have hlen := r'.length
    exact Calls.call_len_list pl.isList (by simp only [List.size_toArray] <;> omega) ⟨.int ys.length, H, I.tok _, ⟨s.toks + 1, by rw [List.size_toArray, hlen]⟩, q⟩
  · obtain ⟨its, r', pl, hz⟩ := I.tuple hq
    have hlen := r'.length
    exact len_tuple pl (by simp only [List.size_toArray] <;> omega) ⟨.int ys.length, H, I.tok _, ⟨s.toks + 1, by rw [List.size_toArray, hlen]⟩, q⟩
theorem call_list_of : CallR X (.type "list") (fun xs H Q => ∃ p ys, xs = [.ref p] ∧ (SqL X.K H p ys ∨ SqT X.K H p ys) ∧ ∀ l, H l = none → Q (.ref l) (upd H l (.lst ys))) := by
  intro pins s σ H xs us Q I r h
  obtain ⟨p, ys, rfl, hq, q⟩ := h
  obtain ⟨u, rfl, rx⟩ := vals1 r
  cases rx
  have fin : ∀ (its : List Value), Vals ys its → ys.length ≤ sizeLine → ∀ (h' : Heap) (c' : Nat), (∀ b o', s.heap.get? b = some o' → h'.get? b = some o') →
      h'.get? s.heap.objs.size = some { cls := .type "list", dict := none, data := .seq its.toArray c', slots := #[] } → EP X pins σ Q (.ref s.heap.objs.size) { s with heap := h' } := fun its r' hz h' c' kp e =>
    ⟨.ref s.heap.objs.size, _, I.laid (t' := s.toks) kp (Nat.le_refl _) (show ObjOk X.prog X.w _ h' _ (.lst ys) from ⟨hz, its, c', r', e⟩), rfl, q _ (I.hok.fresh (Nat.le_refl _))⟩
  rcases hq with hq | hq
  · obtain ⟨its, r', pl, hz⟩ := I.list hq
    have hlen := r'.length
    obtain ⟨o, ho, hc, n, hd⟩ := pl.isList
    exact call_list_seq p (.inl rfl) ho hc hd (fun h' c' kp e => fin its r' hz h' c' kp e) (by simp only [List.size_toArray] <;> omega)
  · obtain ⟨its, r', pl, hz⟩ := I.tuple hq
    have hlen := r'.length
    obtain ⟨o, ho, hc, n, hd⟩ := pl
    exact call_list_seq p (.inr rfl) ho hc hd (fun h' c' kp e => fin its r' hz h' c' kp e) (by simp only [List.size_toArray] <;> omega)
theorem call_tuple_of : CallR X (.type "tuple") (fun xs H Q => ∃ p ys, xs = [.ref p] ∧ ((SqL X.K H p ys ∧ ∀ l, H l = none → Q (.ref l) (upd H l (.tup ys))) ∨ (SqT X.K H p ys ∧ Q (.ref p) H))) := by
  intro pins s σ H xs us Q I r h
  obtain ⟨p, ys, rfl, h⟩ := h
  obtain ⟨u, rfl, rx⟩ := vals1 r
  cases rx
  rcases h with ⟨hq, q⟩ | ⟨hq, q⟩
  · obtain ⟨its, r', pl, hz⟩ := I.list hq
    have hlen := r'.length
    refine call_tuple_list pl.isList (fun h' kp => ?_) (by simp only [List.size_toArray] <;> omega)
    have I1 : Inv X pins σ H { s with heap := h' } := I.kept (t' := s.toks) kp
    have I2 : Inv X pins σ (upd H h'.objs.size (.tup ys)) { s with heap := h'.push { cls := .type "tuple", data := .seq its.toArray } } :=
      I1.laid (t' := s.toks) (fun b o e => Heap.get?_push_of_some _ e) (Nat.le_refl _) (show ObjOk X.prog X.w _ _ _ (.tup ys) from ⟨hz, its, r', IsTup.new _ _⟩)
    exact ⟨.ref h'.objs.size, _, I2, rfl, q _ (I1.hok.fresh (Nat.le_refl _))⟩
  · obtain ⟨its, r', pl, hz⟩ := I.tuple hq
    exact call_tuple_same pl ⟨.ref p, H, I, rfl, q⟩

/-! ### the call of a builtin's method: o.m(..) -/
/-- the value is of that builtin type -/
def tyV (K : PySem.W.Frag) (T : String) (x : V) (H : Hp) : Prop := match x with
  | .str _ => T = "str"
  | .int _ => T = "int"
  | .ref p => (T = "list" ∧ ∃ xs, SqL K H p xs) ∨ (T = "tuple" ∧ ∃ o, K.lookup p = some o ∧ o.cls = .type "tuple" ∧ o.dict = none) ∨
      (T = "dict" ∧ ((∃ kvs, H p = some (.dK kvs)) ∨ ∃ kvs, H p = some (.dT kvs))) ∨ (T = "set" ∧ ∃ S n, H p = some (.set S n))
  | _ => False
theorem tyV_is {pins : List (Addr × Obj)} {σ : St} {H : Hp} {s : Shared} {T : String} {x : V} {v : Value} (I : Inv X pins σ H s) (r : RelV x v) (ty : tyV X.K T x H) :
    s.TypeIs v T ∧ ∀ a, v = .ref a → ∃ ob, s.heap.get? a = some ob ∧ ob.dict = none := by
  cases x with
  | str z =>
    obtain ⟨t, rfl⟩ := r
    cases (show T = "str" from ty)
    exact ⟨typeIs_str s z t, fun _ e => nomatch e⟩
  | int i =>
    obtain ⟨t, rfl⟩ := r
    cases (show T = "int" from ty)
    exact ⟨typeIs_int s i t, fun _ e => nomatch e⟩
  | ref p =>
    cases r
    rcases ty with ⟨rfl, xs, hq⟩ | ⟨rfl, o, hk, hc, hd⟩ | ⟨rfl, hk⟩ | ⟨rfl, S, n, hk⟩
    · obtain ⟨its, _, pl, _⟩ := I.list hq
      refine ⟨pl.isList.typeIs, fun a e => ?_⟩
      cases e
      obtain ⟨o, n, e, c, hd, _⟩ := pl
      exact ⟨o, e, hd⟩
    · refine ⟨⟨o, I.kIn p o hk, hc⟩, fun a e => ?_⟩
      cases e
      exact ⟨o, I.kIn _ o hk, hd⟩
    · have z : ∃ o, s.heap.get? p = some o ∧ o.ExactDict := by
        rcases hk with ⟨kvs, hk⟩ | ⟨kvs, hk⟩
        · obtain ⟨_, _, _, _, o, _, _, e, ex, _⟩ := I.hok p _ hk
          exact ⟨o, e, ex⟩
        · obtain ⟨_, _, _, _, o, _, _, e, ex, _⟩ := I.hok p _ hk
          exact ⟨o, e, ex⟩
      obtain ⟨o, e, ex⟩ := z
      refine ⟨⟨o, e, ex.1⟩, fun a e2 => ?_⟩
      cases e2
      exact ⟨o, e, ex.2.1⟩
    · obtain ⟨o, _, _, _, e, ex, _⟩ := I.hok p _ hk
      refine ⟨⟨o, e, ex.1⟩, fun a e2 => ?_⟩
      cases e2
      exact ⟨o, e, ex.2.1⟩
  | _ => exact False.elim ty
def tBM0 (K : PySem.W.Frag) (T : String) (r : V → List V → Hp → VK → Prop) (to : TE) : TE := fun σ H Q => to σ H fun x H1 => tyV K T x H1 ∧ r x [] H1 Q
def tBM (K : PySem.W.Frag) (T : String) (r : V → List V → Hp → VK → Prop) (to : TE) (t : TA) : TE := fun σ H Q => to σ H fun x H1 => tyV K T x H1 ∧ t σ H1 fun xs H2 => r x xs H2 Q
variable {o e : Expr} {es : List Expr} {to : TE} {t : TA} {name : Str} {apos cpos : Pos} {T id : String} {r : V → List V → Hp → VK → Prop}
theorem pe_bm0 (pa : PlainAttrs T) (slot : Slot T name id) (hty : typeOf (.builtin id) = pure (.type "method_descriptor")) (hm : MtR X id r) (ho : PE X o to)
    (hbase : attributeBase o name X.env (eval o X.env) = eval o X.env := by rfl) (hline : (apos.endLine == cpos.line) = true := by rfl) : PE X (.Call (.Attribute o name apos) [] [] cpos) (tBM0 X.K T r to) := by
  intro pins s σ H Q I h
  refine wpAny_Call_method0_late hbase hline (thn (ho pins s σ H _ I h) fun v s1 ⟨x, H1, I1, r1, ty, q1⟩ => ?_)
  obtain ⟨h1, h2⟩ := tyV_is I1 r1 ty
  exact ⟨T, id, pa, slot, hty, h1, h2, Calls.callWith_builtin rfl (PySem.evalArgs_none (hm pins s1 σ H1 x [] v [] Q I1 r1 .nil q1))⟩
theorem pe_bm (pa : PlainAttrs T) (slot : Slot T name id) (hty : typeOf (.builtin id) = pure (.type "method_descriptor")) (hm : MtR X id r) (ho : PE X o to) (ha : PA X (e :: es) t)
    (hbase : attributeBase o name X.env (eval o X.env) = eval o X.env := by rfl)
    (hfew : ((backTo cpos (starEach (e :: es) X.env)).all (fun x => !x.1) && (backToKw cpos (keywordEach [] X.env)).all (fun x => x.1.isSome)
      && decide ((e :: es).length + ([] : List Keyword).length + (if ([] : List Keyword).isEmpty then 0 else 1) < 30)) = true := by rfl)
    (hline : (apos.endLine == cpos.line) = true := by rfl) (hs : starEach (e :: es) X.env = (false, eval e X.env) :: starEach es X.env := by rfl) (hplain : (backTo cpos (starEach es X.env)).any (·.1) = false := by rfl) :
    PE X (.Call (.Attribute o name apos) (e :: es) [] cpos) (tBM X.K T r to t) := by
  intro pins s σ H Q I h
  refine wpAny_Call_method_late hbase hfew hline rfl (thn (ho pins s σ H _ I h) fun v s1 ⟨x, H1, I1, r1, ty, q1⟩ => ?_)
  obtain ⟨h1, h2⟩ := tyV_is I1 r1 ty
  refine ⟨T, id, pa, slot, hty, h1, h2, ?_⟩
  have hA := ha cpos pins s1 σ H1 _ I1 q1
  rw [hs] at hA ⊢
  refine Calls.callWith_builtin (by show (false || (backTo cpos (starEach es X.env)).any (·.1)) = false; rw [hplain] <;> rfl) (Calls.evalArgs_plain ?_)
  exact thn hA fun us s2 ⟨vs, H2, I2, r2, q2⟩ => hm pins s2 σ H2 x vs v us Q I2 r1 r2 q2
/- xs.append(e), list.index on a module's tuple .. are MtR facts of 06m -/
end
end L2

namespace L2
open PySem PySem.Spec PyProof.Rows

def MtM (X : Cx) (id : String) (r : V → List V → Hp → VK → Prop) : Prop :=
  ∀ (pins : List (Addr × Obj)) (s : Shared) (σ : St) (H : Hp) (x : V) (xs : List V) (v : Value) (us : List Value) (Q : VK), Inv X pins σ H s → RelV x v → Vals xs us → r x xs H Q →
    wpAny (model X.prog X.w) X.A (call (.builtin id) (v :: us)) (EP X pins σ Q) X.xe s

/-! ### lists of values -/
theorem Vals.one : ∀ {x : V} {us : List Value}, Vals [x] us → ∃ u, us = [u] ∧ RelV x u
  | _, _, .cons r .nil => ⟨_, rfl, r⟩
theorem Vals.zero : ∀ {us : List Value}, Vals [] us → us = []
  | _, .nil => rfl
theorem Vals.dropLast {xs : List V} {us : List Value} (h : Vals xs us) : Vals xs.dropLast us.dropLast := by
  induction h with
  | nil => exact .nil
  | cons r t ih =>
    cases t with
    | nil => exact .nil
    | cons q t' => exact .cons r ih
theorem Vals.eraseIdx : ∀ {xs : List V} {us : List Value} (i : Nat), Vals xs us → Vals (xs.eraseIdx i) (us.eraseIdx i)
  | _, _, _, .nil => .nil
  | _, _, 0, .cons _ t => t
  | _, _, i + 1, .cons r t => .cons r (Vals.eraseIdx i t)
theorem Vals.reverse {xs : List V} {us : List Value} (h : Vals xs us) : Vals xs.reverse us.reverse := by
  induction h with
  | nil => exact .nil
  | cons r t ih => rw [List.reverse_cons, List.reverse_cons]; exact Vals.append ih (.cons r .nil)
theorem Vals.rep {xs : List V} {us : List Value} (h : Vals xs us) : ∀ k : Nat, Vals (List.replicate k xs).flatten (List.replicate k us).flatten
  | 0 => .nil
  | k + 1 => by
    rw [List.replicate_succ, List.replicate_succ, List.flatten_cons, List.flatten_cons]
    exact Vals.append h (Vals.rep h k)
theorem erase_last {α : Type} (l : List α) : l.eraseIdx (l.length - 1) = l.dropLast := by
  induction l with
  | nil => rfl
  | cons a r ih =>
    cases r with
    | nil => rfl
    | cons b r =>
      have e : (a :: b :: r).length - 1 = ((b :: r).length - 1) + 1 := by
        have h1 : (a :: b :: r).length = r.length + 2 := rfl
        have h2 : (b :: r).length = r.length + 1 := rfl
        omega
      rw [e, List.eraseIdx_cons_succ, ih]
      all_goals rfl
theorem len_erase {α : Type} : ∀ (l : List α) (i : Nat), (l.eraseIdx i).length ≤ l.length
  | [], _ => Nat.le_refl _
  | _ :: _, 0 => Nat.le_succ _
  | _ :: r, i + 1 => Nat.succ_le_succ (len_erase r i)
theorem foldl_rep (its : List Value) : ∀ (k : Nat) (acc : List Value),
    List.foldl (fun x1 x2 => x1 ++ x2) acc.toArray (List.replicate k its.toArray) = (acc ++ (List.replicate k its).flatten).toArray
  | 0, acc => by simp
  | k + 1, acc => by
    have e : acc.toArray ++ its.toArray = (acc ++ its).toArray := by simp
    have e2 : (acc ++ its) ++ (List.replicate k its).flatten = acc ++ (List.replicate (k + 1) its).flatten := by
      rw [List.replicate_succ, List.flatten_cons, List.append_assoc]
    rw [← e2, ← foldl_rep its k (acc ++ its), ← e, List.replicate_succ, List.foldl_cons]

section
variable {X : Cx} {pins : List (Addr × Obj)} {σ : St} {H : Hp} {s : Shared} {l b : Addr} {xs ys zs : List V}

/-! ### the two steps: a tracked list is rewritten, a new list is laid -/
theorem Inv.lset {its its' : List Value} {n : Nat} {f : Array Value → Array Value} {t' : Nat} (I : Inv X pins σ H s) (hH : H l = some (.lst xs))
    (e : s.heap.get? l = some { cls := .type "list", data := .seq its.toArray n }) (hf : f its.toArray = its'.toArray) (hv : Vals ys its') (hz : ys.length ≤ sizeLine) :
    Inv X pins σ (upd H l (.lst ys)) { s with heap := s.heap.update l (Obj.mapSeq f), toks := t' } := by
  have q := PySem.IsL.update e f
  rw [hf] at q
  refine I.write (x := l) (e := l) (by rw [hH]; exact trivial) (.inl rfl) (fun b' u hb hu => (Heap.get?_update_other s.heap (Obj.mapSeq f) (Ne.symm hb)).trans hu) ⟨_, q⟩ ?_
  exact ⟨hz, its', _, hv, q⟩
theorem Inv.lnew {its : List Value} {t' : Nat} (I : Inv X pins σ H s) (hv : Vals ys its) (hz : ys.length ≤ sizeLine) :
    Inv X pins σ (upd H s.heap.objs.size (.lst ys)) { s with heap := s.heap.push { cls := .type "list", data := .seq its.toArray }, toks := t' } :=
  I.laid (fun _ _ q => Heap.get?_push_of_some _ q) (Nat.le_refl _) ⟨hz, its, 0, hv, Heap.get?_push_size _ rfl⟩
theorem Inv.fresh (I : Inv X pins σ H s) : H s.heap.objs.size = none := I.hok.fresh (Nat.le_refl _)
theorem Inv.lstM (I : Inv X pins σ H s) (hH : H l = some (.lst xs)) : xs.length ≤ sizeLine ∧ ∃ (its : List Value) (n : Nat), Vals xs its ∧ xs.length = its.length ∧ s.heap.get? l = some { cls := .type "list", data := .seq its.toArray n } := by
  obtain ⟨z, its, n, r, e⟩ := I.hok l _ hH
  exact ⟨z, its, n, r, r.length, e⟩

theorem notLongL {n : Nat} (h : n ≤ sizeLine) : Builtin.List.listTooLong n = false := by
  unfold Builtin.List.listTooLong
  exact decide_eq_false (by omega)
end

section
variable {X : Cx}

/-! ### methods -/
def rAppend : V → List V → Hp → VK → Prop := fun x vs H Q => ∃ l xs y, x = .ref l ∧ vs = [y] ∧ H l = some (.lst xs) ∧ xs.length < sizeLine ∧ Q .non (upd H l (.lst (xs ++ [y])))
theorem mt_append : MtM X "list.append" rAppend := by
  intro pins s σ H x vs v us Q I rx rv h
  obtain ⟨l, xs, y, rfl, rfl, hH, hz, q⟩ := h
  cases rx
  obtain ⟨u, rfl, ru⟩ := rv.one
  obtain ⟨z, its, n, r, hl, e⟩ := I.lstM hH
  refine call_meets F.slot_list_append ⟨_, e, rfl⟩ F.entry_list_append (F.args_list_append_2 _ _) (PySem.list_append l its.toArray n u (by rw [List.size_toArray]; omega)) ⟨e, ?_⟩
  refine ⟨.non, _, I.lset (its' := its ++ [u]) hH e (by simp) (r.append (.cons ru .nil)) ?_, rfl, q⟩
  rw [List.length_append, List.length_singleton]
  omega

def rExtend : V → List V → Hp → VK → Prop := fun x vs H Q => ∃ l b xs zs, x = .ref l ∧ vs = [.ref b] ∧ H l = some (.lst xs) ∧ H b = some (.lst zs) ∧ xs.length + zs.length ≤ sizeLine ∧ Q .non (upd H l (.lst (xs ++ zs)))
theorem mt_extend : MtM X "list.extend" rExtend := by
  intro pins s σ H x vs v us Q I rx rv h
  obtain ⟨l, b, xs, zs, rfl, rfl, hH, hB, hz, q⟩ := h
  cases rx
  obtain ⟨u, rfl, ru⟩ := rv.one
  cases ru
  obtain ⟨z, its, n, r, hl, e⟩ := I.lstM hH
  obtain ⟨z2, its2, n2, r2, hl2, e2⟩ := I.lstM hB
  have hsz : its.toArray.size + its2.toArray.size ≤ sizeLine := by rw [List.size_toArray, List.size_toArray]; omega
  have hlong : ¬ (!its.toArray.isEmpty && Builtin.List.listTooLong (its.toArray.size + its2.toArray.size)) = true := by
    rw [notLongL hsz, Bool.and_false]
    exact Bool.false_ne_true
  refine call_meets F.slot_list_extend ⟨_, e, rfl⟩ F.entry_list_extend (F.args_list_extend_2 _ _)
    (AutoSeq1.list_extend_list_list_0 l its.toArray n b its2.toArray n2 hlong (by rw [List.size_toArray]; omega) (by omega)) ⟨e, e2, ?_⟩
  refine ⟨.non, _, I.lset (its' := its ++ its2) hH e (by simp) (r.append r2) ?_, rfl, q⟩
  rw [List.length_append]
  omega

def rPop : V → List V → Hp → VK → Prop := fun x vs H Q => ∃ l xs y, x = .ref l ∧ vs = [] ∧ H l = some (.lst xs) ∧ xs[xs.length - 1]? = some y ∧ Q y (upd H l (.lst xs.dropLast))
theorem mt_pop : MtM X "list.pop" rPop := by
  intro pins s σ H x vs v us Q I rx rv h
  obtain ⟨l, xs, y, rfl, rfl, hH, hy, q⟩ := h
  cases rx
  have hus := rv.zero
  subst hus
  obtain ⟨z, its, n, r, hl, e⟩ := I.lstM hH
  obtain ⟨u, hu, ru⟩ := r.get hy
  have hy' : its.toArray[its.toArray.size - 1]? = some u := by
    show its.toArray[its.length - 1]? = some u
    rw [← Array.getElem?_toList, ← hl]
    exact hu
  refine call_meets F.slot_list_pop ⟨_, e, rfl⟩ F.entry_list_pop (F.args_list_pop_1 _) (MeetsSeq.list_pop_last l its.toArray n u hy' (by rw [List.size_toArray]; omega)) ⟨e, ?_⟩
  refine ⟨y, _, I.lset (its' := its.dropLast) hH e ?_ r.dropLast ?_, ru, q⟩
  · show its.toArray.eraseIdxIfInBounds (its.toArray.size - 1) = its.dropLast.toArray
    rw [List.size_toArray, List.eraseIdxIfInBounds_toArray, erase_last]
  · rw [List.length_dropLast]
    omega

def rPopAt : V → List V → Hp → VK → Prop := fun x vs H Q => ∃ l xs i k y, x = .ref l ∧ vs = [.int i] ∧ H l = some (.lst xs) ∧ -(2 ^ 63) ≤ i ∧ i < 2 ^ 63 ∧ seqIndex? i xs.length = some k ∧ xs[k]? = some y ∧ Q y (upd H l (.lst (xs.eraseIdx k)))
theorem mt_popAt : MtM X "list.pop" rPopAt := by
  intro pins s σ H x vs v us Q I rx rv h
  obtain ⟨l, xs, i, k, y, rfl, rfl, hH, h1, h2, hk, hy, q⟩ := h
  cases rx
  obtain ⟨u, rfl, ru⟩ := rv.one
  obtain ⟨t, rfl⟩ := ru
  obtain ⟨z, its, n, r, hl, e⟩ := I.lstM hH
  obtain ⟨w, hw, rw'⟩ := r.get hy
  refine call_meets F.slot_list_pop ⟨_, e, rfl⟩ F.entry_list_pop (F.args_list_pop_2 _ _)
    (MeetsSeq.list_pop_at l its.toArray n i t k w (fitsIndex_both h1 h2) (by rw [List.size_toArray, ← hl]; exact hk) (by rw [← Array.getElem?_toList]; exact hw) (by rw [List.size_toArray]; omega)) ⟨e, ?_⟩
  refine ⟨y, _, I.lset (its' := its.eraseIdx k) hH e ?_ (r.eraseIdx k) ?_, rw', q⟩
  · show its.toArray.eraseIdxIfInBounds k = (its.eraseIdx k).toArray
    rw [List.eraseIdxIfInBounds_toArray]
  · have := len_erase xs k
    omega

/-! ### list + list, list += list, list * int -/
def rCat : R2 := fun x y H Q => ∃ l b xs zs, x = .ref l ∧ y = .ref b ∧ H l = some (.lst xs) ∧ H b = some (.lst zs) ∧ xs.length + zs.length ≤ sizeLine ∧ ∀ p, H p = none → Q (.ref p) (upd H p (.lst (xs ++ zs)))
theorem op_cat : OpR X (binaryOp .Add) rCat := by
  intro pins s σ H x y v u Q I rx ry h
  obtain ⟨l, b, xs, zs, rfl, rfl, hH, hB, hz, q⟩ := h
  cases rx
  cases ry
  obtain ⟨z, its, n, r, hl, e⟩ := I.lstM hH
  obtain ⟨z2, its2, n2, r2, hl2, e2⟩ := I.lstM hB
  refine PySem.P.add_list e e2 ?_ (by rw [List.size_toArray, List.size_toArray]; omega)
  have ea : its.toArray ++ its2.toArray = (its ++ its2).toArray := by simp
  rw [ea]
  exact ⟨.ref _, _, I.lnew (t' := s.toks) (r.append r2) (by rw [List.length_append]; omega), rfl, q _ I.fresh⟩
/-- a list times an int (a negative one is nothing) -/
def rRep : R2 := fun x y H Q => ∃ l k xs, x = .ref l ∧ y = .int k ∧ H l = some (.lst xs) ∧ -(2 ^ 63) ≤ k ∧ k < 2 ^ 63 ∧ xs.length * k.toNat ≤ sizeLine ∧
  ∀ p, H p = none → Q (.ref p) (upd H p (.lst (List.replicate k.toNat xs).flatten))
theorem len_rep {α : Type} (xs : List α) (k : Nat) : (List.replicate k xs).flatten.length = k * xs.length := by
  induction k with
  | zero => simp
  | succ k ih => rw [List.replicate_succ, List.flatten_cons, List.length_append, ih, Nat.succ_mul, Nat.add_comm]
theorem op_rep : OpR X (binaryOp .Mult) rRep := by
  intro pins s σ H x y v u Q I rx ry h
  obtain ⟨l, k, xs, rfl, rfl, hH, h1, h2, hz, q⟩ := h
  cases rx
  obtain ⟨t, rfl⟩ := ry
  obtain ⟨z, its, n, r, hl, e⟩ := I.lstM hH
  have hlen : its.toArray.size * k.toNat ≤ sizeLine := by rw [List.size_toArray, ← hl]; exact hz
  have hcap : ¬ its.toArray.size * k.toNat > (2 ^ 63 - 1) / 8 := by
    have : (sizeLine : Nat) ≤ (2 ^ 63 - 1) / 8 := by decide
    omega
  have hfit : ¬ (!Builtin.List.listFitsIndex k) = true := by
    rw [fitsIndex_both h1 h2]
    exact Bool.false_ne_true
  have hlong : ¬ Builtin.List.listTooLong (its.toArray.size * k.toNat) = true := by
    rw [notLongL hlen]
    exact Bool.false_ne_true
  have hnew : List.foldl (fun x1 x2 => x1 ++ x2) #[] (List.replicate (if its.toArray.isEmpty = true then 0 else k.toNat) its.toArray) = (List.replicate k.toNat its).flatten.toArray := by
    have f0 : ∀ m : Nat, List.foldl (fun x1 x2 => x1 ++ x2) #[] (List.replicate m its.toArray) = (List.replicate m its).flatten.toArray := fun m => by
      have := foldl_rep its m []
      rw [List.nil_append] at this
      exact this
    rw [f0]
    cases its with
    | nil => simp
    | cons a r' => rw [if_neg (by simp)]
  refine wpAny_binaryOp_repeat_ref (T := "list") (U := "int") (by decide) ⟨_, e, rfl⟩ (fun s' => typeIs_int s' k t) noFill_list_mul F.fills_int_mul F.slot_int_rmul repeat_list F.slot_int_index.lookup
    (call_meets F.slot_int_rmul (typeIs_int s k t) F.entry_int_rmul (F.args_int_rmul_2 _ _) (int___rmul___int_list k t l its.toArray n)
      ⟨e, rfl, ⟨_, e, rfl⟩, call_meets F.slot_list_mul ⟨_, e, rfl⟩ F.entry_list_mul (F.args_list_mul_2 _ _) (AutoListH.list___mul___list_int_3 l its.toArray n k t hfit hcap hlong) ⟨e, ?_⟩⟩)
  rw [hnew]
  exact ⟨.ref _, _, I.lnew (t' := s.toks) (r.rep k.toNat) (by rw [len_rep, Nat.mul_comm]; exact hz), rfl, q _ I.fresh⟩

/-! ### del xs[i] -/
end

/-! ### xs[a:b] = ys -/
section
variable {prog : Program} {w : World} {A : Around} {E : Value → Shared → Prop} {s : Shared}
end

section
variable {X : Cx}
end
end L2

namespace L2
open PySem PySem.Spec PyProof.Rows

theorem Vals.ints : ∀ {ns : List Int} {us : List Value}, Vals (ns.map V.int) us → IntsAre us ns
  | [], us, h => by
    rw [List.map_nil] at h
    cases h
    exact IntsAre.nil
  | n :: ns, us, h => by
    rw [List.map_cons] at h
    cases h with
    | cons r t =>
      obtain ⟨k, rfl⟩ := r
      exact IntsAre.cons n k (Vals.ints t)
theorem Vals.strs : ∀ {xs : List Str} {us : List Value}, Vals (xs.map V.str) us → StrsAre us xs
  | [], us, h => by
    rw [List.map_nil] at h
    cases h
    exact StrsAre.nil
  | x :: xs, us, h => by
    rw [List.map_cons] at h
    cases h with
    | cons r t =>
      obtain ⟨k, rfl⟩ := r
      exact StrsAre.cons x k (Vals.strs t)
theorem vals_of_strs : ∀ {us : List Value} {xs : List Str}, StrsAre us xs → Vals (xs.map V.str) us
  | _, _, .nil => by rw [List.map_nil]; exact Paired.nil
  | _, _, .cons x t h => by rw [List.map_cons]; exact Paired.cons (show RelV (V.str x) (Value.str x t) from ⟨t, rfl⟩) (vals_of_strs h)
theorem Vals.bls : ∀ {bs : List Bool} {us : List Value}, Vals (bs.map V.bl) us → us = bs.map Value.bool
  | [], us, h => by
    rw [List.map_nil] at h
    cases h
    rfl
  | b :: bs, us, h => by
    rw [List.map_cons] at h
    cases h with
    | cons r t =>
      cases r
      rw [Vals.bls t, List.map_cons]
theorem Vals.ref1 {a : Addr} {us : List Value} (r : Vals [V.ref a] us) : us = [Value.ref a] := by
  cases r with
  | cons r t =>
    cases t
    cases r
    rfl
/-! ### the library's walks over a list of ints, kept objects alone -/
section
variable {prog : Program} {w : World} {A : Around} {E : Value → Shared → Prop} {s : Shared} {l : Addr} {its : List Value} {ns : List Int} {Q : Value → Shared → Prop}
theorem sum_raw (hh : A.handled = none) (hl : s.heap.IsList l its.toArray) (hi : IntsAre its ns)
    (h : ∀ h' tk t', (∀ b o, s.heap.get? b = some o → h'.get? b = some o) → Q (.int ns.sum t') { s with heap := h', toks := tk }) : wpAny (model prog w) A (call (.builtin "sum") [.ref l]) Q E s := by
  obtain ⟨xs, e⟩ := hi.allInts.items
  have hn : numsOf (intItems xs).toList = ns := by rw [← e]; exact hi.numsOf
  rw [nums_intItems] at hn
  rw [e] at hl
  refine PySem.sum_intListG hh hl fun h' tk t' hk => ?_
  have := h h' tk t' hk
  rw [preSum_eq, List.take_of_length_le (by simp), hn]; exact this
theorem max_raw (hh : A.handled = none) (hl : s.heap.IsList l its.toArray) (hi : IntsAre its ns) (hne : 0 < ns.length)
    (h : ∀ h' tk M t', (∀ b o, s.heap.get? b = some o → h'.get? b = some o) → M ∈ ns → (∀ a, a ∈ ns → a ≤ M) → Q (.int M t') { s with heap := h', toks := tk }) : wpAny (model prog w) A (call (.builtin "max") [.ref l]) Q E s := by
  obtain ⟨xs, e⟩ := hi.allInts.items
  have hn : numsOf (intItems xs).toList = ns := by rw [← e]; exact hi.numsOf
  rw [nums_intItems] at hn
  subst hn
  rw [e] at hl
  have hsz : 0 < xs.size := by simpa using hne
  refine PySem.max_intList hh hl hsz fun v h' tk hv hk => ?_
  obtain ⟨t, rfl⟩ := intItems_at hv
  obtain ⟨h1, h2⟩ := argBest_gt (numAt xs) (xs.size - 1)
  refine h h' tk _ t hk ?_ fun a ha => ?_
  · rw [numAt_eq]; exact PySem.getD_mem (by rw [List.length_map, Array.length_toList]; omega)
  · obtain ⟨j, hj, rfl⟩ := mem_getD ha
    rw [List.length_map, Array.length_toList] at hj
    rw [← numAt_eq]; exact h2 j (by omega)
end

/-! ### the calls, by values (CallR of 03t; MtR of 06l) -/
section
variable {X : Cx}
/-- sum(xs) of a list of ints -/
def rSum (K : PySem.W.Frag) : List V → Hp → VK → Prop := fun vs H Q => ∃ (a : Addr) (ns : List Int), vs = [V.ref a] ∧ SqL K H a (ns.map V.int) ∧ Q (.int ns.sum) H
/-- max(xs), min(xs) of a list of ints -/
def rMax (K : PySem.W.Frag) : List V → Hp → VK → Prop := fun vs H Q => ∃ (a : Addr) (ns : List Int), vs = [V.ref a] ∧ SqL K H a (ns.map V.int) ∧ 0 < ns.length ∧ ∀ m, m ∈ ns → (∀ y, y ∈ ns → y ≤ m) → Q (.int m) H
theorem cr_sum (hc : X.calm = true) : CallR X (.builtin "sum") (rSum X.K) := by
  intro pins s σ H vs us Q I r h
  obtain ⟨a, ns, rfl, hs, q⟩ := h
  obtain ⟨its, rv, hl, _⟩ := I.list hs
  rw [Vals.ref1 r]
  exact sum_raw (I.ok.hd hc) hl.isList rv.ints fun h' tk t' hk => ⟨.int _, H, I.kept hk, ⟨_, rfl⟩, q⟩
theorem cr_max (hc : X.calm = true) : CallR X (.builtin "max") (rMax X.K) := by
  intro pins s σ H vs us Q I r h
  obtain ⟨a, ns, rfl, hs, hne, q⟩ := h
  obtain ⟨its, rv, hl, _⟩ := I.list hs
  rw [Vals.ref1 r]
  exact max_raw (I.ok.hd hc) hl.isList rv.ints hne fun h' tk m t' hk h1 h2 => ⟨.int _, H, I.kept hk, ⟨_, rfl⟩, q m h1 h2⟩
/-! sorted, sort (fewer than 64 items: the library's own bound) -/
def rSortedS (K : PySem.W.Frag) : List V → Hp → VK → Prop := fun vs H Q => ∃ (a : Addr) (xs : List Str), vs = [V.ref a] ∧ SqL K H a (xs.map V.str) ∧ xs.length < 64 ∧
  ∀ (ys : List Str) (p : Addr), ys.Perm xs → sortedS ys = true → H p = none → Q (.ref p) (upd H p (.lst (ys.map V.str)))
theorem small64 {n : Nat} (h : n < 64) : n ≤ sizeLine := by rw [sizeLine_eq]; omega
theorem cr_sortedS : CallR X (.builtin "sorted") (rSortedS X.K) := by
  intro pins s σ H vs us Q I r h
  obtain ⟨a, xs, rfl, hs, h64, q⟩ := h
  obtain ⟨its, rv, hl, _⟩ := I.list hs
  rw [Vals.ref1 r]
  have hlen0 := rv.length
  rw [List.length_map] at hlen0
  refine PyProof.Rows.sorted_strs hl.isList rv.strs (by rw [← hlen0]; exact h64) fun out ys h1 h2 h3 => ?_
  obtain ⟨ep, he'⟩ := PyProof.Rows.sortedAll_at s.heap its out
  have hlen : (ys.map V.str).length ≤ sizeLine := by rw [List.length_map, h2.length_eq]; exact small64 h64
  exact ⟨.ref _, upd H (s.heap.objs.size + 1) (.lst (ys.map V.str)), I.laid (t' := s.toks) (fun _ _ => PyProof.Rows.sortedAll_old) (Nat.le_succ _) ⟨hlen, out.toList, ep, vals_of_strs h1, he'⟩, rfl, q ys _ h2 h3 (I.hok.fresh (Nat.le_succ _))⟩
end

/-! ### list.index, flat items -/
section
variable {X : Cx}
end

/-! ### type(x) of an own instance; is, is not of a module's class -/
section
variable {X : Cx}
end

/-! ### any(xs), all(xs) of a list of bools -/
theorem iter_any {prog : Program} {w : World} {A : Around} {E : Value → Shared → Prop} {s : Shared} {l : Addr} {items : Array Value} {Q : Value → Shared → Prop} (hl : s.heap.IsList l items)
    (h : ∀ s₂ : Shared, s₂ = { s with heap := s.heap.push { cls := .type "list_iterator", data := .fields #[.ref l, .int 0 0] } } →
      (s₂.heap.IsListIter s.heap.objs.size l 0 ∧ s₂.heap.IsList l items) → l ≠ s.heap.objs.size → Q (.ref s.heap.objs.size) s₂) : wpAny (model prog w) A (pyIter (.ref l)) Q E s := by
  have hlt : l < s.heap.objs.size := by obtain ⟨_, e, _⟩ := hl; exact Heap.lt_size e
  exact wpAny_pyIter_list hl (h _ rfl ⟨⟨_, Heap.get?_push_size _ rfl, rfl, rfl⟩, hl.push _⟩ (Nat.ne_of_lt hlt))
theorem truth_bools {prog : Program} {w : World} {A : Around} {bs : List Bool} {its : List Value} (e : its = bs.map Value.bool) :
    TruthOf prog w A (fun i v => its.toArray[i]? = some v) (fun i => bs.getD i false) := fun i v s Q E hv hq => by
  have hv' : its[i]? = some v := by simpa using hv
  rw [e, List.getElem?_map] at hv'
  obtain ⟨b, hb, rfl⟩ := Option.map_eq_some_iff.mp hv'
  have hg : bs.getD i false = b := by rw [List.getD_eq_getElem?_getD, hb] <;> rfl
  have hq' : Q (bs.getD i false) s := hq
  rw [hg] at hq'
  exact wpAny_truthy_bool hq'
theorem all_range : ∀ bs : List Bool, (List.range bs.length).all (fun i => bs.getD i false) = bs.all id
  | [] => rfl
  | b :: bs => by
    rw [List.length_cons, List.range_succ_eq_map, List.all_cons, List.all_map, List.all_cons, ← all_range bs]
    all_goals rfl
section
variable {X : Cx}
def rAll (K : PySem.W.Frag) : List V → Hp → VK → Prop := fun vs H Q => ∃ (a : Addr) (bs : List Bool), vs = [V.ref a] ∧ SqL K H a (bs.map V.bl) ∧ Q (.bl (bs.all id)) H
theorem cr_all (hc : X.calm = true) : CallR X (.builtin "all") (rAll X.K) := by
  intro pins s σ H vs us Q I r h
  obtain ⟨a, bs, rfl, hs, q⟩ := h
  obtain ⟨its, rv, hl, _⟩ := I.list hs
  rw [Vals.ref1 r]
  have hb := rv.bls
  refine call_all_walk (iter_any hl.isList fun s₂ e2 st hne => ?_)
  subst e2
  refine ⟨_, _, _, _, _, _, _, rfl, Walks.list (A := X.A.in1) (I.ok.hd hc) _ a hne its.toArray, st, truth_bools hb, fun h' tk hk => ?_⟩
  refine ⟨.bl _, H, I.kept fun b o eo => hk b o (fun hmem => ?_) (Heap.get?_push_of_some _ eo), ?_, q⟩
  · rcases List.mem_cons.mp hmem with e1 | hmem
    · exact absurd (e1 ▸ Heap.lt_size eo) (Nat.lt_irrefl _)
    · cases hmem
  · show Value.bool _ = Value.bool _
    rw [← all_range, hb, List.size_toArray, List.length_map]
end

/-! ### == and != of data at any depth: none, bools, ints, texts, lists, tuples -/
mutual
inductive Dp (K : PySem.W.Frag) (H : Hp) : V → PyData → Prop
  | non : Dp K H .non .none
  | bl (b : Bool) : Dp K H (.bl b) (.bool b)
  | int (i : Int) : Dp K H (.int i) (.int i)
  | str (x : Str) : Dp K H (.str x) (.str x)
  | lst {a : Addr} {xs : List V} {ds : List PyData} : SqL K H a xs → DpAll K H xs ds → Dp K H (.ref a) (.list ds)
  | tup {a : Addr} {xs : List V} {ds : List PyData} : SqT K H a xs → DpAll K H xs ds → Dp K H (.ref a) (.tuple ds)
inductive DpAll (K : PySem.W.Frag) (H : Hp) : List V → List PyData → Prop
  | nil : DpAll K H [] []
  | cons {v : V} {vs : List V} {d : PyData} {ds : List PyData} : Dp K H v d → DpAll K H vs ds → DpAll K H (v :: vs) (d :: ds)
end
section
variable {X : Cx} {pins : List (Addr × Obj)} {σ : St} {H : Hp} {s : Shared}
mutual
theorem Dp.reads (I : Inv X pins σ H s) : ∀ (d : PyData) (v : V) (u : Value), Dp X.K H v d → RelV v u → ∃ as, Reads s.heap u d as
  | .none, _, _, h, r => by
    cases h
    cases r
    exact ⟨_, Reads.none⟩
  | .bool b, _, _, h, r => by
    cases h
    cases r
    exact ⟨_, Reads.bool b⟩
  | .int i, _, _, h, r => by
    cases h
    obtain ⟨t, rfl⟩ := r
    exact ⟨_, Reads.int i t⟩
  | .str x, _, _, h, r => by
    cases h
    obtain ⟨t, rfl⟩ := r
    exact ⟨_, Reads.str x t⟩
  | .list ds, _, _, h, r => by
    cases h with
    | lst hs ha =>
      cases r
      obtain ⟨its, rv, ⟨o, n, ho, hc, _, hd⟩, _⟩ := I.list hs
      obtain ⟨as, hr⟩ := Dp.readsAll I ds _ its ha rv
      exact ⟨_, Reads.list ho hc hd hr⟩
  | .tuple ds, _, _, h, r => by
    cases h with
    | tup hs ha =>
      cases r
      obtain ⟨its, rv, ⟨o, ho, hc, n, hd⟩, _⟩ := I.tuple hs
      obtain ⟨as, hr⟩ := Dp.readsAll I ds _ its ha rv
      exact ⟨_, Reads.tuple ho hc hd hr⟩
  | .dict _, _, _, h, _ => by cases h
theorem Dp.readsAll (I : Inv X pins σ H s) : ∀ (ds : List PyData) (vs : List V) (us : List Value), DpAll X.K H vs ds → Vals vs us → ∃ as, ReadsAll s.heap us ds as
  | [], _, _, h, r => by
    cases h
    cases r
    exact ⟨_, ReadsAll.nil⟩
  | d :: ds, _, _, h, r => by
    cases h with
    | cons h1 h2 =>
      cases r with
      | cons r1 r2 =>
        obtain ⟨as, q1⟩ := Dp.reads I d _ _ h1 r1
        obtain ⟨bs, q2⟩ := Dp.readsAll I ds _ _ h2 r2
        exact ⟨_, ReadsAll.cons q1 q2⟩
end
end
section
variable {X : Cx}
def rEqD (K : PySem.W.Frag) : R2 := fun x y H Q => ∃ d e, Dp K H x d ∧ Dp K H y e ∧ SeqAt.shaped d = true ∧ SeqAt.shaped e = true ∧ Q (.bl (PyData.eqv d e)) H
def rNeD (K : PySem.W.Frag) : R2 := fun x y H Q => ∃ d e, Dp K H x d ∧ Dp K H y e ∧ SeqAt.shaped d = true ∧ SeqAt.shaped e = true ∧ Q (.bl (!PyData.eqv d e)) H
theorem op_eqD (hu : X.A.units + 64 < cLine) : OpR X (compareOp .Eq) (rEqD X.K) := by
  intro pins s σ H x y v u Q I rx ry h
  obtain ⟨d, e, hd, he, sd, se, q⟩ := h
  obtain ⟨as, r1⟩ := Dp.reads I d x v hd rx
  obtain ⟨bs, r2⟩ := Dp.reads I e y u he ry
  exact SeqAt.compareEq_shaped r1 r2 sd se hu ⟨.bl _, H, I, rfl, q⟩
theorem op_neD (hu : X.A.units + 64 < cLine) : OpR X (compareOp .NotEq) (rNeD X.K) := by
  intro pins s σ H x y v u Q I rx ry h
  obtain ⟨d, e, hd, he, sd, se, q⟩ := h
  obtain ⟨as, r1⟩ := Dp.reads I d x v hd rx
  obtain ⟨bs, r2⟩ := Dp.reads I e y u he ry
  exact SeqAt.compareNe_shaped r1 r2 sd se hu ⟨.bl _, H, I, rfl, q⟩
end
end L2

namespace L2
open PySem PySem.Spec PyProof.Rows
abbrev CellAt (h : Heap) (c : Addr) (v : Option Value) : Prop := h.IsCell c v
def relS (scope sc : Scope) : Scope :=
  { scope with names := scope.names.map fun (n, k) => if (k == .free && sc.kind == .function && sc.names.lookup n == some .cell) then (n, .cell) else (n, k) }

def cloFrom (cells : List (Str × Addr)) : List (Str × NameKind) → List (Str × Addr) → List (Str × Addr)
  | [], acc => acc
  | (n, k) :: r, acc => if k == .free then cloFrom cells r ((n, (cells.lookup n).getD 0) :: acc) else cloFrom cells r acc

theorem closure_loop (env : Env) (f : Str × NameKind → List (Str × Addr) → Sem (ForInStep (List (Str × Addr))))
    (hf : ∀ n k c, f (n, k) c = if k == .free then (do let a ← cellOf env n; pure (.yield ((n, a) :: c))) else pure (.yield c)) :
    ∀ (names : List (Str × NameKind)) (acc : List (Str × Addr)), (∀ y ∈ names, y.2 = .free → ∃ c, env.cells.lookup y.1 = some c) → forIn names acc f = pure (cloFrom env.cells names acc)
  | [], acc, _ => by rw [List.forIn_nil]; rfl
  | (n, k) :: r, acc, h => by
    rw [List.forIn_cons, hf]
    have ih := fun acc => closure_loop env f hf r acc fun y hy => h y (List.mem_cons_of_mem _ hy)
    unfold cloFrom
    by_cases hk : (k == NameKind.free) = true
    · rw [if_pos hk, if_pos hk]
      obtain ⟨c, hc⟩ := h (n, k) List.mem_cons_self (by simpa using hk)
      have e : cellOf env n = pure c := by unfold cellOf; rw [hc]
      rw [e]
      have e2 : (env.cells.lookup n).getD 0 = c := by rw [hc]; rfl
      rw [e2]
      exact ih _
    · rw [if_neg hk, if_neg hk]
      exact ih _
theorem closure_ok {scope : Scope} {env : Env} (h : ∀ y ∈ scope.names, y.2 = .free → ∃ c, env.cells.lookup y.1 = some c) : closureFor scope env = pure (cloFrom env.cells scope.names []) := by
  simp only [closureFor]
  rw [closure_loop env _ (fun n k c => rfl) scope.names [] h]
  rfl

theorem mem_lookup {α : Type} : ∀ {l : List (Str × α)} {n : Str} {c : α}, (n, c) ∈ l → ∃ c', l.lookup n = some c'
  | (k, v) :: r, n, c, h => by
    rw [List.lookup_cons]
    cases hb : n == k with
    | true => exact ⟨_, rfl⟩
    | false =>
      rcases List.mem_cons.mp h with e | h
      · cases e; simp at hb
      · exact mem_lookup h

theorem cloFrom_mem {cells : List (Str × Addr)} : ∀ {names : List (Str × NameKind)} {acc : List (Str × Addr)} {n : Str} {c : Addr}, (n, c) ∈ cloFrom cells names acc → (n, c) ∈ acc ∨ ((n, .free) ∈ names ∧ c = (cells.lookup n).getD 0)
  | [], _, _, _, h => .inl h
  | (m, k) :: r, acc, n, c, h => by
    unfold cloFrom at h
    split at h
    · rename_i hk
      have hk : k = .free := by simpa using hk
      rcases cloFrom_mem h with h | ⟨h1, h2⟩
      · rcases List.mem_cons.mp h with e | h
        · cases e; exact .inr ⟨hk ▸ List.mem_cons_self, rfl⟩
        · exact .inl h
      · exact .inr ⟨List.mem_cons_of_mem _ h1, h2⟩
    · rcases cloFrom_mem h with h | ⟨h1, h2⟩
      · exact .inl h
      · exact .inr ⟨List.mem_cons_of_mem _ h1, h2⟩
theorem cloFrom_acc {cells : List (Str × Addr)} : ∀ {names : List (Str × NameKind)} {acc : List (Str × Addr)} {p : Str × Addr}, p ∈ acc → p ∈ cloFrom cells names acc
  | [], _, _, h => h
  | (m, k) :: r, acc, p, h => by
    unfold cloFrom
    split
    · exact cloFrom_acc (List.mem_cons_of_mem _ h)
    · exact cloFrom_acc h
theorem cloFrom_has {cells : List (Str × Addr)} : ∀ {names : List (Str × NameKind)} {acc : List (Str × Addr)} {n : Str}, (n, .free) ∈ names → (n, (cells.lookup n).getD 0) ∈ cloFrom cells names acc
  | (m, k) :: r, acc, n, h => by
    unfold cloFrom
    rcases List.mem_cons.mp h with e | h
    · cases e
      exact cloFrom_acc List.mem_cons_self
    · split
      · exact cloFrom_has h
      · exact cloFrom_has h

theorem cells_mem : ∀ {names : List (Str × NameKind)} {h : Heap} {acc : List (Str × Addr)} {x : Str} {c : Addr}, (x, c) ∈ cellsFrom h.objs.size names acc →
    (x, c) ∈ acc ∨ ((x, .cell) ∈ names ∧ h.objs.size ≤ c ∧ CellAt (pushCells h names) c none)
  | [], _, _, _, _, h => .inl h
  | (n, k) :: r, h, acc, x, c, hm => by
    unfold cellsFrom at hm
    unfold pushCells
    split at hm
    · rename_i hk
      rw [if_pos hk]
      have hk : k = .cell := by simpa using hk
      rw [← Heap.size_push h { cls := .type "cell", data := .cell none }] at hm
      rcases cells_mem hm with hm | ⟨h1, h2, h3⟩
      · rcases List.mem_cons.mp hm with e | hm
        · cases e
          exact .inr ⟨hk ▸ List.mem_cons_self, Nat.le_refl _, _, pushCells_keeps r _ _ _ (Heap.get?_push_size _ rfl), rfl⟩
        · exact .inl hm
      · rw [Heap.size_push] at h2
        exact .inr ⟨List.mem_cons_of_mem _ h1, Nat.le_of_succ_le h2, h3⟩
    · rename_i hk
      rw [if_neg hk]
      rcases cells_mem hm with hm | ⟨h1, h2, h3⟩
      · exact .inl hm
      · exact .inr ⟨List.mem_cons_of_mem _ h1, h2, h3⟩
theorem cells_acc : ∀ {names : List (Str × NameKind)} {n : Nat} {acc : List (Str × Addr)} {p : Str × Addr}, p ∈ acc → p ∈ cellsFrom n names acc
  | [], _, _, _, h => h
  | (m, k) :: r, n, acc, p, h => by
    unfold cellsFrom
    split
    · exact cells_acc (List.mem_cons_of_mem _ h)
    · exact cells_acc h
theorem cells_has : ∀ {names : List (Str × NameKind)} {n : Nat} {acc : List (Str × Addr)} {x : Str}, (x, .cell) ∈ names → ∃ c, (x, c) ∈ cellsFrom n names acc
  | (m, k) :: r, n, acc, x, h => by
    unfold cellsFrom
    rcases List.mem_cons.mp h with e | h
    · cases e
      exact ⟨n, cells_acc List.mem_cons_self⟩
    · split
      · exact cells_has h
      · exact cells_has h
theorem cells_inj : ∀ {names : List (Str × NameKind)} {h : Heap} {acc : List (Str × Addr)} {x y : Str} {c : Addr}, (∀ p ∈ acc, p.2 < h.objs.size) → (∀ x y c, (x, c) ∈ acc → (y, c) ∈ acc → x = y) →
    (x, c) ∈ cellsFrom h.objs.size names acc → (y, c) ∈ cellsFrom h.objs.size names acc → x = y
  | [], _, _, _, _, _, _, hi, h1, h2 => hi _ _ _ h1 h2
  | (n, k) :: r, h, acc, x, y, c, hl, hi, h1, h2 => by
    unfold cellsFrom at h1 h2
    split at h1
    · rename_i hk
      rw [if_pos hk] at h2
      rw [← Heap.size_push h { cls := .type "cell", data := .cell none }] at h1 h2
      refine cells_inj (h := h.push _) (fun p hp => ?_) (fun x y c a b => ?_) h1 h2
      · rw [Heap.size_push]
        rcases List.mem_cons.mp hp with rfl | hp
        · exact Nat.lt_succ_self _
        · exact Nat.lt_succ_of_lt (hl p hp)
      · rcases List.mem_cons.mp a with e | a <;> rcases List.mem_cons.mp b with e' | b
        · cases e; cases e'; rfl
        · cases e; exact absurd (hl _ b) (Nat.lt_irrefl _)
        · cases e'; exact absurd (hl _ a) (Nat.lt_irrefl _)
        · exact hi _ _ _ a b
    · rename_i hk
      rw [if_neg hk] at h2
      exact cells_inj hl hi h1 h2

theorem newEnv_comp {M : Model} {A : Around} {E : Value → Shared → Prop} {s : Shared} {scope : Scope} {globals : Addr} {closure : List (Str × Addr)} {qual : Str} {func : Option Addr} {code : Value} {around : Env} {builtins : Addr} {Q : Env → Shared → Prop}
    (h : Q (newEnv scope s.heap.objs.size globals (cellsFrom (s.heap.objs.size + 1) scope.names closure) qual func code (some around) builtins)
      { s with heap := pushCells (s.heap.push { cls := .type "dict", data := .dict #[] }) scope.names }) :
    wpAny M A (newFunctionEnv scope globals closure [] qual func code (some around) builtins) Q E s := by
  simp only [newFunctionEnv, Option.isSome_some, if_true]
  refine wpAny_bind (wpAny_alloc ?_)
  refine wpAny_bind (wpAny_layCells _ (fun n k c => rfl) scope.names closure _ _ ?_)
  rw [show ({ s with heap := s.heap.push { cls := .type "dict", data := .dict #[] } } : Shared).heap.objs.size = s.heap.objs.size + 1 from Heap.size_push ..]
  rw [List.forIn_nil]
  exact wpAny_bind (wpAny_pure (wpAny_pure h))

/-- every name of the written scope, in the scope that runs -/
theorem lookup_relS {sc : Scope} : ∀ {names : List (Str × NameKind)} {x : Str} {k : NameKind},
    (names.map fun (n, k) => if (k == NameKind.free && sc.kind == .function && sc.names.lookup n == some .cell) then (n, NameKind.cell) else (n, k)).lookup x = some k →
    ∃ k', names.lookup x = some k' ∧ (k = k' ∨ (k' = .free ∧ k = .cell))
  | [], _, _, h => by simp at h
  | (n, k₀) :: r, x, k, h => by
    have ih := @lookup_relS sc r x k
    have h' : List.lookup x ((if (k₀ == NameKind.free && sc.kind == .function && sc.names.lookup n == some .cell) = true then (n, NameKind.cell) else (n, k₀)) :: (r.map _)) = some k := h
    cases hx : x == n with
    | true =>
      simp only [List.lookup_cons, hx]
      by_cases hc : (k₀ == NameKind.free && sc.kind == .function && sc.names.lookup n == some .cell) = true
      · rw [if_pos hc] at h'
        simp only [List.lookup_cons, hx] at h'
        cases h'
        simp only [Bool.and_eq_true, beq_iff_eq] at hc
        exact ⟨k₀, rfl, .inr ⟨hc.1.1, rfl⟩⟩
      · rw [if_neg hc] at h'
        simp only [List.lookup_cons, hx] at h'
        cases h'
        exact ⟨_, rfl, .inl rfl⟩
    | false =>
      simp only [List.lookup_cons, hx]
      by_cases hc : (k₀ == NameKind.free && sc.kind == .function && sc.names.lookup n == some .cell) = true
      · rw [if_pos hc] at h'
        simp only [List.lookup_cons, hx] at h'
        exact ih h'
      · rw [if_neg hc] at h'
        simp only [List.lookup_cons, hx] at h'
        exact ih h'
/-- the names of a comprehension's block: its own (with their places in N), or captured -/
structure BlkOk (N : List Str) (sc scope : Scope) (own : List (Str × Nat)) : Prop where
  kind : scope.kind = .function
  uniq : ∀ y ∈ scope.names, scope.names.lookup y.1 = some y.2
  ix : ∀ p ∈ own, N[p.2]? = some p.1
  free : ∀ y ∈ scope.names, y.2 = .free → sc.names.lookup y.1 = some .cell ∨ sc.names.lookup y.1 = some .free
  own : ∀ y ∈ scope.names, y.2 = .local ∨ y.2 = .cell → y.1 ∈ own.map (·.1) ∨ y.1 ∉ N
/-- the slots of the block's own names forgotten -/
def wipe (σ : St) : List Nat → St
  | [] => σ
  | v :: vs => (wipe σ vs).set v none
theorem wipe_length (σ : St) : ∀ vs : List Nat, (wipe σ vs).length = σ.length
  | [] => rfl
  | v :: vs => by unfold wipe; rw [List.length_set, wipe_length σ vs]
theorem wipe_some {σ : St} {i : Nat} {x : V} : ∀ {vs : List Nat}, (wipe σ vs)[i]? = some (some x) → σ[i]? = some (some x) ∧ i ∉ vs
  | [], h => ⟨h, by simp⟩
  | v :: vs, h => by
    unfold wipe at h
    by_cases hi : v = i
    · subst hi
      by_cases hv : v < (wipe σ vs).length
      · rw [List.getElem?_set_self hv] at h; cases h
      · rw [List.getElem?_eq_none (by simpa using hv)] at h; cases h
    · rw [List.getElem?_set_ne hi] at h
      obtain ⟨h1, h2⟩ := wipe_some h
      exact ⟨h1, by simp only [List.mem_cons, not_or]; exact ⟨fun e => hi e.symm, h2⟩⟩

/-- the context of a block that starts at s, its iterator's objects at fp -/
abbrev Cx.blk (X : Cx) (s : Shared) (H : Hp) (scope : Scope) (cenv : Env) (fp : List Addr) : Cx := { X with s_0 := s, H_0 := H, env := cenv, outer := X.stack, ex := fp, fn := fun x => scope.names.lookup x == some .cell, pn := [], xe := fun _ _ => False }
section
variable {X : Cx} {pins : List (Addr × Obj)} {σ : St} {H : Hp} {s : Shared}
theorem block_start {scope : Scope} {own : List (Str × Nat)} {fp : List Addr} (I : Inv X pins σ H s) (ok : BlkOk X.N X.env.scope scope own) (hN : X.N.Nodup) (hfp : ∀ b ∈ fp, FpOk X pins H b ∧ b < s.heap.objs.size) :
    Inv (X.blk s H scope (compEnvC scope (cellsFrom (s.heap.objs.size + 1) scope.names (cloFrom X.env.cells scope.names [])) s.heap.objs.size X.env) fp) [] (wipe σ (own.map (·.2))) H { s with heap := pushCells (s.heap.push { cls := .type "dict", data := .dict #[] }) scope.names } := by
  have hfree : ∀ y ∈ scope.names, y.2 = .free → ∃ c, X.env.cells.lookup y.1 = some c := fun y hy e => by
    rcases ok.free y hy e with k | k
    · exact I.ok.has _ (.inl k)
    · exact I.ok.has _ (.inr k)
  generalize hcenv : compEnvC scope (cellsFrom (s.heap.objs.size + 1) scope.names (cloFrom X.env.cells scope.names [])) s.heap.objs.size X.env = cenv
  have kp : ∀ b o, s.heap.get? b = some o → (pushCells (s.heap.push { cls := .type "dict", data := .dict #[] }) scope.names).get? b = some o := fun b o e => pushCells_keeps _ _ _ _ (Heap.get?_push_of_some _ e)
  have hL : cenv.locals = s.heap.objs.size := by rw [← hcenv]; rfl
  have hcl : cenv.cells = cellsFrom (s.heap.objs.size + 1) scope.names (cloFrom X.env.cells scope.names []) := by rw [← hcenv]; rfl
  have hsc : cenv.scope = relS scope X.env.scope := by rw [← hcenv]; rfl
  rw [← Heap.size_push s.heap { cls := .type "dict", data := .dict #[] }] at hcl
  have cm : ∀ {y c}, (y, c) ∈ cloFrom X.env.cells scope.names [] → X.env.cells.lookup y = some c ∧ c < s.heap.objs.size := fun {y c} hm => by
    rcases cloFrom_mem hm with hm | ⟨h1, rfl⟩
    · cases hm
    · obtain ⟨c, hc⟩ := hfree _ h1 rfl
      rw [hc]
      obtain ⟨w, z⟩ := I.cell _ _ hc
      exact ⟨rfl, z.lt⟩
  have mem : ∀ {y c}, cenv.cells.lookup y = some c → (X.env.cells.lookup y = some c ∧ c < s.heap.objs.size) ∨ (s.heap.objs.size + 1 ≤ c ∧ CellAt (pushCells (s.heap.push { cls := .type "dict", data := .dict #[] }) scope.names) c none) := fun {y c} e => by
    rw [hcl] at e
    rcases cells_mem (PySem.mem_of_lookup e) with hm | ⟨_, h2, h3⟩
    · exact .inl (cm hm)
    · rw [Heap.size_push] at h2; exact .inr ⟨h2, h3⟩
  have look : ∀ {y}, scope.names.lookup y = some .free → ∃ c, cenv.cells.lookup y = some c ∧ X.env.cells.lookup y = some c := fun {y} hl => by
    have hy : (y, NameKind.free) ∈ scope.names := PySem.mem_of_lookup hl
    obtain ⟨c', e'⟩ := mem_lookup (cells_acc (names := scope.names) (n := (s.heap.push { cls := .type "dict", data := .dict #[] }).objs.size) (cloFrom_has (cells := X.env.cells) (acc := []) hy))
    rw [← hcl] at e'
    refine ⟨c', e', ?_⟩
    rw [hcl] at e'
    rcases cells_mem (PySem.mem_of_lookup e') with hm | ⟨h1, _, _⟩
    · exact (cm hm).1
    · have := ok.uniq _ h1
      rw [hl] at this; cases this
  have okB : (X.blk s H scope cenv fp).Ok := by
    refine ⟨I.ok.mod, by show cenv.scope.kind = _; rw [hsc]; exact ok.kind, by show cenv.globals = _; rw [← hcenv]; exact I.ok.glob, by show cenv.builtins = _; rw [← hcenv]; exact I.ok.blt, by show s.heap.objs.size ≤ cenv.locals; rw [hL]; exact Nat.le_refl _,
      fun y z c e1 e2 => ?_, fun y hy => ?_, fun y c z e => ?_, I.ok.hd, I.ok.frames, .inl rfl, fun b hb => ⟨?_, fun y c e z => ?_⟩, I.bs, Nat.le_trans I.ok.bsz I.sz, fun b o e hb => ?_, fun b hb z => ?_, I.stack, I.stkFree⟩
    · have e1 : cenv.cells.lookup y = some c := e1
      have e2 : cenv.cells.lookup z = some c := e2
      rw [hcl] at e1 e2
      refine cells_inj (fun p hp => ?_) (fun y z c a b => I.ok.inj y z c (cm a).1 (cm b).1) (PySem.mem_of_lookup e1) (PySem.mem_of_lookup e2)
      rw [Heap.size_push]
      exact Nat.lt_succ_of_lt (cm (y := p.1) (c := p.2) hp).2
    · show ∃ c, cenv.cells.lookup y = some c
      have key : ∀ k, cenv.kindOf y = some k → (k = .cell ∨ k = .free) → ∃ c, cenv.cells.lookup y = some c := fun k hk hk' => by
        unfold Env.kindOf at hk
        rw [hsc] at hk
        obtain ⟨k', e, r⟩ := lookup_relS hk
        have : k' = .cell ∨ k' = .free := by
          rcases r with rfl | ⟨rfl, _⟩
          · exact hk'
          · exact .inr rfl
        rcases this with rfl | rfl
        · obtain ⟨c, hm⟩ := cells_has (n := (s.heap.push { cls := .type "dict", data := .dict #[] }).objs.size) (acc := cloFrom X.env.cells scope.names []) (PySem.mem_of_lookup e)
          obtain ⟨c', e'⟩ := mem_lookup hm
          exact ⟨c', by rw [hcl]; exact e'⟩
        · obtain ⟨c, h1, _⟩ := look e
          exact ⟨c, h1⟩
      rcases hy with hy | hy
      · exact key _ hy (.inl rfl)
      · exact key _ hy (.inr rfl)
    · have z : (scope.names.lookup y == some NameKind.cell) = true := z
      have z : scope.names.lookup y = some .cell := by simpa using z
      have e : cenv.cells.lookup y = some c := e
      rw [hcl] at e
      rcases cells_mem (PySem.mem_of_lookup e) with hm | ⟨_, h2, _⟩
      · rcases cloFrom_mem hm with hm | ⟨h1, _⟩
        · cases hm
        · have q := ok.uniq _ h1
          rw [z] at q; cases q
      · rw [Heap.size_push] at h2
        exact Nat.le_of_succ_le h2
    · show b ≠ cenv.locals
      rw [hL]; exact Nat.ne_of_lt (hfp b hb).2
    · have e : cenv.cells.lookup y = some c := e
      rcases mem e with ⟨h1, _⟩ | ⟨h1, _⟩
      · exact (hfp b hb).1.2.2.2.2.1 y c h1 z
      · have h2 : s.heap.objs.size + 1 ≤ b := by rw [← z]; exact h1
        exact absurd (Nat.lt_of_lt_of_le (hfp b hb).2 (Nat.le_of_succ_le h2)) (Nat.lt_irrefl _)
    · rcases (hfp b hb).1.2.2.2.1 with z | z
      · exact I.ok.noex b o e z
      · exact absurd (Nat.lt_of_lt_of_le (Heap.lt_size e) (Nat.le_trans I.ok.bsz z)) (Nat.lt_irrefl _)
    · rcases List.mem_cons.mp (I.stkSub b z) with z | z
      · exact (hfp b hb).1.2.1 z
      · exact (hfp b hb).1.2.2.1 z
  refine ⟨okB, rfl, I.bare, Un.kept kp, ⟨fun _ => none, ?_, fun i y av e1 e2 e3 => ?_⟩, fun y c e => ?_, ?_, fun y c e => ?_, fun p hp => ?_, I.hok.kept kp, by rw [wipe_length]; exact I.len⟩
  · show Heap.Ns _ cenv.locals _
    rw [hL]
    exact Heap.Ns.keeps (Heap.Ns.new ..) fun b o e => pushCells_keeps _ _ _ _ e
  · obtain ⟨e2, hne⟩ := wipe_some e2
    have hfr : scope.names.lookup y = some .free ∧ (cenv.kindOf y = some .cell ∨ cenv.kindOf y = some .free) := by
      have key : ∀ k, cenv.scope.names.lookup y = some k → k = .local ∨ k = .cell ∨ k = .free → scope.names.lookup y = some .free ∧ (cenv.kindOf y = some .cell ∨ cenv.kindOf y = some .free) := fun k hk hk' => by
        have hk0 := hk
        rw [hsc] at hk
        obtain ⟨k', e, r⟩ := lookup_relS hk
        have no : ¬ (k' = .local ∨ k' = .cell) := fun hh => by
          rcases ok.own _ (PySem.mem_of_lookup e) hh with e' | e'
          · obtain ⟨p, hp, hpy⟩ := List.mem_map.mp e'
            have e3 := ok.ix p hp
            have : p.1 = y := hpy
            rw [this] at e3
            exact hne (List.mem_map.mpr ⟨p, hp, nodup_ix hN e3 e1⟩)
          · exact e' (List.mem_of_getElem? e1)
        rcases r with rfl | ⟨rfl, rfl⟩
        · rcases hk' with rfl | rfl | rfl
          · exact absurd (.inl rfl) no
          · exact absurd (.inr rfl) no
          · exact ⟨e, .inr hk0⟩
        · exact ⟨e, .inl hk0⟩
      have e3 : Vis cenv.scope y := e3
      rcases e3 with e3 | e3 | e3
      · exact key _ e3 (.inl rfl)
      · exact key _ e3 (.inr (.inl rfl))
      · exact key _ e3 (.inr (.inr rfl))
    obtain ⟨m, hn, hl⟩ := I.loc
    have hvis : Vis X.env.scope y := (ok.free _ (PySem.mem_of_lookup hfr.1) rfl).elim (fun k => .inr (.inl k)) (fun k => .inr (.inr k))
    obtain ⟨w, r, q⟩ := hl i y av e1 e2 hvis
    refine ⟨w, r, .inr ⟨hfr.2, ?_⟩⟩
    obtain ⟨c, h1, h2⟩ := look hfr.1
    rcases q with ⟨k, _⟩ | ⟨_, c', e', z⟩
    · have k : X.env.scope.names.lookup y = some .local := k
      rcases ok.free _ (PySem.mem_of_lookup hfr.1) rfl with k' | k' <;> rw [show X.env.scope.names.lookup y = _ from k'] at k <;> cases k
    · rw [h2] at e'; cases e'
      exact ⟨c, h1, z.keeps kp⟩
  · have e : cenv.cells.lookup y = some c := e
    rcases mem e with ⟨h1, _⟩ | ⟨_, z⟩
    · obtain ⟨w, z⟩ := I.cell y c h1
      exact ⟨w, z.keeps kp⟩
    · exact ⟨_, z⟩
  · show H cenv.locals = none
    rw [hL]; exact I.hok.fresh (Nat.le_refl _)
  · have e : cenv.cells.lookup y = some c := e
    rcases mem e with ⟨h1, _⟩ | ⟨h1, _⟩
    · exact I.freeC y c h1
    · exact I.hok.fresh (Nat.le_of_succ_le h1)
  · exact absurd (show p ∈ ([] : List (Addr × Obj)) ++ [] from hp) (by simp)

/-- an item appended to a tracked list -/
theorem app_ok {E : Value → Shared → Prop} {D : Addr} {xs : List V} {y : V} {v : Value} {Q : Value → Shared → Prop} (I : Inv X pins σ H s) (hD : H D = some (.lst xs)) (hz : xs.length < sizeLine) (r : RelV y v)
    (h : ∀ s', Inv X pins σ (upd H D (.lst (xs ++ [y]))) s' → Q .none s') : wpAny (model X.prog X.w) X.A (call (.builtin "list.append") [.ref D, v]) Q E s := by
  obtain ⟨hz', its, n, ri, e⟩ := I.hok D _ hD
  have hl := ri.length
  refine append_at (hsz := by rw [List.size_toArray]; omega) e fun h' sb ho' => ?_
  refine h { s with heap := h' } (I.write (t' := s.toks) (by rw [hD]; trivial) (.inl rfl) (fun b u hb q => (sb.2 b hb).trans q) ⟨_, ho'⟩ ⟨by rw [List.length_append]; exact hz, its ++ [v], n + 1, ri.append (.cons r .nil), ?_⟩)
  rw [ho']
  simp

/-- a clause's tests -/
def PTs (X : Cx) (ifs : List Expr) (t : TT) : Prop :=
  ∀ (pins : List (Addr × Obj)) (s : Shared) (σ : St) (H : Hp) (Q : Bool → Hp → Prop), Inv X pins σ H s → t σ H Q →
    wpAny (model X.prog X.w) X.A (forIn ifs true fun c r => if r = true then do let ok ← isTrue c X.env (eval c X.env); pure (ForInStep.yield ok) else pure (ForInStep.yield r)) (TP X pins σ Q) X.xe s
def tYes : TT := fun _ H Q => Q true H
theorem pts_nil : PTs X [] tYes := fun _ _ _ H _ I h => wpAny_tests_nil ⟨H, I, h⟩
theorem pts_one {c : Expr} {t : TT} (h : PT X c t) : PTs X [c] t := fun pins s σ H Q I hw => wpAny_tests_one (h pins s σ H Q I hw)
end

theorem thnF {α : Type} {t : Sem α} {Q Q' : α → Shared → Prop} {M : Model} {A : Around} {E : Value → Shared → Prop} {s : Shared} (h : wpAny M A t Q (fun _ _ => False) s) (hQ : ∀ a s, Q a s → Q' a s) : wpAny M A t Q' E s := wpAny_mono h hQ fun _ _ z => False.elim z

/-- the loop of a list comprehension's block, the target of any form (codeAny_compLoop_tests asks a target that no tuple goes to; statement and proof follow it, PyProof/CompMap.lean:41-61, with the step letOwnedTupleGo kept) -/
theorem compLoop_any {prog : Program} {w : World} {A : Around} {R : Result → Shared → Prop} {s : Shared} {elt target iter : Expr} {ifs : List Expr} {scope : Scope} {pos : Pos} {it acc : Value} {env : Env} (I : Nat → Shared → Prop)
    (turn : ∀ n s, I n s → wpAny (model prog w) A (pyNext it) (fun r s₁ => match r with
      | none => R (.ok .next) s₁
      | some v => wpAny (model prog w) A (letOwnedTupleGo target it v) (fun _ s₁' => wpAny (model prog w) A (assign target env v) (fun _ s₂ =>
          wpAny (model prog w) A (forIn ifs true fun c r => if r = true then do let ok ← isTrue c env (eval c env); pure (ForInStep.yield ok) else pure (ForInStep.yield r)) (fun ok s₃ =>
            if ok = true then wpAny (model prog w) A (eval elt env) (fun x s₄ =>
              wpAny (model prog w) A (call (.builtin "list.append") [acc, x]) (fun _ s₅ => ∃ m, m < n ∧ I m s₅) (notedBy (model prog w) A env fun e s' => R (.error e) s') s₄) (notedBy (model prog w) A env fun e s' => R (.error e) s') s₃
            else ∃ m, m < n ∧ I m s₃) (notedBy (model prog w) A env fun e s' => R (.error e) s') s₂) (notedBy (model prog w) A env fun e s' => R (.error e) s') s₁') (notedBy (model prog w) A env fun e s' => R (.error e) s') s₁) (notedBy (model prog w) A env fun e s' => R (.error e) s') s)
    (n : Nat) (h : I n s) :
    codeAny (model prog w) A (.compLoop (.ListComp elt [⟨target, iter, ifs, 0⟩] scope pos) 0 it acc env) R s := by
  refine codeAny_loop rfl I (fun n s hI => ?_) n h
  show wpAny _ A ((compTurn (.ListComp elt [⟨target, iter, ifs, 0⟩] scope pos) 0 it acc env).onRaise (fun x => do noteFrame x env; theTreesLotGoes x)) _ _ s
  refine wpAny_noted ?_
  rw [compTurn_list]
  refine wpAny_bind (wpAny_standAt (wpAny_bind (wpAny_mono (turn n s hI) (fun r s₁ h₁ => ?_) fun _ _ h' => h')))
  cases r with
  | none => exact wpAny_pure h₁
  | some v =>
    refine wpAny_bind (wpAny_mono h₁ (fun _ s₁' h₁' => ?_) fun _ _ h' => h')
    refine wpAny_bind (wpAny_mono h₁' (fun _ s₂ h₂ => wpAny_bind (wpAny_mono h₂ (fun ok s₃ h₃ => ?_) fun _ _ h' => h')) fun _ _ h' => h')
    cases ok with
    | false => exact wpAny_pure ⟨rfl, h₃⟩
    | true =>
      exact wpAny_bind (wpAny_bind (wpAny_mono h₃ (fun x s₄ h₄ => wpAny_bind (wpAny_mono h₄ (fun _ s₅ h₅ => wpAny_pure (wpAny_pure ⟨rfl, h₅⟩)) fun _ _ h' => h')) fun _ _ h' => h'))

section
variable {X : Cx}
/-- [elt for target in iter if ..]: D the new list; W by the turn and a measure, Nx what a turn is to reach -/
def tLc (wi : TI) (g : TG) (tt : TT) (te : TE) (vs : List Nat) : TE := fun σ H Q => wi σ H fun J H1 => ∀ D, H1 D = none → ∃ W : Nat → Nat → Hp → Prop, (∃ m, W 0 m (upd H1 D (.lst []))) ∧ ∀ i m H, W i m H →
  (J.stop i H ∧ Q (.ref D) H) ∨ (J.go i H ∧ ∃ Nx : Hp → Prop, (∀ H', Nx H' → ∃ m', m' < m ∧ W (i + 1) m' H') ∧ ∀ x H', J.yld i H x H' → g x (wipe σ vs) H' fun σ2 H2 => wipe σ2 vs = wipe σ vs ∧ tt σ2 H2 fun b H3 =>
    if b = true then te σ2 H3 fun y H4 => ∃ acc, H4 D = some (.lst acc) ∧ acc.length < sizeLine ∧ Nx (upd H4 D (.lst (acc ++ [y]))) else Nx H3)
theorem lc_core {pins : List (Addr × Obj)} {s : Shared} {σ : St} {H : Hp} {Q : VK} {elt tg iter : Expr} {ifs : List Expr} {scope : Scope} {own : List (Str × Nat)} {pos pos' : Pos} {wi : TI} {g : TG} {tt : TT} {te : TE} {use : Option (Value → Sem Unit)} {Qf : Value → Shared → Prop}
    (hc : X.calm = true) (hN : X.N.Nodup) (I : Inv X pins σ H s) (hi : PI X tg iter wi) (ok : BlkOk X.N X.env.scope scope own)
    (hg : ∀ (s : Shared) (H : Hp) (C : Addr) (cl : List (Str × Addr)) (fp : List Addr), PG (X.blk s H scope (compEnvC scope cl C X.env) fp) tg g) (ht : ∀ (s : Shared) (H : Hp) (C : Addr) (cl : List (Str × Addr)) (fp : List Addr), PTs (X.blk s H scope (compEnvC scope cl C X.env) fp) ifs tt)
    (he : ∀ (s : Shared) (H : Hp) (C : Addr) (cl : List (Str × Addr)) (fp : List Addr), PE (X.blk s H scope (compEnvC scope cl C X.env) fp) elt te) (hs : ∀ x, foldedSetIterable iter X.env x = pure x)
    (h : tLc wi g tt te (own.map (·.2)) σ H Q)
    (hRR : ∀ D C s' m H', Inv X pins σ H' s' → Q (.ref D) H' → s'.heap.Ns C m → FpOk X pins H' C → compPost (model X.prog X.w) X.A X.xe use Qf (.ref D) C (.ok .next) s') :
    wpAny (model X.prog X.w) X.A (comprehension (.ListComp elt [⟨tg, iter, ifs, 0⟩] scope pos) scope X.env pos' (newList []) false (eval iter X.env) use) Qf X.xe s := by
  have hfree : ∀ y ∈ scope.names, y.2 = .free → ∃ c, X.env.cells.lookup y.1 = some c := fun y hy e => by
    rcases ok.free y hy e with k | k
    · exact I.ok.has _ (.inl k)
    · exact I.ok.has _ (.inr k)
  refine wpAny_comprehension_free (use := use) rfl hs (closure_ok hfree) ok.kind (fun y hy e => by rw [ok.uniq y hy, e])
    (thn (hi pins s σ H _ I h) fun xv s1 hx => thn hx fun itv s2 h2 => ?_)
  obtain ⟨it, fp, tn, J, H2, e, I2, T, st2, f2, q⟩ := h2
  subst e
  refine wpAny_newObj_type (newEnv_comp ?_) (by show 0 ≤ sizeLine; decide)
  generalize hD : s2.heap.objs.size = D
  have hDn : H2 D = none := I2.hok.fresh (Nat.le_of_eq hD)
  obtain ⟨W, ⟨m0, w0⟩, turn⟩ := q D hDn
  -- the new list
  generalize hs3 : ({ s2 with heap := s2.heap.push { cls := .type "list", data := .seq ([] : List Value).toArray } } : Shared) = s3
  have I3 : Inv X pins σ (upd H2 D (.lst [])) s3 := by
    rw [← hs3]
    refine I2.laid (t' := s2.toks) (fun b o e => Heap.get?_push_of_some _ e) (Nat.le_of_eq hD) ⟨Nat.zero_le _, [], 0, .nil, ?_⟩
    rw [← hD]
    exact Heap.get?_push_size _ rfl
  have h3 : s3.heap = s2.heap.push { cls := .type "list", data := .seq ([] : List Value).toArray } := by rw [← hs3]
  have sz : ∀ b ∈ fp, b < s2.heap.objs.size := fun b hb => by
    obtain ⟨o, e, _⟩ := T.obj _ _ st2 b hb
    exact Heap.lt_size e
  have f3 : ∀ b ∈ fp, FpOk X pins (upd H2 D (.lst [])) b ∧ b < s3.heap.objs.size := fun b hb => by
    have hlt := sz b hb
    refine ⟨⟨?_, (f2 b hb).2⟩, by rw [h3, Heap.size_push]; exact Nat.lt_succ_of_lt hlt⟩
    rw [upd_ne (by rw [← hD]; exact Nat.ne_of_lt hlt)]
    exact (f2 b hb).1
  have st3 : tn 0 s3.heap := T.keep _ _ _ st2 fun b _ o e => by rw [h3]; exact Heap.get?_push_of_some _ e
  have I4 := block_start I3 ok hN f3
  have pg := hg s3 (upd H2 D (.lst [])) s3.heap.objs.size (cellsFrom (s3.heap.objs.size + 1) scope.names (cloFrom X.env.cells scope.names [])) fp
  have pt := ht s3 (upd H2 D (.lst [])) s3.heap.objs.size (cellsFrom (s3.heap.objs.size + 1) scope.names (cloFrom X.env.cells scope.names [])) fp
  have pe := he s3 (upd H2 D (.lst [])) s3.heap.objs.size (cellsFrom (s3.heap.objs.size + 1) scope.names (cloFrom X.env.cells scope.names [])) fp
  show codeAny _ _ (.compStart (.ListComp elt [⟨tg, iter, ifs, 0⟩] scope pos) 0 (.ref it) (.ref D) (compEnvC scope (cellsFrom (s3.heap.objs.size + 1) scope.names (cloFrom X.env.cells scope.names [])) s3.heap.objs.size X.env)) (compPost (model X.prog X.w) X.A X.xe use Qf (.ref D) s3.heap.objs.size) { s3 with heap := pushCells (s3.heap.push { cls := .type "dict", data := .dict #[] }) scope.names }
  have nfp : ∀ b ∈ fp, (upd H2 D (.lst [])) b = none := fun b hb => (f3 b hb).1.1
  generalize hce : compEnvC scope (cellsFrom (s3.heap.objs.size + 1) scope.names (cloFrom X.env.cells scope.names [])) s3.heap.objs.size X.env = ce at I4 pg pt pe ⊢
  have cL : ce.locals = s3.heap.objs.size := by subst hce; rfl
  generalize hH3 : upd H2 D (.lst []) = H3 at I3 I4 pg pt pe w0 nfp f3
  generalize hs4 : ({ s3 with heap := pushCells (s3.heap.push { cls := .type "dict", data := .dict #[] }) scope.names } : Shared) = s4 at I4 ⊢
  have st4 : tn 0 s4.heap := T.keep _ _ _ st3 fun b _ o e => by rw [← hs4]; exact pushCells_keeps _ _ _ _ (Heap.get?_push_of_some _ e)
  have stat : ∀ {σ' : St} {H' : Hp} {s' : Shared}, Inv (X.blk s3 H3 scope ce fp) [] σ' H' s' → (∀ b ∈ fp, H' b = none) → ∀ b ∈ fp, FpOk (X.blk s3 H3 scope ce fp) [] H' b := fun {σ' H' s'} I' hn b hb =>
    ⟨hn b hb, (I'.ok.exf b hb).1, I'.ok.exfs b hb, .inl hb, fun x c e => (I'.ok.exf b hb).2 x c e, fun p hp => absurd (show p ∈ ([] : List (Addr × Obj)) ++ [] from hp) (by simp)⟩
  have loop : codeAny (model X.prog X.w) X.A (.compLoop (.ListComp elt [⟨tg, iter, ifs, 0⟩] scope pos) 0 (.ref it) (.ref D) ce) (compPost (model X.prog X.w) X.A X.xe use Qf (.ref D) s3.heap.objs.size) s4 := by
    refine compLoop_any (fun n s' => ∃ i H', Inv (X.blk s3 H3 scope ce fp) [] (wipe σ (own.map (·.2))) H' s' ∧ tn i s'.heap ∧ (∀ b ∈ fp, H' b = none) ∧ W i n H') ?_ m0 ⟨0, H3, I4, st4, nfp, w0⟩
    rintro n s5 ⟨i, H5, I5, st5, n5, w5⟩
    rcases turn i n H5 w5 with ⟨stop, qq⟩ | ⟨go, Nx, hNx, step⟩
    · have td := T.done (X.blk s3 H3 scope ce fp) rfl rfl rfl hc i [] s5 _ H5 (fun _ _ => False) I5 (stat I5 n5) st5 stop
      refine thnF td fun r s6 ⟨hr, I6⟩ => ?_
      subst hr
      -- back in the def's context
      have I7 : Inv X pins σ H5 s6 := I3.call' (ch := fp) I6.os I6.base I6.hok I6.bare fun b hb => ⟨(f3 b hb).1.2.2.2.1, (f3 b hb).1.2.1, (f3 b hb).1.2.2.2.2.1, (f3 b hb).1.2.2.2.2.2⟩
      have nC : H5 s3.heap.objs.size = none := by
        have z : H5 ce.locals = none := I6.free
        rw [cL] at z
        exact z
      obtain ⟨m, hn, _⟩ := I6.loc
      have hn : s6.heap.Ns ce.locals m := hn
      rw [cL] at hn
      exact hRR D s3.heap.objs.size s6 m H5 I7 qq hn (I3.fpOk (Nat.le_refl _) nC)
    · have ti := T.item (X.blk s3 H3 scope ce fp) rfl rfl rfl hc i [] s5 _ H5 (fun _ _ => False) I5 (stat I5 n5) st5 go
      refine thnF ti fun r s6 ⟨u, hr, h6⟩ => ?_
      subst hr
      refine thnF h6 fun _ s7 ⟨x, H7, I7, r7, y7, st7, n7⟩ => ?_
      have I7' := I7.pinned (stat I7 n7) (T.obj _ _ st7)
      refine thnF (pg _ s7 _ H7 x u _ I7' r7 (step x H7 y7)) fun _ s8 ⟨σ8, H8, I8, hw8, q8⟩ => ?_
      refine thnF (pt _ s8 σ8 H8 _ I8 q8) fun b s9 ⟨H9, I9, q9⟩ => ?_
      -- the turn's end
      have fin : ∀ {s' : Shared} {H' : Hp}, Inv (X.blk s3 H3 scope ce fp) ([] ++ pinsAt fp s7.heap) σ8 H' s' → Nx H' → ∃ m, m < n ∧ ∃ i H', Inv (X.blk s3 H3 scope ce fp) [] (wipe σ (own.map (·.2))) H' s' ∧ tn i s'.heap ∧ (∀ b ∈ fp, H' b = none) ∧ W i m H' := fun {s' H'} I' nx => by
        obtain ⟨m', hm, w'⟩ := hNx H' nx
        have pin' : ∀ b ∈ fp, ∀ o, s7.heap.get? b = some o → s'.heap.get? b = some o ∧ H' b = none := fun b hb o e =>
          let z := I'.pin (b, o) (List.mem_append_right _ (List.mem_append_right _ (mem_pinsAt hb e)))
          ⟨z.1, z.2.1⟩
        have hl : (wipe σ (own.map (·.2))).length = σ8.length := by rw [← hw8, wipe_length]
        refine ⟨m', hm, i + 1, H', (I'.unpinned (pins := [])).weak hl (fun j v e => ?_), T.keep _ _ _ st7 fun b hb o e => (pin' b hb o e).1, fun b hb => ?_, w'⟩
        · rw [← hw8] at e
          exact (wipe_some e).1
        · obtain ⟨o, e, _⟩ := T.obj _ _ st7 b hb
          exact (pin' b hb o e).2
      cases b with
      | false =>
        simp only [Bool.false_eq_true, if_false] at q9 ⊢
        exact fin I9 q9
      | true =>
        simp only [if_true] at q9 ⊢
        refine thnF (pe _ s9 σ8 H9 _ I9 q9) fun z s10 ⟨yv, H10, I10, r10, acc, hD10, hz10, nx⟩ => ?_
        exact app_ok (X := X.blk s3 H3 scope ce fp) I10 hD10 hz10 r10 fun s11 I11 => fin I11 nx
  exact codeAny_compStart_list loop (T.self X.A 0 _ _ _ st4 loop)
/-- as a value -/
theorem pe_lc {elt tg iter : Expr} {ifs : List Expr} {scope : Scope} {own : List (Str × Nat)} {pos : Pos} {wi : TI} {g : TG} {tt : TT} {te : TE} (hc : X.calm = true) (hN : X.N.Nodup) (hi : PI X tg iter wi) (ok : BlkOk X.N X.env.scope scope own)
    (hg : ∀ (s : Shared) (H : Hp) (C : Addr) (cl : List (Str × Addr)) (fp : List Addr), PG (X.blk s H scope (compEnvC scope cl C X.env) fp) tg g) (ht : ∀ (s : Shared) (H : Hp) (C : Addr) (cl : List (Str × Addr)) (fp : List Addr), PTs (X.blk s H scope (compEnvC scope cl C X.env) fp) ifs tt)
    (he : ∀ (s : Shared) (H : Hp) (C : Addr) (cl : List (Str × Addr)) (fp : List Addr), PE (X.blk s H scope (compEnvC scope cl C X.env) fp) elt te) (hs : ∀ x, foldedSetIterable iter X.env x = pure x := by intro _; rfl) :
    PE X (.ListComp elt [⟨tg, iter, ifs, 0⟩] scope pos) (tLc wi g tt te (own.map (·.2))) := by
  intro pins s σ H Q I h
  rw [eval_ListComp]
  refine lc_core hc hN I hi ok hg ht he hs h fun D C s' m H' I' q hn f => ⟨m, hn, fun h'' sb => ?_⟩
  obtain ⟨f0, f1, f2, f3, f4, f5⟩ := f
  exact ⟨.ref D, H', I'.turned (t' := s'.toks) (fun b o hb e => (sb.2 b hb).trans e) f0 f1 f3 f4 f5, rfl, q⟩
/-- name = [..] on one line, the name a local -/
theorem ps_setLc {i : Nat} {y : Str} {py : Pos} {elt tg iter : Expr} {ifs : List Expr} {scope : Scope} {own : List (Str × Nat)} {pos spos : Pos} {wi : TI} {g : TG} {tt : TT} {te : TE} (hc : X.calm = true) (hN : X.N.Nodup) (hy : X.N[i]? = some y) (hyl : X.env.scope.names.lookup y = some .local)
    (hsw : swapsWith (.ListComp elt [⟨tg, iter, ifs, 0⟩] scope pos) (some (.Name y py)) spos.line X.env = pure true) (hi : PI X tg iter wi) (ok : BlkOk X.N X.env.scope scope own)
    (hg : ∀ (s : Shared) (H : Hp) (C : Addr) (cl : List (Str × Addr)) (fp : List Addr), PG (X.blk s H scope (compEnvC scope cl C X.env) fp) tg g) (ht : ∀ (s : Shared) (H : Hp) (C : Addr) (cl : List (Str × Addr)) (fp : List Addr), PTs (X.blk s H scope (compEnvC scope cl C X.env) fp) ifs tt)
    (he : ∀ (s : Shared) (H : Hp) (C : Addr) (cl : List (Str × Addr)) (fp : List Addr), PE (X.blk s H scope (compEnvC scope cl C X.env) fp) elt te) (hs : ∀ x, foldedSetIterable iter X.env x = pure x := by intro _; rfl) :
    PS X (.Assign [.Name y py] (.ListComp elt [⟨tg, iter, ifs, 0⟩] scope pos) spos) (tAsg (tLc wi g tt te (own.map (·.2))) (gName i)) := by
  intro pins s σ H D I h
  rw [exec_Assign_Name_used _ _ _ _ hsw]
  refine wpAny_bind (wpAny_standAt (wpAny_bind ?_))
  show wpAny _ X.A (do let _ ← comprehension (.ListComp elt [⟨tg, iter, ifs, 0⟩] scope pos) scope X.env (firstIterPos [⟨tg, iter, ifs, 0⟩] pos) (newList []) false (eval iter X.env) (some (assign (.Name y py) X.env))) _ _ s
  have h : tLc wi g tt te (own.map (·.2)) σ H (fun x H1 => gName i x σ H1 D.nx) := h
  refine wpAny_bind (thn (lc_core (Qf := fun _ s' => SP X pins D .next s') hc hN I hi ok hg ht he hs h fun L C s' m H' I' q hn f => ?_) fun _ s' hq => wpAny_pure (wpAny_pure hq))
  show wpAny _ _ (assign (.Name y py) X.env (.ref L)) _ _ _
  refine wpAny_assign_Name (store_ok2 (v := V.ref L) I' hN hy (.inl hyl) rfl (fun s2 I2 ⟨a, sb, ha⟩ => ?_) (.inr hyl))
  obtain ⟨f0, f1, f2, f3, f4, f5⟩ := f
  have haC : C ≠ a := by
    rcases ha with z | z
    · rw [z]; exact f1
    · exact fun e => f4 y a z e.symm
  refine ⟨m, hn.sameBut sb haC, fun h3 sb3 => ?_⟩
  exact ⟨_, H', I2.turned (t' := s2.toks) (fun b o hb e => (sb3.2 b hb).trans e) f0 f1 f3 f4 f5, q⟩
theorem sw_true {elt : Expr} {gs : List Comprehension} {scope : Scope} {pos py : Pos} {y : Str} {l : Nat} {env : Env} (hk : env.scope.kind = .function) (hy : env.scope.names.lookup y = some .local) (hl : (py.line == pos.line) = true)
    (ha : (scope.names.any fun (n, k) => n == y && (k == .local || k == .cell)) = false) : swapsWith (.ListComp elt gs scope pos) (some (.Name y py)) l env = pure true := by
  have ky : env.kindOf y = some .local := hy
  have hb : env.blockKind = .function := by unfold Env.blockKind; rw [hk]; rfl
  unfold swapsWith
  simp only [hb, ky, ha, Expr.pos, hl]
  rfl
end

/-! ### the forms one uses -/
/-- over a range: Pv by the turn and the heap (the new list at D within) -/
theorem lc_range {lo : Int} {n : Nat} {g : TG} {tt : TT} {te : TE} {vs : List Nat} {σ : St} {H1 : Hp} {D : Addr} {Qd : Hp → Prop} (Pv : Nat → Hp → Prop) (h0 : Pv 0 (upd H1 D (.lst [])))
    (hs : ∀ i H, i < n → Pv i H → g (.int (lo + i)) (wipe σ vs) H fun σ2 H2 => wipe σ2 vs = wipe σ vs ∧ tt σ2 H2 fun b H3 =>
      if b = true then te σ2 H3 fun y H4 => ∃ acc, H4 D = some (.lst acc) ∧ acc.length < sizeLine ∧ Pv (i + 1) (upd H4 D (.lst (acc ++ [y]))) else Pv (i + 1) H3) (hd : ∀ H, Pv n H → Qd H) :
    ∃ W : Nat → Nat → Hp → Prop, (∃ m, W 0 m (upd H1 D (.lst []))) ∧ ∀ i m H, W i m H →
      ((Itr lo n).stop i H ∧ Qd H) ∨ ((Itr lo n).go i H ∧ ∃ Nx : Hp → Prop, (∀ H', Nx H' → ∃ m', m' < m ∧ W (i + 1) m' H') ∧ ∀ x H', (Itr lo n).yld i H x H' → g x (wipe σ vs) H' fun σ2 H2 => wipe σ2 vs = wipe σ vs ∧ tt σ2 H2 fun b H3 =>
        if b = true then te σ2 H3 fun y H4 => ∃ acc, H4 D = some (.lst acc) ∧ acc.length < sizeLine ∧ Nx (upd H4 D (.lst (acc ++ [y]))) else Nx H3) := by
  refine ⟨fun i m H => m = n - i ∧ i ≤ n ∧ Pv i H, ⟨n, by simp, Nat.zero_le _, h0⟩, ?_⟩
  rintro i m H ⟨rfl, hi, p⟩
  by_cases hlt : i < n
  · refine .inr ⟨hlt, Pv (i + 1), fun H' p' => ⟨n - (i + 1), by omega, rfl, hlt, p'⟩, fun x H' y => ?_⟩
    obtain ⟨e, y⟩ := y
    subst e y
    exact hs i _ hlt p
  · have e : i = n := by omega
    subst e
    exact .inl ⟨Nat.le_refl _, hd H p⟩
/-- over a list that the block leaves as it is -/
theorem lc_list {K : PySem.W.Frag} {a : Addr} {xs : List V} {g : TG} {tt : TT} {te : TE} {vs : List Nat} {σ : St} {H1 : Hp} {D : Addr} {Qd : Hp → Prop} (Pv : Nat → Hp → Prop) (h0 : Pv 0 (upd H1 D (.lst []))) (hl : ∀ i H, i ≤ xs.length → Pv i H → SqL K H a xs)
    (hs : ∀ i x H, xs[i]? = some x → Pv i H → g x (wipe σ vs) H fun σ2 H2 => wipe σ2 vs = wipe σ vs ∧ tt σ2 H2 fun b H3 =>
      if b = true then te σ2 H3 fun y H4 => ∃ acc, H4 D = some (.lst acc) ∧ acc.length < sizeLine ∧ Pv (i + 1) (upd H4 D (.lst (acc ++ [y]))) else Pv (i + 1) H3) (hd : ∀ H, Pv xs.length H → Qd H) :
    ∃ W : Nat → Nat → Hp → Prop, (∃ m, W 0 m (upd H1 D (.lst []))) ∧ ∀ i m H, W i m H →
      ((Itl K a).stop i H ∧ Qd H) ∨ ((Itl K a).go i H ∧ ∃ Nx : Hp → Prop, (∀ H', Nx H' → ∃ m', m' < m ∧ W (i + 1) m' H') ∧ ∀ x H', (Itl K a).yld i H x H' → g x (wipe σ vs) H' fun σ2 H2 => wipe σ2 vs = wipe σ vs ∧ tt σ2 H2 fun b H3 =>
        if b = true then te σ2 H3 fun y H4 => ∃ acc, H4 D = some (.lst acc) ∧ acc.length < sizeLine ∧ Nx (upd H4 D (.lst (acc ++ [y]))) else Nx H3) := by
  refine ⟨fun i m H => m = xs.length - i ∧ i ≤ xs.length ∧ Pv i H, ⟨xs.length, by simp, Nat.zero_le _, h0⟩, ?_⟩
  rintro i m H ⟨rfl, hi, p⟩
  have q := hl i H hi p
  by_cases hlt : i < xs.length
  · refine .inr ⟨⟨xs, xs[i], q, by simp [hlt]⟩, Pv (i + 1), fun H' p' => ⟨xs.length - (i + 1), by omega, rfl, hlt, p'⟩, fun x H' y => ?_⟩
    obtain ⟨e, y⟩ := y
    subst e
    exact hs i x _ (y xs q) p
  · have e : i = xs.length := by omega
    subst e
    exact .inl ⟨⟨xs, q, Nat.le_refl _⟩, hd H p⟩
/-- over a tuple -/
theorem lc_tup {K : PySem.W.Frag} {a : Addr} {xs : List V} {g : TG} {tt : TT} {te : TE} {vs : List Nat} {σ : St} {H1 : Hp} {D : Addr} {Qd : Hp → Prop} (Pv : Nat → Hp → Prop) (h0 : Pv 0 (upd H1 D (.lst []))) (hl : ∀ i H, i ≤ xs.length → Pv i H → SqT K H a xs)
    (hs : ∀ i x H, xs[i]? = some x → Pv i H → g x (wipe σ vs) H fun σ2 H2 => wipe σ2 vs = wipe σ vs ∧ tt σ2 H2 fun b H3 =>
      if b = true then te σ2 H3 fun y H4 => ∃ acc, H4 D = some (.lst acc) ∧ acc.length < sizeLine ∧ Pv (i + 1) (upd H4 D (.lst (acc ++ [y]))) else Pv (i + 1) H3) (hd : ∀ H, Pv xs.length H → Qd H) :
    ∃ W : Nat → Nat → Hp → Prop, (∃ m, W 0 m (upd H1 D (.lst []))) ∧ ∀ i m H, W i m H →
      ((Itt K a).stop i H ∧ Qd H) ∨ ((Itt K a).go i H ∧ ∃ Nx : Hp → Prop, (∀ H', Nx H' → ∃ m', m' < m ∧ W (i + 1) m' H') ∧ ∀ x H', (Itt K a).yld i H x H' → g x (wipe σ vs) H' fun σ2 H2 => wipe σ2 vs = wipe σ vs ∧ tt σ2 H2 fun b H3 =>
        if b = true then te σ2 H3 fun y H4 => ∃ acc, H4 D = some (.lst acc) ∧ acc.length < sizeLine ∧ Nx (upd H4 D (.lst (acc ++ [y]))) else Nx H3) := by
  refine ⟨fun i m H => m = xs.length - i ∧ i ≤ xs.length ∧ Pv i H, ⟨xs.length, by simp, Nat.zero_le _, h0⟩, ?_⟩
  rintro i m H ⟨rfl, hi, p⟩
  have q := hl i H hi p
  by_cases hlt : i < xs.length
  · refine .inr ⟨⟨xs, xs[i], q, by simp [hlt]⟩, Pv (i + 1), fun H' p' => ⟨xs.length - (i + 1), by omega, rfl, hlt, p'⟩, fun x H' y => ?_⟩
    obtain ⟨e, y⟩ := y
    subst e
    exact hs i x _ (y xs q) p
  · have e : i = xs.length := by omega
    subst e
    exact .inl ⟨⟨xs, q, Nat.le_refl _⟩, hd H p⟩
def blkC (N : List Str) (sc scope : Scope) (own : List (Str × Nat)) : Bool :=
  (match scope.kind with | .function => true | _ => false) && (scope.names.all fun y => decide (scope.names.lookup y.1 = some y.2)) && (own.all fun p => decide (N[p.2]? = some p.1)) &&
    (scope.names.all fun y => match y.2 with
      | .free => (match sc.names.lookup y.1 with | some .cell => true | some .free => true | _ => false)
      | .local => decide (y.1 ∈ own.map (·.1)) || decide (y.1 ∉ N)
      | .cell => decide (y.1 ∈ own.map (·.1)) || decide (y.1 ∉ N)
      | _ => true)
theorem blkOk_by {N : List Str} {sc scope : Scope} {own : List (Str × Nat)} (h : blkC N sc scope own = true) : BlkOk N sc scope own := by
  unfold blkC at h
  simp only [Bool.and_eq_true, List.all_eq_true, decide_eq_true_eq] at h
  obtain ⟨⟨⟨h1, h2⟩, h3⟩, h4⟩ := h
  refine ⟨?_, h2, h3, fun y hy e => ?_, fun y hy e => ?_⟩
  · split at h1
    · assumption
    · cases h1
  · have q := h4 y hy
    simp only [e] at q
    split at q <;> first | exact .inl (by assumption) | exact .inr (by assumption) | cases q
  · have q := h4 y hy
    rcases e with e | e <;> (simp only [e, Bool.or_eq_true, decide_eq_true_eq] at q; exact q)
end L2

namespace L2
open PySem PySem.Spec PyProof.Rows

section
variable {prog : Program} {w : World} {A : Around} {R : Result → Shared → Prop} {s : Shared} {elt t0 i0 t1 i1 : Expr} {ifs0 ifs1 : List Expr} {scope : Scope} {pos : Pos} {it acc : Value} {env : Env}
end

section
variable {X : Cx}
end
end L2

namespace L2
open PySem PySem.Spec PyProof.Rows

/-! ### lists of pairs as tables -/
section
variable {κ : Type} [DecidableEq κ]
def valV (kvs : List (κ × V)) (k : κ) : Option V := (kvs.find? fun kv => decide (kv.1 = k)).map (·.2)
/-- in its place, or at the end -/
def putK (kvs : List (κ × V)) (k : κ) (v : V) : List (κ × V) :=
  if (kvs.any fun kv => decide (kv.1 = k)) = true then kvs.map (fun kv => if kv.1 = k then (kv.1, v) else kv) else kvs ++ [(k, v)]
theorem valV_nil {k : κ} : valV ([] : List (κ × V)) k = none := rfl
theorem valV_pos {p : κ × V} {r : List (κ × V)} {k : κ} (e : p.1 = k) : valV (p :: r) k = some p.2 := by simp [valV, List.find?_cons, e]
theorem valV_neg {p : κ × V} {r : List (κ × V)} {k : κ} (e : ¬ p.1 = k) : valV (p :: r) k = valV r k := by simp [valV, List.find?_cons, e]
theorem valV_any (k : κ) : ∀ kvs : List (κ × V), (kvs.any fun kv => decide (kv.1 = k)) = (valV kvs k).isSome
  | [] => rfl
  | p :: r => by
    rw [List.any_cons]
    by_cases e : p.1 = k
    · simp only [valV_pos e, decide_eq_true e, Bool.true_or, Option.isSome_some]
    · rw [valV_neg e, decide_eq_false e, Bool.false_or]; exact valV_any k r
theorem valV_map (k j : κ) (y : V) : ∀ kvs : List (κ × V), valV (kvs.map fun kv => if kv.1 = k then (kv.1, y) else kv) j = (valV kvs j).map fun x => if j = k then y else x
  | [] => rfl
  | p :: r => by
    have ih := valV_map k j y r
    rw [List.map_cons]
    by_cases h : p.1 = k
    · rw [if_pos h]
      by_cases e : p.1 = j
      · rw [valV_pos (p := (p.1, y)) e, valV_pos e, Option.map_some, if_pos (e.symm.trans h)]
      · rw [valV_neg (p := (p.1, y)) e, valV_neg e, ih]
    · rw [if_neg h]
      by_cases e : p.1 = j
      · rw [valV_pos (p := p) e, valV_pos e, Option.map_some, if_neg (fun z => h (e.trans z))]
      · rw [valV_neg (p := p) e, valV_neg e, ih]
theorem valV_snoc (k j : κ) (y : V) : ∀ kvs : List (κ × V), valV kvs k = none → valV (kvs ++ [(k, y)]) j = if j = k then some y else valV kvs j
  | [], _ => by
    by_cases e : k = j
    · rw [if_pos e.symm]; exact valV_pos (p := (k, y)) e
    · rw [if_neg (fun z => e z.symm)]; exact valV_neg (p := (k, y)) e
  | p :: r, hn => by
    rw [List.cons_append]
    have hk : ¬ p.1 = k := fun z => by rw [valV_pos z] at hn; cases hn
    rw [valV_neg hk] at hn
    have ih := valV_snoc k j y r hn
    by_cases e : p.1 = j
    · rw [valV_pos e, valV_pos e, if_neg (fun z => hk (e.trans z))]
    · rw [valV_neg e, valV_neg e, ih]
theorem valV_put (kvs : List (κ × V)) (k j : κ) (y : V) : valV (putK kvs k y) j = if j = k then some y else valV kvs j := by
  unfold putK
  by_cases a : (kvs.any fun kv => decide (kv.1 = k)) = true
  · rw [if_pos a, valV_map]
    rw [valV_any] at a
    by_cases e : j = k
    · obtain ⟨x, hx⟩ := Option.isSome_iff_exists.mp a
      rw [if_pos e, e, hx, Option.map_some, if_pos rfl]
    · rw [if_neg e]
      cases valV kvs j with
      | none => rfl
      | some x => rw [Option.map_some, if_neg e]
  · rw [if_neg a]
    refine valV_snoc k j y kvs ?_
    rw [valV_any] at a
    cases q : valV kvs k with
    | none => rfl
    | some x => rw [q] at a; exact (a rfl).elim
theorem length_putK (kvs : List (κ × V)) (k : κ) (v : V) : (putK kvs k v).length ≤ kvs.length + 1 := by
  unfold putK
  split
  · rw [List.length_map]; omega
  · rw [List.length_append, List.length_cons, List.length_nil]; omega
theorem putK_new {kvs : List (κ × V)} {k : κ} (v : V) (h : valV kvs k = none) : putK kvs k v = kvs ++ [(k, v)] := by
  unfold putK
  rw [valV_any, h]
  exact if_neg (by decide)

theorem RelO.isSome_eq {o : Option V} {u : Option Value} (r : RelO o u) : o.isSome = u.isSome := by
  cases o with
  | none => cases u with
    | none => rfl
    | some _ => exact (show False from r).elim
  | some _ => cases u with
    | none => exact (show False from r).elim
    | some _ => rfl
theorem RelO.getD {o : Option V} {u : Option Value} {d : V} {d' : Value} (r : RelO o u) (rd : RelV d d') : RelV (o.getD d) (u.getD d') := by
  cases o with
  | none => cases u with
    | none => exact rd
    | some _ => exact (show False from r).elim
  | some _ => cases u with
    | none => exact (show False from r).elim
    | some _ => exact r

/-- raw tables of the same keys -/
theorem KV.val {kvs : List (κ × V)} {vs : List (κ × Value)} (r : KV kvs vs) (k : κ) : RelO (valV kvs k) (valueAt vs k) := by
  unfold KV at r
  induction r with
  | nil => exact True.intro
  | @cons p q ps qs h t ih =>
    obtain ⟨h1, h2⟩ := h
    by_cases e : p.1 = k
    · have e' : q.1 = k := h1.symm.trans e
      have b : valueAt (q :: qs) k = some q.2 := by simp [valueAt, List.find?_cons, e']
      rw [valV_pos e, b]; exact h2
    · have e' : ¬ q.1 = k := fun z => e (h1.trans z)
      have b : valueAt (q :: qs) k = valueAt qs k := by simp [valueAt, List.find?_cons, e']
      rw [valV_neg e, b]; exact ih
theorem KV.any {kvs : List (κ × V)} {vs : List (κ × Value)} (r : KV kvs vs) (k : κ) : (kvs.any fun kv => decide (kv.1 = k)) = vs.any fun kv => decide (kv.1 = k) := by
  unfold KV at r
  induction r with
  | nil => rfl
  | cons h t ih => rw [List.any_cons, List.any_cons, ih, h.1]
theorem KV.repl {kvs : List (κ × V)} {vs : List (κ × Value)} (r : KV kvs vs) (k : κ) {y : V} {u : Value} (ry : RelV y u) :
    KV (kvs.map fun kv => if kv.1 = k then (kv.1, y) else kv) (vs.map fun kv => if kv.1 = k then (kv.1, u) else kv) := by
  unfold KV at r ⊢
  induction r with
  | nil => exact .nil
  | @cons p q ps qs h t ih =>
    rw [List.map_cons, List.map_cons]
    refine .cons ?_ ih
    obtain ⟨h1, h2⟩ := h
    by_cases e : p.1 = k
    · rw [if_pos e, if_pos (h1.symm.trans e)]; exact ⟨h1, ry⟩
    · rw [if_neg e, if_neg (fun z => e (h1.trans z))]; exact ⟨h1, h2⟩
theorem KV.put {kvs : List (κ × V)} {vs : List (κ × Value)} (r : KV kvs vs) (k : κ) {y : V} {u : Value} (ry : RelV y u) : KV (putK kvs k y) (stored vs k u) := by
  unfold putK stored
  rw [r.any k]
  by_cases e : (vs.any fun kv => decide (kv.1 = k)) = true
  · rw [if_pos e, if_pos e]; exact r.repl k ry
  · rw [if_neg e, if_neg e]; exact Paired.snoc r ⟨rfl, ry⟩
theorem KV.length {kvs : List (κ × V)} {vs : List (κ × Value)} (r : KV kvs vs) : kvs.length = vs.length := Paired.length r
end


/-! ### a tracked dict, its keys ints and texts or tuples of these -/
theorem kV_is {P : Program} {w : World} {k : Key} {u : Value} (r : RelV (kV k) u) : (mixKind P w).is k u = true := by
  cases k with
  | inl i => obtain ⟨t, e⟩ := (show ∃ t, u = Value.int i t from r); subst e; exact mixKind_int P w i t
  | inr x => obtain ⟨t, e⟩ := (show ∃ t, u = Value.str x t from r); subst e; exact mixKind_str P w x t
theorem items_are {P : Program} {w : World} : ∀ {ks : List Key} {us : List Value}, Vals (ks.map kV) us → ItemsAre (mixKind P w) ks us
  | [], _, r => by rw [List.map_nil] at r; cases r; exact .nil
  | k :: ks, _, r => by
    rw [List.map_cons] at r
    cases r with
    | cons h t => exact .cons (kV_is h) (items_are t)

/-- raw entries of a dict with tuple keys -/
abbrev KT (H : Hp) : List (List Key × V) → List (List Key × Addr × Value) → Prop := Paired fun p q => p.1 = q.1 ∧ H q.2.1 = some (.tup (p.1.map kV)) ∧ RelV p.2 q.2.2
theorem KT.val {H : Hp} {kvs : List (List Key × V)} {xs : List (List Key × Addr × Value)} (r : KT H kvs xs) (k : List Key) : RelO (valV kvs k) ((atKey xs k).map (·.2)) := by
  induction r with
  | nil => exact True.intro
  | @cons p q ps qs h t ih =>
    obtain ⟨h1, _, h2⟩ := h
    by_cases e : p.1 = k
    · have e' : q.1 = k := h1.symm.trans e
      have b : atKey (q :: qs) k = some q.2 := by simp [atKey, List.find?_cons, e']
      rw [valV_pos e, b]; exact h2
    · have e' : ¬ q.1 = k := fun z => e (h1.trans z)
      have b : atKey (q :: qs) k = atKey qs k := by simp [atKey, List.find?_cons, e']
      rw [valV_neg e, b]; exact ih
theorem KT.repl {H : Hp} {kvs : List (List Key × V)} {xs : List (List Key × Addr × Value)} (r : KT H kvs xs) (k : List Key) {y : V} {u : Value} (ry : RelV y u) :
    KT H (kvs.map fun kv => if kv.1 = k then (kv.1, y) else kv) (xs.map (putAt k u)) := by
  induction r with
  | nil => exact .nil
  | @cons p q ps qs h t ih =>
    rw [List.map_cons, List.map_cons]
    refine .cons ?_ ih
    obtain ⟨h1, h2, h3⟩ := h
    unfold putAt
    by_cases e : p.1 = k
    · rw [if_pos e, if_pos (h1.symm.trans e)]; exact ⟨h1, h2, ry⟩
    · rw [if_neg e, if_neg (fun z => e (h1.trans z))]; exact ⟨h1, h2, h3⟩
theorem KT.put {H : Hp} {kvs : List (List Key × V)} {xs : List (List Key × Addr × Value)} (r : KT H kvs xs) (k : List Key) {b : Addr} {y : V} {u : Value} (hb : H b = some (.tup (k.map kV))) (ry : RelV y u) :
    KT H (putK kvs k y) (storedH xs k b u) := by
  have e : (kvs.any fun kv => decide (kv.1 = k)) = (atKey xs k).isSome := by
    rw [valV_any, (r.val k).isSome_eq, Option.isSome_map]
  unfold putK storedH
  rw [e]
  by_cases q : (atKey xs k).isSome = true
  · rw [if_pos q, if_pos q]; exact r.repl k ry
  · rw [if_neg q, if_neg q]; exact Paired.snoc r ⟨rfl, hb, ry⟩
theorem KT.keeps {H H' : Hp} {kvs : List (List Key × V)} {xs : List (List Key × Addr × Value)} (r : KT H kvs xs) (ht : ∀ b ys, H b = some (.tup ys) → H' b = some (.tup ys)) : KT H' kvs xs :=
  Paired.mapP r fun _ _ z => ⟨z.1, ht _ _ z.2.1, z.2.2⟩

section
variable {P : Program} {w : World} {H : Hp} {h : Heap} {a : Addr}
theorem rd_of {u : HO} (ok : HOk P w H h) (e : Rd H a u) : ObjOk P w H h a u := e.ok ok
theorem dk_rd {kvs : List (Key × V)} (ok : HOk P w H h) (e : Rd H a (.dK kvs)) : kvs.length ≤ sizeLine ∧ (a == sysModules) = false ∧ ∃ vs, KV kvs vs ∧ h.DictOf (mixKind P w) a vs :=
  show ObjOk P w H h a (.dK kvs) from rd_of ok e
theorem dk_of {kvs : List (Key × V)} (ok : HOk P w H h) (e : H a = some (.dK kvs)) : kvs.length ≤ sizeLine ∧ (a == sysModules) = false ∧ ∃ vs, KV kvs vs ∧ h.DictOf (mixKind P w) a vs := dk_rd ok (.inl e)
/-- a tracked tuple of ints and texts is a key -/
theorem key_of {ks : List Key} (ok : HOk P w H h) (e : H a = some (.tup (ks.map kV))) : (tupleKind (mixKind P w)).is h ks a := by
  obtain ⟨_, its, r, o, h1, h2, n, h3⟩ := (show ObjOk P w H h a (.tup (ks.map kV)) from ok a _ e)
  exact ⟨o, its.toArray, n, h1, h2, h3, by simpa using items_are r⟩
theorem dt_rd {kvs : List (List Key × V)} (ok : HOk P w H h) (e : Rd H a (.dT kvs)) : kvs.length ≤ sizeLine ∧ (a == sysModules) = false ∧
    ∃ xs, KT H kvs xs ∧ h.DictOfH (tupleKind (mixKind P w)) a xs := by
  obtain ⟨z, y, xs, r, o, es, ep, h1, h2, h3, h4, h5⟩ := (show ObjOk P w H h a (.dT kvs) from rd_of ok e)
  refine ⟨z, y, xs, r, o, es, ep, h1, h2, h3, h4, fun x hx => ?_, h5⟩
  have all : ∀ {l : List (List Key × V)} {m : List (List Key × Addr × Value)}, KT H l m → ∀ x ∈ m, (tupleKind (mixKind P w)).is h x.1 x.2.1 := by
    intro l m q
    induction q with
    | nil => intro x hx; exact nomatch hx
    | @cons p q ps qs hq t ih =>
      intro x hx
      rcases List.mem_cons.mp hx with e | hx
      · subst e
        exact key_of ok (by rw [← hq.1]; exact hq.2.1)
      · exact ih x hx
  exact all r x hx
theorem dt_of {kvs : List (List Key × V)} (ok : HOk P w H h) (e : H a = some (.dT kvs)) : kvs.length ≤ sizeLine ∧ (a == sysModules) = false ∧
    ∃ xs, KT H kvs xs ∧ h.DictOfH (tupleKind (mixKind P w)) a xs := dt_rd ok (.inl e)
end

/-- what the dict at a holds at the key y -/
def DGet (H : Hp) (a : Addr) (y : V) (r : Option V) : Prop :=
  (∃ kvs k, Rd H a (.dK kvs) ∧ y = kV k ∧ r = valV kvs k) ∨ ∃ kvs k b, Rd H a (.dT kvs) ∧ y = .ref b ∧ H b = some (.tup (k.map kV)) ∧ r = valV kvs k
/-- the heap behind a[y] = v -/
def DPut (H : Hp) (a : Addr) (y v : V) (H' : Hp) : Prop :=
  (∃ kvs k, H a = some (.dK kvs) ∧ y = kV k ∧ kvs.length < sizeLine ∧ H' = upd H a (.dK (putK kvs k v))) ∨
  ∃ kvs k b, H a = some (.dT kvs) ∧ y = .ref b ∧ H b = some (.tup (k.map kV)) ∧ kvs.length < sizeLine ∧ H' = upd H a (.dT (putK kvs k v))
theorem DGet.k {H : Hp} {a : Addr} {kvs : List (Key × V)} {k : Key} (e : H a = some (.dK kvs)) : DGet H a (kV k) (valV kvs k) := .inl ⟨kvs, k, .inl e, rfl, rfl⟩
theorem DPut.k {H : Hp} {a : Addr} {kvs : List (Key × V)} {k : Key} {v : V} (e : H a = some (.dK kvs)) (hl : kvs.length < sizeLine) : DPut H a (kV k) v (upd H a (.dK (putK kvs k v))) := .inl ⟨kvs, k, e, rfl, hl, rfl⟩
section
variable {X : Cx} {pins : List (Addr × Obj)} {σ : St} {H : Hp} {s : Shared} {a : Addr} {y v : V} {u r : Value} {o : Option V} {A : Around} {E : Value → Shared → Prop}

theorem Inv.big (I : Inv X pins σ H s) : sysModules < s.heap.objs.size := by
  have h : mainGlobals < s.heap.objs.size := (I.mod.glob.keeps I.bk).lt
  exact Nat.lt_trans (by decide) h

/-- d[y], there -/
theorem d_getItem {Q : Value → Shared → Prop} (hu : A.units + 1 < cLine) (I : Inv X pins σ H s) (g : DGet H a y (some v)) (ry : RelV y u) (h : ∀ w' s', Inv X pins σ H s' → RelV v w' → Q w' s') :
    wpAny (model X.prog X.w) A (getItem (.ref a) u) Q E s := by
  rcases g with ⟨kvs, k, e, ey, l⟩ | ⟨kvs, k, b, e, ey, eb, l⟩
  · subst ey
    obtain ⟨z, hd, vs, rel, dd⟩ := dk_rd I.hok e
    obtain ⟨w', hw, rw'⟩ := RelO.some_of (v := v) (o := valueAt vs k) (by rw [l]; exact rel.val k)
    exact wpAny_getItem_of (kV_is ry) dd.mapOf hw (h w' _ (I.tok _) rw')
  · subst ey
    cases (show u = Value.ref b from ry)
    obtain ⟨z, hd, xs, rel, dd⟩ := dt_rd I.hok e
    obtain ⟨w', hw, rw'⟩ := RelO.some_of (v := v) (o := (atKey xs k).map (·.2)) (by rw [l]; exact rel.val k)
    obtain ⟨p, hp, hp2⟩ := Option.map_eq_some_iff.mp hw
    refine wpAny_getItem_heap (tupleKind_room_in1 hu) (key_of I.hok eb) dd hp ?_
    rw [hp2]
    exact h w' _ (I.tok _) rw'
theorem d_notIn {Q : Value → Shared → Prop} (hu : A.units + 1 < cLine) (I : Inv X pins σ H s) (g : DGet H a y o) (ry : RelV y u) (h : ∀ s', Inv X pins σ H s' → Q (.bool (!o.isSome)) s') :
    wpAny (model X.prog X.w) A (compareOp .NotIn u (.ref a)) Q E s := by
  rcases g with ⟨kvs, k, e, ey, l⟩ | ⟨kvs, k, b, e, ey, eb, l⟩
  · subst ey
    obtain ⟨z, hd, vs, rel, dd⟩ := dk_rd I.hok e
    refine wpAny_notIn_of (kV_is ry) hd dd.mapOf ?_
    rw [← (rel.val k).isSome_eq, ← l]
    exact h _ (I.tok _)
  · subst ey
    cases (show u = Value.ref b from ry)
    obtain ⟨z, hd, xs, rel, dd⟩ := dt_rd I.hok e
    refine wpAny_notIn_heap (tupleKind_room_in1 hu) (key_of I.hok eb) hd dd ?_
    have q := (rel.val k).isSome_eq
    rw [Option.isSome_map] at q
    rw [← q, ← l]
    exact h _ (I.tok _)
/-- a dict's object is replaced -/
theorem d_write {h' : Heap} {t' : Nat} {ob : HO} (I : Inv X pins σ H s) (mu : Mut (H a)) (hs : Heap.SameBut a s.heap h') (he : ∃ q, h'.get? a = some q) (new : ObjOk X.prog X.w (upd H a ob) h' a ob) :
    Inv X pins σ (upd H a ob) { s with heap := h', toks := t' } :=
  I.write (x := a) (e := a) mu (.inl rfl) (fun b q hb z => (hs.2 b hb).trans z) he new
theorem dk_new {P : Program} {w : World} {H' : Hp} {h' : Heap} {kvs : List (Key × V)} {vs : List (Key × Value)} (z : kvs.length ≤ sizeLine) (hd : (a == sysModules) = false) (rel : KV kvs vs) (dd : h'.DictOf (mixKind P w) a vs) :
    ObjOk P w H' h' a (.dK kvs) := ⟨z, hd, vs, rel, dd⟩
/-- d[y] = v -/
theorem d_setItem {H' : Hp} {Q : Unit → Shared → Prop} (hu : A.units + 1 < cLine) (I : Inv X pins σ H s) (g : DPut H a y v H') (ry : RelV y u) (rv : RelV v r) (h : ∀ s', Inv X pins σ H' s' → Q () s') :
    wpAny (model X.prog X.w) A (setItem (.ref a) u r) Q E s := by
  rcases g with ⟨kvs, k, e, ey, l, eH⟩ | ⟨kvs, k, b, e, ey, eb, l, eH⟩
  · subst ey eH
    obtain ⟨z, hd, vs, rel, dd⟩ := dk_of I.hok e
    have hz : vs.length ≤ sizeLine := by rw [← rel.length]; exact z
    have hl : (putK kvs k v).length ≤ sizeLine := by have := length_putK kvs k v; omega
    refine wpAny_setItem_pairs (hsz := hz) (kV_is ry) dd fun h' dd' hs => h _ ?_
    have he : ∃ q, h'.get? a = some q := let ⟨q, _, _, hq, _⟩ := dd'; ⟨q, hq⟩
    exact d_write I (by rw [e]; exact True.intro) hs he (dk_new hl hd (rel.put k rv) dd')
  · subst ey eH
    cases (show u = Value.ref b from ry)
    obtain ⟨z, hd, xs, rel, dd⟩ := dt_of I.hok e
    have hz : xs.length ≤ sizeLine := by rw [← Paired.length rel]; exact z
    have hl : (putK kvs k v).length ≤ sizeLine := by have := length_putK kvs k v; omega
    refine wpAny_setItem_heap (hsz := hz) (tupleKind_room_in1 hu) (key_of I.hok eb) dd fun h' dd' hs => h _ ?_
    obtain ⟨q, es, ep, hq, h2, h3, h4, _, h5⟩ := dd'
    refine d_write I (by rw [e]; exact True.intro) hs ⟨q, hq⟩ ⟨hl, hd, _, (rel.put k eb rv).keeps fun c ys ec => ?_, q, es, ep, hq, h2, h3, h4, h5⟩
    rw [upd_ne (ne_of ec e (fun z => nomatch z))]
    exact ec
end

section
variable {X : Cx} {pins : List (Addr × Obj)} {σ : St} {H : Hp} {s : Shared} {a : Addr} {kvs : List (Key × V)} {k : Key} {u : Value} {A : Around} {E : Value → Shared → Prop}
end


/-! ### readings and rules -/
/-- the element of a subscription, not a slice -/
def NoSl (i : Expr) : Prop := ∀ ov iv, subscripted i false ov iv = operate [ov, iv] (getItem ov iv)
theorem subD_of {prog : Program} {w : World} {A : Around} {E : Value → Shared → Prop} {s : Shared} {env : Env} {value slice : Expr} {pos : Pos} {T id : String} {Q : Value → Shared → Prop}
    (hl : typeLookup (.type T) "__getitem__" = pure (some (.builtin id))) (hs : NoSl slice)
    (h : wpAny (model prog w) A (eval value env) (fun o s₁ => wpAny (model prog w) A (eval slice env) (fun i s₂ => s₂.TypeIs o T ∧ wpAny (model prog w) A (getItem o i) Q E s₂) E s₁) E s) :
    wpAny (model prog w) A (eval (.Subscript value slice pos) env) Q E s := by
  refine Subscript_ (wpAny_mono h (fun o s₁ h₁ => wpAny_mono h₁ (fun i s₂ h₂ => ?_) fun _ _ x => x) fun _ _ x => x)
  obtain ⟨hT, h₂⟩ := h₂
  unfold subscriptTail
  refine wpAny_bind ?_
  rw [getitemInPython_of_ne hT.not_modules]
  refine wpAny_bind (wpAny_specialOf hT hl ?_)
  have fin : wpAny (model prog w) A (subscripted slice false o i) (fun r s₃ => wpAny (model prog w) A (letTemporaryGo value o r >>= fun _ => pure r) Q E s₃) E s₂ := by
    rw [hs o i]
    exact wpAny_operating (wpAny_mono h₂ (fun r s₃ h₃ => wpAny_bind (wpAny_letTemporaryGo (wpAny_pure h₃))) fun _ _ x => x)
  first
    | exact wpAny_pure (wpAny_bind fin)
    | exact wpAny_bind (wpAny_pure (wpAny_bind fin))
    | exact wpAny_bind fin

theorem dict_typeIs {X : Cx} {pins : List (Addr × Obj)} {σ : St} {H : Hp} {s : Shared} {a : Addr} {y : V} {o : Option V} (I : Inv X pins σ H s) (g : DGet H a y o) : s.TypeIs (.ref a) "dict" := by
  rcases g with ⟨kvs, k, e, _, _⟩ | ⟨kvs, k, b, e, _, _, _⟩
  · obtain ⟨_, _, vs, _, dd⟩ := dk_rd I.hok e
    exact dd.typeIs
  · obtain ⟨_, _, xs, _, dd⟩ := dt_rd I.hok e
    exact dd.typeIs
/-- d[y] -/
def tDGet (td ty : TE) : TE := fun σ H Q => td σ H fun x H1 => ty σ H1 fun y H2 => ∃ a v, x = .ref a ∧ DGet H2 a y (some v) ∧ Q v H2
def tDNotIn (ty td : TE) : TE := fun σ H Q => ty σ H fun y H1 => td σ H1 fun x H2 => ∃ a o, x = .ref a ∧ DGet H2 a y o ∧ Q (.bl (!o.isSome)) H2
/-- d[y] = v -/
def sDPut (td ty tv : TE) : TS := fun D σ H => tv σ H fun v H1 => td σ H1 fun x H2 => ty σ H2 fun y H3 => ∃ a H4, x = .ref a ∧ DPut H3 a y v H4 ∧ D.nx σ H4
/-- d[y] op= v -/
def sDAug (td ty tv : TE) (rd : V → V → Hp → VK → Prop) : TS := fun D σ H => td σ H fun x H1 => ty σ H1 fun y H2 => ∃ a v, x = .ref a ∧ DGet H2 a y (some v) ∧
  tv σ H2 fun y2 H3 => rd v y2 H3 fun z H4 => ∃ H5, DPut H4 a y z H5 ∧ D.nx σ H5
section
variable {X : Cx} {o i e value : Expr} {pos pos' tpos : Pos} {td ty tv : TE}
theorem pe_dget (hu : X.A.units + 1 < cLine) (ho : PE X o td) (hi : PE X i ty) (hs : NoSl i) : PE X (.Subscript o i pos) (tDGet td ty) := by
  intro pins s σ H Q I h
  refine subD_of PySem.F.slot_dict_getitem.lookup hs (thn (ho pins s σ H _ I h) fun u s1 ⟨x, H1, I1, rx, q1⟩ => thn (hi pins s1 σ H1 _ I1 q1) fun iv s2 ⟨y, H2, I2, ry, a, v, ex, g, q2⟩ => ?_)
  subst ex
  obtain rfl : u = Value.ref a := rx
  exact ⟨dict_typeIs I2 g, d_getItem hu I2 g ry fun w' s3 I3 rw' => ⟨v, H2, I3, rw', q2⟩⟩
theorem pc_dnotin (hu : X.A.units + 1 < cLine) (hi : PE X i ty) (ho : PE X o td) : PC X .NotIn i o (tDNotIn ty td) := by
  intro pins s σ H Q I h
  refine thn (hi pins s σ H _ I h) fun iv s1 ⟨y, H1, I1, ry, q1⟩ => thn (ho pins s1 σ H1 _ I1 q1) fun u s2 ⟨x, H2, I2, rx, a, ov, ex, g, q2⟩ => ?_
  subst ex
  obtain rfl : u = Value.ref a := rx
  exact d_notIn hu I2 g ry fun s3 I3 => ⟨.bl (!ov.isSome), H2, I3, rfl, q2⟩
theorem ps_dput (hu : X.A.units + 1 < cLine) (ho : PE X o td) (hi : PE X i ty) (hv : PE X value tv) (hs : swapsWith value (some (.Subscript o i pos')) pos.line X.env = pure false) :
    PS X (.Assign [.Subscript o i pos'] value pos) (sDPut td ty tv) := by
  intro pins s σ H D I h
  refine wpAny_Assign_Subscript (thn (hv pins s σ H _ I h) fun r s1 ⟨v, H1, I1, rv, q1⟩ => thn (ho pins s1 σ H1 _ I1 q1) fun u s2 ⟨x, H2, I2, rx, q2⟩ => thn (hi pins s2 σ H2 _ I2 q2) fun iv s3 ⟨y, H3, I3, ry, a, H4, ex, g, q3⟩ => ?_) hs
  subst ex
  obtain rfl : u = Value.ref a := rx
  exact d_setItem hu I3 g ry rv fun s4 I4 => ⟨σ, H4, I4, q3⟩
theorem ps_daug {op : Operator} {rd : V → V → Hp → VK → Prop} (hu : X.A.units + 1 < cLine) (ho : PE X o td) (hi : PE X i ty) (hv : PE X value tv) (hop : InOp X op rd)
    (ha : ∀ ov iv new, augStore i ov iv new = (do holding [new, ov, iv] (setItem ov iv new); release [new, ov, iv] []; pure .next)) : PS X (.AugAssign (.Subscript o i tpos) op value pos) (sDAug td ty tv rd) := by
  intro pins s σ H D I h
  refine wpAny_AugAssign_SubscriptAny (thn (ho pins s σ H _ I h) fun u s1 ⟨x, H1, I1, rx, q1⟩ => thn (hi pins s1 σ H1 _ I1 q1) fun iv s2 ⟨y, H2, I2, ry, a, v, ex, g, q2⟩ => ?_) ha
  subst ex
  obtain rfl : u = Value.ref a := rx
  refine d_getItem hu I2 g ry fun w' s3 I3 rw' => thn (hv pins s3 σ H2 _ I3 q2) fun w2 s4 ⟨y2, H3, I4, ry2, q3⟩ => thn (hop pins s4 σ H3 v y2 w' w2 _ I4 rw' ry2 q3) fun w3 s5 ⟨z, H4, I5, rz, H5, g5, q4⟩ => ?_
  exact d_setItem hu I5 g5 ry rz fun s6 I6 => ⟨σ, H5, I6, q4⟩
end


/-! ### displays -/
theorem dk_empty {P : Program} {w : World} {H : Hp} (h : Heap) (hb : sysModules < h.objs.size) : ObjOk P w H (h.push { cls := .type "dict", data := .dict #[] }) h.objs.size (.dK []) :=
  ⟨Nat.zero_le _, beq_eq_false_iff_ne.mpr (Ne.symm (Nat.ne_of_lt hb)), [], .nil, Heap.DictOf.new h⟩
/-- {}, to be a dict of the kind that is wanted -/
def tDNewK : TE := fun _ H Q => ∀ p, H p = none → Q (.ref p) (upd H p (.dK []))
section
variable {X : Cx} {pos : Pos}
theorem pe_dnewK : PE X (.Dict [] [] pos) tDNewK := fun pins s σ H Q I h =>
  wpAny_Dict_empty ⟨.ref s.heap.objs.size, _, I.laid (a := s.heap.objs.size) (o := .dK []) (t' := s.toks) (fun _ _ q => Heap.get?_push_of_some _ q) (Nat.le_refl _) (dk_empty s.heap I.big), rfl, h _ (I.hok.fresh (Nat.le_refl _))⟩
end

/-- the pairs of a display, from the left -/
def tPairs : List (TE × TE) → St → Hp → (List (V × V) → Hp → Prop) → Prop
  | [], _, H, Q => Q [] H
  | (tk, tv) :: r, σ, H, Q => tk σ H fun x H1 => tv σ H1 fun y H2 => tPairs r σ H2 fun ps H3 => Q ((x, y) :: ps) H3
abbrev VV : List (V × V) → List (Value × Value) → Prop := Paired fun p q => RelV p.1 q.1 ∧ RelV p.2 q.2
def PPs (X : Cx) (pos : Pos) (keys : List (Option Expr)) (values : List Expr) (trs : List (TE × TE)) : Prop :=
  ∀ (pins : List (Addr × Obj)) (s : Shared) (σ : St) (H : Hp) (Q : List (V × V) → Hp → Prop), Inv X pins σ H s → tPairs trs σ H Q →
    wpAny (model X.prog X.w) X.A (evalPairs (pairTrees keys values X.env pos)) (fun vs s' => ∃ ps H', Inv X pins σ H' s' ∧ VV ps vs ∧ Q ps H') X.xe s
theorem pps_nil {X : Cx} {pos : Pos} : PPs X pos [] [] [] := fun pins s σ H Q I h => pairTrees_nil_walk ⟨[], H, I, .nil, h⟩
theorem pps_cons {X : Cx} {pos : Pos} {k v : Expr} {ks : List (Option Expr)} {vs : List Expr} {tk tv : TE} {trs : List (TE × TE)} (hk : PE X k tk) (hv : PE X v tv) (hr : PPs X pos ks vs trs) :
    PPs X pos (some k :: ks) (v :: vs) ((tk, tv) :: trs) := fun pins s σ H Q I h =>
  pairTrees_cons_walk (thn (hk pins s σ H _ I h) fun u s1 ⟨x, H1, I1, rx, q1⟩ => thn (hv pins s1 σ H1 _ I1 q1) fun w2 s2 ⟨y, H2, I2, ry, q2⟩ =>
    thn (hr pins s2 σ H2 _ I2 q2) fun ws s3 ⟨ps, H3, I3, rel, q3⟩ => ⟨(x, y) :: ps, H3, I3, .cons ⟨rx, ry⟩ rel, q3⟩)

def mergeK (kvs more : List (Key × V)) : List (Key × V) := more.foldl (fun acc kv => putK acc kv.1 kv.2) kvs
theorem KV.merge : ∀ {more : List (Key × V)} {rs : List (Key × Value)} {kvs : List (Key × V)} {vs : List (Key × Value)}, KV more rs → KV kvs vs → KV (mergeK kvs more) (merged vs rs) := by
  intro more rs kvs vs r
  unfold KV at r
  induction r generalizing kvs vs with
  | nil => intro q; exact q
  | @cons p q ps qs h t ih =>
    intro r0
    have e : KV (putK kvs p.1 p.2) (stored vs q.1 q.2) := by
      have := r0.put p.1 h.2
      rw [← h.1]; exact this
    exact ih e
theorem length_mergeK : ∀ (more kvs : List (Key × V)), (mergeK kvs more).length ≤ kvs.length + more.length
  | [], kvs => by show kvs.length ≤ kvs.length + 0; omega
  | p :: r, kvs => by
    have h1 := length_mergeK r (putK kvs p.1 p.2)
    have h2 := length_putK kvs p.1 p.2
    show (mergeK (putK kvs p.1 p.2) r).length ≤ _
    rw [List.length_cons]; omega
theorem carries_of {P : Program} {w : World} : ∀ {kvs : List (Key × V)} {ws : List (Value × Value)}, VV (kvs.map fun kv => (kV kv.1, kv.2)) ws → ∃ rs, Carries (mixKind P w) ws rs ∧ KV kvs rs
  | [], _, r => by rw [List.map_nil] at r; cases r; exact ⟨[], True.intro, .nil⟩
  | p :: kvs, _, r => by
    rw [List.map_cons] at r
    cases r with
    | @cons a b as bs h t =>
      obtain ⟨rs, c, q⟩ := carries_of (P := P) (w := w) t
      obtain ⟨b1, b2⟩ := b
      exact ⟨(p.1, b2) :: rs, ⟨kV_is h.1, rfl, c⟩, .cons ⟨rfl, h.2⟩ q⟩
/-- {k: v, ..} with keys ints and texts; the new dict stands empty while the pairs are made -/
def tDisp (trs : List (TE × TE)) : TE := fun σ H Q => ∀ p, H p = none → tPairs trs σ (upd H p (.dK [])) fun ps H2 => H2 p = some (.dK []) ∧ ∃ kvs : List (Key × V), ps = kvs.map (fun kv => (kV kv.1, kv.2)) ∧ kvs.length ≤ 15 ∧ Q (.ref p) (upd H2 p (.dK (mergeK [] kvs)))
theorem pe_disp {X : Cx} {pos : Pos} {keys : List (Option Expr)} {values : List Expr} {trs : List (TE × TE)} (h : PPs X pos keys values trs) (hall : keys.all (·.isSome) = true) (hl : keys.length = values.length) (h0 : keys ≠ [])
    (h15 : keys.length ≤ 15) : PE X (.Dict keys values pos) (tDisp trs) := by
  intro pins s σ H Q I q
  have hn := I.hok.fresh (Nat.le_refl s.heap.objs.size)
  have I1 := I.laid (a := s.heap.objs.size) (o := .dK []) (h' := s.heap.push { cls := .type "dict", data := .dict #[] }) (t' := s.toks) (fun _ _ q => Heap.get?_push_of_some _ q) (Nat.le_refl _) (dk_empty s.heap I.big)
  refine wpAny_Dict_walk (knd := mixKind X.prog X.w) hall hl h0 h15 (thn (h pins _ σ _ _ I1 (q _ hn)) fun ws s2 ⟨ps, H2, I2, rel, e, kvs, ep, lk, q2⟩ => ?_)
  subst ep
  obtain ⟨rs, c, rk⟩ := carries_of (P := X.prog) (w := X.w) rel
  obtain ⟨z, hd, vs0, r0, dd⟩ := dk_of I2.hok e
  cases r0
  refine ⟨rs, c, dd, fun h' dd' hs => ⟨.ref s.heap.objs.size, _, ?_, rfl, q2⟩⟩
  have hz : (mergeK [] kvs).length ≤ sizeLine := by
    have h1 := length_mergeK kvs []
    rw [List.length_nil] at h1
    rw [sizeLine_eq]; omega
  have he : ∃ q, h'.get? s.heap.objs.size = some q := let ⟨q, _, _, hq, _⟩ := dd'; ⟨q, hq⟩
  exact d_write I2 (by rw [e]; exact True.intro) hs he (dk_new hz hd (rk.merge .nil) dd')


/-! ### methods -/
structure M2 (X : Cx) (o : Expr) (m : Str) (apos : Pos) (e f : Expr) (cpos : Pos) : Prop where
  base : attributeBase o m X.env (eval o X.env) = eval o X.env
  few : ((backTo cpos (starEach [e, f] X.env)).all (fun x => !x.1) && (backToKw cpos (keywordEach [] X.env)).all (fun x => x.1.isSome)
    && decide (([e, f] : List Expr).length + ([] : List Keyword).length + (if ([] : List Keyword).isEmpty then 0 else 1) < 30)) = true
  line : (apos.endLine == cpos.line) = true
  trees : backTo cpos (starEach [e, f] X.env) = [(false, eval e X.env), (false, eval f X.env)]

/-- a is a dict, whatever its keys -/
def IsD (H : Hp) (a : Addr) : Prop := (∃ kvs, Rd H a (.dK kvs)) ∨ ∃ kvs, Rd H a (.dT kvs)
theorem isD_at {X : Cx} {pins : List (Addr × Obj)} {σ : St} {H : Hp} {s : Shared} {a : Addr} (I : Inv X pins σ H s) (d : IsD H a) :
    s.TypeIs (.ref a) "dict" ∧ (∀ b, Value.ref a = .ref b → ∃ ob, s.heap.get? b = some ob ∧ ob.dict = none) ∧ (a == sysModules) = false := by
  rcases d with ⟨kvs, e⟩ | ⟨kvs, e⟩
  · obtain ⟨_, hd, vs, _, dd⟩ := dk_rd I.hok e
    refine ⟨dd.typeIs, fun b q => ?_, hd⟩
    cases q
    obtain ⟨ob, _, _, h1, h2, _⟩ := dd
    exact ⟨ob, h1, h2.2.1⟩
  · obtain ⟨_, hd, xs, _, dd⟩ := dt_rd I.hok e
    refine ⟨dd.typeIs, fun b q => ?_, hd⟩
    cases q
    obtain ⟨ob, _, _, h1, h2, _⟩ := dd
    exact ⟨ob, h1, h2.2.1⟩

section
variable {X : Cx} {pins : List (Addr × Obj)} {σ : St} {H : Hp} {s : Shared} {a : Addr} {y d : V} {u r : Value} {o : Option V} {A : Around} {E : Value → Shared → Prop}
/-- d.get(y, x) -/
theorem d_get2 {Q : Value → Shared → Prop} (hu : A.units + 1 < cLine) (I : Inv X pins σ H s) (g : DGet H a y o) (ry : RelV y u) (rd : RelV d r) (h : ∀ w' s', Inv X pins σ H s' → RelV (o.getD d) w' → Q w' s') :
    wpAny (model X.prog X.w) A (call (.builtin "dict.get") [.ref a, u, r]) Q E s := by
  rcases g with ⟨kvs, k, e, ey, l⟩ | ⟨kvs, k, b, e, ey, eb, l⟩
  · subst ey
    obtain ⟨z, hd, vs, rel, dd⟩ := dk_rd I.hok e
    refine call_meetsIn PySem.F.slot_dict_get dd.typeIs PySem.F.entry_dict_get (PySem.F.args_dict_get_3 _ _ _) (meets_dict_get_default (mixKind X.prog X.w) a (kV_is ry) hd r) ⟨_, dd.mapOf, h _ _ (I.tok _) ?_⟩
    rw [l]
    exact (rel.val k).getD rd
  · subst ey
    cases (show u = Value.ref b from ry)
    obtain ⟨z, hd, xs, rel, dd⟩ := dt_rd I.hok e
    refine call_meetsIn PySem.F.slot_dict_get dd.typeIs PySem.F.entry_dict_get (PySem.F.args_dict_get_3 _ _ _) (meetsH_dict_get_default (tupleKind (mixKind X.prog X.w)) a b hd r) ⟨tupleKind_room_in1 hu, k, xs, key_of I.hok eb, dd, h _ _ (I.tok _) ?_⟩
    rw [l]
    exact (rel.val k).getD rd
end

def tDGet2 (td ty tx : TE) : TE := fun σ H Q => td σ H fun x H1 => ∃ a, x = .ref a ∧ IsD H1 a ∧ ty σ H1 fun y H2 => tx σ H2 fun z H3 => ∃ o, DGet H3 a y o ∧ Q (o.getD z) H3
section
variable {X : Cx} {o e f : Expr} {apos cpos : Pos} {td ty tx : TE}
theorem pe_dget2 (hu : X.A.units + 1 < cLine) (ho : PE X o td) (he : PE X e ty) (hf : PE X f tx) (m : M2 X o "get" apos e f cpos) : PE X (.Call (.Attribute o "get" apos) [e, f] [] cpos) (tDGet2 td ty tx) := by
  intro pins s σ H Q I h
  refine wpAny_Call_method m.base m.few m.line PySem.F.plainAttrs_dict PySem.F.slot_dict_get PySem.F.type_dict_get (thn (ho pins s σ H _ I h) fun u s1 ⟨x, H1, I1, rx, a, ex, d, q1⟩ => ?_)
  subst ex
  obtain rfl : u = Value.ref a := rx
  obtain ⟨t1, t2, _⟩ := isD_at I1 d
  refine ⟨t1, t2, ?_⟩
  rw [m.trees]
  refine Calls.callWith_builtin rfl (Calls.evalArgs_plain (Calls.spliced_cons (thn (he pins s1 σ H1 _ I1 q1) fun iv s2 ⟨y, H2, I2, ry, q2⟩ =>
    Calls.spliced_cons (thn (hf pins s2 σ H2 _ I2 q2) fun fv s3 ⟨z, H3, I3, rz, ov, g, q3⟩ => Calls.spliced_nil ?_))))
  exact d_get2 hu I3 g ry rz fun w' s4 I4 rw' => ⟨_, H3, I4, rw', q3⟩
end

/-! ### dict(d): a copy -/
section
variable {X : Cx} {pins : List (Addr × Obj)} {σ : St} {H : Hp} {s : Shared} {a : Addr} {kvs : List (Key × V)} {A : Around} {E : Value → Shared → Prop}
end


section
variable {X : Cx} {pins : List (Addr × Obj)} {σ : St} {H : Hp} {s : Shared} {a : Addr} {y : V} {u : Value} {A : Around} {E : Value → Shared → Prop}
end
end L2

namespace L2
open PySem PySem.Spec PyProof.Rows

theorem list_keys_none : typeLookup (.type "list") "keys" = pure none := am_miss_of_fast (by first | decide +kernel | rfl)
theorem ud_entry : entryFor table "dict.update.loop" = some Builtin.«dict.update.loop» := entryFor_of_tree (by kernel_rfl)
theorem ud_plain : plainId "dict.update.loop" = true := by decide +kernel

section
variable {prog : Program} {w : World} {A : Around} {E : Value → Shared → Prop}
/-- a list has no attribute 'keys': an AttributeError is made, and forgotten -/
theorem miss_list {s : Shared} {a : Addr} {o : Obj} {xs : Array Value} {k : Nat} {Q : Option Value → Shared → Prop} (hx : s.heap.get? a = some o) (hc : o.cls = .type "list") (hdat : o.data = .seq xs k) (hd : o.dict = none) (hA : A.handled = none)
    (h : ∀ h' tk, (∀ b ob, s.heap.get? b = some ob → h'.get? b = some ob) → Q none { s with heap := h', toks := tk }) : wpAny (model prog w) A (getAttr? (.ref a) "keys") Q E s := by
  obtain ⟨c, dct, dat, sl⟩ := o
  simp only at hc hdat hd
  subst hc hdat hd
  obtain ⟨hp, g, d, tk, os⟩ := s
  have hT : ∀ tk', (⟨hp, g, d, tk', os⟩ : Shared).TypeIs (.ref a) "list" := fun _ => ⟨_, hx, rfl⟩
  have hmiss := list_keys_none
  have hname : (["__module__", "__name__", "__qualname__", "__doc__", "__annotations__"] : List Str).contains "keys" = false := by decide +kernel
  have hsz : ("keys" : Str).length + 100 ≤ sizeLine := by first | size_fits | decide +kernel
  have f1 := sub_AttributeError
  have f3 := PySem.F.slot_list_getattribute.lookup
  have f4 := PySem.F.slot_list_getattribute.bind (.ref a)
  have f5 := am_list_getattr_none
  unfold getAttr? getAttrBy? getAttrBy
  repeat (any_goals (first | assumption | exact hT _ | ((with_reducible show wpAny _ _ (call (Value.builtin "list.__getattribute__") _ _) _ _ _); refine call_meets PySem.F.slot_list_getattribute (hT _) am_entry_list_getattribute (PySem.F.args_list_getattribute_2 _ _) (meets_getattribute_miss_list a xs k sl "keys" _ hmiss hname hsz) ⟨hx, hA, fun h' tk' e hx' => ?_⟩) | wp_step))
  obtain ⟨t', u', he⟩ := hx'.there
  show wpAny _ _ (getattributeRaised _ _ _ _ _ _ _) _ _ _
  unfold getattributeRaised
  repeat (any_goals (first | assumption | wp_step))
  all_goals first | exact h _ _ hx'.keeps | (dsimp only; repeat (any_goals (first | assumption | exact h _ _ hx'.keeps | wp_step)))

/-- the walk over the pairs -/
theorem upd_loop {R : Result → Shared → Prop} {S I l : Addr} {items : Array Value} {res : Value} (hh : A.handled = none) (hlI : l ≠ I) (hSI : S ≠ I) (hSl : S ≠ l) :
    ∀ (rest : List (Key × Value)) (i : Nat) (acc : List (Key × Value)) (ix : Int) (t : Tok) (s : Shared), items.size = i + rest.length → acc.length + rest.length ≤ sizeLine →
      (∀ (j : Nat) (q : Key × Value), rest[j]? = some q → ∃ (b : Addr) (u : Value), items[i + j]? = some (.ref b) ∧ b ≠ S ∧ b ≠ I ∧ IsTup s.heap b #[u, q.2] ∧ keyIs q.1 u = true) →
      s.heap.IsListIter I l i → s.heap.IsList l items → s.heap.DictOf (mixKind prog w) S acc →
      (∀ h' tk, h'.DictOf (mixKind prog w) S (merged acc rest) → (∀ b o, b ≠ S → b ≠ I → s.heap.get? b = some o → h'.get? b = some o) → R (.ok (.ret res)) { s with heap := h', toks := tk }) →
      codeAny (model prog w) A (.builtin "dict.update.loop" ⟨[.ref S, .ref I, .int ix t, res], []⟩) R s
  | [], i, acc, ix, t, s, hsz, hln, ht, hit, hl, hm, hR => by
    refine codeAny_builtin ud_entry ?_
    rw [Around.under_plainId ud_plain _]
    show wpAny _ A.in1 (pyNext (.ref I) >>= _) _ _ s
    refine wpAny_bind (wpAny_pyNext_list_end (A := A.in1) hh hit hl (by first | exact Array.getElem?_eq_none (Nat.le_of_eq hsz) | (simp at hsz; simp; omega)) fun h' he => ?_)
    show wpAny _ A.in1 (Builtin.Dict.addKeywords S [] >>= _) _ _ _
    refine wpAny_bind (wpAny_pure (wpAny_pure ?_))
    exact hR h' s.toks (hm.extBut he hSI) fun b o _ hb e => he b o hb e
  | q :: rest, i, acc, ix, t, s, hsz, hln, ht, hit, hl, hm, hR => by
    obtain ⟨b, u, hb, hbS, hbI, htup, hk⟩ := ht 0 q rfl
    rw [List.length_cons] at hsz hln
    refine codeAny_builtin ud_entry ?_
    rw [Around.under_plainId ud_plain _]
    show wpAny _ A.in1 (pyNext (.ref I) >>= _) _ _ s
    refine wpAny_bind (wpAny_pyNext_list_item (x := .ref b) hit hl (by simpa using hb) fun h1 hit1 hs1 => ?_)
    have ht1 : IsTup h1 b #[u, q.2] := htup.extBut hs1.extBut hbI
    have hl1 : h1.IsList l items := hl.extBut hs1.extBut hlI
    have hm1 : h1.DictOf (mixKind prog w) S acc := hm.extBut hs1.extBut hSI
    obtain ⟨o, ho, hc, n, hd⟩ := id ht1
    show wpAny _ A.in1 (holding [Value.ref b] _ >>= _) _ _ _
    refine wpAny_bind (wpAny_holding ?_)
    refine wpAny_bind (wpAny_tryCatch ?_)
    unfold Builtin.Dict.pairItems
    refine wpAny_bind (wpAny_typeOf (T := "tuple") ⟨o, ho, hc⟩ ?_)
    rw [if_pos (by first | decide | rfl | simp)]
    refine wpAny_bind (wpAny_seqItems ho hd (wpAny_pure ?_))
    show wpAny _ A.in1 (holding [u, q.2] (dictSet S u q.2)) _ _ _
    refine wpAny_holding (wpAny_dictSet_pairs (knd := mixKind prog w) (k := q.1) hk hm1 (fun h2 hm2 hs2 => ?_) (by omega))
    refine wpAny_pure ⟨plainId_quiet ud_plain _, upd_loop (items := items) hh hlI hSI hSl rest (i + 1) (stored acc q.1 q.2) (ix + 1) 0 _ (show items.size = i + 1 + rest.length by omega) ?_ (fun j q' e => ?_) ?_ ?_ hm2 fun h' tk hd' k => ?_⟩
    · have z := stored_length_le acc q.1 q.2
      omega
    · obtain ⟨b', u', hb', hbS', hbI', htup', hk'⟩ := ht (j + 1) q' (by simpa using e)
      refine ⟨b', u', ?_, hbS', hbI', (htup'.extBut hs1.extBut hbI').extBut hs2.extBut hbS', hk'⟩
      rw [show i + 1 + j = i + (j + 1) by omega]
      exact hb'
    · exact hit1.at fun o' e => hs2.extBut I o' (Ne.symm hSI) e
    · exact hl1.extBut hs2.extBut (Ne.symm hSl)
    · exact hR h' tk hd' fun c oc h3 h4 e => k c oc h3 h4 (hs2.extBut c oc h3 (hs1.extBut c oc h4 e))

/-- dict(l) of a list of pairs -/
theorem call_dict_pairs {s : Shared} {l : Addr} {ol : Obj} {items : Array Value} {n : Nat} {prs : List (Key × Value)} {Q : Value → Shared → Prop} (hh : A.handled = none) (hl : s.heap.get? l = some ol) (hc : ol.cls = .type "list") (hd : ol.dict = none)
    (hdat : ol.data = .seq items n) (hsz : items.size = prs.length) (hln : prs.length ≤ sizeLine)
    (ht : ∀ (j : Nat) (q : Key × Value), prs[j]? = some q → ∃ (b : Addr) (u : Value), items[j]? = some (.ref b) ∧ IsTup s.heap b #[u, q.2] ∧ keyIs q.1 u = true)
    (h : ∀ h' tk, h'.DictOf (mixKind prog w) s.heap.objs.size (merged [] prs) → (∀ b o, s.heap.get? b = some o → h'.get? b = some o) → Q (.ref s.heap.objs.size) { s with heap := h', toks := tk }) :
    wpAny (model prog w) A (call (.type "dict") [.ref l]) Q E s := by
  refine callType_codes (Q₁ := fun obj s₁ => obj = .ref s.heap.objs.size ∧ s₁ = { s with heap := s.heap.push { cls := .type "dict", data := .dict #[] } }) PySem.F.kt_called_dict (PySem.F.kt_typeCall_dict_1 _) PySem.F.entry_dict_init (kt_code_dict_new _ ⟨rfl, rfl⟩) ?_
  rintro obj s₁ ⟨rfl, rfl⟩
  have hnew : (s.heap.push { cls := .type "dict", data := .dict #[] }).DictOf (mixKind prog w) s.heap.objs.size [] := Heap.DictOf.new s.heap
  have k0 : ∀ b o, s.heap.get? b = some o → (s.heap.push { cls := .type "dict", data := .dict #[] }).get? b = some o := fun b o e => Heap.get?_push_of_some _ e
  refine ⟨hnew.typeIs, PySem.F.args_dict_init_2 _ _, ?_⟩
  unfold Builtin.«dict.__init__»
  refine wpAny_bind ?_
  unfold Builtin.Dict.selfAndRest
  refine wpAny_bind (wpAny_notOrdered_dict hnew.typeIs ?_)
  show wpAny _ _ (pure (s.heap.objs.size, [Value.ref l])) _ _ _
  refine wpAny_pure ?_
  show wpAny _ _ (Builtin.Dict.updateFrom "dict.__init__" s.heap.objs.size (.ref l) [] .none) _ _ _
  unfold Builtin.Dict.updateFrom
  refine wpAny_bind (wpAny_typeOf (T := "list") ⟨ol, k0 _ _ hl, hc⟩ ?_)
  rw [if_pos (by first | decide | rfl | simp)]
  refine wpAny_bind (miss_list (k0 _ _ hl) hc hdat hd hh fun h1 tk1 hk1 => ?_)
  rw [if_pos (show (none : Option Value).isNone = true from rfl)]
  refine wpAny_bind (wpAny_rule ?_)
  have hl1 : h1.IsList l items := ⟨ol, hk1 _ _ (k0 _ _ hl), hc, n, hdat⟩
  have hS1 : s.heap.objs.size < h1.objs.size := by
    have e : (s.heap.push { cls := .type "dict", data := .dict #[] }).get? s.heap.objs.size = some { cls := .type "dict", data := .dict #[] } := Heap.get?_push_size _ rfl
    exact Heap.lt_size (hk1 _ _ e)
  refine wpAny_bind (wpAny_pyIter_list hl1 ?_)
  have k2 : ∀ b o, h1.get? b = some o → (h1.push { cls := .type "list_iterator", data := .fields #[.ref l, .int 0 0] }).get? b = some o := fun b o e => Heap.get?_push_of_some _ e
  have hlt : l < s.heap.objs.size := Heap.lt_size hl
  have key := upd_loop (prog := prog) (w := w) (A := A.in1) (R := wants (fun r s₂ => r = .none ∧ Q (.ref s.heap.objs.size) s₂) E) (S := s.heap.objs.size) (I := h1.objs.size) (l := l) (items := items) (res := Value.none) hh
    (Nat.ne_of_lt (Nat.lt_trans hlt hS1)) (Nat.ne_of_lt hS1) (Nat.ne_of_gt hlt) prs 0 [] 0 0
    { s with heap := h1.push { cls := .type "list_iterator", data := .fields #[.ref l, .int 0 0] }, toks := tk1 } (by rw [hsz, Nat.zero_add]) (by rw [List.length_nil, Nat.zero_add]; exact hln)
    (fun j q e => by
      obtain ⟨b, u, e1, e2, e3⟩ := ht j q e
      have hb : b < s.heap.objs.size := e2.lt
      exact ⟨b, u, by rw [Nat.zero_add]; exact e1, Nat.ne_of_lt hb, Nat.ne_of_lt (Nat.lt_trans hb hS1), e2.keeps fun c o z => k2 _ _ (hk1 _ _ (k0 _ _ z)), e3⟩)
    ⟨_, Heap.get?_push_size _ rfl, rfl, rfl⟩ (hl1.at fun o e => k2 _ _ e) ((hnew.at fun o e => hk1 _ _ e).at fun o e => k2 _ _ e)
    (fun h' tk hd' k => ⟨rfl, h h' tk hd' fun b o e => k b o (Nat.ne_of_lt (Heap.lt_size e)) (Nat.ne_of_lt (Nat.lt_trans (Heap.lt_size e) hS1)) (k2 _ _ (hk1 _ _ (k0 _ _ e)))⟩)
  first
    | exact wpAny_pure ⟨plainId_quiet ud_plain _, key⟩
    | exact wpAny_bind (wpAny_pure (wpAny_pure ⟨plainId_quiet ud_plain _, key⟩))
end

section
variable {X : Cx}
theorem pairs_of {pins : List (Addr × Obj)} {σ : St} {H : Hp} {s : Shared} (I : Inv X pins σ H s) : ∀ {ps : List Addr} {kvs : List (Key × V)}, Paired (fun p kv => SqT X.K H p [kV kv.1, kv.2]) ps kvs →
    ∃ prs : List (Key × Value), KV kvs prs ∧ prs.length = ps.length ∧ ∀ (j : Nat) (q : Key × Value), prs[j]? = some q → ∃ (b : Addr) (u : Value), ps[j]? = some b ∧ IsTup s.heap b #[u, q.2] ∧ keyIs q.1 u = true
  | _, _, .nil => ⟨[], .nil, rfl, fun j q e => by simp at e⟩
  | _, _, .cons (a := p) (b := kv) h t => by
    obtain ⟨prs, r, hl, hp⟩ := pairs_of I t
    obtain ⟨its, rv, ht, _⟩ := I.tuple h
    obtain ⟨u, y, ei, ru, ry⟩ := vals2 rv
    subst ei
    refine ⟨(kv.1, y) :: prs, .cons ⟨rfl, ry⟩ r, by rw [List.length_cons, List.length_cons, hl], fun j q e => ?_⟩
    cases j with
    | zero =>
      have e' : (kv.1, y) = q := Option.some.inj e
      subst e'
      exact ⟨p, u, rfl, ht, kV_is (P := X.prog) (w := X.w) ru⟩
    | succ j =>
      obtain ⟨b, u', e1, e2, e3⟩ := hp j q (by simpa using e)
      exact ⟨b, u', by simpa using e1, e2, e3⟩
theorem refs_at : ∀ {ps : List Addr} {us : List Value}, Vals (ps.map V.ref) us → us = ps.map Value.ref
  | [], us, r => by
    rw [List.map_nil] at r
    cases r
    rfl
  | p :: ps, us, r => by
    rw [List.map_cons] at r
    cases r with
    | cons h t =>
      cases h
      rw [List.map_cons, ← refs_at t]
/-- dict(xs) of a list of pairs (key, value): later pairs win, the place is the first one's -/
theorem call_dictP (hcalm : X.calm = true) : CallR X (.type "dict") (fun xs H Q => ∃ (a : Addr) (ps : List Addr) (kvs : List (Key × V)), xs = [.ref a] ∧ SqL X.K H a (ps.map V.ref) ∧ Paired (fun p kv => SqT X.K H p [kV kv.1, kv.2]) ps kvs ∧
    ∀ p, H p = none → Q (.ref p) (upd H p (.dK (mergeK [] kvs)))) := by
  intro pins s σ H xs us Q I r q
  obtain ⟨a, ps, kvs, ex, hq, hp, q⟩ := q
  subst ex
  obtain ⟨u, eu, rx⟩ := vals1 r
  subst eu
  cases rx
  obtain ⟨its, rv, pl, hz⟩ := I.list hq
  have ei := refs_at rv
  subst ei
  rw [List.length_map] at hz
  obtain ⟨prs, rel, hl, hpr⟩ := pairs_of I hp
  obtain ⟨o, n, ho, hc, hd, hdat⟩ := pl
  refine call_dict_pairs (prs := prs) (I.ok.hd hcalm) ho hc hd hdat (by simp [hl]) (by rw [hl]; exact hz) (fun j q' e => ?_) fun h' tk hd' k => ?_
  · obtain ⟨b, u, e1, e2, e3⟩ := hpr j q' e
    exact ⟨b, u, by simp [e1], e2, e3⟩
  · have hm : (s.heap.objs.size == sysModules) = false := beq_eq_false_iff_ne.mpr (Nat.ne_of_gt I.big)
    have hlen : (mergeK [] kvs).length ≤ sizeLine := by
      refine Nat.le_trans (length_mergeK kvs []) ?_
      rw [List.length_nil, Nat.zero_add, rel.length, hl]
      exact hz
    exact ⟨.ref s.heap.objs.size, upd H s.heap.objs.size (.dK (mergeK [] kvs)), I.laid (t' := tk) k (Nat.le_refl _) (show ObjOk X.prog X.w _ _ _ (.dK (mergeK [] kvs)) from ⟨hlen, hm, merged [] prs, KV.merge rel .nil, hd'⟩), rfl, q _ (I.hok.fresh (Nat.le_refl _))⟩
end
end L2

namespace L2
open PySem PySem.Spec PyProof.Rows

section
variable {X : Cx} {pins : List (Addr × Obj)} {σ : St} {H : Hp} {s : Shared} {h' : Heap}
/-! ### locking a thing while a statement runs -/
theorem Inv.lock {d : Addr} {u : HO} (I : Inv X pins σ H s) (h : H d = some u) (mu : Mut (some u)) : ∃ od, Inv X pins σ (upd H d (.frz od u)) s := by
  have x := I.hok d u h
  have ex : ∃ od, s.heap.get? d = some od := by
    cases u with
    | lst xs => obtain ⟨_, _, _, _, e⟩ := x; exact ⟨_, e⟩
    | dK kvs => obtain ⟨_, _, _, _, o, _, _, e, _⟩ := x; exact ⟨o, e⟩
    | dT kvs => obtain ⟨_, _, _, _, o, _, _, e, _⟩ := x; exact ⟨o, e⟩
    | set S n => obtain ⟨o, _, _, _, e, _⟩ := x; exact ⟨o, e⟩
    | ins C dx fs => obtain ⟨_, _, _, e, _⟩ := x; exact ⟨_, e⟩
    | ext φ => obtain ⟨_, ⟨_, e⟩, _⟩ := x; exact ⟨_, e⟩
    | _ => exact False.elim mu
  obtain ⟨od, e⟩ := ex
  have new : ObjOk X.prog X.w (upd H d (.frz od u)) s.heap d (.frz od u) := by
    refine ⟨e, x.stay (fun b v _ q => q) (fun b q => ?_) fun b xs q => ?_⟩
    · rw [upd_ne (fun z => by rw [z, h] at q; cases q; exact mu)]; exact q
    · rw [upd_ne (fun z => by rw [z, h] at q; cases q; exact mu)]; exact q
  exact ⟨od, I.write (x := d) (e := d) (t' := s.toks) (h' := s.heap) (by rw [h]; exact mu) (.inl rfl) (fun b v _ q => q) ⟨od, e⟩ new⟩
theorem Inv.nofrz {d : Addr} {u : HO} (I : Inv X pins σ H s) (h : H d = some u) (mu : Mut (some u)) : ∀ o' u', X.H_0 d ≠ some (.frz o' u') := fun o' u' e => by
  have q := I.base.frzs d o' u' e
  rw [h] at q
  cases q
  exact mu
theorem Inv.unlock {d : Addr} {od : Obj} {u : HO} (I : Inv X pins σ H s) (h : H d = some (.frz od u)) (hn : ∀ o' u', X.H_0 d ≠ some (.frz o' u')) : Inv X pins σ (upd H d u) s := by
  have neH : ∀ b o, H b = some o → (∀ o' u', o ≠ .frz o' u') → b ≠ d := fun b o e hne z => by
    rw [z, h] at e
    cases e
    exact hne _ _ rfl
  have neN : ∀ b, H b = none → b ≠ d := fun b e z => by rw [z, h] at e; cases e
  refine ⟨I.ok, I.os, I.bare, ⟨I.base.keep, I.base.slot, fun b o e n hx => ?_, I.base.there, fun b xs e => ?_, fun b o x e => ?_, fun b ps e => ?_⟩, I.loc, I.cell, ?_, fun x c e => ?_, fun p hp => ?_, fun b o e => ?_, I.len⟩
  · rw [upd_ne (neN b (I.base.free b o e n hx))]; exact I.base.free b o e n hx
  · have q := I.base.tups b xs e
    rw [upd_ne (neH b _ q (fun _ _ z => nomatch z))]; exact q
  · have q := I.base.frzs b o x e
    rw [upd_ne (fun z => by rw [z] at e; exact hn _ _ e)]; exact q
  · obtain ⟨m, q⟩ := I.base.tbls b ps e
    exact ⟨m, by rw [upd_ne (neH b _ q (fun _ _ z => nomatch z))]; exact q⟩
  · rw [upd_ne (neN _ I.free)]; exact I.free
  · rw [upd_ne (neN c (I.freeC x c e))]; exact I.freeC x c e
  · obtain ⟨e, n, r⟩ := I.pin p hp
    exact ⟨e, by rw [upd_ne (neN _ n)]; exact n, r⟩
  · by_cases hb : b = d
    · rw [hb, upd_same] at e
      cases e
      rw [hb]
      obtain ⟨_, x⟩ := I.hok d _ h
      exact x.stay (fun c v _ q => q) (fun c q => by rw [upd_ne (neH c _ q (fun _ _ z => nomatch z))]; exact q) fun c xs q => by rw [upd_ne (neH c _ q (fun _ _ z => nomatch z))]; exact q
    · rw [upd_ne hb] at e
      exact (I.hok b o e).stay (fun c v _ q => q) (fun c q => by rw [upd_ne (neH c _ q (fun _ _ z => nomatch z))]; exact q) fun c xs q => by rw [upd_ne (neH c _ q (fun _ _ z => nomatch z))]; exact q
end
/-- the statement runs while the thing at d is locked (read, not written); d and what stands there are the reading's choice -/
def tLock (t : TS) : TS := fun D σ H => ∃ d u, H d = some u ∧ Mut (some u) ∧ ∀ od, t ⟨fun σ' H' => H' d = some (.frz od u) ∧ D.nx σ' (upd H' d u), fun v H' => H' d = some (.frz od u) ∧ D.rt v (upd H' d u), fun σ' H' => H' d = some (.frz od u) ∧ D.bk σ' (upd H' d u), fun σ' H' => H' d = some (.frz od u) ∧ D.ct σ' (upd H' d u)⟩ σ (upd H d (.frz od u))
section
variable {X : Cx}
theorem ps_lock {st : Stmt} {t : TS} (h : PS X st t) : PS X st (tLock t) := by
  intro pins s σ H D I hw
  obtain ⟨d, u, hd, mu, hw⟩ := hw
  obtain ⟨od, I1⟩ := I.lock hd mu
  refine thn (h pins s σ _ _ I1 (hw od)) fun f s1 q => ?_
  cases f with
  | next => obtain ⟨σ', H', I2, e, q⟩ := q; exact ⟨σ', _, I2.unlock e (I.nofrz hd mu), q⟩
  | brk => obtain ⟨σ', H', I2, e, q⟩ := q; exact ⟨σ', _, I2.unlock e (I.nofrz hd mu), q⟩
  | cont => obtain ⟨σ', H', I2, e, q⟩ := q; exact ⟨σ', _, I2.unlock e (I.nofrz hd mu), q⟩
  | ret v => obtain ⟨x, σ', H', I2, r, e, q⟩ := q; exact ⟨x, σ', _, I2.unlock e (I.nofrz hd mu), r, q⟩
/-! ### one iterator just laid -/
theorem pi_one {tg : Expr} {pins : List (Addr × Obj)} {σ : St} {H : Hp} {s : Shared} {R : It → Hp → Prop} {J : It} {tn : Nat → Heap → Prop} {tk : Nat} (I : Inv X pins σ H s) (o : Obj)
    (T : Turn X.prog X.w X.K tg J [s.heap.objs.size] s.heap.objs.size tn) (st : tn 0 (s.heap.push o)) (q : R J H) : PIE X pins σ tg R (.ref s.heap.objs.size) { s with heap := s.heap.push o, toks := tk } := by
  refine ⟨s.heap.objs.size, [s.heap.objs.size], tn, J, H, rfl, I.kept fun b ob e => Heap.get?_push_of_some _ e, T, st, fun b hb => ?_, q⟩
  have e : b = s.heap.objs.size := by simpa using hb
  subst e
  exact I.fpOk (Nat.le_refl _) (I.hok.fresh (Nat.le_refl _))
end

/-! ### range with a step -/
section
variable {X : Cx} {tg : Expr}
end
/-! ### reversed(list) -/
section
variable {X : Cx} {tg : Expr}
end

/-! ### a str -/
/-! ### a dict's keys: any dict's entries -/
section
variable {prog : Program} {w : World} {A : Around} {E : Value → Shared → Prop} {s : Shared}
theorem iter_keys {d : Addr} {o : Obj} {es : Array DictEntry} {ep : Nat} {Q : Value → Shared → Prop} (hd : (d == sysModules) = false) (ho : s.heap.get? d = some o) (hc : o.ExactDict) (hdat : o.data = .dict es ep)
    (hQ : Q (.ref s.heap.objs.size) { s with heap := s.heap.push { cls := .type "dict_keyiterator", data := .fields #[.ref d, .int 0 0, .int es.size 0, .int ep 0] } }) :
    wpAny (model prog w) A (pyIter (.ref d)) Q E s := by
  have hT : s.TypeIs (.ref d) "dict" := ⟨o, ho, hc.1⟩
  refine wpAny_pyIter_slot hT F.slot_dict_iter (wpAny_call_entry F.slot_dict_iter hT F.entry_dict_iter ?_ (F.args_dict_iter_1 _))
  unfold Builtin.«dict.__iter__»
  refine wpAny_bind ?_
  unfold Builtin.Dict.dictSlotNone
  refine wpAny_bind (wpAny_notOrdered_dict hT ?_)
  show wpAny _ _ (pure (Value.ref d)) _ _ s
  refine wpAny_pure ?_
  show wpAny _ _ (Builtin.Dict.showsAll d >>= _) _ _ s
  unfold Builtin.Dict.showsAll
  rw [if_neg (by rw [hd]; exact Bool.false_ne_true)]
  refine wpAny_bind (wpAny_pure ?_)
  refine wpAny_bind (wpAny_dictEntries ho hdat ?_)
  refine wpAny_bind (wpAny_dictEpoch ho hdat ?_)
  refine wpAny_bind (wpAny_newObj_type (wpAny_pure ⟨_, rfl, "dict_keyiterator", _, ⟨_, Heap.get?_push_size _ rfl, rfl⟩, F.slot_dict_keyiterator_next.lookup, ?_⟩))
  simpa [rawInt] using hQ
theorem next_key_item {it d : Addr} {i n ep : Nat} {od : Obj} {es : Array DictEntry} {en : DictEntry} {Q : Option Value → Shared → Prop} (hit : s.heap.IsKeyIter it d i n ep) (hod : s.heap.get? d = some od) (hdd : od.data = .dict es ep)
    (hsz : es.size = n) (hx : es[i]? = some en) (hQ : ∀ h', h'.IsKeyIter it d (i + 1) n ep → Heap.SameBut it s.heap h' → Q (some en.key) { s with heap := h' }) : wpAny (model prog w) A (pyNext (.ref it)) Q E s := by
  obtain ⟨o, ho, hc, hd⟩ := id hit
  unfold pyNext
  refine wpAny_bind (wpAny_attempt (wpAny_callSpecial?_slot (name := Str.ofString "__next__") hit.typeIs F.slot_dict_keyiterator_next
    (wpAny_call_entry F.slot_dict_keyiterator_next hit.typeIs F.entry_dict_keyiterator_next ?_ (F.args_dict_keyiterator_next_1 _))))
  refine wpAny_bind (wpAny_pure ?_)
  refine wpAny_bind ?_
  refine wpAny_bind ?_
  first | refine wpAny_bind (wpAny_typeNameOfWhole_keyiter hit.typeIs (wpAny_pure ?_)) | refine wpAny_bind (wpAny_typeNameOf_keyiter hit.typeIs (wpAny_pure ?_))
  refine wpAny_bind (wpAny_fieldsOf ho hd ?_)
  have hown : Builtin.Dict_items.ownsTuple "dict_keyiterator" = false := by decide
  simp only [hown, Bool.false_eq_true, if_false]
  show wpAny _ _ (if (Value.ref d == Value.none) = true then _ else _) _ _ s
  rw [if_neg (show ¬ ((Value.ref d == Value.none) = true) from Bool.false_ne_true)]
  refine wpAny_bind (wpAny_pure ?_)
  refine wpAny_bind (wpAny_dictEntries hod hdd ?_)
  rw [if_neg (by rw [hsz]; simp)]
  refine wpAny_bind (wpAny_pure ?_)
  refine wpAny_bind (wpAny_dictEpoch hod hdd ?_)
  rw [if_neg (by simp)]
  refine wpAny_pure ?_
  obtain ⟨hlt', hen⟩ := Array.getElem?_eq_some_iff.mp hx
  simp only [show ¬ ((i : Int) < 0) from by omega, if_false, Int.toNat_natCast, Array.getElem?_eq_getElem hlt']
  refine wpAny_bind ?_
  first | refine wpAny_bind (wpAny_typeNameOfWhole_keyiter hit.typeIs (wpAny_pure ?_)) | refine wpAny_bind (wpAny_typeNameOf_keyiter hit.typeIs (wpAny_pure ?_))
  refine wpAny_bind (wpAny_isOneOf_keyiter hit.typeIs ?_)
  show wpAny _ _ (setField (.ref it) 1 (rawInt ((i : Int) + 1)) >>= _) _ _ s
  refine wpAny_bind (wpAny_setField ho hd (by simp) ?_)
  have hit' : (s.heap.update it (Obj.mapFields (·.setIfInBounds 1 (rawInt ((i : Int) + 1))))).IsKeyIter it d (i + 1) n ep :=
    ⟨_, Heap.get?_update_self _ ho (Obj.isFreed_of_fields (Obj.data_mapFields hd _)), (Obj.cls_mapFields ..).trans hc, by rw [Obj.data_mapFields hd]; simp [rawInt]⟩
  refine wpAny_bind (wpAny_holding ?_)
  refine wpAny_bind (wpAny_isOneOf_keyiter (s := { s with heap := s.heap.update it (Obj.mapFields (·.setIfInBounds 1 (rawInt ((i : Int) + 1)))) }) hit'.typeIs ?_)
  show wpAny _ _ (pure es[i].key) _ _ _
  rw [hen]
  exact wpAny_pure (wpAny_pure ⟨_, rfl, wpAny_pure (hQ _ hit' (Heap.SameBut.update ..))⟩)
theorem next_key_end {it d : Addr} {i n ep : Nat} {od : Obj} {es : Array DictEntry} {Q : Option Value → Shared → Prop} (hh : A.handled = none) (hit : s.heap.IsKeyIter it d i n ep) (hod : s.heap.get? d = some od) (hdd : od.data = .dict es ep)
    (hsz : es.size = n) (hge : n ≤ i) (hQ : ∀ h', Heap.ExtBut it s.heap h' → Q none { s with heap := h' }) : wpAny (model prog w) A (pyNext (.ref it)) Q E s := by
  obtain ⟨o, ho, hc, hd⟩ := id hit
  unfold pyNext
  refine wpAny_bind (wpAny_attempt (wpAny_callSpecial?_slot (name := Str.ofString "__next__") hit.typeIs F.slot_dict_keyiterator_next
    (wpAny_call_entry F.slot_dict_keyiterator_next hit.typeIs F.entry_dict_keyiterator_next ?_ (F.args_dict_keyiterator_next_1 _))))
  refine wpAny_bind (wpAny_pure ?_)
  refine wpAny_bind ?_
  refine wpAny_bind ?_
  first | refine wpAny_bind (wpAny_typeNameOfWhole_keyiter hit.typeIs (wpAny_pure ?_)) | refine wpAny_bind (wpAny_typeNameOf_keyiter hit.typeIs (wpAny_pure ?_))
  refine wpAny_bind (wpAny_fieldsOf ho hd ?_)
  have hown : Builtin.Dict_items.ownsTuple "dict_keyiterator" = false := by decide
  simp only [hown, Bool.false_eq_true, if_false]
  show wpAny _ _ (if (Value.ref d == Value.none) = true then _ else _) _ _ s
  rw [if_neg (show ¬ ((Value.ref d == Value.none) = true) from Bool.false_ne_true)]
  refine wpAny_bind (wpAny_pure ?_)
  refine wpAny_bind (wpAny_dictEntries hod hdd ?_)
  rw [if_neg (by rw [hsz]; simp)]
  refine wpAny_bind (wpAny_pure ?_)
  refine wpAny_bind (wpAny_dictEpoch hod hdd ?_)
  rw [if_neg (by simp)]
  refine wpAny_pure ?_
  have hge' : es.size ≤ i := by rw [hsz]; exact hge
  simp only [show ¬ ((i : Int) < 0) from by omega, if_false, Int.toNat_natCast, Array.getElem?_eq_none hge']
  refine wpAny_bind ?_
  first | refine wpAny_bind (wpAny_typeNameOfWhole_keyiter hit.typeIs (wpAny_pure ?_)) | refine wpAny_bind (wpAny_typeNameOf_keyiter hit.typeIs (wpAny_pure ?_))
  show wpAny _ _ (setField (.ref it) 0 .none >>= _) _ _ s
  refine wpAny_bind (wpAny_setField ho hd (by simp) ?_)
  show wpAny _ _ (newExc (.type "StopIteration") [] >>= _) _ _ _
  refine wpAny_bind ?_
  simp only [newExc, newTuple]
  refine wpAny_bind (wpAny_newObj_type ?_ (by size_fits))
  refine wpAny_bind (m := firstArgMember _ _) (wpAny_of_eq (a := Value.none) (by first | rfl | (simp only [firstArgMember]; rfl)) ?_)
  refine wpAny_newObj_type ?_ (by size_fits)
  simp only [raiseNew]
  refine wpAny_bind (wpAny_handled ?_)
  rw [show A.in1.handled = none from hh]
  refine wpAny_bind (wpAny_pure (wpAny_throw ?_))
  refine wpAny_bind (wpAny_isInstance (T := "StopIteration") (b := true) ⟨_, Heap.get?_push_size _ rfl, rfl⟩ isSubtype_stop ?_)
  exact wpAny_pure (hQ _ (((Heap.SameBut.update ..).extBut.push _).push _))
end

/-! ### a locked dict -/
theorem kv_get {κ : Type} {kvs : List (κ × V)} {vs : List (κ × Value)} (h : KV kvs vs) : ∀ {i : Nat} {k : κ} {v : V}, kvs[i]? = some (k, v) → ∃ u, vs[i]? = some (k, u) ∧ RelV v u := by
  unfold KV at h
  induction h with
  | nil => intro i k v e; simp at e
  | @cons a b l₁ l₂ r t ih =>
    intro i k v e
    cases i with
    | zero =>
      simp only [List.getElem?_cons_zero, Option.some.injEq] at e
      subst e
      refine ⟨b.2, ?_, r.2⟩
      simp only [List.getElem?_cons_zero]
      exact congrArg some (Prod.ext r.1.symm rfl)
    | succ j =>
      simp only [List.getElem?_cons_succ] at e ⊢
      exact ih e
theorem paired_get {α β : Type} {G : α → β → Prop} {l₁ : List α} {l₂ : List β} (h : Paired G l₁ l₂) : ∀ {i : Nat} {a : α}, l₁[i]? = some a → ∃ b, l₂[i]? = some b ∧ G a b := by
  induction h with
  | nil => intro i a e; simp at e
  | @cons a b l₁ l₂ r t ih =>
    intro i a' e
    cases i with
    | zero =>
      simp only [List.getElem?_cons_zero, Option.some.injEq] at e
      subst e
      exact ⟨b, rfl, r⟩
    | succ j =>
      simp only [List.getElem?_cons_succ] at e ⊢
      exact ih e
theorem relV_key {k : Key} {u : Value} (h : keyIs k u = true) : RelV (kV k) u := by
  rcases keyIs_shape h with ⟨i, t, rfl, rfl⟩ | ⟨x, t, rfl, rfl⟩
  · exact ⟨t, rfl⟩
  · exact ⟨t, rfl⟩
section
variable {X : Cx} {pins : List (Addr × Obj)} {σ : St} {H : Hp} {s : Shared} {d : Addr} {o : Obj}
theorem Inv.frzK {kvs : List (Key × V)} (I : Inv X pins σ H s) (h : H d = some (.frz o (.dK kvs))) :
    (d == sysModules) = false ∧ s.heap.get? d = some o ∧ o.ExactDict ∧ ∃ (es : Array DictEntry) (ep : Nat) (vs : List (Key × Value)), o.data = .dict es ep ∧ es.size = kvs.length ∧ KV kvs vs ∧ s.heap.DictAt (mixKind X.prog X.w) d vs ep := by
  obtain ⟨hd, z, hs, vs, kv, o', es, ep, ho, hx, hdt, r⟩ := I.hok d _ h
  rw [hd] at ho
  cases ho
  refine ⟨hs, hd, hx, es, ep, vs, hdt, ?_, kv, o, es, hd, hx, hdt, r⟩
  have l1 := r.2.1.length
  have l2 : kvs.length = vs.length := Paired.length kv
  rw [Array.length_toList] at l1
  omega
/-- the same for tuple keys -/
theorem Inv.frzT {kvs : List (List Key × V)} (I : Inv X pins σ H s) (h : H d = some (.frz o (.dT kvs))) :
    (d == sysModules) = false ∧ s.heap.get? d = some o ∧ o.ExactDict ∧ ∃ (es : Array DictEntry) (ep : Nat), o.data = .dict es ep ∧ es.size = kvs.length ∧
      ∀ (i : Nat) (k : List Key) (v : V), kvs[i]? = some (k, v) → ∃ (en : DictEntry) (q : Addr), es[i]? = some en ∧ en.key = .ref q ∧ H q = some (.tup (k.map kV)) := by
  obtain ⟨hd, z, hs, xs, pr, o', es, ep, ho, hx, hdt, he, _⟩ := I.hok d _ h
  rw [hd] at ho
  cases ho
  refine ⟨hs, hd, hx, es, ep, hdt, ?_, fun i k v e => ?_⟩
  · have l1 : es.size = xs.length := size_of_entries he
    have l2 : kvs.length = xs.length := Paired.length pr
    omega
  · obtain ⟨b, hb, e1, e2, _⟩ := paired_get pr e
    have q := entry_at he i
    rw [hb] at q
    exact ⟨_, b.2.1, q, rfl, e2⟩
end

/-- the keys of the locked dict at d, in their order -/
def Itk (d : Addr) (o : Obj) (kvs : List (Key × V)) : It :=
  ⟨fun i H => H d = some (.frz o (.dK kvs)) ∧ i < kvs.length, fun i H x H' => H' = H ∧ ∃ k v, kvs[i]? = some (k, v) ∧ x = kV k, fun i H => H d = some (.frz o (.dK kvs)) ∧ kvs.length ≤ i⟩
/-- .. of tuple keys: the key's own tuple -/
def Itkt (d : Addr) (o : Obj) (kvs : List (List Key × V)) : It :=
  ⟨fun i H => H d = some (.frz o (.dT kvs)) ∧ i < kvs.length, fun i H x H' => H' = H ∧ ∃ (k : List Key) (v : V) (q : Addr), kvs[i]? = some (k, v) ∧ x = .ref q ∧ H q = some (.tup (k.map kV)), fun i H => H d = some (.frz o (.dT kvs)) ∧ kvs.length ≤ i⟩
theorem dict_ep {o : Obj} {es es' : Array DictEntry} {ep ep' : Nat} (h : o.data = .dict es ep) (h' : o.data = .dict es' ep') : es' = es ∧ ep' = ep := by
  rw [h] at h'
  cases h'
  exact ⟨rfl, rfl⟩
section
variable {P : Program} {w : World} {K : PySem.W.Frag} {tg : Expr} {d : Addr} {o : Obj} {es : Array DictEntry} {ep : Nat}
theorem turn_keys {kvs : List (Key × V)} (it : Addr) (hod : o.data = .dict es ep) : Turn P w K tg (Itk d o kvs) [it] it (fun i h => h.IsKeyIter it d i kvs.length ep) where
  mem := by simp
  obj := fun i h st b hb => by
    have e : b = it := by simpa using hb
    subst e
    obtain ⟨oi, e, c, dd⟩ := st
    exact ⟨oi, e, fun v z => by rw [dd] at z; cases z⟩
  keep := fun i h h' st k => st.at fun oi e => k it (by simp) oi e
  item := by
    intro X hP hw hK hc i pins s σ H E I hf st hg
    subst hP hw hK
    obtain ⟨hd, hi⟩ := hg
    obtain ⟨f0, f1, f2, f3, f4, f5⟩ := hf it (by simp)
    obtain ⟨hs, hgd, hx, es', ep', vs, hdt, hsz, kv, hm⟩ := I.frzK hd
    obtain ⟨rfl, rfl⟩ := dict_ep hod hdt
    obtain ⟨⟨k, v⟩, hkv⟩ : ∃ p, kvs[i]? = some p := ⟨kvs[i], List.getElem?_eq_getElem hi⟩
    obtain ⟨u, hu, ru⟩ := kv_get kv hkv
    have hl : kvs.length = vs.length := Paired.length kv
    rw [hl] at st
    refine wpAny_pyNext_dict_item st hm hu fun key h' hkey st' sb => ?_
    have I1 : Inv X pins σ H { s with heap := h' } := I.turned (t' := s.toks) (fun b ob hb e => (sb.2 b hb).trans e) f0 f1 f3 f4 f5
    obtain ⟨oi, e, c, dd⟩ := id st'
    refine ⟨key, rfl, go_of (s := { s with heap := h' }) e c dd (by decide) ⟨kV k, H, I1, relV_key (show keyIs k key = true from hkey), ⟨rfl, k, v, hkv, rfl⟩, ?_, fun b hb => (hf b hb).1⟩⟩
    show h'.IsKeyIter it d (i + 1) kvs.length _
    rw [hl]
    exact st'
  done := by
    intro X hP hw hK hc i pins s σ H E I hf st hg
    subst hP hw hK
    obtain ⟨hd, hi⟩ := hg
    obtain ⟨f0, f1, f2, f3, f4, f5⟩ := hf it (by simp)
    obtain ⟨hs, hgd, hx, es', ep', vs, hdt, hsz, kv, hm⟩ := I.frzK hd
    obtain ⟨rfl, rfl⟩ := dict_ep hod hdt
    exact next_key_end (I.ok.hd hc) st hgd hdt hsz hi fun h' eb => ⟨rfl, I.turned (t' := s.toks) (fun b ob hb e => eb b ob hb e) f0 f1 f3 f4 f5⟩
  self := fun A i s Q E st h => wpAny_pyIter_keyiter st h
theorem turn_keysT {kvs : List (List Key × V)} (it : Addr) (hod : o.data = .dict es ep) : Turn P w K tg (Itkt d o kvs) [it] it (fun i h => h.IsKeyIter it d i kvs.length ep) where
  mem := by simp
  obj := fun i h st b hb => by
    have e : b = it := by simpa using hb
    subst e
    obtain ⟨oi, e, c, dd⟩ := st
    exact ⟨oi, e, fun v z => by rw [dd] at z; cases z⟩
  keep := fun i h h' st k => st.at fun oi e => k it (by simp) oi e
  item := by
    intro X hP hw hK hc i pins s σ H E I hf st hg
    subst hP hw hK
    obtain ⟨hd, hi⟩ := hg
    obtain ⟨f0, f1, f2, f3, f4, f5⟩ := hf it (by simp)
    obtain ⟨hs, hgd, hx, es', ep', hdt, hsz, ent⟩ := I.frzT hd
    obtain ⟨rfl, rfl⟩ := dict_ep hod hdt
    obtain ⟨⟨k, v⟩, hkv⟩ : ∃ p, kvs[i]? = some p := ⟨kvs[i], List.getElem?_eq_getElem hi⟩
    obtain ⟨en, q, hen, hkey, hq⟩ := ent i k v hkv
    refine next_key_item st hgd hdt hsz hen fun h' st' sb => ?_
    have I1 : Inv X pins σ H { s with heap := h' } := I.turned (t' := s.toks) (fun b ob hb e => (sb.2 b hb).trans e) f0 f1 f3 f4 f5
    obtain ⟨oi, e, c, dd⟩ := id st'
    exact ⟨en.key, rfl, go_of (s := { s with heap := h' }) e c dd (by decide) ⟨.ref q, H, I1, hkey, ⟨rfl, k, v, q, hkv, rfl, hq⟩, st', fun b hb => (hf b hb).1⟩⟩
  done := by
    intro X hP hw hK hc i pins s σ H E I hf st hg
    subst hP hw hK
    obtain ⟨hd, hi⟩ := hg
    obtain ⟨f0, f1, f2, f3, f4, f5⟩ := hf it (by simp)
    obtain ⟨hs, hgd, hx, es', ep', hdt, hsz, ent⟩ := I.frzT hd
    obtain ⟨rfl, rfl⟩ := dict_ep hod hdt
    exact next_key_end (I.ok.hd hc) st hgd hdt hsz hi fun h' eb => ⟨rfl, I.turned (t' := s.toks) (fun b ob hb e => eb b ob hb e) f0 f1 f3 f4 f5⟩
  self := fun A i s Q E st h => by
    refine wpAny_pyIter_slot st.typeIs F.slot_dict_keyiterator_iter (wpAny_call_entry F.slot_dict_keyiterator_iter st.typeIs F.entry_dict_keyiterator_iter ?_ (F.args_dict_keyiterator_iter_1 _))
    show wpAny _ _ (ret (.ref it)) _ _ s
    exact wpAny_pure ⟨_, rfl, "dict_keyiterator", _, st.typeIs, F.slot_dict_keyiterator_next.lookup, h⟩
end

/-! ### for k in d, d.keys(), d.values(), d.items() -/
/-- the dict is locked (tLock, or by the caller) -/
def iKeys (td : TE) : TI := fun σ H R => td σ H fun x H1 => ∃ d o, x = .ref d ∧ ((∃ kvs, H1 d = some (.frz o (.dK kvs)) ∧ R (Itk d o kvs) H1) ∨ ∃ kvs, H1 d = some (.frz o (.dT kvs)) ∧ R (Itkt d o kvs) H1)
section
variable {X : Cx} {tg e : Expr} {td : TE} {apos cpos : Pos}
theorem pi_keys (he : PE X e td) : PI X tg e (iKeys td) := by
  intro pins s σ H R I h
  refine thn (he pins s σ H _ I h) fun u s1 ⟨x, H1, I1, rx, d, o, ex, q⟩ => ?_
  subst ex
  obtain rfl : u = Value.ref d := rx
  rcases q with ⟨kvs, hd, q⟩ | ⟨kvs, hd, q⟩
  · obtain ⟨hs, hgd, hx, es, ep, vs, hdt, hsz, kv, hm⟩ := I1.frzK hd
    refine iter_keys hs hgd hx hdt (pi_one (tk := s1.toks) I1 _ (turn_keys _ hdt) ⟨_, Heap.get?_push_size _ rfl, rfl, ?_⟩ q)
    rw [hsz] <;> rfl
  · obtain ⟨hs, hgd, hx, es, ep, hdt, hsz, ent⟩ := I1.frzT hd
    refine iter_keys hs hgd hx hdt (pi_one (tk := s1.toks) I1 _ (turn_keysT _ hdt) ⟨_, Heap.get?_push_size _ rfl, rfl, ?_⟩ q)
    rw [hsz] <;> rfl
end

/-! ### enumerate(list) -/
/-! ### zip(list, list) -/
end L2

section 
namespace Bits
open PySem PyProof.Rows

end Bits
end 

section 
namespace TL
open PySem PySem.Builtin PySem.Builtin.Str PySem.StrLaws

/-! ### the list functions -/
/-! ### the model's split and partition are these -/
/-! ### computing spl and par -/
/-! ### digits -/
/-! ### words: x.split() -/
end TL
end 

namespace L2
open PySem PySem.Spec PyProof.Rows

section
variable {X : Cx} {pins : List (Addr × Obj)} {σ : St} {H : Hp} {s : Shared} {Q : VK}
end

section
variable {X : Cx}

/-! ### of a text alone -/
/-! ### of a text and a text -/
end

section
variable {X : Cx} {o e : Expr} {to te : TE}
end
end L2

namespace L2
open PySem PySem.Spec PyProof.Rows

section
variable {X : Cx}
end

/-! ### slices of a text -/
end L2

namespace Att
open PySem PySem.W PySem.Calls PyProof.Rows

/-! ### the script -/
theorem ints_of_wellAll {P : Params} {h : Heap} : ∀ (ns : List Int) (vs : List Value), WellAll P h vs (ns.map WData.int) → IntsAre vs ns := by
  intro ns
  induction ns with
  | nil =>
    intro vs w
    rw [List.map_nil] at w
    cases w
    exact .nil
  | cons n ns ih =>
    intro vs w
    rw [List.map_cons] at w
    cases w with
    | cons a b =>
      cases a
      exact .cons _ _ (ih _ b)

theorem script_of {l : OpenLaw} {n : Nat} (hn : l.most = some n) {P : Params} {h : Heap} {args : List WData} {vals : List Value}
    (hpre : l.row.toRowW.claim.pre args = true) (hwl : WellAll P h vals args) :
    ∃ a vs ns, vals = [Value.ref a] ∧ args = [WData.list (ns.map WData.int)] ∧ h.get? a = some { cls := .type "list", data := .seq vs.toArray } ∧ IntsAre vs ns ∧ ns.length ≤ n := by
  have hsh : WShape.hasAll [] args [.list .int] = true := (pre_splitW hpre).1
  have hc : l.pre.holds [] { args := args } = true := (pre_splitW hpre).2
  obtain ⟨d, r, rfl, h1, h2⟩ := hasAllW_cons hsh
  obtain rfl := hasAllW_nil h2
  obtain ⟨xs, rfl, h3⟩ := hasW_list h1
  obtain ⟨ns, rfl⟩ := items_int h3
  have hlen : ns.length ≤ n := by
    unfold OpenLaw.pre at hc
    have h4 : (WTm.not (.lt (.lit (.int (n : Int))) (.len (.arg 0)))).holds [] { args := [.list (ns.map .int)] } = true := by
      have h4 := (holds_andW hc).1
      rw [hn] at h4
      exact h4
    have h5 := condW_of h4 (w_not (w_lt w_lit (w_len_list (w_arg rfl))))
    rw [List.length_map] at h5
    refine Nat.le_of_not_lt fun q => ?_
    have q' : (n : Int) < ((ns.length : Nat) : Int) := by omega
    first
      | (rw [decide_eq_true q'] at h5; exact absurd h5 (by decide))
      | (simp at h5; omega)
  cases hwl with
  | cons w1 w2 =>
    cases w2
    cases w1 with
    | list ho hall => exact ⟨_, _, ns, rfl, rfl, ho, ints_of_wellAll ns _ hall, hlen⟩

theorem post_true (l : OpenLaw) (args : List WData) : l.row.toRowW.claim.post args (.bool true) args = true :=
  postW_of (r := l.row.toRowW) (X := (true == true))
    (show WShape.has [] (.bool true) .bool = true by first | rfl | decide | simp [WShape.has, WShape.arms, WShape.armsAll])
    (show (WTm.eq .res (.lit (.bool true))).value [] { args := args, res := some (.bool true), after := args } = some (.bool (true == true)) from w_eq_bool (w_res rfl) w_lit) rfl

/-! ### the attachment: holds_open's last premise (the goal 'hc' behind k_head) from a wpAny of the law's body -/
/-- the same from a codeAny of the CALL (for a layer whose function contracts speak of calls) -/
theorem attach_call {l : OpenLaw} {n : Nat} {q : Program} {loose : List Str} {XP : (Str → Option Value) → Heap → Prop} {YP : World → Heap → Prop} {d : DefRec}
    (hn : l.most = some n) (hdf : d.params.defaults = [])
    (call : ∀ (w : World) (s₀ s₁ : Shared) (mg mb : Str → Option Value) (fa : Addr) (o : Obj) (pm cd doc : Value) (a : Addr) (vs : List Value) (ns : List Int),
      Ground q loose [] XP w s₀ mg mb s₁.heap → YP w s₁.heap →
      s₁.heap.get? fa = some o → o.data = .func (docDef d.name d.params d.body d.scope pm cd doc) → s₁.heap.CodeRec cd d.name → mg d.name = some (.ref fa) →
      s₁.heap.get? a = some { cls := .type "list", data := .seq vs.toArray } → IntsAre vs ns → ns.length ≤ n → s₁.gens = #[] →
      codeAny (model l.prog w) callerA (.call (.ref fa) ⟨[.ref a], []⟩) (fun r s' => r = .ok (.ret (.bool true)) ∧ OldK s₁.heap s'.heap ∧ s'.os = s₁.os ∧ AllBare s'.gens) s₁) :
    WalkO q loose XP YP l.row.toRowW d [] (fun f vs => PySem.call f vs) := by
  intro w s₀ s₁ mg mb G Y fa o pm cd doc dV kV ho hd hcd hD hmg hg args vals as hpre hlay hrd hwl hlo
  obtain rfl : dV = .none := Dflts.none hD hdf
  obtain rfl : kV = .none := Dflts.noKw hD
  obtain ⟨a, vs, ns, rfl, rfl, hobj, hints, hlen⟩ := script_of hn hpre hwl
  refine enter_call (codeAny_mono (call w s₀ s₁ mg mb fa o pm cd doc a vs ns G Y ho (fd_plain hd) hcd hmg hobj hints hlen hg) fun r s' hq => ?_)
  obtain ⟨rfl, h2, h3, h4⟩ := hq
  exact ⟨.inl ⟨.bool true, .bool true, [], rfl, fun _ => rfl, .bool true, post_true l _, fun _ => ⟨List.Pairwise.nil, fun _ hm => (nomatch hm)⟩⟩, h2, h3, h4⟩

/-! ### rules over ANY heap (no ledger) from facts about the written part K: the library's own take a ledger (News) for what they write -/
section
variable {prog : Program} {w : World} {A : Around} {E : Value → Shared → Prop} {s : Shared} {K : Frag}

/-! the whole heap as the ledger: makes every rule that writes through a ledger a rule over any heap -/
end
end Att

namespace L2
open PySem PySem.Spec PyProof.Rows

theorem vals_ints : ∀ {vs : List Value} {ns : List Int}, IntsAre vs ns → Vals (ns.map V.int) vs
  | _, _, .nil => .nil
  | _, _, .cons n t h => .cons ⟨t, rfl⟩ (vals_ints h)

end L2

namespace L2
open PySem PySem.Spec PyProof.Rows

end L2

/- THE LAST THEOREM (shape; LID, My.* are yours):
   My.Adr: a structure of the addresses that your layer names (classes, functions); My.Txt K t: a structure (Prop) of the equations over K;
   My.txt_mk : {K} {implicit addresses ..} (e1 : nsIn K mainGlobals "law" = some (some (.ref f))) (e2 : K.lookup f = some ⟨oc, od, .func (fnOf "law" "law" params body scope dV kV doc pm an cdv ct), sl⟩) (e3 : codeIn K cdv "law" = true) .. : ∃ t, My.Txt K t

set_option maxRecDepth 100000 in
set_option maxHeartbeats 0 in
theorem PySem.Challenge.cw_LID_holds : PySem.Challenge.rw_LID.Holds := by
  w_on; o_law; k_head; (case hw => w_witness2)
  k_fill
  refine L2.walk_of (l := PySem.Challenge.rw_LID) (n := 63) (k := 40) (x := "script") (CX := fun w => ..) (sp := fun _ => My.sp_law) rfl (by decide) rfl ⟨rfl, by decide, by decide⟩ (fun w h Y => PySem.W.kIn_of Y) ?F ?S ?C
  case F =>
    intro w mg fa h KX G hmg
    have T : ∃ t, My.Txt (L2.KOf KX) t := by
      dsimp only [L2.KOf]                          -- K must stand as «<heap const> w.params» for k_is
      refine' My.txt_mk ?e1 ?e2 ?e3 ..
      (case e1 => PySem.W.k_is)                    -- in the order: a name -> its address -> its object -> its parts
      (case e2 => PySem.W.k_is)
      ..
    obtain ⟨t, T⟩ := T
    have e0 := hmg.symm.trans (PySem.W.mg_of KX G T.law)
    cases e0                                       -- fa is the law's own address
    exact ⟨_, fun s u => .of_eq rfl, fun base kb nb => My.law_fn T kb nb⟩     -- if «.of_eq rfl» comes too early: refine' ⟨_, ?b, fun base kb nb => My.law_fn T kb nb⟩; exact fun s u => .of_eq rfl
  case S => exact fun w H a ns hl hO hS => ..
  case C => exact ..
(the tactic k_is has no namespace: write k_is) -/

/-! SHORT WORDS over the layer: a def of the text, its body, what a loop and a test want. -/
namespace L2
open PySem PySem.Spec PyProof.Rows

/-! ### the text by places -/
def defArgs (s : Stmt) : Arguments := match s with
  | .FunctionDef _ a _ _ _ _ _ _ _ _ => a
  | _ => { posonlyargs := [], args := [], vararg := none, kwonlyargs := [], kw_defaults := [], kwarg := none, defaults := [] }
def defBody (s : Stmt) : List Stmt := match s with
  | .FunctionDef _ _ b _ _ _ _ _ _ _ => b
  | _ => []
def defScope (s : Stmt) : Scope := match s with
  | .FunctionDef _ _ _ _ _ _ sc _ _ _ => sc
  | _ => { kind := .function, names := [], isGenerator := false, isCoroutine := false }

/-! ### no exception leaves a def -/
abbrev CX0 : CXT := fun _ _ _ _ _ _ => False
abbrev E0 : XK := fun _ _ _ => False
theorem pass0 {X : Cx} : Passes CX0 X E0 := fun _ _ _ _ _ _ _ h => h.elim

/-! ### a def (or method) of the text as it stands behind the top -/
structure Fun (K : PySem.W.Frag) (x qual : Str) (st : Stmt) (f : Addr) (fd : FuncData) : Prop where
  ex : ∃ (oc : Value) (od : Option Addr) (kV doc pm : Value) (an : Option Addr) (cdv ct : Value) (osl : Array (Option Value)),
    fd = PySem.W.fnOf x qual (defArgs st) (defBody st) (defScope st) .none kV doc pm an cdv ct ∧ K.lookup f = some ⟨oc, od, .func fd, osl⟩ ∧ PySem.W.codeIn K cdv qual = true
  kp : PySem.W.keepIn K (.ref f) = true
section
variable {P : Program} {w : World} {K : PySem.W.Frag} {mg : Str → Option Value} {base : Heap}
/-- THE RULE for a def: its body as a term of rules, and the reading of that term -/
theorem Fun.ok {x qual : Str} {st : Stmt} {f : Addr} {fd : FuncData} {N ps : List Str} {k : Nat} {sp : Sp} (F : Fun K x qual st f fd) (S : FnScope N ps (defScope st)) (len : ∀ vs H Q E, sp vs H Q E → vs.length = ps.length)
    (hbody : ∀ (cdv : Value) (A : Around) (outer : List Env) (s : Shared) (H : Hp) (vs : List V) (Q : VK) (E : XK), Room k (A.deeper (envOfC qual (defScope st) s.heap.objs.size f cdv)) → sp vs H Q E →
      ∃ t, PSs (cxOf CX0 P w K mg base N qual (defScope st) f cdv A outer s H E).nox (defBody st) t ∧ t { nx := fun _ H' => Q .non H', rt := Q } (start N vs) H) : FnOk P w K mg base CX0 (k + 1) f fd ps sp := by
  obtain ⟨oc, od, kV, doc, pm, an, cdv, ct, osl, rfl, lk, hcd⟩ := F.ex
  refine fn_of lk hcd S len fun A outer s H vs Q E hr hsp => ?_
  obtain ⟨t, h, q⟩ := hbody cdv A outer s H vs Q E hr hsp
  exact ⟨t, h.nox, q⟩
/-- how its arguments bind (no defaults): h is «fun _ _ _ _ _ _ us hl => match us, hl with | [_, _], _ => rfl», one _ a parameter -/
theorem Fun.binds {x qual : Str} {st : Stmt} {f : Addr} {fd : FuncData} {ps : List Str} (F : Fun K x qual st f fd)
    (h : ∀ (kV doc pm : Value) (an : Option Addr) (cdv ct : Value) (us : List Value), us.length = ps.length → bindArgs (PySem.W.fnOf x qual (defArgs st) (defBody st) (defScope st) .none kV doc pm an cdv ct) ⟨us, []⟩ = pure (ps.zip us)) : Binds K fd ps [] := by
  obtain ⟨oc, od, kV, doc, pm, an, cdv, ct, osl, rfl, lk, hcd⟩ := F.ex
  exact .all (h kV doc pm an cdv ct)
theorem fun_mk {x qual : Str} {st : Stmt} {f : Addr} {oc : Value} {od an : Option Addr} {osl : Array (Option Value)} {kV doc pm cdv ct : Value} (l : K.lookup f = some ⟨oc, od, .func (PySem.W.fnOf x qual (defArgs st) (defBody st) (defScope st) .none kV doc pm an cdv ct), osl⟩)
    (c : PySem.W.codeIn K cdv qual = true) (k : PySem.W.keepIn K (.ref f) = true) : Fun K x qual st f (PySem.W.fnOf x qual (defArgs st) (defBody st) (defScope st) .none kV doc pm an cdv ct) := ⟨⟨oc, od, kV, doc, pm, an, cdv, ct, osl, rfl, l, c⟩, k⟩
end
theorem hu_of {A : Around} {k : Nat} (hr : Room k A) : A.units + 1 < cLine := Nat.lt_of_le_of_lt (Nat.add_le_add_left (by decide : 1 ≤ 64) _) hr.units
theorem small1000 {n : Nat} (h : n ≤ 1000) : n < sizeLine := Nat.lt_of_le_of_lt h (by decide)

/-! ### expressions in short: the name that stands in the i-th slot -/
section
variable {X : Cx}
theorem pv (i : Nat) {x : Str} {pos : Pos} (hN : X.N[i]? = some x := by rfl) (hv : Vis X.env.scope x := by first | exact Or.inl rfl | exact Or.inr (Or.inl rfl) | exact Or.inr (Or.inr rfl)) (hd : (x == ("__debug__" : Str)) = false := by decide)
    (hcd : (x == ("__classdict__" : Str)) = false := by decide) : PE X (.Name x pos) (tVar i) := pe_var hN hv hd hcd
end

/-! ### tests -/
theorem iteF {A B : Prop} (h : B) : if false = true then A else B := by
  rw [if_neg Bool.false_ne_true]
  exact h
theorem iteT {A B : Prop} (h : A) : if true = true then A else B := by
  rw [if_pos rfl]
  exact h
theorem ite2 {c A B : Prop} [Decidable c] (h1 : c → A) (h2 : ¬ c → B) : if c then A else B := by
  by_cases h : c
  · rw [if_pos h]
    exact h1 h
  · rw [if_neg h]
    exact h2 h
/-! ### heaps -/
/-- all that was tracked is as it was -/
def Same (H H' : Hp) : Prop := ∀ b o, H b = some o → H' b = some o
theorem Same.refl (H : Hp) : Same H H := fun _ _ h => h
theorem Same.trans {H H1 H2 : Hp} (a : Same H H1) (b : Same H1 H2) : Same H H2 := fun c o h => b c o (a c o h)
theorem Same.free {H H' : Hp} (e : Same H H') {l : Addr} (h : H' l = Option.none) : H l = Option.none := by
  cases q : H l with
  | none => rfl
  | some o =>
    rw [e l o q] at h
    cases h
theorem Same.seq {K : PySem.W.Frag} {H H' : Hp} {a : Addr} {xs : List V} (e : Same H H') (h : SqL K H a xs) : SqL K H' a xs := by
  rcases h with (h | ⟨o, h⟩) | h
  · exact .inl (.inl (e _ _ h))
  · exact .inl (.inr ⟨o, e _ _ h⟩)
  · exact .inr h

/-! ### a dict's pairs: keys that differ -/
section
variable {κ : Type} [DecidableEq κ]
end
/-! ### lists -/
theorem at_of {xs : List V} {z : Int} {j : Nat} {v : V} (e : z = (j : Int)) (h : xs[j]? = some v) : atI xs z = some v := by
  rw [e]
  exact atI_nat h
theorem nd_ix {α : Type} {l : List α} (hN : l.Nodup) {i j : Nat} {x : α} (a : l[i]? = some x) (b : l[j]? = some x) : i = j := by
  obtain ⟨h1, e1⟩ := List.getElem?_eq_some_iff.mp a
  obtain ⟨h2, e2⟩ := List.getElem?_eq_some_iff.mp b
  exact (List.getElem_inj hN).mp (e1.trans e2.symm)
end L2

namespace Hs
open PySem PySem.Spec PyProof.Rows L2
/-! ## callees by their promise -/
structure Cal (P : Program) (w : World) (K : PySem.W.Frag) (mg : Str → Option Value) (base : Heap) (k : Nat) (x : Str) (ps : List Str) (sp : Sp) : Prop where
  ex : ∃ (f : Addr) (fd : FuncData), FnOk P w K mg base CX0 k f fd ps sp ∧ mg x = some (.ref f) ∧ PySem.W.keepIn K (.ref f) = true ∧ Binds K fd ps []
structure Dfn (K : PySem.W.Frag) (mg : Str → Option Value) (x : Str) (st : Stmt) : Prop where
  ex : ∃ (f : Addr) (fd : FuncData), Fun K x x st f fd ∧ mg x = some (.ref f)
theorem Dfn.cal {P : Program} {w : World} {K : PySem.W.Frag} {mg : Str → Option Value} {base : Heap} {k : Nat} {x : Str} {st : Stmt} {ps : List Str} {sp : Sp} (D : Dfn K mg x st)
    (bnd : ∀ (kV doc pm : Value) (an : Option Addr) (cdv ct : Value) (us : List Value), us.length = ps.length → bindArgs (PySem.W.fnOf x x (defArgs st) (defBody st) (defScope st) .none kV doc pm an cdv ct) ⟨us, []⟩ = pure (ps.zip us))
    (ok : ∀ (f : Addr) (fd : FuncData), Fun K x x st f fd → FnOk P w K mg base CX0 k f fd ps sp) : Cal P w K mg base k x ps sp := by
  obtain ⟨f, fd, F, m⟩ := D.ex
  exact ⟨f, fd, ok f fd F, m, F.kp, F.binds bnd⟩
theorem Dfn.of {K : PySem.W.Frag} {h : Heap} {mg : Str → Option Value} {x : Str} {st : Stmt} {f : Addr} {oc : Value} {od an : Option Addr} {osl : Array (Option Value)} {kV doc pm cdv ct : Value} (X : K.In h) (G : h.Ns mainGlobals mg)
    (a : PySem.W.nsIn K mainGlobals x = some (some (.ref f))) (l : K.lookup f = some ⟨oc, od, .func (PySem.W.fnOf x x (defArgs st) (defBody st) (defScope st) .none kV doc pm an cdv ct), osl⟩)
    (c : PySem.W.codeIn K cdv x = true) (k : PySem.W.keepIn K (.ref f) = true) : Dfn K mg x st :=
  ⟨f, _, fun_mk l c k, PySem.W.mg_of X G a⟩
theorem pe_cal {X : Cx} {k j : Nat} {x : Str} {ps : List Str} {sp : Sp} {p pos : Pos} {e : Expr} {es : List Expr} {t : TA} (C : Cal X.prog X.w X.K X.mg X.base k x ps sp) (hr : Room j X.A) (ha : PA X (e :: es) t) (hj : k ≤ j := by decide) (hg : Gl X x := by rfl)
    (hdb : (x == ("__debug__" : Str)) = false := by decide) (he : starEach (e :: es) X.env = (false, eval e X.env) :: starEach es X.env := by rfl) (hpl : (backTo pos (starEach es X.env)).any (·.1) = false := by rfl) :
    PE X (.Call (.Name x p) (e :: es) [] pos) (tCall sp [] E0 t) := by
  obtain ⟨f, fd, G, m, kp, b⟩ := C.ex
  exact pe_call (G.mono hj) hr hg m kp b .nil pass0 ha hdb he hpl
/-- the built-ins that are not hidden by the text -/
structure Blt (mg : Str → Option Value) : Prop where
  len : mg "len" = none
  range : mg "range" = none
  min : mg "min" = none
  max : mg "max" = none
  tuple : mg "tuple" = none
  list : mg "list" = none
  sorted : mg "sorted" = none
  sum : mg "sum" = none
  any : mg "any" = none
  all : mg "all" = none
  isinstance : mg "isinstance" = none
  repr : mg "repr" = none
  int : mg "int" = none
  bool : mg "bool" = none
  dict : mg "dict" = none
  str : mg "str" = none
  reversed : mg "reversed" = none
/-! ## heaps -/
/-- all stays but what stands at t -/
def But (t : Addr) (H H' : Hp) : Prop := ∀ b o, b ≠ t → H b = some o → H' b = some o
theorem But.refl (t : Addr) (H : Hp) : But t H H := fun _ _ _ h => h
theorem But.trans {t : Addr} {H H1 H2 : Hp} (a : But t H H1) (b : But t H1 H2) : But t H H2 := fun c o n h => b c o n (a c o n h)
theorem Same.but {t : Addr} {H H1 : Hp} (a : Same H H1) : But t H H1 := fun c o _ h => a c o h
theorem But.upd (t : Addr) (H : Hp) (o : HO) : But t H (upd H t o) := fun c u n h => by rw [upd_ne n]; exact h
theorem But.new {t p : Addr} {H : Hp} {o : HO} (h : H p = none) : But t H (L2.upd H p o) := fun c u n e => by rw [upd_ne (ne_of_none e h)]; exact e
theorem Same.new {p : Addr} {H : Hp} {o : HO} (h : H p = none) : Same H (L2.upd H p o) := fun c u e => by rw [upd_ne (ne_of_none e h)]; exact e
theorem But.free {t : Addr} {H H' : Hp} (e : But t H H') {l : Addr} (n : l ≠ t) (h : H' l = none) : H l = none := by
  cases q : H l with
  | none => rfl
  | some o => rw [e l o n q] at h; cases h
/-- a tape -/
def Tape (H : Hp) (t : Addr) : Prop := ∃ n : Int, H t = some (.lst [.int n])
theorem Tape.new {t p : Addr} {H : Hp} {o : HO} (T : Tape H t) (hp : H p = none) : Tape (L2.upd H p o) t := by
  obtain ⟨n, h⟩ := T
  exact ⟨n, by rw [upd_ne (ne_of_none h hp)]; exact h⟩
theorem Tape.fresh {t p : Addr} {H : Hp} (T : Tape H t) (hp : H p = none) : t ≠ p := by
  obtain ⟨n, h⟩ := T
  exact ne_of_none h hp
/-- tuples stay -/
def Tups (H H' : Hp) : Prop := ∀ p xs, H p = some (.tup xs) → H' p = some (.tup xs)
theorem _root_.L2.Same.tups {H H' : Hp} (a : Same H H') : Tups H H' := fun p xs h => a p _ h
theorem But.tups {t : Addr} {H H' : Hp} {ys : List V} (a : But t H H') (ht : H t = some (.lst ys)) : Tups H H' := fun p xs h => a p _ (ne_of h ht (by intro z; cases z)) h
theorem _root_.L2.Same.butTo {t : Addr} {H H2 H3 : Hp} (a : Same H H2) (b : But t H2 H3) (h : H t = none) : Same H H3 := fun c o e => b c o (ne_of_none e h) (a c o e)
theorem _root_.L2.Same.own {p : Addr} {H H2 : Hp} {o : HO} (a : Same H H2) (h : H p = none) : Same H (L2.upd H2 p o) := fun c u e => by
  rw [upd_ne (ne_of_none e h)]
  exact a c u e
/-! ## the data: recipes, parts, books -/
inductive Rec where
  | leaf (n : Int)
  | op (w : Str) (ns : List Str)
  deriving DecidableEq
structure Part where
  name : Str
  how : Rec
  size : Int
  cost : Int
  deriving DecidableEq
abbrev Book := List Part
def RecAt (H : Hp) (p : Addr) : Rec → Prop
  | .leaf n => H p = some (.tup [.str "leaf", .int n])
  | .op w ns => ∃ q, H p = some (.tup [.str w, .ref q]) ∧ H q = some (.tup (ns.map V.str))
def PartAt (H : Hp) (p : Addr) (a : Part) : Prop := ∃ r, H p = some (.tup [.str a.name, .ref r, .int a.size, .int a.cost]) ∧ RecAt H r a.how
def PartsAt (H : Hp) (ps : List Addr) (bk : Book) : Prop := ps.length = bk.length ∧ ∀ (i : Nat) (p : Addr) (a : Part), ps[i]? = some p → bk[i]? = some a → PartAt H p a
def BookAt (H : Hp) (b : Addr) (bk : Book) : Prop := ∃ ps, H b = some (.tup (ps.map V.ref)) ∧ PartsAt H ps bk
theorem RecAt.tups {H H' : Hp} {p : Addr} {r : Rec} (a : Tups H H') (h : RecAt H p r) : RecAt H' p r := by
  cases r with
  | leaf n => exact a _ _ h
  | op w ns => obtain ⟨q, h1, h2⟩ := h; exact ⟨q, a _ _ h1, a _ _ h2⟩
theorem PartAt.tups {H H' : Hp} {p : Addr} {r : Part} (a : Tups H H') (h : PartAt H p r) : PartAt H' p r := by
  obtain ⟨q, h1, h2⟩ := h; exact ⟨q, a _ _ h1, h2.tups a⟩
theorem PartsAt.tups {H H' : Hp} {p : List Addr} {r : Book} (a : Tups H H') (h : PartsAt H p r) : PartsAt H' p r := ⟨h.1, fun i q x h1 h2 => (h.2 i q x h1 h2).tups a⟩
theorem BookAt.tups {H H' : Hp} {p : Addr} {r : Book} (a : Tups H H') (h : BookAt H p r) : BookAt H' p r := by
  obtain ⟨q, h1, h2⟩ := h; exact ⟨q, a _ _ h1, h2.tups a⟩
/-- a word: one to eight small letters -/
def WordOk (x : Str) : Prop := 1 ≤ x.length ∧ x.length ≤ 8 ∧ ∀ c ∈ x.cps.toList, 97 ≤ c ∧ c ≤ 122
def RecOk (ahead : List Str) : Rec → Prop
  | .leaf n => 0 ≤ n ∧ n ≤ 99
  | .op w ns => (((w = "plus" ∨ w = "times" ∨ w = "most") ∧ 1 ≤ ns.length ∧ ns.length ≤ 4) ∨ (w = "less" ∧ ns.length = 2)) ∧ ∀ x ∈ ns, x ∈ ahead
structure BookOk (bk : Book) : Prop where
  word : ∀ a ∈ bk, WordOk a.name
  nd : (bk.map (·.name)).Nodup
  how : ∀ (i : Nat) (a : Part), bk[i]? = some a → RecOk ((bk.take i).map (·.name)) a.how
  size : ∀ a ∈ bk, 1 ≤ a.size ∧ a.size ≤ 9
  cost : ∀ a ∈ bk, 1 ≤ a.cost ∧ a.cost ≤ 9
theorem small100 {n : Nat} (h : n ≤ 1000) : n ≤ sizeLine := Nat.le_of_lt (small1000 h)
theorem lit (n : Nat) (h : n ≤ 1000 := by decide) : n ≤ sizeLine := small100 h
theorem atI_of {α : Type} {xs : List α} {z : Int} (h0 : 0 ≤ z) (h1 : z < xs.length) : ∃ v, xs[z.toNat]? = some v ∧ atI xs z = some v := by
  have hj : z.toNat < xs.length := by omega
  refine ⟨xs[z.toNat], List.getElem?_eq_getElem hj, ?_⟩
  have e : ((z.toNat : Nat) : Int) = z := by omega
  have q := atI_nat (xs := xs) (j := z.toNat) (List.getElem?_eq_getElem hj)
  rw [e] at q
  exact q
end Hs

namespace Hs
open PySem PySem.Spec PyProof.Rows L2
/-! ### s * n -/
def repS (c : Nat) (n : Nat) : Str := ⟨(List.replicate n c).toArray⟩
theorem foldl_one (c : Nat) : ∀ (n : Nat) (acc : Array Nat), ((List.replicate n (#[c] : Array Nat)).foldl (· ++ ·) acc).toList = acc.toList ++ List.replicate n c
  | 0, acc => by simp
  | n + 1, acc => by
    rw [List.replicate_succ, List.foldl_cons, foldl_one c n, List.replicate_succ]
    simp
theorem mul_one (c : Nat) (n : Int) : Txt.mul ⟨#[c]⟩ n = repS c n.toNat := by
  unfold Txt.mul repS
  by_cases h : n < 1
  · rw [if_pos h]
    have e : n.toNat = 0 := by omega
    rw [e]
    rfl
  · rw [if_neg h]
    by_cases h1 : n = 1
    · subst h1
      rfl
    · have e : (n == 1 || (⟨#[c]⟩ : Str).length == 0) = false := by
        have e1 : (n == 1) = false := by simpa using h1
        rw [e1]; rfl
      rw [if_neg (by rw [e]; exact Bool.false_ne_true)]
      congr 1
      apply Array.ext'
      rw [foldl_one]
      simp
section
variable {X : Cx}
theorem op_mul_sign : OpR X (binaryOp .Mult) (fun x y H Q => ∃ (c : Nat) (n : Int), x = .str ⟨#[c]⟩ ∧ y = .int n ∧ 0 ≤ n ∧ n ≤ 1000 ∧ Q (.str (repS c n.toNat)) H) := by
  intro pins s σ H x y v u Q I rx ry h
  obtain ⟨c, n, rfl, rfl, h0, h1, q⟩ := h
  obtain ⟨t, rfl⟩ := rx
  obtain ⟨t', rfl⟩ := ry
  refine SB.mul ⟨?_, fun _ _ => ?_, fun _ _ => ?_⟩ (fun t' k => ⟨.str (repS c n.toNat), H, I.tok _, ⟨_, by rw [mul_one]⟩, q⟩)
  · have a : ¬ n < -(2 ^ 63 : Int) := by omega
    have b : ¬ n ≥ 2 ^ 63 := by omega
    rw [decide_eq_false a, decide_eq_false b]; rfl
  · have e : ((⟨#[c]⟩ : Str).length : Int) = 1 := rfl
    rw [e]
    have hn : 1 ≤ n := by omega
    have : n * 1 ≤ 2 ^ 63 - 1 := by omega
    have := (Int.le_ediv_iff_mul_le (show 0 < n by omega)).mpr (show 1 * n ≤ 2 ^ 63 - 1 by omega)
    omega
  · have e : (⟨#[c]⟩ : Str).length = 1 := rfl
    rw [e, Nat.one_mul]
    unfold Builtin.Str.tooLong
    have : n.toNat ≤ 1000 := by omega
    first
      | exact decide_eq_false (by have := small1000 this; omega)
      | (simp; have := small1000 this; omega)
/-! ### t[::k], k 1 or -1 -/
theorem adjust_neg (n : Nat) : Builtin.Slice.sliceAdjust none none (-1) (n : Int) = ((n : Int) - 1, -1) := rfl
theorem adjust_pos (n : Nat) : Builtin.Slice.sliceAdjust none none 1 (n : Int) = (0, (n : Int)) := rfl
theorem places_neg (n : Nat) : Builtin.Slice.slicePlaces ((n : Int) - 1) (-1) (-1) = n := by
  unfold Builtin.Slice.slicePlaces
  have h1 : ¬ ((-1 : Int) > 0) := by omega
  simp only [h1, if_false]
  have e : (-(-1) : Int) = 1 := rfl
  rw [e, Int.ediv_one]
  split <;> omega
theorem places_pos (n : Nat) : Builtin.Slice.slicePlaces 0 (n : Int) 1 = n := by
  have := HT.places_gen 0 n
  simpa using this
theorem pick_neg (xs : Array Value) : ((List.range xs.size).filterMap fun (m : Nat) => xs[(((xs.size : Int) - 1) + (m : Int) * (-1)).toNat]?).toArray = xs.toList.reverse.toArray := by
  have e : (List.range xs.size).filterMap (fun (m : Nat) => xs[(((xs.size : Int) - 1) + (m : Int) * (-1)).toNat]?) = ((List.range xs.size).map fun k => xs.size - 1 - k).filterMap (xs[·]?) := by
    rw [List.filterMap_map]
    have key : ∀ (l : List Nat), (∀ m ∈ l, m < xs.size) → l.filterMap (fun (m : Nat) => xs[(((xs.size : Int) - 1) + (m : Int) * (-1)).toNat]?) = l.filterMap ((fun x => xs[x]?) ∘ fun k => xs.size - 1 - k) := by
      intro l
      induction l with
      | nil => intro _; rfl
      | cons m l ih =>
        intro h
        have hm := h m List.mem_cons_self
        have e : (((xs.size : Int) - 1) + (m : Int) * (-1)).toNat = xs.size - 1 - m := by omega
        rw [List.filterMap_cons, List.filterMap_cons, ih fun k hk => h k (List.mem_cons_of_mem _ hk), e]
        rfl
    exact key _ fun m hm => List.mem_range.mp hm
  rw [e, PySem.W.krv_range, List.filterMap_reverse, PySem.W.krv_all]
theorem getItem_tuple_step {prog : Program} {w : World} {A : Around} {E : Value → Shared → Prop} {s : Shared} {t sl : Addr} {items : Array Value} {vk : Value} {k : Int} {Q : Value → Shared → Prop} (ht : IsTup s.heap t items) (hs : s.heap.IsSliceOf sl .none .none vk) (pk : IsPart vk (some k))
    (hsz : items.size ≤ sizeLine)
    (h : (k = 1 ∧ Q (.ref t) s) ∨ (k = -1 ∧ Q (.ref s.heap.objs.size) { s with heap := s.heap.push { cls := .type "tuple", data := .seq items.toList.reverse.toArray } })) :
    wpAny (model prog w) A (getItem (.ref t) (.ref sl)) Q E s := by
  have htake : sizeOk (.seq items.toList.reverse.toArray) := by
    show items.toList.reverse.toArray.size ≤ sizeLine
    rw [List.size_toArray, List.length_reverse, Array.length_toList]
    exact hsz
  obtain ⟨os, hos, hcs, hds⟩ := id hs
  have hTs : s.TypeIs (.ref sl) "slice" := ⟨os, hos, hcs⟩
  have app : ∀ {A : Around} {Q : Int × Int × Nat → Shared → Prop}, (k = 1 ∧ Q (0, 1, items.size) s) ∨ (k = -1 ∧ Q ((items.size : Int) - 1, -1, items.size) s) → wpAny (model prog w) A (Builtin.Slice.sliceApplied (.ref sl) (pure (items.size : Int))) Q E s := by
    intro A Q hh
    unfold Builtin.Slice.sliceApplied Builtin.Slice.sliceFields
    refine wpAny_bind (wpAny_bind (wpAny_field hos hds (x := .none) rfl (wpAny_bind (wpAny_field hos hds (x := .none) rfl (wpAny_bind (wpAny_field hos hds (x := vk) rfl (wpAny_pure ?_)))))))
    refine wpAny_bind (HT.slicePart_ pk ?_)
    rcases hh with ⟨e, hh⟩ | ⟨e, hh⟩ <;> subst e
    · show wpAny _ _ (if ((1 : Int) == 0) = true then _ else _) _ _ s
      rw [if_neg (by decide)]
      refine wpAny_bind (HT.slicePart_ .none (wpAny_bind (HT.slicePart_ .none (wpAny_bind (wpAny_pure ?_)))))
      show wpAny _ _ (match Builtin.Slice.sliceAdjust none none 1 (items.size : Int) with | (lo, hi) => pure (lo, (1 : Int), Builtin.Slice.slicePlaces lo hi 1)) _ _ s
      rw [adjust_pos]
      show wpAny _ _ (pure (0, (1 : Int), Builtin.Slice.slicePlaces 0 (items.size : Int) 1)) _ _ s
      rw [places_pos]
      exact wpAny_pure hh
    · show wpAny _ _ (if ((-1 : Int) == 0) = true then _ else _) _ _ s
      rw [if_neg (by decide)]
      refine wpAny_bind (HT.slicePart_ .none (wpAny_bind (HT.slicePart_ .none (wpAny_bind (wpAny_pure ?_)))))
      show wpAny _ _ (match Builtin.Slice.sliceAdjust none none (-1) (items.size : Int) with | (lo, hi) => pure (lo, (-1 : Int), Builtin.Slice.slicePlaces lo hi (-1))) _ _ s
      rw [adjust_neg]
      show wpAny _ _ (pure ((items.size : Int) - 1, (-1 : Int), Builtin.Slice.slicePlaces ((items.size : Int) - 1) (-1) (-1))) _ _ s
      rw [places_neg]
      exact wpAny_pure hh
  unfold getItem
  try with_reducible refine wpAny_holding ?_
  first | refine wpAny_bind (wpAny_pure ?_) | skip
  refine wpAny_bind (wpAny_sequenceKey ht.typeIs (by decide) ?_)
  refine wpAny_bind (wpAny_callSpecial?_slot (name := Str.ofString "__getitem__") ht.typeIs PyProof.Rows.slot_tuple_getitem
    (wpAny_call_entry PyProof.Rows.slot_tuple_getitem ht.typeIs PyProof.Rows.entry_tuple_getitem ?_ (PyProof.Rows.args_tuple_getitem _ _)))
  show wpAny _ _ (Builtin.Tuple.tupleItemsOf (.ref t) >>= _) _ _ s
  refine wpAny_bind (tupleItemsOf_ ht ?_)
  refine wpAny_bind (wpAny_typeOf hTs ?_)
  rw [if_pos (by decide)]
  refine wpAny_bind (app ?_)
  rcases h with ⟨e, h⟩ | ⟨e, h⟩
  · refine .inl ⟨e, ?_⟩
    show wpAny _ _ (if ((0 : Int) == 0 && (1 : Int) == 1 && items.size == items.size) = true then _ else _) _ _ s
    rw [if_pos (by simp)]
    unfold Builtin.Tuple.tupleIsExact
    refine wpAny_bind (wpAny_bind (wpAny_typeOf ht.typeIs (wpAny_pure ?_)))
    rw [if_pos (by decide)]
    refine wpAny_bind (wpAny_rule ?_)
    exact wpAny_pure ⟨_, rfl, wpAny_pure h⟩
  · refine .inr ⟨e, ?_⟩
    show wpAny _ _ (if (((items.size : Int) - 1) == 0 && (-1 : Int) == 1 && items.size == items.size) = true then _ else _) _ _ s
    rw [if_neg (by simp), pick_neg]
    first
      | exact wpAny_bind (m := Builtin.Tuple.tupleExact _) (wpAny_newObj_type (wpAny_pure ⟨_, rfl, wpAny_pure h⟩) htake)
      | exact wpAny_bind (m := Builtin.Tuple.tupleExact _) (wpAny_newObj_type (wpAny_bind (wpAny_pure (wpAny_pure ⟨_, rfl, wpAny_pure h⟩))) htake)
      | exact wpAny_bind (wpAny_bind (m := Builtin.Tuple.tupleExact _) (wpAny_newObj_type (wpAny_pure (wpAny_pure ⟨_, rfl, wpAny_pure h⟩)) htake))
      | exact wpAny_bind (wpAny_bind (m := Builtin.Tuple.tupleExact _) (wpAny_newObj_type (wpAny_pure ⟨_, rfl, wpAny_pure h⟩) htake))
def rStep (K : PySem.W.Frag) : V → V → Hp → VK → Prop := fun x y H Q => ∃ (a : Addr) (xs : List V), x = .ref a ∧ SqT K H a xs ∧ ((y = .int 1 ∧ Q (.ref a) H) ∨ (y = .int (-1) ∧ ∀ p, H p = none → Q (.ref p) (upd H p (.tup xs.reverse))))
/-- t[::k] of a tuple -/
theorem pe_step {e st : Expr} {te ts : TE} {p2 pos : Pos} (he : PE X e te) (hst : PE X st ts) : PE X (.Subscript e (.Slice none none (some st) p2) pos) (tOp (rStep X.K) te ts) := by
  intro pins s σ H Q I h
  refine Subscript_ (thn (he pins s σ H _ I h) fun v s1 ⟨x, H1, I1, r1, q1⟩ => ?_)
  refine wpAny_Slice ?_
  rw [evalPart_none]
  refine wpAny_pure (wpAny_pure ?_)
  rw [evalPart_some]
  refine thn (hst pins s1 σ H1 _ I1 q1) fun vk s3 ⟨y, H3, I3, r3, a, xs, e, hx, q3⟩ => ?_
  subst e
  cases r1
  have I4 : Inv X pins σ H3 { s3 with heap := s3.heap.push { cls := .type "slice", data := .fields #[.none, .none, vk] } } := I3.kept (t' := s3.toks) fun b ob q => Heap.get?_push_of_some _ q
  obtain ⟨its, r, ht, hz⟩ := I4.tuple hx
  have hlen : its.toArray.size = xs.length := by rw [List.size_toArray]; exact r.length.symm
  show wpAny (model X.prog X.w) X.A (subscriptTail e (.Slice none none (some st) p2) (.ref a) (.ref s3.heap.objs.size)) (EP X pins σ Q) X.xe { s3 with heap := s3.heap.push { cls := .type "slice", data := .fields #[.none, .none, vk] } }
  refine tail_any (ops := [.ref a, .ref s3.heap.objs.size]) ht.typeIs PyProof.Rows.slot_tuple_getitem.lookup ?_ (by with_unfolding_all rfl)
  rcases q3 with ⟨rfl, q⟩ | ⟨rfl, q⟩
  · obtain ⟨t, rfl⟩ := r3
    exact getItem_tuple_step ht (Heap.IsSliceOf.new ..) (.int 1 t) (by rw [hlen]; exact hz) (.inl ⟨rfl, ⟨.ref a, H3, I4, rfl, q⟩⟩)
  · obtain ⟨t, rfl⟩ := r3
    refine getItem_tuple_step ht (Heap.IsSliceOf.new ..) (.int (-1) t) (by rw [hlen]; exact hz) (.inr ⟨rfl, ?_⟩)
    refine ⟨.ref _, _, I4.laid (t' := s3.toks) (o := .tup xs.reverse) (fun b ob q => Heap.get?_push_of_some _ q) (Nat.le_refl _) ?_, rfl, q _ (I4.hok.fresh (Nat.le_refl _))⟩
    exact ⟨by rw [List.length_reverse]; exact hz, _, r.reverse, IsTup.new _ _⟩
end
end Hs

namespace Hs
open PySem PySem.Spec PyProof.Rows L2
def hd (x : Str) : Nat := x.cps.toList.headD 0
theorem hd_app (c : Nat) (e : Str) : hd ((⟨#[c]⟩ : Str) ++ e) = c := by
  unfold hd
  show ((#[c] ++ e.cps).toList).headD 0 = c
  simp
theorem len_app (x y : Str) : (x ++ y).length = x.length + y.length := by
  show (x.cps ++ y.cps).size = x.cps.size + y.cps.size
  simp
theorem mem_app {x y : Str} {c : Nat} (h : c ∈ (x ++ y).cps.toList) : c ∈ x.cps.toList ∨ c ∈ y.cps.toList := by
  have h : c ∈ (x.cps ++ y.cps).toList := h
  simpa using h
theorem len_rep (c n : Nat) : (repS c n).length = n := by
  show ((List.replicate n c).toArray).size = n
  simp
theorem mem_rep {c n d : Nat} (h : d ∈ (repS c n).cps.toList) : d = c := by
  have h : d ∈ List.replicate n c := h
  exact (List.mem_replicate.mp h).2
theorem hd_rep (c n : Nat) (h : 0 < n) : hd (repS c n) = c := by
  unfold hd repS
  cases n with
  | zero => omega
  | succ n => simp [List.replicate_succ]
theorem word_app {c : Nat} {e : Str} (h1 : 97 ≤ c) (h2 : c ≤ 122) (hl : e.length ≤ 7) (he : ∀ d ∈ e.cps.toList, 97 ≤ d ∧ d ≤ 122) : WordOk ((⟨#[c]⟩ : Str) ++ e) := by
  have l1 : (⟨#[c]⟩ : Str).length = 1 := rfl
  refine ⟨by rw [len_app, l1]; omega, by rw [len_app, l1]; omega, fun d hd => ?_⟩
  rcases mem_app hd with h | h
  · have : d = c := by simpa using h
    subst this
    exact ⟨h1, h2⟩
  · exact he d h
theorem word_rep {c n : Nat} (h1 : 97 ≤ c) (h2 : c ≤ 122) (hn : 1 ≤ n) (hn2 : n ≤ 8) : WordOk (repS c n) := by
  refine ⟨by rw [len_rep]; exact hn, by rw [len_rep]; exact hn2, fun d hd => ?_⟩
  rw [mem_rep hd]
  exact ⟨h1, h2⟩
theorem nd_range {α : Type} {f : Nat → α} {m : Nat} (h : ∀ i j, i < j → j < m → f i ≠ f j) : ((List.range m).map f).Nodup := by
  unfold List.Nodup
  rw [List.pairwise_map]
  exact (List.pairwise_lt_range (n := m)).imp_of_mem fun {a b} ha hb hab => h a b hab (List.mem_range.mp hb)
abbrev letters : Str := "abcdefghijklmnopqrstuvwxyz"
theorem letters_all : ∀ j : Nat, j < 26 → letters.cps.toList[j]? = some (97 + j) := by decide +kernel
theorem letters_len : letters.length = 26 := by decide +kernel
theorem letters_at {j : Int} (h0 : 0 ≤ j) (h1 : j < 26) : atI letters.cps.toList j = some (97 + j.toNat) := by
  have e : ((j.toNat : Nat) : Int) = j := by omega
  have q := atI_nat (letters_all j.toNat (by omega))
  rw [e] at q
  exact q
def some24 : List Str := ["leaf", "plus", "times", "most", "less", "make", "drop", "book", "worth", "ask", "change", "forget", "joined", "room", "once", "least", "tree", "no", "ok", "shut", "a", "b", "c", "zz"]
def ends3 : List Str := ["", "a", "omelons"]
instance (x : Str) : Decidable (WordOk x) := by unfold WordOk; infer_instance
theorem some24_ok : ∀ x ∈ some24, WordOk x := by decide +kernel
theorem some24_nd : some24.Nodup := by decide +kernel
theorem ends3_ok : ∀ e ∈ ends3, e.length ≤ 7 ∧ ∀ d ∈ e.cps.toList, 97 ≤ d ∧ d ≤ 122 := by decide +kernel
theorem getD_at {α : Type} {l : List α} {k : Nat} {d : α} (h : k < l.length) : l.getD k d = l[k] := by
  rw [List.getD_eq_getElem?_getD, List.getElem?_eq_getElem h]
  rfl
/-- the words of the four ways -/
def w0 (t : Nat) (e : Str) (k : Nat) : Str := (⟨#[97 + (t + k) % 26]⟩ : Str) ++ e
def w1 (t : Nat) (k : Nat) : Str := repS (97 + (t + k / 8) % 26) (1 + k % 8)
def w2 (t s m : Nat) (k : Nat) : Str := (⟨#[97 + (t + s * (m - k)) % 26]⟩ : Str) ++ repS (97 + t) (k % 3)
def w3 (t : Nat) (k : Nat) : Str := some24.getD ((t + k) % 24) ""
structure WordsOk (ws : List Str) : Prop where
  word : ∀ x ∈ ws, WordOk x
  nd : ws.Nodup
theorem w0_ok {t m : Nat} {e : Str} (he : e ∈ ends3) (hm : m ≤ 24) : WordsOk ((List.range m).map (w0 t e)) := by
  obtain ⟨h1, h2⟩ := ends3_ok e he
  refine ⟨fun x hx => ?_, nd_range fun i j hij hj z => ?_⟩
  · obtain ⟨k, _, rfl⟩ := List.mem_map.mp hx
    exact word_app (by omega) (by omega) h1 h2
  · have z := congrArg hd z
    unfold w0 at z
    rw [hd_app, hd_app] at z
    omega
theorem w1_ok {t m : Nat} (hm : m ≤ 24) : WordsOk ((List.range m).map (w1 t)) := by
  refine ⟨fun x hx => ?_, nd_range fun i j hij hj z => ?_⟩
  · obtain ⟨k, _, rfl⟩ := List.mem_map.mp hx
    exact word_rep (by omega) (by omega) (by omega) (by omega)
  · have z1 := congrArg hd z
    have z2 := congrArg Str.length z
    unfold w1 at z1 z2
    rw [hd_rep _ _ (by omega), hd_rep _ _ (by omega)] at z1
    rw [len_rep, len_rep] at z2
    omega
theorem w2_ok {t s m : Nat} (ht : t < 26) (hs : s = 1 ∨ s = 3 ∨ s = 5 ∨ s = 7) (hm : m ≤ 24) : WordsOk ((List.range m).map (w2 t s m)) := by
  refine ⟨fun x hx => ?_, nd_range fun i j hij hj z => ?_⟩
  · obtain ⟨k, _, rfl⟩ := List.mem_map.mp hx
    exact word_app (by omega) (by omega) (by rw [len_rep]; omega) fun d hd => by rw [mem_rep hd]; omega
  · have z := congrArg hd z
    unfold w2 at z
    rw [hd_app, hd_app] at z
    rcases hs with rfl | rfl | rfl | rfl <;> omega
theorem w3_ok {t m : Nat} (hm : m ≤ 24) : WordsOk ((List.range m).map (w3 t)) := by
  have hl : some24.length = 24 := rfl
  refine ⟨fun x hx => ?_, nd_range fun i j hij hj z => ?_⟩
  · obtain ⟨k, _, rfl⟩ := List.mem_map.mp hx
    have hk : (t + k) % 24 < some24.length := by rw [hl]; omega
    unfold w3
    rw [getD_at hk]
    exact some24_ok _ (List.getElem_mem hk)
  · have hi' : (t + i) % 24 < some24.length := by rw [hl]; omega
    have hj' : (t + j) % 24 < some24.length := by rw [hl]; omega
    unfold w3 at z
    rw [getD_at hi', getD_at hj'] at z
    have := (List.getElem_inj some24_nd).mp z
    omega
theorem grow (f : Nat → Str) (i : Nat) : ((List.range (i + 1)).map f).map V.str = ((List.range i).map f).map V.str ++ [V.str (f i)] := by
  rw [List.range_succ, List.map_append, List.map_append]
  rfl
theorem get_map {α β : Type} {f : α → β} {xs : List α} {i : Nat} {v : β} (h : (xs.map f)[i]? = some v) : ∃ x, xs[i]? = some x ∧ v = f x := by
  rw [List.getElem?_map] at h
  cases e : xs[i]? with
  | none => rw [e] at h; cases h
  | some z => rw [e] at h; exact ⟨z, rfl, (Option.some.inj h).symm⟩
theorem len_lt {f : Nat → Str} {i n : Nat} (h : i < n) (hn : n ≤ 1000) : (((List.range i).map f).map V.str).length < sizeLine := by
  rw [List.length_map, List.length_map, List.length_range]
  exact small1000 (by omega)
theorem yes {σ : L2.St} {H : Hp} {F G : Hp → Prop} (h : F H) : tYes σ H (fun b H3 => if b = true then F H3 else G H3) := iteT (A := F H) (B := G H) h
/-! ### short words -/
def noStar : Expr → Bool
  | .Starred .. => false
  | _ => true
theorem star_cons {e : Expr} {es : List Expr} {env : Env} (h : noStar e = true) : starEach (e :: es) env = (false, eval e env) :: starEach es env := by
  cases e <;> first | rfl | (cases h)
section
variable {X : Cx}
end
end Hs

namespace Hs
open PySem PySem.Spec PyProof.Rows L2
theorem WordOk.strOk {x : Str} (h : WordOk x) : PySem.PyData.strOk x = true := by
  obtain ⟨h1, h2, h3⟩ := h
  unfold PySem.PyData.strOk
  rw [Array.all_eq_true_iff_forall_mem]
  intro c hc
  have := h3 c (Array.mem_toList_iff.mpr hc)
  exact decide_eq_true (by omega)
theorem dpAll_strs {K : PySem.W.Frag} {H : Hp} : ∀ ws : List Str, DpAll K H (ws.map V.str) (ws.map PyData.str)
  | [] => .nil
  | x :: r => .cons (.str x) (dpAll_strs r)
theorem canLay_strs : ∀ {ws : List Str}, (∀ x ∈ ws, WordOk x) → PyData.canLayAll0 (ws.map PyData.str) = true
  | [], _ => rfl
  | x :: r, h => by
    show (PyData.canLay0 (.str x) && PyData.canLayAll0 (r.map PyData.str)) = true
    rw [canLay_strs fun y hy => h y (List.mem_cons_of_mem _ hy)]
    show (PySem.PyData.strOk x && true) = true
    rw [(h x List.mem_cons_self).strOk]
    rfl
theorem depth_strs : ∀ ws : List Str, PyData.depthAll (ws.map PyData.str) = 0
  | [] => rfl
  | x :: r => by
    show max (PyData.depth (.str x)) (PyData.depthAll (r.map PyData.str)) = 0
    rw [depth_strs r]
    rfl
theorem shaped_strs {ws : List Str} (h : ∀ x ∈ ws, WordOk x) : SeqAt.shaped (.list (ws.map PyData.str)) = true := by
  unfold SeqAt.shaped
  have a : PyData.canLay0 (.list (ws.map PyData.str)) = true := canLay_strs h
  have b : PyData.depth (.list (ws.map PyData.str)) = 1 := by
    show PyData.depthAll (ws.map PyData.str) + 1 = 1
    rw [depth_strs]
  rw [a, b]
  rfl
theorem eqvAll_strs : ∀ xs ys : List Str, PyData.eqvAll (xs.map PyData.str) (ys.map PyData.str) = decide (xs = ys)
  | [], [] => rfl
  | [], _ :: _ => rfl
  | _ :: _, [] => rfl
  | x :: xs, y :: ys => by
    show (PyData.eqv (.str x) (.str y) && PyData.eqvAll (xs.map PyData.str) (ys.map PyData.str)) = _
    rw [eqvAll_strs xs ys]
    show ((x == y) && decide (xs = ys)) = _
    by_cases h : x = y
    · subst h
      simp
    · simp [h]
theorem strs_not_tape {ws : List Str} {n : Int} : HO.lst (ws.map V.str) ≠ HO.lst [V.int n] := by
  intro h
  injection h with h
  cases ws with
  | nil => cases h
  | cons x r =>
    rw [List.map_cons] at h
    injection h with h1 h2
    cases h1
theorem Tape.neStrs {H : Hp} {t a : Addr} {ws : List Str} (T : Tape H t) (h : H a = some (.lst (ws.map V.str))) : a ≠ t := by
  obtain ⟨n, hn⟩ := T
  exact ne_of h hn strs_not_tape
theorem ite_min {i j : Int} : (if j < i then j else i) = min i j := by omega
theorem But.upd' {t : Addr} {H H1 : Hp} {o : HO} (h : But t H H1) : But t H (L2.upd H1 t o) := h.trans (But.upd _ _ _)
theorem But.tupsT {t : Addr} {H H' : Hp} (a : But t H H') (T : Tape H t) : Tups H H' := by
  obtain ⟨n, h⟩ := T
  exact a.tups h
theorem Tape.upd {t : Addr} {H : Hp} {n : Int} : Tape (L2.upd H t (.lst [.int n])) t := ⟨n, upd_same⟩
end Hs

namespace Hs
open PySem PySem.Spec PyProof.Rows L2
/-- a box: what stands in it is not looked into -/
structure Bx (p : Prop) : Prop where
  o : p
section
variable {X : Cx} {a b c e elt iter tg : Expr} {es rest : List Expr} {pos pos' apos cpos p2 pp : Pos} {ta tb te to ts ty td tv : TE} {tA tB : TT} {t tr : TA} {x y name : Str} {wi : TI} {g : TG} {i : Nat} {st : Stmt} {sts sts' : List Stmt} {u u' : TS}
theorem b_v (i : Nat) (hN : X.N[i]? = some x := by rfl) (hv : Vis X.env.scope x := by first | exact Or.inl rfl | exact Or.inr (Or.inl rfl) | exact Or.inr (Or.inr rfl)) (hd : (x == ("__debug__" : Str)) = false := by decide) (hcd : (x == ("__classdict__" : Str)) = false := by decide) : Bx (PE X (.Name x pos) (tVar i)) := ⟨pe_var hN hv hd hcd⟩
theorem b_int {k : Int} {j : Nat} : Bx (PE X (.Constant (.int k) j pos) (tC (.int k))) := ⟨pe_int⟩
theorem b_str {k : Str} {j : Nat} : Bx (PE X (.Constant (.str k) j pos) (tC (.str k))) := ⟨pe_str⟩
theorem b_bl {k : Bool} {j : Nat} : Bx (PE X (.Constant (.bool k) j pos) (tC (.bl k))) := ⟨pe_bl⟩
theorem b_non {j : Nat} : Bx (PE X (.Constant .none j pos) (tC .non)) := ⟨pe_non⟩
theorem b_op {op : Operator} {r : R2} (ho : OpR X (binaryOp op) r) (ha : Bx (PE X a ta)) (hb : Bx (PE X b tb)) : Bx (PE X (.BinOp a op b pos) (tOp r ta tb)) := ⟨pe_op ho ha.o hb.o⟩
theorem b_neg (ha : Bx (PE X a ta)) : Bx (PE X (.UnaryOp .USub a pos) (tUn (rU fun i => .int (-i)) ta)) := ⟨pe_un un_neg ha.o⟩
theorem b_cmpR {op : CmpOp} {r : R2} (ho : OpR X (compareOp op) r) (ha : Bx (PE X a ta)) (hb : Bx (PE X b tb)) (hm : behindInMarks op b = false) : Bx (PE X (.Compare a [op] [b] pos) (tOp r ta tb)) := ⟨pe_cmpR ho ha.o hb.o hm⟩
theorem bt_cmpR {op : CmpOp} {r : R2} (ho : OpR X (compareOp op) r) (ha : Bx (PE X a ta)) (hb : Bx (PE X b tb)) (hm : behindInMarks op b = false) : Bx (PT X (.Compare a [op] [b] pos) (tTest (tOp r ta tb))) := ⟨pt_cmpR ho ha.o hb.o hm⟩
theorem bt_val (h : Bx (PE X e te)) (he : ∀ whole, isTrue e X.env whole = (do let v ← whole; standAt e.pos; holding [v] (truthy v)) := by intro _; rfl) : Bx (PT X e (L2.tB te)) := ⟨pt_val h.o he⟩
theorem bt_not (h : Bx (PT X e tA)) : Bx (PT X (.UnaryOp .Not e pos) (tNot tA)) := ⟨pt_not h.o⟩
theorem bw_and1 (ha : Bx (PT X a tA)) : Bx (PW X (.BoolOp .And [a] pos) tA) := ⟨pw_and1 ha.o⟩
theorem bw_or1 (ha : Bx (PT X a tA)) : Bx (PW X (.BoolOp .Or [a] pos) tA) := ⟨pw_or1 ha.o⟩
theorem bw_and (ha : Bx (PT X a tA)) (hb : Bx (PW X (.BoolOp .And (b :: rest) pos) tB)) : Bx (PW X (.BoolOp .And (a :: b :: rest) pos) (tAnd tA tB)) := ⟨pw_and ha.o hb.o⟩
theorem bw_or (ha : Bx (PT X a tA)) (hb : Bx (PW X (.BoolOp .Or (b :: rest) pos) tB)) : Bx (PW X (.BoolOp .Or (a :: b :: rest) pos) (tOr tA tB)) := ⟨pw_or ha.o hb.o⟩
theorem bt_w (h : Bx (PW X e tA)) : Bx (PT X e tA) := ⟨PW.pt h.o⟩
theorem b_if (hc : Bx (PT X c tA)) (ha : Bx (PE X a ta)) (hb : Bx (PE X b tb)) : Bx (PE X (.IfExp c a b pos) (tIf tA ta tb)) := ⟨pe_ifExp hc.o ha.o hb.o⟩
theorem ba_nil : Bx (PA X [] tNil) := ⟨pa_nil⟩
theorem ba_c (ha : Bx (PE X e te)) (hr : Bx (PA X es t)) (h : noStar e = true := by rfl) : Bx (PA X (e :: es) (tCons te t)) := ⟨pa_cons ha.o hr.o (star_cons h)⟩
theorem b_lst (h : Bx (PA X es t)) : Bx (PE X (.List es pos) (tLst t)) := ⟨pe_lst h.o⟩
theorem b_tup {x1} (h : Bx (PA X es t)) : Bx (PE X (.Tuple es x1 pos) (tTup t)) := ⟨pe_tup h.o⟩
theorem b_ix {r : R2} (hr : IxR X r) (ha : Bx (PE X a ta)) (hb : Bx (PE X b tb)) (h : PlainIx b := by intro _ _; rfl) : Bx (PE X (.Subscript a b pos) (tOp r ta tb)) := ⟨pe_ix hr ha.o hb.o h⟩
theorem b_dget (hu : X.A.units + 1 < cLine) (ho : Bx (PE X a ta)) (hi : Bx (PE X b tb)) (hs : NoSl b := by intro _ _; rfl) : Bx (PE X (.Subscript a b pos) (tDGet ta tb)) := ⟨pe_dget hu ho.o hi.o hs⟩
theorem b_dnewK : Bx (PE X (.Dict [] [] pos) tDNewK) := ⟨pe_dnewK⟩
theorem b_step (he : Bx (PE X e te)) (hst : Bx (PE X a ta)) : Bx (PE X (.Subscript e (.Slice none none (some a) p2) pos) (tOp (rStep X.K) te ta)) := ⟨pe_step he.o hst.o⟩
theorem b_cal {k j : Nat} {ps : List Str} {sp : Sp} (C : Cal X.prog X.w X.K X.mg X.base k x ps sp) (hr : Room j X.A) (ha : Bx (PA X (e :: es) t)) (hj : k ≤ j := by decide) (hg : Gl X x := by rfl)
    (hdb : (x == ("__debug__" : Str)) = false := by decide) (he : noStar e = true := by rfl) (hpl : (backTo pos (starEach es X.env)).any (·.1) = false := by rfl) :
    Bx (PE X (.Call (.Name x pp) (e :: es) [] pos) (tCall sp [] E0 t)) := ⟨pe_cal C hr ha.o hj hg hdb (star_cons he) hpl⟩
theorem b_callB {id : String} {r : List V → Hp → VK → Prop} (hc : CallR X (.builtin id) r) (hm : X.mg x = none) (ha : Bx (PA X (e :: es) t)) (hg : Gl X x := by rfl) (hv : bootBuiltins x = some (.builtin id) := by decide +kernel) (hn : x ≠ "__name__" := by decide) (hdb : (x == ("__debug__" : Str)) = false := by decide)
    (he : noStar e = true := by rfl) (hpl : (backTo pos (starEach es X.env)).any (·.1) = false := by rfl) : Bx (PE X (.Call (.Name x pp) (e :: es) [] pos) (tCB r t)) := ⟨pe_callB hc hg hm hv ha.o hn hdb (star_cons he) hpl⟩
theorem b_callTy {T : String} {r : List V → Hp → VK → Prop} (hc : CallR X (.type T) r) (hm : X.mg x = none) (ha : Bx (PA X (e :: es) t)) (hg : Gl X x := by rfl) (hv : bootBuiltins x = some (.type T) := by decide +kernel) (hn : x ≠ "__name__" := by decide) (hdb : (x == ("__debug__" : Str)) = false := by decide)
    (he : noStar e = true := by rfl) (hpl : (backTo pos (starEach es X.env)).any (·.1) = false := by rfl) : Bx (PE X (.Call (.Name x pp) (e :: es) [] pos) (tCB r t)) := ⟨pe_callTy hc hg hm hv ha.o hn hdb (star_cons he) hpl⟩
theorem b_append (ho : Bx (PE X a ta)) (ha : Bx (PA X [e] t)) (hbase : attributeBase a "append" X.env (eval a X.env) = eval a X.env := by rfl)
    (hfew : ((backTo cpos (starEach [e] X.env)).all (fun x => !x.1) && (backToKw cpos (keywordEach [] X.env)).all (fun x => x.1.isSome) && decide ([e].length + ([] : List Keyword).length + (if ([] : List Keyword).isEmpty then 0 else 1) < 30)) = true := by rfl)
    (hline : (apos.endLine == cpos.line) = true := by rfl) (he : noStar e = true := by rfl) :
    Bx (PE X (.Call (.Attribute a "append" apos) [e] [] cpos) (tBM X.K "list" rAppend ta t)) := ⟨by
  exact pe_bm PySem.F.plainAttrs_list PySem.F.slot_list_append PySem.F.type_list_append mt_append ho.o ha.o hbase hfew hline (star_cons he) rfl⟩
theorem b_c (i : Nat) (N : List Str) (sc : Scope) {ifs : List Expr} {scope : Scope} {tt : TT} (hN : X.N.Nodup) (hi : Bx (PI X (.Name x pp) iter wi))
    (ht : ∀ (s : Shared) (H : Hp) (C : Addr) (cl : List (Str × Addr)) (fp : List Addr), Bx (PTs (X.blk s H scope (compEnvC scope cl C X.env) fp) ifs tt))
    (he : ∀ (s : Shared) (H : Hp) (C : Addr) (cl : List (Str × Addr)) (fp : List Addr), Bx (PE (X.blk s H scope (compEnvC scope cl C X.env) fp) elt te))
    (hg : ∀ (s : Shared) (H : Hp) (C : Addr) (cl : List (Str × Addr)) (fp : List Addr), Bx (PG (X.blk s H scope (compEnvC scope cl C X.env) fp) (.Name x pp) (gName i)))
    (eN : X.N = N := by rfl) (eS : X.env.scope = sc := by rfl) (ok : blkC N sc scope [(x, i)] = true := by decide +kernel) (hc : X.calm = true := by rfl) (hs : ∀ x, foldedSetIterable iter X.env x = pure x := by intro _; rfl) :
    Bx (PE X (.ListComp elt [⟨.Name x pp, iter, ifs, 0⟩] scope pos) (tLc wi (gName i) tt te [i])) :=
  ⟨pe_lc (own := [(x, i)]) hc hN hi.o (by rw [eN, eS]; exact blkOk_by ok) (fun s H C cl fp => (hg s H C cl fp).o) (fun s H C cl fp => (ht s H C cl fp).o) (fun s H C cl fp => (he s H C cl fp).o) hs⟩
theorem b_lc (own : List (Str × Nat)) (N : List Str) (sc : Scope) {ifs : List Expr} {scope : Scope} {tt : TT} (hN : X.N.Nodup) (hi : Bx (PI X tg iter wi))
    (ht : ∀ (s : Shared) (H : Hp) (C : Addr) (cl : List (Str × Addr)) (fp : List Addr), Bx (PTs (X.blk s H scope (compEnvC scope cl C X.env) fp) ifs tt))
    (he : ∀ (s : Shared) (H : Hp) (C : Addr) (cl : List (Str × Addr)) (fp : List Addr), Bx (PE (X.blk s H scope (compEnvC scope cl C X.env) fp) elt te))
    (hg : ∀ (s : Shared) (H : Hp) (C : Addr) (cl : List (Str × Addr)) (fp : List Addr), Bx (PG (X.blk s H scope (compEnvC scope cl C X.env) fp) tg g))
    (eN : X.N = N := by rfl) (eS : X.env.scope = sc := by rfl) (ok : blkC N sc scope own = true := by decide +kernel) (hc : X.calm = true := by rfl) (hs : ∀ x, foldedSetIterable iter X.env x = pure x := by intro _; rfl) :
    Bx (PE X (.ListComp elt [⟨tg, iter, ifs, 0⟩] scope pos) (tLc wi g tt te (own.map (·.2)))) :=
  ⟨pe_lc (own := own) hc hN hi.o (by rw [eN, eS]; exact blkOk_by ok) (fun s H C cl fp => (hg s H C cl fp).o) (fun s H C cl fp => (ht s H C cl fp).o) (fun s H C cl fp => (he s H C cl fp).o) hs⟩
theorem bts_nil : Bx (PTs X [] tYes) := ⟨pts_nil⟩
theorem bts_one (h : Bx (PT X e tA)) : Bx (PTs X [e] tA) := ⟨pts_one h.o⟩
theorem bi_list (hl : Bx (PE X e te)) : Bx (PI X tg e (iList X.K te)) := ⟨pi_list hl.o⟩
theorem bi_tup (hl : Bx (PE X e te)) : Bx (PI X tg e (iTup X.K te)) := ⟨pi_tup hl.o⟩
theorem bi_range1 (hm : X.mg "range" = none) (ha : Bx (PA X [a] t)) (hg : Gl X "range" := by rfl) (h : noStar a = true := by rfl) : Bx (PI X tg (.Call (.Name "range" pp) [a] [] pos) (iRng1 t)) := ⟨pi_range1 hg hm ha.o (star_cons h)⟩
theorem bi_range2 (hm : X.mg "range" = none) (ha : Bx (PA X [a, b] t)) (hg : Gl X "range" := by rfl) (h : noStar a = true := by rfl) (h' : noStar b = true := by rfl) : Bx (PI X tg (.Call (.Name "range" pp) [a, b] [] pos) (iRng2 t)) :=
  ⟨pi_range2 hg hm ha.o (by rw [star_cons h, star_cons h']; rfl) (star_cons h')⟩
theorem bg_n (i : Nat) (nd : X.N.Nodup) (hi : X.N[i]? = some x := by rfl) (hx : Loc X.env.scope x := by first | exact Or.inl rfl | exact Or.inr rfl) (hf : X.fn x = true ∨ X.env.scope.names.lookup x = some .local := by first | exact .inl rfl | exact .inr rfl) : Bx (PG X (.Name x pos) (gName i)) := ⟨pg_name nd hi hx hf⟩
theorem bgs_nil : Bx (PGs X [] gNil) := ⟨pgs_nil⟩
theorem bgs_c {g : TG} {gs : TGs} (h1 : Bx (PG X e g)) (h2 : Bx (PGs X es gs)) (hs : (assignEach (e :: es) X.env).map (·.2) = assign e X.env :: (assignEach es X.env).map (·.2) := by rfl) : Bx (PGs X (e :: es) (gCons g gs)) := ⟨pgs_cons h1.o h2.o hs⟩
theorem bg_tup {k n : Nat} {gs : TGs} (h : Bx (PGs X es gs)) (hc : X.calm = true := by rfl) (hn : (assignEach es X.env).length = n := by rfl) (hst : (assignEach es X.env).findIdx? (·.1) = none := by rfl) : Bx (PG X (.Tuple es k pos) (gTup X.K n gs)) := ⟨pg_tup hc h.o hn hst⟩
theorem bs_nil : Bx (PSs X [] tNext) := ⟨pss_nil⟩
theorem bs_one (h : Bx (PS X st u)) : Bx (PSs X [st] u) := ⟨pss_one h.o⟩
theorem bs_c (h : Bx (PS X st u)) (h' : Bx (PSs X sts u')) : Bx (PSs X (st :: sts) (tSeq u u')) := ⟨pss_cons h.o h'.o⟩
theorem bs_if (h : Bx (PT X c tA)) (h1 : Bx (PSs X sts u)) (h2 : Bx (PSs X sts' u')) : Bx (PS X (.If c sts sts' pos) (tIfS tA u u')) := ⟨ps_if h.o h1.o h2.o⟩
theorem bs_ret (he : Bx (PE X e te)) : Bx (PS X (.Return (some e) pos) (tRet te)) := ⟨ps_ret he.o⟩
theorem bs_never : Bx (PS X st tNever) := ⟨ps_never⟩
theorem bs_expr (he : Bx (PE X e te)) (hs : swapsWith e none pos.line X.env = pure false := by rfl) : Bx (PS X (.Expr e pos) (tDrop te)) := ⟨ps_expr he.o hs⟩
theorem bs_set (i : Nat) (nd : X.N.Nodup) (he : Bx (PE X e te)) (hi : X.N[i]? = some x := by rfl) (hx : Loc X.env.scope x := by first | exact Or.inl rfl | exact Or.inr rfl) (hs : swapsWith e (some (.Name x pos')) pos.line X.env = pure false := by rfl) (hf : X.fn x = true ∨ X.env.scope.names.lookup x = some .local := by first | exact .inl rfl | exact .inr rfl) :
    Bx (PS X (.Assign [.Name x pos'] e pos) (tAsg te (gName i))) := ⟨ps_set nd hi hx he.o hs hf⟩
theorem bs_setc (i : Nat) (own : List (Str × Nat)) (N : List Str) (sc : Scope) {py spos : Pos} {ifs : List Expr} {scope : Scope} {tt : TT} (hN : X.N.Nodup) (hi : Bx (PI X tg iter wi))
    (ht : ∀ (s : Shared) (H : Hp) (C : Addr) (cl : List (Str × Addr)) (fp : List Addr), Bx (PTs (X.blk s H scope (compEnvC scope cl C X.env) fp) ifs tt))
    (he : ∀ (s : Shared) (H : Hp) (C : Addr) (cl : List (Str × Addr)) (fp : List Addr), Bx (PE (X.blk s H scope (compEnvC scope cl C X.env) fp) elt te))
    (hg : ∀ (s : Shared) (H : Hp) (C : Addr) (cl : List (Str × Addr)) (fp : List Addr), Bx (PG (X.blk s H scope (compEnvC scope cl C X.env) fp) tg g))
    (eN : X.N = N := by rfl) (eS : X.env.scope = sc := by rfl) (ok : blkC N sc scope own = true := by decide +kernel) (hc : X.calm = true := by rfl) (hy : X.N[i]? = some y := by rfl) (hyl : X.env.scope.names.lookup y = some .local := by rfl)
    (hsw : swapsWith (.ListComp elt [⟨tg, iter, ifs, 0⟩] scope pos) (some (.Name y py)) spos.line X.env = pure true := by exact sw_true rfl rfl rfl (by decide +kernel)) (hs : ∀ x, foldedSetIterable iter X.env x = pure x := by intro _; rfl) :
    Bx (PS X (.Assign [.Name y py] (.ListComp elt [⟨tg, iter, ifs, 0⟩] scope pos) spos) (tAsg (tLc wi g tt te (own.map (·.2))) (gName i))) :=
  ⟨ps_setLc (own := own) hc hN hy hyl hsw hi.o (by rw [eN, eS]; exact blkOk_by ok) (fun s H C cl fp => (hg s H C cl fp).o) (fun s H C cl fp => (ht s H C cl fp).o) (fun s H C cl fp => (he s H C cl fp).o) hs⟩
theorem bs_asg (he : Bx (PE X e te)) (hg : Bx (PG X tg g)) (hs : swapsWithSole [tg] e pos.line X.env = pure false := by rfl) (hw : swappedStores [tg] e X.env = pure none := by rfl) (h1 : (assignEach [tg] X.env).map (·.2) = [assign tg X.env] := by rfl) : Bx (PS X (.Assign [tg] e pos) (tAsg te g)) := ⟨ps_asg he.o hg.o hs hw h1⟩
theorem bs_dput (hu : X.A.units + 1 < cLine) (ho : Bx (PE X a ta)) (hi : Bx (PE X b tb)) (hv : Bx (PE X e te)) (hs : swapsWith e (some (.Subscript a b pos')) pos.line X.env = pure false := by rfl) : Bx (PS X (.Assign [.Subscript a b pos'] e pos) (sDPut ta tb te)) := ⟨ps_dput hu ho.o hi.o hv.o hs⟩
theorem bs_aug (i : Nat) {op : Operator} {ti : TIp} (nd : X.N.Nodup) (he : Bx (PE X e te)) (ho : PIp X op ti) (hi : X.N[i]? = some x := by rfl) (hx : Loc X.env.scope x := by first | exact Or.inl rfl | exact Or.inr rfl) (hf : X.fn x = true ∨ X.env.scope.names.lookup x = some .local := by first | exact .inl rfl | exact .inr rfl) :
    Bx (PS X (.AugAssign (.Name x pos') op e pos) (tAug i te ti)) := ⟨ps_aug nd hi hx he.o ho hf⟩
theorem bs_for (hi : Bx (PI X tg iter wi)) (hg : Bx (PG X tg g)) (hb : Bx (PSs X sts u)) (hp : PassesOwn (model X.prog X.w) X.A X.env X.xe := by exact PassesOwn.never) (hc : X.calm = true := by rfl) (hs : ∀ x, foldedSetIterable iter X.env x = pure x := by intro _; rfl) : Bx (PS X (.For tg iter sts [] pos) (tFor wi g u)) := ⟨ps_for hp hc hi.o hg.o hb.o hs⟩
theorem bs_lock (h : Bx (PS X st u)) : Bx (PS X st (tLock u)) := ⟨ps_lock h.o⟩
theorem bi_keys (he : Bx (PE X e te)) : Bx (PI X tg e (iKeys te)) := ⟨pi_keys he.o⟩
end
end Hs

namespace Hs
open PySem PySem.Spec PyProof.Rows L2
def top (i : Nat) : Stmt := PySem.Challenge.pw_holdshelf_k31_least_rooms_of_trees.main.body.getD i (.Pass ⟨0, 0, 0, 0⟩)
abbrev s_names_in : Stmt := top 4
abbrev s_is_tree : Stmt := top 6
abbrev s_climbs : Stmt := top 7
abbrev s_add_hill : Stmt := top 8
abbrev s_row_of : Stmt := top 9
abbrev s_best_row : Stmt := top 10
abbrev s_least_room : Stmt := top 11
abbrev s_law_cell_at : Stmt := top 13
abbrev s_law_tape : Stmt := top 14
abbrev s_law_digit : Stmt := top 15
abbrev s_law_words : Stmt := top 16
abbrev s_law_number : Stmt := top 17
abbrev s_law_tree : Stmt := top 18
abbrev s_law_needs : Stmt := top 19
abbrev s_law_parts : Stmt := top 20
abbrev s_law_below : Stmt := top 21
abbrev s_law_bits : Stmt := top 22
abbrev s_law_world : Stmt := top 23
abbrev s_law_load : Stmt := top 24
abbrev s_law_once_on : Stmt := top 25
abbrev s_law_once_least : Stmt := top 26
abbrev s_law_whole : Stmt := top 27
abbrev s_law_spent : Stmt := top 28
abbrev s_law_fits : Stmt := top 29
abbrev s_law : Stmt := top 30
section
variable {P : Program} {w : World} {K : PySem.W.Frag} {mg : Str → Option Value} {base : Heap}
/-! ### _law_cell_at -/
def spCell (K : PySem.W.Frag) : Sp := fun vs H Q _ => ∃ (a : Addr) (ns : List Int) (k : Int), vs = [.ref a, .int k] ∧ SqL K H a (ns.map V.int) ∧ 0 ≤ k ∧ ∀ c : Int, Q (.int c) H
theorem sc_cell : FnScope ["script", "k"] ["script", "k"] (defScope s_law_cell_at) := ⟨rfl, rfl, rfl, by decide +kernel, rfl, by decide +kernel, by decide +kernel⟩
theorem c_cell (B : Blt mg) (D : Dfn K mg "_law_cell_at" s_law_cell_at) : Cal P w K mg base 1 "_law_cell_at" ["script", "k"] (spCell K) := by
  refine D.cal (fun _ _ _ _ _ _ us hl => match us, hl with | [_, _], _ => rfl) fun f fd F => F.ok sc_cell (fun vs H Q E h => ?_) (fun cdv A outer s H vs Q E hr h => ?_)
  · obtain ⟨a, ns, k, rfl, _⟩ := h
    rfl
  · obtain ⟨a, ns, k, rfl, hS, hk, q⟩ := h
    refine ⟨_, pss_cons (ps_if (pt_cmpR op_lt (pv 1) (pe_callB call_len_seq (by rfl) B.len PySem.boot_len (pa_cons (pv 0) pa_nil)) (nomark _))
      (pss_one (ps_ret (pe_ix ix_list (pv 0) (pv 1) (fun _ _ => rfl)))) pss_nil) (pss_one (ps_ret pe_int)), ?_⟩
    refine ⟨_, rfl, _, rfl, a, _, rfl, .inl hS, _, _, rfl, rfl, _, rfl, ?_⟩
    refine ite2 (fun h => ?_) (fun h => ?_)
    · have h := of_decide_eq_true h
      obtain ⟨v, h1, h2⟩ := atI_of hk h
      obtain ⟨z, rfl⟩ : ∃ z, v = V.int z := by
        rw [List.getElem?_map] at h1
        cases e : ns[k.toNat]? with
        | none => rw [e] at h1; cases h1
        | some z => rw [e] at h1; exact ⟨z, (Option.some.inj h1).symm⟩
      exact ⟨_, rfl, _, rfl, a, _, _, _, rfl, rfl, hS, h2, q z⟩
    · exact q 0
/-! ### _law_digit -/
def spDigit : Sp := fun vs H Q _ => ∃ (t : Addr) (m : Int), vs = [.ref t, .int m] ∧ Tape H t ∧ 0 < m ∧ m < 1073741824 ∧ ∀ d n' : Int, 0 ≤ d → d < m → Q (.int d) (upd H t (.lst [.int n']))
theorem sc_digit : FnScope ["tape", "many", "found"] ["tape", "many"] (defScope s_law_digit) := ⟨rfl, rfl, rfl, by decide +kernel, rfl, by decide +kernel, by decide +kernel⟩
theorem c_digit (D : Dfn K mg "_law_digit" s_law_digit) : Cal P w K mg base 1 "_law_digit" ["tape", "many"] spDigit := by
  refine D.cal (fun _ _ _ _ _ _ us hl => match us, hl with | [_, _], _ => rfl) fun f fd F => F.ok sc_digit (fun vs H Q E h => ?_) (fun cdv A outer s H vs Q E hr h => ?_)
  · obtain ⟨a, ns, rfl, _⟩ := h
    rfl
  · obtain ⟨t, m, rfl, ⟨n, ht⟩, h0, h1, q⟩ := h
    refine ⟨_, pss_cons (ps_set (i := 2) sc_digit.nd rfl (Or.inl rfl) (pe_op op_mod (pe_ix ix_list (pv 0) pe_int (fun _ _ => rfl)) (pv 1)))
      (pss_cons (ps_asg (pe_op op_fdiv (pe_ix ix_list (pv 0) pe_int (fun _ _ => rfl)) (pv 1)) (pg_sub (pv 0) pe_int set_list))
      (pss_one (ps_ret (pv 2)))), ?_⟩
    have e0 : atI [V.int n] 0 = some (V.int n) := rfl
    refine ⟨_, rfl, t, _, _, _, rfl, rfl, SqL.of ht, e0, _, rfl, _, _, rfl, rfl, h0, ?_⟩
    refine ⟨_, rfl, t, _, _, _, rfl, rfl, SqL.of ht, e0, _, rfl, _, _, rfl, rfl, ⟨h0, h1⟩, ?_⟩
    refine ⟨_, rfl, t, _, _, 0, rfl, rfl, ht, rfl, ?_⟩
    refine ⟨_, rfl, ?_⟩
    exact q _ _ (Int.emod_nonneg _ (by omega)) (Int.emod_lt_of_pos _ h0)
/-! ### _law_tape -/
def spTape (K : PySem.W.Frag) : Sp := fun vs H Q _ => ∃ (a : Addr) (ns : List Int) (k : Int), vs = [.ref a, .int k] ∧ SqL K H a (ns.map V.int) ∧ 0 ≤ k ∧ k ≤ 1000 ∧ ∀ (t : Addr) (H' : Hp), H t = none → Same H H' → Tape H' t → Q (.ref t) H'
theorem sc_tape : FnScope ["script", "k", "cell", "p", "one", "found", "turn"] ["script", "k"] (defScope s_law_tape) := ⟨rfl, rfl, rfl, by decide +kernel, rfl, by decide +kernel, by decide +kernel⟩
theorem c_tape (B : Blt mg) (D : Dfn K mg "_law_tape" s_law_tape) (C : Cal P w K mg base 1 "_law_cell_at" ["script", "k"] (spCell K)) : Cal P w K mg base 2 "_law_tape" ["script", "k"] (spTape K) := by
  refine D.cal (fun _ _ _ _ _ _ us hl => match us, hl with | [_, _], _ => rfl) fun f fd F => F.ok sc_tape (fun vs H Q E h => ?_) (fun cdv A outer s H vs Q E hr h => ?_)
  · obtain ⟨a, ns, k, rfl, _⟩ := h
    rfl
  · obtain ⟨a, ns, k, rfl, hS, hk, hk2, q⟩ := h
    have hp : (0 : Int) < 2305843009213693951 := by decide
    have fin : ∀ (n : Int) (p : Addr), H p = none → Q (.ref p) (upd H p (.lst [.int n])) := fun n p hp => q p _ hp (Same.new hp) ⟨n, upd_same⟩
    refine ⟨_, pss_cons (ps_set (i := 2) sc_tape.nd rfl (Or.inl rfl) (pe_cal C hr (pa_cons (pv 0) (pa_cons (pv 1) pa_nil))))
      (pss_cons (ps_if (pt_cmpR op_eq (pv 2) pe_int (nomark _)) (pss_one (ps_ret (pe_lst (pa_cons pe_int pa_nil)))) pss_nil)
      (pss_cons (ps_if (pt_cmpR op_ge (pv 2) (pe_op op_pow pe_int pe_int) (nomark _)) (pss_one (ps_ret (pe_lst (pa_cons (pe_op op_sub (pv 2) (pe_op op_pow pe_int pe_int)) pa_nil)))) pss_nil)
      (pss_cons (ps_set (i := 3) sc_tape.nd rfl (Or.inl rfl) pe_int)
      (pss_cons (ps_set (i := 4) sc_tape.nd rfl (Or.inl rfl) (pe_op op_mod (pe_op op_add (pe_op op_add (pe_op op_mul (pv 2) pe_int) (pe_op op_mul pe_int (pv 1))) pe_int) (pv 3)))
      (pss_cons (ps_set (i := 5) sc_tape.nd rfl (Or.inl rfl) (pv 4))
      (pss_cons (ps_for PassesOwn.never rfl (pi_range1 rfl B.range (pa_cons pe_int pa_nil)) (pg_name (i := 6) sc_tape.nd rfl (Or.inl rfl))
        (pss_cons (ps_set (i := 4) sc_tape.nd rfl (Or.inl rfl) (pe_op op_mod (pe_op op_add (pe_op op_add (pe_op op_add (pe_op op_mul (pv 4) (pv 4)) (pe_op op_mul pe_int (pv 6))) (pv 2)) pe_int) (pv 3)))
        (pss_one (ps_set (i := 5) sc_tape.nd rfl (Or.inl rfl) (pe_op op_add (pe_op op_mul (pv 5) (pv 3)) (pv 4))))))
      (pss_one (ps_ret (pe_lst (pa_cons (pv 5) pa_nil)))))))))), ?_⟩
    refine ⟨_, rfl, _, rfl, a, ns, k, rfl, hS, hk, fun c => ?_⟩
    refine ⟨_, rfl, rfl, _, rfl, ite2 (fun h => ?_) (fun h => ?_)⟩
    · exact ⟨lit 1, fun p hp => fin _ p hp⟩
    refine ⟨_, rfl, _, _, rfl, rfl, ⟨by decide, by decide, by decide⟩, _, _, rfl, rfl, _, rfl, ite2 (fun h => ?_) (fun h => ?_)⟩
    · refine ⟨_, rfl, _, _, rfl, rfl, ⟨by decide, by decide, by decide⟩, _, _, rfl, rfl, lit 1, fun p hp => fin _ p hp⟩
    refine ⟨_, rfl, _, _, rfl, rfl, .inr ⟨by decide, by decide⟩, _, rfl, _, _, rfl, rfl, .inl ⟨by decide, by decide⟩, _, _, rfl, rfl, _, _, rfl, rfl, _, rfl, _, _, rfl, rfl, hp, ?_⟩
    refine ⟨_, rfl, ?_⟩
    refine ⟨20, rfl, by decide, by decide, for_range (n := 20) (fun i σ H2 => ∃ (one found : Int) (v : Option V), σ = [some (.ref a), some (.int k), some (.int c), some (.int 2305843009213693951), some (.int one), some (.int found), v] ∧ 0 ≤ one ∧ one < 2305843009213693951 ∧ H2 = H) ?_ ?_ ?_⟩
    · exact ⟨_, _, _, rfl, Int.emod_nonneg _ (by decide), Int.emod_lt_of_pos _ hp, rfl⟩
    · rintro i σ H2 hi ⟨one, found, v, rfl, h1, h2, rfl⟩
      refine ⟨_, rfl, _, rfl, _, _, rfl, rfl, .inl ⟨by omega, by omega⟩, _, rfl, _, _, rfl, rfl, .inl ⟨by decide, by decide⟩, _, _, rfl, rfl, _, rfl, _, _, rfl, rfl, _, _, rfl, rfl, _, rfl, _, _, rfl, rfl, hp, ?_⟩
      refine ⟨_, rfl, _, rfl, _, _, rfl, rfl, .inr ⟨by decide, by decide⟩, _, rfl, _, _, rfl, rfl, ?_⟩
      exact ⟨_, _, _, rfl, Int.emod_nonneg _ (by decide), Int.emod_lt_of_pos _ hp, rfl⟩
    · rintro σ H2 ⟨one, found, v, rfl, h1, h2, rfl⟩
      exact ⟨_, rfl, lit 1, fun p hp => fin _ p hp⟩
end


end Hs
namespace Hs
open PySem PySem.Spec PyProof.Rows L2
/-! ### words that are nobody's -/
def NoB (x : Str) : Prop := x ≠ "others"
instance (x : Str) : Decidable (NoB x) := by unfold NoB; infer_instance
structure WordsNo (ws : List Str) : Prop extends WordsOk ws where
  nob : ∀ x ∈ ws, NoB x
theorem nob_len {x : Str} (h : x.length ≠ 6) : NoB x := by
  refine fun z => h ?_
  rw [z]; decide +kernel
theorem nob_om (c : Nat) : NoB ((⟨#[c]⟩ : Str) ++ "omelons") := by
  have e : ((⟨#[c]⟩ : Str) ++ "omelons").cps.toList[2]? = some 109 := by rfl
  refine fun z => ?_
  rw [z] at e
  exact absurd e (by decide +kernel)
theorem nob_rep (c n : Nat) : NoB (repS c n) := by
  refine fun z => ?_
  have h1 : (111 : Nat) ∈ (repS c n).cps.toList := by rw [z]; decide +kernel
  have h2 : (116 : Nat) ∈ (repS c n).cps.toList := by rw [z]; decide +kernel
  have := mem_rep h1
  have := mem_rep h2
  omega
theorem w0_no {t m : Nat} {e : Str} (he : e ∈ ends3) (hm : m ≤ 24) : WordsNo ((List.range m).map (w0 t e)) := by
  refine ⟨w0_ok he hm, fun x hx => ?_⟩
  obtain ⟨k, _, rfl⟩ := List.mem_map.mp hx
  have l1 : ∀ c : Nat, (⟨#[c]⟩ : Str).length = 1 := fun _ => rfl
  unfold ends3 at he
  rcases List.mem_cons.mp he with rfl | he
  · exact nob_len (by unfold w0; rw [len_app, l1]; decide +kernel)
  rcases List.mem_cons.mp he with rfl | he
  · exact nob_len (by unfold w0; rw [len_app, l1]; decide +kernel)
  rcases List.mem_cons.mp he with rfl | he
  · exact nob_om _
  · cases he
theorem w1_no {t m : Nat} (hm : m ≤ 24) : WordsNo ((List.range m).map (w1 t)) := by
  refine ⟨w1_ok hm, fun x hx => ?_⟩
  obtain ⟨k, _, rfl⟩ := List.mem_map.mp hx
  exact nob_rep _ _
theorem w2_no {t s m : Nat} (ht : t < 26) (hs : s = 1 ∨ s = 3 ∨ s = 5 ∨ s = 7) (hm : m ≤ 24) : WordsNo ((List.range m).map (w2 t s m)) := by
  refine ⟨w2_ok ht hs hm, fun x hx => ?_⟩
  obtain ⟨k, _, rfl⟩ := List.mem_map.mp hx
  have l1 : ∀ c : Nat, (⟨#[c]⟩ : Str).length = 1 := fun _ => rfl
  exact nob_len (by unfold w2; rw [len_app, l1, len_rep]; omega)
theorem some24_no : ∀ x ∈ some24, NoB x := by decide +kernel
theorem w3_no {t m : Nat} (hm : m ≤ 24) : WordsNo ((List.range m).map (w3 t)) := by
  refine ⟨w3_ok hm, fun x hx => ?_⟩
  have hl : some24.length = 24 := rfl
  obtain ⟨k, _, rfl⟩ := List.mem_map.mp hx
  have hk : (t + k) % 24 < some24.length := by rw [hl]; omega
  unfold w3
  rw [getD_at hk]
  exact some24_no _ (List.getElem_mem hk)
section
variable {P : Program} {w : World} {K : PySem.W.Frag} {mg : Str → Option Value} {base : Heap}
/-! ### _law_words -/
abbrev nWords : List Str := ["tape", "many", "letters", "way", "turn", "ends", "step", "found", "k", "first", "some"]
def spWords : Sp := fun vs H Q _ => ∃ (t : Addr) (m : Int), vs = [.ref t, .int m] ∧ Tape H t ∧ 1 ≤ m ∧ m ≤ 24 ∧ ∀ (p : Addr) (ws : List Str) (H' : Hp), H p = none → (ws.length : Int) = m → WordsNo ws → But t H H' → Tape H' t → H' p = some (.lst (ws.map V.str)) → Q (.ref p) H'
theorem sc_words : FnScope nWords ["tape", "many"] (defScope s_law_words) := ⟨rfl, rfl, rfl, by decide +kernel, rfl, by decide +kernel, by decide +kernel⟩
set_option maxHeartbeats 1200000 in
theorem c_words (B : Blt mg) (D : Dfn K mg "_law_words" s_law_words) (C : Cal P w K mg base 1 "_law_digit" ["tape", "many"] spDigit) : Cal P w K mg base 2 "_law_words" ["tape", "many"] spWords := by
  refine D.cal (fun _ _ _ _ _ _ us hl => match us, hl with | [_, _], _ => rfl) fun f fd F => F.ok sc_words (fun vs H Q E h => ?_) (fun cdv A outer s H vs Q E hr h => ?_)
  · obtain ⟨a, ns, rfl, _⟩ := h
    rfl
  · obtain ⟨t, m, rfl, hT, h1, h2, q⟩ := h
    have nd := sc_words.nd
    refine ⟨_, (bs_c (bs_set 2 nd b_str)
      (bs_c (bs_set 3 nd (b_cal C hr (ba_c (b_v 0) (ba_c b_int ba_nil))))
      (bs_c (bs_set 4 nd (b_cal C hr (ba_c (b_v 0) (ba_c b_int ba_nil))))
      (bs_c (bs_if (bt_cmpR op_eq (b_v 3) b_int (nomark _)) (bs_c (bs_set 5 nd (b_ix ix_list (b_lst (ba_c b_str (ba_c b_str (ba_c b_str ba_nil)))) (b_cal C hr (ba_c (b_v 0) (ba_c b_int ba_nil)))))
      (bs_one (bs_ret (b_c 8 nWords (defScope s_law_words) nd (bi_range1 B.range (ba_c (b_v 1) ba_nil)) (fun _ _ _ _ _ => bts_nil) (fun _ _ _ _ _ => (b_op op_add_str (b_ix ix_str (b_v 2) (b_op op_mod (b_op op_add (b_v 4) (b_v 8)) b_int)) (b_v 5))) (fun _ _ _ _ _ => (bg_n 8 nd)))))) bs_nil)
      (bs_c (bs_if (bt_cmpR op_eq (b_v 3) b_int (nomark _)) (bs_one (bs_ret (b_c 8 nWords (defScope s_law_words) nd (bi_range1 B.range (ba_c (b_v 1) ba_nil)) (fun _ _ _ _ _ => bts_nil) (fun _ _ _ _ _ => (b_op op_mul_sign (b_ix ix_str (b_v 2) (b_op op_mod (b_op op_add (b_v 4) (b_op op_fdiv (b_v 8) b_int)) b_int)) (b_op op_add b_int (b_op op_mod (b_v 8) b_int)))) (fun _ _ _ _ _ => (bg_n 8 nd))))) bs_nil)
      (bs_c (bs_if (bt_cmpR op_eq (b_v 3) b_int (nomark _)) (bs_c (bs_set 6 nd (b_ix ix_list (b_lst (ba_c b_int (ba_c b_int (ba_c b_int (ba_c b_int ba_nil))))) (b_cal C hr (ba_c (b_v 0) (ba_c b_int ba_nil)))))
      (bs_c (bs_set 7 nd (b_lst ba_nil))
      (bs_c (bs_for (bi_range1 B.range (ba_c (b_v 1) ba_nil)) (bg_n 8 nd) (bs_c (bs_set 9 nd (b_ix ix_str (b_v 2) (b_op op_mod (b_op op_add (b_v 4) (b_op op_mul (b_v 6) (b_op op_sub (b_v 1) (b_v 8)))) b_int)))
      (bs_one (bs_expr (b_append (b_v 7) (ba_c (b_op op_add_str (b_v 9) (b_op op_mul_sign (b_ix ix_str (b_v 2) (b_v 4)) (b_op op_mod (b_v 8) b_int))) ba_nil))))))
      (bs_one (bs_ret (b_v 7)))))) bs_nil)
      (bs_c (bs_set 10 nd (b_lst (ba_c b_str (ba_c b_str (ba_c b_str (ba_c b_str (ba_c b_str (ba_c b_str (ba_c b_str (ba_c b_str (ba_c b_str (ba_c b_str (ba_c b_str (ba_c b_str ba_nil))))))))))))))
      (bs_c (bs_set 10 nd (b_op op_cat (b_v 10) (b_lst (ba_c b_str (ba_c b_str (ba_c b_str (ba_c b_str (ba_c b_str (ba_c b_str (ba_c b_str (ba_c b_str (ba_c b_str (ba_c b_str (ba_c b_str (ba_c b_str ba_nil)))))))))))))))
      (bs_one (bs_ret (b_c 8 nWords (defScope s_law_words) nd (bi_range1 B.range (ba_c (b_v 1) ba_nil)) (fun _ _ _ _ _ => bts_nil) (fun _ _ _ _ _ => (b_ix (r := rIxL K) ix_list (b_v 10) (b_op op_mod (b_op op_add (b_v 4) (b_v 8)) b_int))) (fun _ _ _ _ _ => (bg_n 8 nd))))))))))))).o, ?_⟩
    have b4 : (0 : Int) < 4 := by decide
    have b26 : (0 : Int) < 26 := by decide
    have b3 : (0 : Int) < 3 := by decide
    have b8 : (0 : Int) < 8 := by decide
    have b24 : (0 : Int) < 24 := by decide
    have c26 : (26 : Int) < 1073741824 := by decide
    -- way, turn
    refine ⟨_, rfl, t, 4, rfl, hT, b4, by decide, fun way n1 hw0 hw1 => ?_⟩
    refine ⟨_, rfl, t, 26, rfl, ⟨n1, upd_same⟩, b26, by decide, fun turn n2 ht0 ht1 => ?_⟩
    rw [upd_upd]
    have hm : ((m.toNat : Nat) : Int) = m := by omega
    have fin : ∀ (Hc : Hp) (f : Nat → Str) (D : Addr), But t H Hc → Tape Hc t → H D = none → Hc D = none → WordsNo ((List.range m.toNat).map f) → Q (.ref D) (upd Hc D (.lst (((List.range m.toNat).map f).map V.str))) := by
      intro Hc f D hb hT hD0 hD hw
      have htD : t ≠ D := by obtain ⟨n, hn⟩ := hT; exact ne_of_none hn hD
      refine q D _ _ hD0 (by rw [List.length_map, List.length_range]; exact hm) hw (hb.trans (But.new hD)) ?_ upd_same
      obtain ⟨n, hn⟩ := hT
      exact ⟨n, by rw [upd_ne htD]; exact hn⟩
    have hH1 : But t H (upd H t (.lst [.int n2])) := But.upd _ _ _
    have hT1 : Tape (upd H t (.lst [.int n2])) t := ⟨n2, upd_same⟩
    have fr : ∀ {Hc : Hp} {D : Addr}, But t H Hc → Tape Hc t → Hc D = none → H D = none := fun {Hc D} hb hT hD => hb.free (by obtain ⟨n, hn⟩ := hT; exact (ne_of_none hn hD).symm) hD
    have ll : letters.length ≤ sizeLine := by rw [letters_len]; exact lit 26
    generalize hHc : upd H t (.lst [.int n2]) = H1 at hH1 hT1
    clear hHc
    refine ⟨_, rfl, rfl, _, rfl, ite2 (fun hw => ?_) (fun hw => ?_)⟩
    · refine ⟨lit 3, fun p hp => ?_⟩
      have htp : t ≠ p := by obtain ⟨n, hn⟩ := hT1; exact ne_of_none hn hp
      obtain ⟨n1', hn1⟩ := id hT1
      refine ⟨_, rfl, t, 3, rfl, ⟨n1', by rw [upd_ne htp]; exact hn1⟩, b3, by decide, fun e n3 he0 he1 => ?_⟩
      obtain ⟨v, hv1, hv2⟩ := atI_of (xs := ends3.map V.str) he0 he1
      obtain ⟨x, hx, rfl⟩ := get_map hv1
      have hx : x ∈ ends3 := List.mem_of_getElem? hx
      refine ⟨p, _, e, _, rfl, rfl, SqL.of (by rw [upd_ne htp.symm]; exact upd_same), hv2, ?_⟩
      have hb2 : But t H (upd (upd H1 p (.lst [V.str "", V.str "a", V.str "omelons"])) t (.lst [.int n3])) := hH1.trans ((But.new hp).trans (But.upd _ _ _))
      have hT2 : Tape (upd (upd H1 p (.lst [V.str "", V.str "a", V.str "omelons"])) t (.lst [.int n3])) t := ⟨n3, upd_same⟩
      refine ⟨_, rfl, m, rfl, by omega, by omega, fun D hD => ?_⟩
      generalize upd (upd H1 p (.lst [V.str "", V.str "a", V.str "omelons"])) t (.lst [.int n3]) = Hc at hb2 hT2 hD
      refine lc_range (lo := 0) (n := m.toNat) (fun i H2 => H2 = upd Hc D (.lst (((List.range i).map (w0 turn.toNat x)).map V.str))) rfl ?_ ?_
      · rintro i H2 hi rfl
        refine ⟨rfl, yes ?_⟩
        have j0 : 0 ≤ (turn + (0 + (i : Int))) % 26 := Int.emod_nonneg _ (by decide)
        have j1 : (turn + (0 + (i : Int))) % 26 < 26 := Int.emod_lt_of_pos _ b26
        refine ⟨_, rfl, _, rfl, _, rfl, _, _, rfl, rfl, _, _, rfl, rfl, b26, _, _, _, rfl, rfl, ll, letters_at j0 j1, _, rfl, _, _, rfl, rfl, ?_, ?_⟩
        · have := (ends3_ok x hx).1
          have l1 : (⟨#[97 + ((turn + (0 + (i : Int))) % 26).toNat]⟩ : Str).length = 1 := rfl
          rw [l1]
          exact small100 (by omega)
        · refine ⟨_, upd_same, len_lt hi (by omega), ?_⟩
          have e1 : 97 + ((turn + (0 + (i : Int))) % 26).toNat = 97 + (turn.toNat + i) % 26 := by omega
          show upd (upd Hc D _) D _ = _
          rw [upd_upd, grow, e1]
          rfl
      · rintro H2 rfl
        exact fin Hc _ D hb2 hT2 (fr hb2 hT2 hD) hD (w0_no hx (by omega))
    refine ⟨_, rfl, rfl, _, rfl, ite2 (fun hw => ?_) (fun hw => ?_)⟩
    · refine ⟨_, rfl, m, rfl, by omega, by omega, fun D hD => ?_⟩
      refine lc_range (lo := 0) (n := m.toNat) (fun i H2 => H2 = upd H1 D (.lst (((List.range i).map (w1 turn.toNat)).map V.str))) rfl ?_ ?_
      · rintro i H2 hi rfl
        refine ⟨rfl, yes ?_⟩
        have j0 : 0 ≤ (turn + (0 + (i : Int)) / 8) % 26 := Int.emod_nonneg _ (by decide)
        have j1 : (turn + (0 + (i : Int)) / 8) % 26 < 26 := Int.emod_lt_of_pos _ b26
        refine ⟨_, rfl, _, rfl, _, rfl, _, _, rfl, rfl, ⟨b8, by decide⟩, _, _, rfl, rfl, _, _, rfl, rfl, b26, _, _, _, rfl, rfl, ll, letters_at j0 j1, _, rfl, _, _, rfl, rfl, b8, _, _, rfl, rfl, _, _, rfl, rfl, by omega, by omega, ?_⟩
        refine ⟨_, upd_same, len_lt hi (by omega), ?_⟩
        have e1 : 97 + ((turn + (0 + (i : Int)) / 8) % 26).toNat = 97 + (turn.toNat + i / 8) % 26 := by omega
        have e2 : (1 + (0 + (i : Int)) % 8).toNat = 1 + i % 8 := by omega
        show upd (upd H1 D _) D _ = _
        rw [upd_upd, grow, e1, e2]
        rfl
      · rintro H2 rfl
        exact fin H1 _ D hH1 hT1 (fr hH1 hT1 hD) hD (w1_no (by omega))
    refine ⟨_, rfl, rfl, _, rfl, ite2 (fun hw => ?_) (fun hw => ?_)⟩
    · refine ⟨lit 4, fun p hp => ?_⟩
      have htp : t ≠ p := by obtain ⟨n, hn⟩ := hT1; exact ne_of_none hn hp
      obtain ⟨n1', hn1⟩ := id hT1
      refine ⟨_, rfl, t, 4, rfl, ⟨n1', by rw [upd_ne htp]; exact hn1⟩, b4, by decide, fun e n3 he0 he1 => ?_⟩
      obtain ⟨v, hv1, hv2⟩ := atI_of (xs := ([1, 3, 5, 7] : List Int).map V.int) he0 (by simpa using he1)
      obtain ⟨st, hx, rfl⟩ := get_map hv1
      have hx : st ∈ ([1, 3, 5, 7] : List Int) := List.mem_of_getElem? hx
      have hst : st.toNat = 1 ∨ st.toNat = 3 ∨ st.toNat = 5 ∨ st.toNat = 7 := by
        simp at hx
        omega
      have hst1 : 1 ≤ st ∧ st ≤ 7 := by
        simp at hx
        omega
      refine ⟨p, _, e, _, rfl, rfl, SqL.of (by rw [upd_ne htp.symm]; exact upd_same), hv2, ?_⟩
      have hb2 : But t H (upd (upd H1 p (.lst [V.int 1, V.int 3, V.int 5, V.int 7])) t (.lst [.int n3])) := hH1.trans ((But.new hp).trans (But.upd _ _ _))
      have hT2 : Tape (upd (upd H1 p (.lst [V.int 1, V.int 3, V.int 5, V.int 7])) t (.lst [.int n3])) t := ⟨n3, upd_same⟩
      refine ⟨lit 0, fun D hD => ?_⟩
      generalize upd (upd H1 p (.lst [V.int 1, V.int 3, V.int 5, V.int 7])) t (.lst [.int n3]) = Hc at hb2 hT2 hD
      refine ⟨_, rfl, m, rfl, by omega, by omega, for_range (lo := 0) (n := m.toNat) (fun i σ H2 => ∃ v8 v9 : Option V, σ = [some (.ref t), some (.int m), some (.str letters), some (.int way), some (.int turn), none, some (.int st), some (.ref D), v8, v9, none] ∧ H2 = upd Hc D (.lst (((List.range i).map (w2 turn.toNat st.toNat m.toNat)).map V.str))) ?_ ?_ ?_⟩
      · exact ⟨_, _, rfl, rfl⟩
      · rintro i σ H2 hi ⟨v8, v9, rfl, rfl⟩
        have j0 : 0 ≤ (turn + st * (m - (0 + (i : Int)))) % 26 := Int.emod_nonneg _ (by decide)
        have j1 : (turn + st * (m - (0 + (i : Int)))) % 26 < 26 := Int.emod_lt_of_pos _ b26
        refine ⟨_, rfl, _, rfl, _, rfl, _, rfl, _, rfl, _, _, rfl, rfl, _, _, rfl, rfl, .inl ⟨by omega, by omega⟩, _, _, rfl, rfl, _, _, rfl, rfl, b26, _, _, _, rfl, rfl, ll, letters_at j0 j1, ?_⟩
        refine ⟨_, rfl, .inl ⟨rfl, _, SqL.of upd_same⟩, _, rfl, _, rfl, _, rfl, _, _, _, rfl, rfl, ll, letters_at ht0 ht1, _, rfl, _, _, rfl, rfl, b3, _, _, rfl, rfl, by omega, by omega, _, _, rfl, rfl, ?_, ?_⟩
        · rw [len_rep]
          have l1 : (⟨#[97 + ((turn + st * (m - (0 + (i : Int)))) % 26).toNat]⟩ : Str).length = 1 := rfl
          rw [l1]
          exact small100 (by omega)
        · refine ⟨D, _, _, rfl, rfl, upd_same, len_lt hi (by omega), ?_⟩
          refine ⟨_, _, rfl, ?_⟩
          have e1 : 97 + ((turn + st * (m - (0 + (i : Int)))) % 26).toNat = 97 + (turn.toNat + st.toNat * (m.toNat - i)) % 26 := by
            simp at hx
            rcases hx with rfl | rfl | rfl | rfl <;> (simp; omega)
          have e2 : ((0 + (i : Int)) % 3).toNat = i % 3 := by omega
          show upd (upd Hc D _) D _ = _
          rw [upd_upd, grow, e1, e2]
          rfl
      · rintro σ H2 ⟨v8, v9, rfl, rfl⟩
        exact ⟨_, rfl, fin Hc _ D hb2 hT2 (fr hb2 hT2 hD) hD (w2_no (by omega) hst (by omega))⟩
    · refine ⟨lit 12, fun p1 hp1 => ?_⟩
      refine ⟨_, rfl, lit 12, fun p2 hp2 => ?_⟩
      refine ⟨p1, p2, (some24.take 12).map V.str, (some24.drop 12).map V.str, rfl, rfl, ?_, upd_same, lit 24, fun p3 hp3 => ?_⟩
      · rw [upd_ne (ne_of_none upd_same hp2)]
        exact upd_same
      have ecat : (some24.take 12).map V.str ++ (some24.drop 12).map V.str = some24.map V.str := rfl
      rw [ecat]
      have hb2 := ((hH1.trans (But.new hp1)).trans (But.new hp2)).trans (But.new (o := .lst (some24.map V.str)) hp3)
      have hT2 := ((hT1.new hp1).new hp2).new (o := .lst (some24.map V.str)) hp3
      refine ⟨_, rfl, m, rfl, by omega, by omega, fun D hD => ?_⟩
      obtain ⟨Hc, eHc, hS⟩ : ∃ Hc, Hc = upd (upd (upd H1 p1 (.lst ((some24.take 12).map V.str))) p2 (.lst ((some24.drop 12).map V.str))) p3 (.lst (some24.map V.str)) ∧ Hc p3 = some (.lst (some24.map V.str)) := ⟨_, rfl, upd_same⟩
      have hb2 : But t H Hc := by rw [eHc]; exact hb2
      have hT2 : Tape Hc t := by rw [eHc]; exact hT2
      have hD : Hc D = none := by rw [eHc]; exact hD
      show ∃ W : Nat → Nat → Hp → Prop, (∃ m, W 0 m (upd (upd (upd (upd H1 p1 (.lst ((some24.take 12).map V.str))) p2 (.lst ((some24.drop 12).map V.str))) p3 (.lst (some24.map V.str))) D (.lst []))) ∧ _
      rw [← eHc]
      have h3D : p3 ≠ D := ne_of_none hS hD
      refine lc_range (lo := 0) (n := m.toNat) (fun i H2 => H2 = upd Hc D (.lst (((List.range i).map (w3 turn.toNat)).map V.str))) rfl ?_ ?_
      · rintro i H2 hi rfl
        refine ⟨rfl, yes ?_⟩
        have j0 : 0 ≤ (turn + (0 + (i : Int))) % 24 := Int.emod_nonneg _ (by decide)
        have j1 : (turn + (0 + (i : Int))) % 24 < 24 := Int.emod_lt_of_pos _ b24
        obtain ⟨v, hv1, hv2⟩ := atI_of (xs := some24.map V.str) j0 j1
        obtain ⟨x, hx, rfl⟩ := get_map hv1
        refine ⟨_, rfl, _, rfl, _, rfl, _, _, rfl, rfl, _, _, rfl, rfl, b24, p3, _, _, _, rfl, rfl, SqL.of (by rw [upd_ne h3D]; exact hS), hv2, ?_⟩
        refine ⟨_, upd_same, len_lt hi (by omega), ?_⟩
        have e1 : ((turn + (0 + (i : Int))) % 24).toNat = (turn.toNat + i) % 24 := by omega
        have e2 : w3 turn.toNat i = x := by
          unfold w3
          rw [List.getD_eq_getElem?_getD, ← e1, hx]
          rfl
        show upd (upd Hc D _) D _ = _
        rw [upd_upd, grow, e2]
      · rintro H2 rfl
        exact fin Hc _ D hb2 hT2 (fr hb2 hT2 hD) hD (w3_no (by omega))
end


end Hs
namespace Hs
open PySem PySem.Spec PyProof.Rows L2
section
variable {P : Program} {w : World} {K : PySem.W.Frag} {mg : Str → Option Value} {base : Heap}
/-! ### _law_number -/
abbrev nNumber : List Str := ["tape"]
def spNumber : Sp := fun vs H Q _ => ∃ (t : Addr), vs = [.ref t] ∧ Tape H t ∧ ∀ (k : Int) (H' : Hp), 1 ≤ k → k ≤ 9 → But t H H' → Tape H' t → Q (.int k) H'
theorem sc_number : FnScope nNumber ["tape"] (defScope s_law_number) := ⟨rfl, rfl, rfl, by decide +kernel, rfl, by decide +kernel, by decide +kernel⟩
theorem c_number (D : Dfn K mg "_law_number" s_law_number) (C : Cal P w K mg base 1 "_law_digit" ["tape", "many"] spDigit) : Cal P w K mg base 2 "_law_number" ["tape"] spNumber := by
  refine D.cal (fun _ _ _ _ _ _ us hl => match us, hl with | [_], _ => rfl) fun f fd F => F.ok sc_number (fun vs H Q E h => ?_) (fun cdv A outer s H vs Q E hr h => ?_)
  · obtain ⟨a, rfl, _⟩ := h
    rfl
  · obtain ⟨t, rfl, hT, q⟩ := h
    have nd := sc_number.nd
    refine ⟨_, (bs_one (bs_ret (b_ix ix_list (b_lst (ba_c b_int (ba_c b_int (ba_c b_int (ba_c b_int (ba_c (b_op op_add b_int (b_cal C hr (ba_c (b_v 0) (ba_c b_int ba_nil)))) ba_nil)))))) (b_cal C hr (ba_c (b_v 0) (ba_c b_int ba_nil)))))).o, ?_⟩
    refine ⟨_, rfl, t, 9, rfl, hT, by decide, by decide, fun d n1 hd0 hd1 => ⟨_, _, rfl, rfl, lit 5, fun p hp => ?_⟩⟩
    refine ⟨_, rfl, t, 5, rfl, Tape.upd.new hp, by decide, by decide, fun e n2 he0 he1 => ?_⟩
    obtain ⟨v, hv1, hv2⟩ := atI_of (xs := ([1, 1, 2, 3, 1 + d] : List Int).map V.int) he0 he1
    obtain ⟨k, hk, rfl⟩ := get_map hv1
    have hk : k ∈ ([1, 1, 2, 3, 1 + d] : List Int) := List.mem_of_getElem? hk
    refine ⟨p, _, e, _, rfl, rfl, SqL.of (by rw [upd_ne (Tape.fresh Tape.upd hp).symm]; exact upd_same), hv2, ?_⟩
    simp at hk
    exact q k _ (by omega) (by omega) ((But.upd _ _ _).trans ((But.new hp).trans (But.upd _ _ _))) Tape.upd
/-! ### _law_recipe -/
end


end Hs
namespace Hs
open PySem PySem.Spec PyProof.Rows L2
section
variable {P : Program} {w : World} {K : PySem.W.Frag} {mg : Str → Option Value} {base : Heap}
/-! ### _law_again -/
end


end Hs
namespace Hs
open PySem PySem.Spec PyProof.Rows L2
/-! ### _law_book -/
structure Grown (ws : List Str) (bk : Book) : Prop where
  names : bk.map (·.name) = ws.take bk.length
  how : ∀ (i : Nat) (a : Part), bk[i]? = some a → RecOk (ws.take i) a.how
  size : ∀ a ∈ bk, 1 ≤ a.size ∧ a.size ≤ 9
  cost : ∀ a ∈ bk, 1 ≤ a.cost ∧ a.cost ≤ 9
theorem Grown.snoc {ws : List Str} {bk : Book} {a : Part} (g : Grown ws bk) (h1 : ws[bk.length]? = some a.name) (h2 : RecOk (ws.take bk.length) a.how) (h3 : 1 ≤ a.size ∧ a.size ≤ 9) (h4 : 1 ≤ a.cost ∧ a.cost ≤ 9) : Grown ws (bk ++ [a]) := by
  refine ⟨?_, fun i b hb => ?_, fun b hb => ?_, fun b hb => ?_⟩
  · rw [List.map_append, g.names, List.length_append, List.length_singleton, List.take_add_one, h1]
    rfl
  · by_cases hi : i < bk.length
    · rw [List.getElem?_append_left hi] at hb
      exact g.how i b hb
    · rw [List.getElem?_append_right (by omega)] at hb
      have : i - bk.length = 0 := by
        have := (List.getElem?_eq_some_iff.mp hb).1
        simp at this
        omega
      rw [this] at hb
      have e : i = bk.length := by omega
      rw [e]
      cases hb
      exact h2
  · rcases List.mem_append.mp hb with h | h
    · exact g.size b h
    · rw [List.mem_singleton.mp h]; exact h3
  · rcases List.mem_append.mp hb with h | h
    · exact g.cost b h
    · rw [List.mem_singleton.mp h]; exact h4
theorem Grown.ok {ws : List Str} {bk : Book} (g : Grown ws bk) (W : WordsOk ws) : BookOk bk := by
  have hm : ∀ a ∈ bk, a.name ∈ ws := fun a ha => by
    have : a.name ∈ bk.map (·.name) := List.mem_map.mpr ⟨a, ha, rfl⟩
    rw [g.names] at this
    exact List.mem_of_mem_take this
  refine ⟨fun a ha => W.word _ (hm a ha), by rw [g.names]; exact W.nd.sublist (List.take_sublist _ _), fun i a ha => ?_, g.size, g.cost⟩
  have hi := (List.getElem?_eq_some_iff.mp ha).1
  have e : (bk.take i).map (·.name) = ws.take i := by
    rw [List.map_take, g.names, List.take_take, Nat.min_eq_left (by omega)]
  rw [e]
  exact g.how i a ha
theorem Grown.nob {ws : List Str} {bk : Book} (g : Grown ws bk) (W : WordsNo ws) : ∀ a ∈ bk, NoB a.name := fun a ha => by
  have : a.name ∈ bk.map (·.name) := List.mem_map.mpr ⟨a, ha, rfl⟩
  rw [g.names] at this
  exact W.nob _ (List.mem_of_mem_take this)
theorem PartsAt.snoc {H : Hp} {ps : List Addr} {bk : Book} {p : Addr} {a : Part} (h : PartsAt H ps bk) (hp : PartAt H p a) : PartsAt H (ps ++ [p]) (bk ++ [a]) := by
  refine ⟨by rw [List.length_append, List.length_append, h.1]; rfl, fun i q b h1 h2 => ?_⟩
  by_cases hi : i < ps.length
  · rw [List.getElem?_append_left hi] at h1
    rw [List.getElem?_append_left (by rw [← h.1]; exact hi)] at h2
    exact h.2 i q b h1 h2
  · rw [List.getElem?_append_right (by omega)] at h1
    rw [List.getElem?_append_right (by rw [← h.1]; omega)] at h2
    have : i - ps.length = 0 := by
      have := (List.getElem?_eq_some_iff.mp h1).1
      simp at this
      omega
    rw [this] at h1
    rw [← h.1, this] at h2
    cases h1
    cases h2
    exact hp
section
variable {P : Program} {w : World} {K : PySem.W.Frag} {mg : Str → Option Value} {base : Heap}
end


end Hs
namespace Hs
open PySem PySem.Spec PyProof.Rows L2
def Rec.names : Rec → List Str
  | .leaf _ => []
  | .op _ ns => ns
theorem inV_strs (x : Str) : ∀ ns : List Str, inV (.str x) (ns.map V.str) = decide (x ∈ ns)
  | [] => by simp [inV]
  | y :: r => by
    have ih := inV_strs x r
    unfold inV at ih ⊢
    rw [List.map_cons, List.any_cons, ih]
    have : eqV (.str y) (.str x) = decide (y = x) := by
      unfold eqV
      by_cases h : y = x <;> simp [h]
    rw [this]
    by_cases h : x = y
    · subst h; simp
    · have h' : ¬ y = x := fun z => h z.symm
      simp [h, h']
theorem flat_strs : ∀ ns : List Str, (ns.map V.str).all flatV = true
  | [] => rfl
  | y :: r => by rw [List.map_cons, List.all_cons, flat_strs r]; rfl
theorem need_ahead {bk : Book} (h : BookOk bk) {i : Nat} {a : Part} (ha : bk[i]? = some a) {x : Str} (hx : x ∈ a.how.names) : x ∈ (bk.take i).map (·.name) := by
  have := h.how i a ha
  cases e : a.how with
  | leaf n => rw [e] at hx; simp [Rec.names] at hx
  | op w us => rw [e] at hx this; exact this.2 x hx
theorem name_new {bk : Book} (h : BookOk bk) {i : Nat} {a : Part} (ha : bk[i]? = some a) : a.name ∉ (bk.take i).map (·.name) := by
  intro hm
  have hi := (List.getElem?_eq_some_iff.mp ha).1
  rw [List.map_take] at hm
  obtain ⟨j, hj⟩ := List.getElem?_of_mem hm
  rw [List.getElem?_take] at hj
  split at hj
  · have h2 : (bk.map (·.name))[i]? = some a.name := by rw [List.getElem?_map, ha]; rfl
    have := nd_ix h.nd hj h2
    omega
  · cases hj
end Hs

namespace Hs
open PySem PySem.Spec PyProof.Rows
/-! ### steps of a tree, in words of this text -/
section
variable {M : Model} {A : Around} {E : Value → Shared → Prop} {s : Shared} {α β : Type} {Q : β → Shared → Prop}
theorem thenB {m : Sem α} {k : α → Sem β} {P : α → Shared → Prop} (h : wpAny M A m P E s) (g : ∀ a s', P a s' → wpAny M A (k a) Q E s') : wpAny M A (m >>= k) Q E s := wpAny_bind (wpAny_mono h g fun _ _ z => z)
end
section
variable {prog : Program} {w : World} {A : Around} {E : Value → Shared → Prop} {s : Shared} {β : Type} {Q : β → Shared → Prop}
end
end Hs

namespace L2
open PySem PySem.Spec PyProof.Rows
/-- what an exception of a block's turn leaves -/
abbrev BkX (prog : Program) (w : World) (A : Around) (env : Env) (R : Result → Shared → Prop) : Value → Shared → Prop := notedBy (model prog w) A env fun e t => R (.error e) t
/-- the tests of a block -/
abbrev bkTests (ifs : List Expr) (env : Env) : Sem Bool := forIn ifs true fun c r => if r = true then do { let ok ← isTrue c env (eval c env); pure (ForInStep.yield ok) } else pure (ForInStep.yield r)
abbrev Less (I : Nat → Shared → Prop) (n : Nat) (t : Shared) : Prop := ∃ m, m < n ∧ I m t
theorem compLoop_anyD {prog : Program} {w : World} {A : Around} {R : Result → Shared → Prop} {s : Shared} {kx vx target iter : Expr} {ifs : List Expr} {scope : Scope} {pos : Pos} {it : Value} {D : Addr} {env : Env} (I : Nat → Shared → Prop)
    (turn : ∀ n s, I n s → wpAny (model prog w) A (pyNext it) (fun r t1 => match r with
      | none => R (.ok .next) t1
      | some v => wpAny (model prog w) A (letOwnedTupleGo target it v) (fun _ t2 => wpAny (model prog w) A (assign target env v) (fun _ t3 => wpAny (model prog w) A (bkTests ifs env) (fun ok t4 =>
          if ok = true then wpAny (model prog w) A (eval kx env) (fun kv t5 => wpAny (model prog w) A (eval vx env) (fun vv t6 => wpAny (model prog w) A (dictSet D kv vv) (fun _ t7 => Less I n t7) (BkX prog w A env R) t6) (BkX prog w A env R) t5) (BkX prog w A env R) t4
          else Less I n t4) (BkX prog w A env R) t3) (BkX prog w A env R) t2) (BkX prog w A env R) t1) (BkX prog w A env R) s)
    (n : Nat) (h : I n s) : codeAny (model prog w) A (.compLoop (.DictComp kx vx [⟨target, iter, ifs, 0⟩] scope pos) 0 it (.ref D) env) R s := by
  refine codeAny_loop rfl I (fun n s hI => ?_) n h
  refine (wpAny_noted ?_ : wpAny _ A ((compTurn (.DictComp kx vx [⟨target, iter, ifs, 0⟩] scope pos) 0 it (.ref D) env).onRaise _) _ _ s)
  rw [compTurn_dict]
  refine wpAny_bind (wpAny_standAt (Hs.thenB (turn n s hI) fun r t1 h1 => ?_))
  cases r with
  | none => exact wpAny_pure h1
  | some v =>
    refine Hs.thenB h1 fun _ t2 h2 => Hs.thenB h2 fun _ t3 h3 => Hs.thenB h3 fun ok t4 h4 => ?_
    cases ok with
    | false => exact wpAny_pure ⟨rfl, h4⟩
    | true =>
      refine wpAny_bind (Hs.thenB h4 fun kv t5 h5 => ?_)
      refine wpAny_bind (wpAny_holding (wpAny_mono h5 (fun vv t6 h6 => ?_) fun _ _ z => z))
      exact wpAny_bind (wpAny_standAt (wpAny_holding (wpAny_mono h6 (fun _ t7 h7 => wpAny_pure ⟨rfl, h7⟩) fun _ _ z => z)))

section
variable {X : Cx}
theorem d_dictSet {pins : List (Addr × Obj)} {σ : L2.St} {H H' : Hp} {s : Shared} {a : Addr} {y v : V} {u r : Value} {A : Around} {E : Value → Shared → Prop} {Q : Unit → Shared → Prop} (I : Inv X pins σ H s) (g : ∃ kvs k, H a = some (.dK kvs) ∧ y = kV k ∧ kvs.length < sizeLine ∧ H' = upd H a (.dK (putK kvs k v))) (ry : RelV y u) (rv : RelV v r) (h : ∀ s', Inv X pins σ H' s' → Q () s') :
    wpAny (model X.prog X.w) A (dictSet a u r) Q E s := by
  obtain ⟨kvs, k, e, ey, l, eH⟩ := g
  subst ey eH
  obtain ⟨z, hd, vs, rel, dd⟩ := dk_of I.hok e
  have hz : vs.length ≤ sizeLine := by rw [← rel.length]; exact z
  have hl : (putK kvs k v).length ≤ sizeLine := by have := length_putK kvs k v; omega
  refine wpAny_dictSet_pairs (kV_is ry) dd (fun h' dd' hs => h _ ?_) hz
  have he : ∃ q, h'.get? a = some q := let ⟨q, _, _, hq, _⟩ := dd'; ⟨q, hq⟩
  exact d_write I (by rw [e]; exact True.intro) hs he (dk_new hl hd (rel.put k rv) dd')
/-- {k: v for target in iter if ..}: D the new dict -/
def tDc (wi : TI) (g : TG) (tt : TT) (tk tv : TE) (vs : List Nat) : TE := fun σ H Q => wi σ H fun J H1 => ∀ D, H1 D = none → ∃ W : Nat → Nat → Hp → Prop, (∃ m, W 0 m (upd H1 D (.dK []))) ∧ ∀ i m H, W i m H →
  (J.stop i H ∧ Q (.ref D) H) ∨ (J.go i H ∧ ∃ Nx : Hp → Prop, (∀ H', Nx H' → ∃ m', m' < m ∧ W (i + 1) m' H') ∧ ∀ x H', J.yld i H x H' → g x (wipe σ vs) H' fun σ2 H2 => wipe σ2 vs = wipe σ vs ∧ tt σ2 H2 fun b H3 =>
    if b = true then tk σ2 H3 fun kk H4 => tv σ2 H4 fun vv H5 => ∃ H6, (∃ kvs k, H5 D = some (.dK kvs) ∧ kk = kV k ∧ kvs.length < sizeLine ∧ H6 = upd H5 D (.dK (putK kvs k vv))) ∧ Nx H6 else Nx H3)
theorem dc_core {pins : List (Addr × Obj)} {s : Shared} {σ : L2.St} {H : Hp} {Q : VK} {kx vx tg iter : Expr} {ifs : List Expr} {scope : Scope} {own : List (Str × Nat)} {pos pos' : Pos} {wi : TI} {g : TG} {tt : TT} {tk tv : TE} {use : Option (Value → Sem Unit)} {Qf : Value → Shared → Prop}
    (hc : X.calm = true) (hN : X.N.Nodup) (I : Inv X pins σ H s) (hi : PI X tg iter wi) (ok : BlkOk X.N X.env.scope scope own)
    (hg : ∀ (s : Shared) (H : Hp) (C : Addr) (cl : List (Str × Addr)) (fp : List Addr), PG (X.blk s H scope (compEnvC scope cl C X.env) fp) tg g) (ht : ∀ (s : Shared) (H : Hp) (C : Addr) (cl : List (Str × Addr)) (fp : List Addr), PTs (X.blk s H scope (compEnvC scope cl C X.env) fp) ifs tt)
    (hk : ∀ (s : Shared) (H : Hp) (C : Addr) (cl : List (Str × Addr)) (fp : List Addr), PE (X.blk s H scope (compEnvC scope cl C X.env) fp) kx tk) (hv : ∀ (s : Shared) (H : Hp) (C : Addr) (cl : List (Str × Addr)) (fp : List Addr), PE (X.blk s H scope (compEnvC scope cl C X.env) fp) vx tv) (hs : ∀ x, foldedSetIterable iter X.env x = pure x)
    (h : tDc wi g tt tk tv (own.map (·.2)) σ H Q)
    (hRR : ∀ D C s' m H', Inv X pins σ H' s' → Q (.ref D) H' → s'.heap.Ns C m → FpOk X pins H' C → compPost (model X.prog X.w) X.A X.xe use Qf (.ref D) C (.ok .next) s') :
    wpAny (model X.prog X.w) X.A (comprehension (.DictComp kx vx [⟨tg, iter, ifs, 0⟩] scope pos) scope X.env pos' newDict false (eval iter X.env) use) Qf X.xe s := by
  have hfree : ∀ y ∈ scope.names, y.2 = .free → ∃ c, X.env.cells.lookup y.1 = some c := fun y hy e => by
    rcases ok.free y hy e with k | k
    · exact I.ok.has _ (.inl k)
    · exact I.ok.has _ (.inr k)
  refine wpAny_comprehension_free (use := use) rfl hs (closure_ok hfree) ok.kind (fun y hy e => by rw [ok.uniq y hy, e])
    (thn (hi pins s σ H _ I h) fun xv s1 hx => thn hx fun itv s2 h2 => ?_)
  obtain ⟨it, fp, tn, J, H2, e, I2, T, st2, f2, q⟩ := h2
  subst e
  refine wpAny_newObj_type (newEnv_comp ?_) (by first | trivial | (show 0 ≤ sizeLine; decide) | decide | size_fits)
  generalize hD : s2.heap.objs.size = D
  have hDn : H2 D = none := I2.hok.fresh (Nat.le_of_eq hD)
  obtain ⟨W, ⟨m0, w0⟩, turn⟩ := q D hDn
  -- the new list
  generalize hs3 : ({ s2 with heap := s2.heap.push { cls := .type "dict", data := .dict #[] } } : Shared) = s3
  have I3 : Inv X pins σ (upd H2 D (.dK [])) s3 := by
    rw [← hs3]
    refine I2.laid (t' := s2.toks) (fun b o e => Heap.get?_push_of_some _ e) (Nat.le_of_eq hD) ?_
    rw [← hD]
    exact dk_empty s2.heap I2.big
  have h3 : s3.heap = s2.heap.push { cls := .type "dict", data := .dict #[] } := by rw [← hs3]
  have sz : ∀ b ∈ fp, b < s2.heap.objs.size := fun b hb => by
    obtain ⟨o, e, _⟩ := T.obj _ _ st2 b hb
    exact Heap.lt_size e
  have f3 : ∀ b ∈ fp, FpOk X pins (upd H2 D (.dK [])) b ∧ b < s3.heap.objs.size := fun b hb => by
    have hlt := sz b hb
    refine ⟨⟨?_, (f2 b hb).2⟩, by rw [h3, Heap.size_push]; exact Nat.lt_succ_of_lt hlt⟩
    rw [upd_ne (by rw [← hD]; exact Nat.ne_of_lt hlt)]
    exact (f2 b hb).1
  have st3 : tn 0 s3.heap := T.keep _ _ _ st2 fun b _ o e => by rw [h3]; exact Heap.get?_push_of_some _ e
  have I4 := block_start I3 ok hN f3
  have pg := hg s3 (upd H2 D (.dK [])) s3.heap.objs.size (cellsFrom (s3.heap.objs.size + 1) scope.names (cloFrom X.env.cells scope.names [])) fp
  have pt := ht s3 (upd H2 D (.dK [])) s3.heap.objs.size (cellsFrom (s3.heap.objs.size + 1) scope.names (cloFrom X.env.cells scope.names [])) fp
  have pk := hk s3 (upd H2 D (.dK [])) s3.heap.objs.size (cellsFrom (s3.heap.objs.size + 1) scope.names (cloFrom X.env.cells scope.names [])) fp
  have pv' := hv s3 (upd H2 D (.dK [])) s3.heap.objs.size (cellsFrom (s3.heap.objs.size + 1) scope.names (cloFrom X.env.cells scope.names [])) fp
  show codeAny _ _ (.compStart (.DictComp kx vx [⟨tg, iter, ifs, 0⟩] scope pos) 0 (.ref it) (.ref D) (compEnvC scope (cellsFrom (s3.heap.objs.size + 1) scope.names (cloFrom X.env.cells scope.names [])) s3.heap.objs.size X.env)) (compPost (model X.prog X.w) X.A X.xe use Qf (.ref D) s3.heap.objs.size) { s3 with heap := pushCells (s3.heap.push { cls := .type "dict", data := .dict #[] }) scope.names }
  have nfp : ∀ b ∈ fp, (upd H2 D (.dK [])) b = none := fun b hb => (f3 b hb).1.1
  generalize hce : compEnvC scope (cellsFrom (s3.heap.objs.size + 1) scope.names (cloFrom X.env.cells scope.names [])) s3.heap.objs.size X.env = ce at I4 pg pt pk pv' ⊢
  have cL : ce.locals = s3.heap.objs.size := by subst hce; rfl
  generalize hH3 : upd H2 D (.dK []) = H3 at I3 I4 pg pt pk pv' w0 nfp f3
  generalize hs4 : ({ s3 with heap := pushCells (s3.heap.push { cls := .type "dict", data := .dict #[] }) scope.names } : Shared) = s4 at I4 ⊢
  have st4 : tn 0 s4.heap := T.keep _ _ _ st3 fun b _ o e => by rw [← hs4]; exact pushCells_keeps _ _ _ _ (Heap.get?_push_of_some _ e)
  have stat : ∀ {σ' : L2.St} {H' : Hp} {s' : Shared}, Inv (X.blk s3 H3 scope ce fp) [] σ' H' s' → (∀ b ∈ fp, H' b = none) → ∀ b ∈ fp, FpOk (X.blk s3 H3 scope ce fp) [] H' b := fun {σ' H' s'} I' hn b hb =>
    ⟨hn b hb, (I'.ok.exf b hb).1, I'.ok.exfs b hb, .inl hb, fun x c e => (I'.ok.exf b hb).2 x c e, fun p hp => absurd (show p ∈ ([] : List (Addr × Obj)) ++ [] from hp) (by simp)⟩
  have loop : codeAny (model X.prog X.w) X.A (.compLoop (.DictComp kx vx [⟨tg, iter, ifs, 0⟩] scope pos) 0 (.ref it) (.ref D) ce) (compPost (model X.prog X.w) X.A X.xe use Qf (.ref D) s3.heap.objs.size) s4 := by
    refine compLoop_anyD (fun n s' => ∃ i H', Inv (X.blk s3 H3 scope ce fp) [] (wipe σ (own.map (·.2))) H' s' ∧ tn i s'.heap ∧ (∀ b ∈ fp, H' b = none) ∧ W i n H') ?_ m0 ⟨0, H3, I4, st4, nfp, w0⟩
    rintro n s5 ⟨i, H5, I5, st5, n5, w5⟩
    rcases turn i n H5 w5 with ⟨stop, qq⟩ | ⟨go, Nx, hNx, step⟩
    · have td := T.done (X.blk s3 H3 scope ce fp) rfl rfl rfl hc i [] s5 _ H5 (fun _ _ => False) I5 (stat I5 n5) st5 stop
      refine thnF td fun r s6 ⟨hr, I6⟩ => ?_
      subst hr
      -- back in the def's context
      have I7 : Inv X pins σ H5 s6 := I3.call' (ch := fp) I6.os I6.base I6.hok I6.bare fun b hb => ⟨(f3 b hb).1.2.2.2.1, (f3 b hb).1.2.1, (f3 b hb).1.2.2.2.2.1, (f3 b hb).1.2.2.2.2.2⟩
      have nC : H5 s3.heap.objs.size = none := by
        have z : H5 ce.locals = none := I6.free
        rw [cL] at z
        exact z
      obtain ⟨m, hn, _⟩ := I6.loc
      have hn : s6.heap.Ns ce.locals m := hn
      rw [cL] at hn
      exact hRR D s3.heap.objs.size s6 m H5 I7 qq hn (I3.fpOk (Nat.le_refl _) nC)
    · have ti := T.item (X.blk s3 H3 scope ce fp) rfl rfl rfl hc i [] s5 _ H5 (fun _ _ => False) I5 (stat I5 n5) st5 go
      refine thnF ti fun r s6 ⟨u, hr, h6⟩ => ?_
      subst hr
      refine thnF h6 fun _ s7 ⟨x, H7, I7, r7, y7, st7, n7⟩ => ?_
      have I7' := I7.pinned (stat I7 n7) (T.obj _ _ st7)
      refine thnF (pg _ s7 _ H7 x u _ I7' r7 (step x H7 y7)) fun _ s8 ⟨σ8, H8, I8, hw8, q8⟩ => ?_
      refine thnF (pt _ s8 σ8 H8 _ I8 q8) fun b s9 ⟨H9, I9, q9⟩ => ?_
      -- the turn's end
      have fin : ∀ {s' : Shared} {H' : Hp}, Inv (X.blk s3 H3 scope ce fp) ([] ++ pinsAt fp s7.heap) σ8 H' s' → Nx H' → ∃ m, m < n ∧ ∃ i H', Inv (X.blk s3 H3 scope ce fp) [] (wipe σ (own.map (·.2))) H' s' ∧ tn i s'.heap ∧ (∀ b ∈ fp, H' b = none) ∧ W i m H' := fun {s' H'} I' nx => by
        obtain ⟨m', hm, w'⟩ := hNx H' nx
        have pin' : ∀ b ∈ fp, ∀ o, s7.heap.get? b = some o → s'.heap.get? b = some o ∧ H' b = none := fun b hb o e =>
          let z := I'.pin (b, o) (List.mem_append_right _ (List.mem_append_right _ (mem_pinsAt hb e)))
          ⟨z.1, z.2.1⟩
        have hl : (wipe σ (own.map (·.2))).length = σ8.length := by rw [← hw8, wipe_length]
        refine ⟨m', hm, i + 1, H', (I'.unpinned (pins := [])).weak hl (fun j v e => ?_), T.keep _ _ _ st7 fun b hb o e => (pin' b hb o e).1, fun b hb => ?_, w'⟩
        · rw [← hw8] at e
          exact (wipe_some e).1
        · obtain ⟨o, e, _⟩ := T.obj _ _ st7 b hb
          exact (pin' b hb o e).2
      cases b with
      | false =>
        simp only [Bool.false_eq_true, if_false] at q9 ⊢
        exact fin I9 q9
      | true =>
        simp only [if_true] at q9 ⊢
        refine thnF (pk _ s9 σ8 H9 _ I9 q9) fun z s10 ⟨kk, H10, I10, r10, q10⟩ => ?_
        refine thnF (pv' _ s10 σ8 H10 _ I10 q10) fun z2 s11 ⟨vv, H11, I11, r11, H12, hput, nx⟩ => ?_
        exact d_dictSet (X := X.blk s3 H3 scope ce fp) I11 hput r10 r11 fun s12 I12 => fin I12 nx
  exact codeAny_compStart_dict loop (T.self X.A 0 _ _ _ st4 loop)

theorem pe_dc {kx vx tg iter : Expr} {ifs : List Expr} {scope : Scope} {own : List (Str × Nat)} {pos : Pos} {wi : TI} {g : TG} {tt : TT} {tk tv : TE} (hc : X.calm = true) (hN : X.N.Nodup) (hi : PI X tg iter wi) (ok : BlkOk X.N X.env.scope scope own)
    (hg : ∀ (s : Shared) (H : Hp) (C : Addr) (cl : List (Str × Addr)) (fp : List Addr), PG (X.blk s H scope (compEnvC scope cl C X.env) fp) tg g) (ht : ∀ (s : Shared) (H : Hp) (C : Addr) (cl : List (Str × Addr)) (fp : List Addr), PTs (X.blk s H scope (compEnvC scope cl C X.env) fp) ifs tt)
    (hk : ∀ (s : Shared) (H : Hp) (C : Addr) (cl : List (Str × Addr)) (fp : List Addr), PE (X.blk s H scope (compEnvC scope cl C X.env) fp) kx tk) (hv : ∀ (s : Shared) (H : Hp) (C : Addr) (cl : List (Str × Addr)) (fp : List Addr), PE (X.blk s H scope (compEnvC scope cl C X.env) fp) vx tv)
    (hs : ∀ x, foldedSetIterable iter X.env x = pure x := by intro _; rfl) :
    PE X (.DictComp kx vx [⟨tg, iter, ifs, 0⟩] scope pos) (tDc wi g tt tk tv (own.map (·.2))) := by
  intro pins s σ H Q I h
  rw [arm_eval_DictComp]
  refine dc_core hc hN I hi ok hg ht hk hv hs h fun D C s' m H' I' q hn f => ⟨m, hn, fun h'' sb => ?_⟩
  obtain ⟨f0, f1, f2, f3, f4, f5⟩ := f
  exact ⟨.ref D, H', I'.turned (t' := s'.toks) (fun b o hb e => (sb.2 b hb).trans e) f0 f1 f3 f4 f5, rfl, q⟩
end
end L2

namespace Hs
open PySem PySem.Spec PyProof.Rows L2
end Hs

namespace Hs
open PySem PySem.Spec PyProof.Rows L2
section
variable {prog : Program} {w : World} {A : Around} {E : Value → Shared → Prop} {s : Shared}
end
section
variable {X : Cx} {tg : Expr}
end
end Hs

namespace Hs
open PySem PySem.Spec PyProof.Rows PyProof.Rows.G L2
section
variable {prog : Program} {w : World} {A : Around} {E : Value → Shared → Prop} {s : Shared}
end
end Hs

namespace Hs
open PySem PySem.Spec PyProof.Rows L2
section
variable {X : Cx} {a b c e kx vx elt iter tg : Expr} {pos pp : Pos} {ta tb te tk tv : TE} {tA : TT} {wi : TI} {g : TG}
theorem b_dc (own : List (Str × Nat)) (N : List Str) (sc : Scope) {ifs : List Expr} {scope : Scope} {tt : TT} (hN : X.N.Nodup) (hi : Bx (PI X tg iter wi))
    (ht : ∀ (s : Shared) (H : Hp) (C : Addr) (cl : List (Str × Addr)) (fp : List Addr), Bx (PTs (X.blk s H scope (compEnvC scope cl C X.env) fp) ifs tt))
    (hk : ∀ (s : Shared) (H : Hp) (C : Addr) (cl : List (Str × Addr)) (fp : List Addr), Bx (PE (X.blk s H scope (compEnvC scope cl C X.env) fp) kx tk))
    (hv : ∀ (s : Shared) (H : Hp) (C : Addr) (cl : List (Str × Addr)) (fp : List Addr), Bx (PE (X.blk s H scope (compEnvC scope cl C X.env) fp) vx tv))
    (hg : ∀ (s : Shared) (H : Hp) (C : Addr) (cl : List (Str × Addr)) (fp : List Addr), Bx (PG (X.blk s H scope (compEnvC scope cl C X.env) fp) tg g))
    (eN : X.N = N := by rfl) (eS : X.env.scope = sc := by rfl) (ok : blkC N sc scope own = true := by decide +kernel) (hc : X.calm = true := by rfl) (hs : ∀ x, foldedSetIterable iter X.env x = pure x := by intro _; rfl) :
    Bx (PE X (.DictComp kx vx [⟨tg, iter, ifs, 0⟩] scope pos) (tDc wi g tt tk tv (own.map (·.2)))) :=
  ⟨pe_dc (own := own) hc hN hi.o (by rw [eN, eS]; exact blkOk_by ok) (fun s H C cl fp => (hg s H C cl fp).o) (fun s H C cl fp => (ht s H C cl fp).o) (fun s H C cl fp => (hk s H C cl fp).o) (fun s H C cl fp => (hv s H C cl fp).o) hs⟩
theorem b_disp1 (hk : Bx (PE X a ta)) (hv : Bx (PE X b tb)) : Bx (PE X (.Dict [some a] [b] pos) (tDisp [(ta, tb)])) := ⟨pe_disp (pps_cons hk.o hv.o pps_nil) rfl rfl (by simp) (by simp)⟩
end
/-! ### what lies below and above -/
def bStep (acc : List Str) (a : Part) : List Str := if a.name ∈ acc then acc ++ a.how.names else acc
def bAcc (bk : Book) (xs : List Str) : List Str := bk.reverse.foldl bStep xs
def bOf (bk : Book) (xs : List Str) : List Str := (bk.map (·.name)).filter fun y => decide (y ∈ bAcc bk xs)
theorem bStep_pos {acc : List Str} {a : Part} (h : a.name ∈ acc) : bStep acc a = acc ++ a.how.names := if_pos h
theorem bStep_neg {acc : List Str} {a : Part} (h : ¬ a.name ∈ acc) : bStep acc a = acc := if_neg h
theorem rev_get {bk : Book} {i : Nat} {a : Part} (hi : i < bk.length) (h : bk[bk.length - 1 - i]? = some a) : bk.reverse[i]? = some a := by
  rw [List.getElem?_reverse hi]
  exact h
theorem foldl_take {α β : Type} (f : β → α → β) (b : β) {l : List α} {i : Nat} {a : α} (h : l[i]? = some a) : (l.take (i + 1)).foldl f b = f ((l.take i).foldl f b) a := by
  rw [List.take_add_one, h, List.foldl_append]
  rfl
theorem filt_take {l : List Str} (p : Str → Bool) {i : Nat} {x : Str} (h : l[i]? = some x) : (l.take (i + 1)).filter p = (l.take i).filter p ++ (if p x = true then [x] else []) := by
  rw [List.take_add_one, h, List.filter_append]
  congr 1
  show List.filter p [x] = _
  rw [List.filter_cons]
  split <;> rfl
theorem bAcc_len (bk : Book) (hk : BookOk bk) (xs : List Str) : ∀ i, i ≤ bk.length → ((bk.reverse.take i).foldl bStep xs).length ≤ xs.length + 4 * i := by
  intro i
  induction i with
  | zero => intro _; simp
  | succ i ih =>
    intro hi
    have hb : bk.reverse[i]? = some (bk.reverse[i]'(by rw [List.length_reverse]; omega)) := List.getElem?_eq_getElem _
    rw [foldl_take _ _ hb]
    have ih := ih (by omega)
    have h4 : (bk.reverse[i]'(by rw [List.length_reverse]; omega)).how.names.length ≤ 4 := by
      have hm : (bk.reverse[i]'(by rw [List.length_reverse]; omega)) ∈ bk := List.mem_reverse.mp (List.getElem_mem _)
      obtain ⟨j, hj⟩ := List.getElem?_of_mem hm
      have hRO := hk.how j _ hj
      cases e : (bk.reverse[i]'(by rw [List.length_reverse]; omega)).how with
      | leaf n => simp [Rec.names]
      | op wd us =>
        rw [e] at hRO
        rcases hRO.1 with ⟨_, _, h⟩ | ⟨_, h⟩
        · exact h
        · simp [Rec.names, h]
    generalize (bk.reverse.take i).foldl bStep xs = ac at ih
    unfold bStep
    split
    · rw [List.length_append]; omega
    · omega
end Hs

namespace Hs
open PySem PySem.Spec PyProof.Rows PyProof.Rows.G L2
section
variable {X : Cx} {e a : Expr} {te ta : TE} {pos pp p1 p2 p3 p4 apos cpos : Pos}
/-- isinstance(x, T), T a built-in class that is named -/
def isiV (T : String) (H : Hp) : V → Option Bool
  | .int _ => if T = "int" then some true else if T = "bool" then some false else none
  | .ref a => match H a with
    | some (.lst _) => if T = "list" then some true else none
    | some (.dK _) => if T = "dict" then some true else none
    | _ => none
  | _ => none
theorem cr_isi : CallR X (.builtin "isinstance") (fun xs H Q => ∃ x T b, xs = [x, .ty T] ∧ isiV T H x = some b ∧ Q (.bl b) H) := by
  intro pins s σ H xs us Q I r h
  obtain ⟨x, T, b, rfl, hb, q⟩ := h
  cases r with
  | cons r1 r2 =>
    cases r2 with
    | cons r2 r3 =>
      cases r3
      cases r2
      cases x with
      | int i =>
        obtain ⟨t, rfl⟩ := r1
        unfold isiV at hb
        by_cases h1 : T = "int"
        · rw [if_pos h1] at hb
          cases hb
          subst h1
          exact IsiPair.int_int ⟨.bl true, H, I, rfl, q⟩
        · rw [if_neg h1] at hb
          by_cases h2 : T = "bool"
          · rw [if_pos h2] at hb
            cases hb
            subst h2
            exact IsiPair.int_bool ⟨.bl false, H, I.tok _, rfl, q⟩
          · rw [if_neg h2] at hb
            cases hb
      | ref a =>
        cases r1
        simp only [isiV] at hb
        cases e : H a with
        | none => rw [e] at hb; cases hb
        | some o =>
          rw [e] at hb
          cases o with
          | lst xs =>
            simp only at hb
            by_cases h1 : T = "list"
            · rw [if_pos h1] at hb
              cases hb
              subst h1
              obtain ⟨_, its, n, _, ho⟩ := I.hok a _ e
              exact IsiPair.list_list ho rfl ⟨.bl true, H, I, rfl, q⟩
            · rw [if_neg h1] at hb
              cases hb
          | dK kvs =>
            simp only at hb
            by_cases h1 : T = "dict"
            · rw [if_pos h1] at hb
              cases hb
              subst h1
              obtain ⟨_, _, _, _, o, _, _, ho, ex, _⟩ := dk_of I.hok e
              exact IsiPair.dict_dict ho ex.1 ⟨.bl true, H, I, rfl, q⟩
            · rw [if_neg h1] at hb
              cases hb
          | _ => cases hb
      | _ => cases hb
theorem b_ty {x : Str} {T : String} (hm : X.mg x = none) (hg : Gl X x := by rfl) (hv : bootBuiltins x = some (.type T) := by decide +kernel) (hn : x ≠ "__name__" := by decide) (hd : (x == ("__debug__" : Str)) = false := by decide) : Bx (PE X (.Name x pos) (tC (.ty T))) := ⟨pe_bltn hg hm hv rfl hn hd⟩
end
end Hs

namespace Hs
open PySem PySem.Spec PyProof.Rows L2
/-! ### keys of a dict that are tuples of ints, texts and such tuples -/
noncomputable instance decD : DecidableEq PyData := fun a b => Classical.propDecidable (a = b)
section
variable {w : World} {prog : Program}
end
end Hs

namespace Hs
open PySem PySem.Spec PyProof.Rows L2
section
variable {prog : Program} {w : World} {KK : Type} [DecidableEq KK] {knd : HeapKind prog w KK} {A : Around} {E : Value → Shared → Prop} {s : Shared}
end
section
variable {prog : Program} {w : World} {KK : Type} [DecidableEq KK] {knd : HeapKind prog w KK} {A : Around} {E : Value → Shared → Prop} {s : Shared}
end
section
variable {X : Cx} {a e e2 : Expr} {ta te te2 : TE} {pos apos cpos : Pos}
end
end Hs

namespace Hs
open PySem PySem.Spec PyProof.Rows PyProof.Rows.G L2
section
variable {prog : Program} {w : World} {A : Around} {E : Value → Shared → Prop} {s : Shared}
end
section
variable {X : Cx}
end
end Hs

namespace Hs
open PySem PySem.Spec PyProof.Rows PyProof.Rows.G L2
/-! ### parts that are alike -/
theorem list_tri : ∀ (a b : List Nat), ¬ a < b → ¬ b < a → a = b := fun a b h1 h2 => List.le_antisymm (List.not_lt.mp h2) (List.not_lt.mp h1)
theorem str_anti {a b : Str} (h1 : ltCps b.cps.toList a.cps.toList = false) (h2 : ltCps a.cps.toList b.cps.toList = false) : a = b := by
  rw [ltCps_eq] at h1 h2
  have := list_tri _ _ (of_decide_eq_false h2) (of_decide_eq_false h1)
  obtain ⟨⟨x⟩⟩ := a
  obtain ⟨⟨y⟩⟩ := b
  have : x = y := this
  rw [this]
theorem ltCps_trans {a b c : List Nat} (h1 : ltCps b a = false) (h2 : ltCps c b = false) : ltCps c a = false := by
  rw [ltCps_eq] at h1 h2 ⊢
  have h1 := List.not_lt.mp (of_decide_eq_false h1)
  have h2 := List.not_lt.mp (of_decide_eq_false h2)
  exact decide_eq_false (List.not_lt.mpr (List.le_trans h1 h2))
theorem rising_pw : ∀ (p : Str) (l : List Str), risingS p l = true → (∀ x ∈ l, ltCps x.cps.toList p.cps.toList = false) ∧ l.Pairwise (fun a b => ltCps b.cps.toList a.cps.toList = false)
  | p, [], _ => ⟨fun x hx => by simp at hx, .nil⟩
  | p, x :: r, h => by
    have h : (!ltCps x.cps.toList p.cps.toList && risingS x r) = true := h
    rw [Bool.and_eq_true] at h
    obtain ⟨i1, i2⟩ := rising_pw x r h.2
    have h1 : ltCps x.cps.toList p.cps.toList = false := by simpa using h.1
    refine ⟨fun y hy => ?_, List.pairwise_cons.mpr ⟨i1, i2⟩⟩
    rcases List.mem_cons.mp hy with e | hy
    · rw [e]; exact h1
    · exact ltCps_trans h1 (i1 y hy)
theorem sortedS_pw : ∀ {l : List Str}, sortedS l = true → l.Pairwise (fun a b => ltCps b.cps.toList a.cps.toList = false)
  | [], _ => .nil
  | x :: r, h => by
    obtain ⟨a, b⟩ := rising_pw x r h
    exact List.pairwise_cons.mpr ⟨a, b⟩
theorem pwS_uniq : ∀ {xs ys : List Str}, xs.Perm ys → xs.Pairwise (fun a b => ltCps b.cps.toList a.cps.toList = false) → ys.Pairwise (fun a b => ltCps b.cps.toList a.cps.toList = false) → xs = ys
  | [], ys, p, _, _ => by rw [List.Perm.nil_eq p]
  | x :: xs, [], p, _, _ => by
    have := p.length_eq
    simp at this
  | x :: xs, y :: ys, p, hx, hy => by
    obtain ⟨hx1, hx2⟩ := List.pairwise_cons.mp hx
    obtain ⟨hy1, hy2⟩ := List.pairwise_cons.mp hy
    have e : x = y := by
      have m1 : x ∈ y :: ys := p.mem_iff.mp List.mem_cons_self
      have m2 : y ∈ x :: xs := p.mem_iff.mpr List.mem_cons_self
      rcases List.mem_cons.mp m1 with e | m1
      · exact e
      rcases List.mem_cons.mp m2 with e | m2
      · exact e.symm
      exact str_anti (hx1 y m2) (hy1 x m1)
    subst e
    rw [pwS_uniq (List.Perm.cons_inv p) hx2 hy2]
/-! lookups -/
theorem paired_snoc {α β : Type} {R : α → β → Prop} {x : α} {y : β} (h : R x y) : ∀ {xs : List α} {ys : List β}, Paired R xs ys → Paired R (xs ++ [x]) (ys ++ [y])
  | _, _, .nil => .cons h .nil
  | _, _, .cons r t => .cons r (paired_snoc h t)
/-! what stands in the lists -/
end Hs

namespace Hs
open PySem PySem.Spec PyProof.Rows L2
/-! ### x in, x not in a list of data; its index -/
section
variable {X : Cx}
variable {a e : Expr} {ta : TE} {t : TA} {apos cpos : Pos}
end
end Hs

namespace Hs
open PySem PySem.Spec PyProof.Rows L2
/-! kinds -/
end Hs

namespace Hs
open PySem PySem.Spec PyProof.Rows L2
section
variable {X : Cx}
/-- isinstance, where it is so: a bool, a tuple, a dict -/
def isiY (T : String) (H : Hp) : V → Prop
  | .bl _ => T = "bool"
  | .ref a => (T = "tuple" ∧ ∃ xs, H a = some (.tup xs)) ∨ (T = "dict" ∧ ∃ kvs, H a = some (.dK kvs))
  | _ => False
theorem cr_isiY : CallR X (.builtin "isinstance") (fun xs H Q => ∃ x T, xs = [x, .ty T] ∧ isiY T H x ∧ Q (.bl true) H) := by
  intro pins s σ H xs us Q I r h
  obtain ⟨x, T, rfl, hb, q⟩ := h
  cases r with
  | cons r1 r2 =>
    cases r2 with
    | cons r2 r3 =>
      cases r3
      cases r2
      cases x with
      | bl b =>
        cases r1
        have hb : T = "bool" := hb
        subst hb
        exact IsiPair.bool_bool ⟨.bl true, H, I, rfl, q⟩
      | ref a =>
        cases r1
        rcases hb with ⟨rfl, ys, e⟩ | ⟨rfl, kvs, e⟩
        · obtain ⟨_, its, _, o, ho, hc, n, hd⟩ := (show ObjOk X.prog X.w H s.heap a (.tup ys) from I.hok a _ e)
          exact IsiPair.tuple_tuple ho hc ⟨.bl true, H, I, rfl, q⟩
        · obtain ⟨_, _, _, _, o, _, _, ho, ex, _⟩ := dk_of I.hok e
          exact IsiPair.dict_dict ho ex.1 ⟨.bl true, H, I, rfl, q⟩
      | _ => exact hb.elim
end
end Hs

namespace Hs
open PySem PySem.Spec PyProof.Rows L2
/-! ### a book as data, shown -/
end Hs

namespace Hs
open PySem PySem.Spec PyProof.Rows L2
/-! ### own classes -/
section
variable {X : Cx} {a b e o value : Expr} {rest : List Expr} {ta tb te tv : TE} {t : TA} {es : List Expr} {x m f : Str} {pos pos' apos cpos tpos p : Pos}
theorem b_and (ha : Bx (PE X a ta)) (hb : Bx (PE X (.BoolOp .And (b :: rest) pos) tb)) : Bx (PE X (.BoolOp .And (a :: b :: rest) pos) (tAndV ta tb)) := ⟨pe_and ha.o hb.o⟩
theorem b_one {op} (h : Bx (PE X a ta)) : Bx (PE X (.BoolOp op [a] pos) ta) := ⟨pe_one h.o⟩
theorem bt_dnotin (hu : X.A.units + 1 < cLine) (ha : Bx (PE X a ta)) (hb : Bx (PE X b tb)) (h1 : behindInMarks .NotIn b = false := by rfl) : Bx (PT X (.Compare a [.NotIn] [b] pos) (L2.tB (tDNotIn ta tb))) := ⟨pt_cmp (pc_dnotin hu ha.o hb.o) h1⟩
structure BPs (X : Cx) (pos : Pos) (ks : List (Option Expr)) (vs : List Expr) (trs : List (TE × TE)) : Prop where
  o : PPs X pos ks vs trs
theorem bp_nil : BPs X pos [] [] [] := ⟨pps_nil⟩
theorem bp_c {ks : List (Option Expr)} {vs : List Expr} {trs : List (TE × TE)} (hk : Bx (PE X a ta)) (hv : Bx (PE X b tb)) (hr : BPs X pos ks vs trs) : BPs X pos (some a :: ks) (b :: vs) ((ta, tb) :: trs) := ⟨pps_cons hk.o hv.o hr.o⟩
theorem b_disp {ks : List (Option Expr)} {vs : List Expr} {trs : List (TE × TE)} (h : BPs X pos ks vs trs) (hall : ks.all (·.isSome) = true := by rfl) (hl : ks.length = vs.length := by rfl) (h0 : ks ≠ [] := by exact List.cons_ne_nil _ _) (h15 : ks.length ≤ 15 := by decide) : Bx (PE X (.Dict ks vs pos) (tDisp trs)) := ⟨pe_disp h.o hall hl h0 h15⟩
/-- xs.remove(y), xs a list of texts that has y -/
def rRemove : V → List V → Hp → VK → Prop := fun x vs H Q => ∃ (l : Addr) (xs : List Str) (y : Str) (j : Nat), x = .ref l ∧ vs = [.str y] ∧ H l = some (.lst (xs.map V.str)) ∧ xs[j]? = some y ∧ (∀ (i : Nat) (z : Str), i < j → xs[i]? = some z → z ≠ y) ∧ Q .non (upd H l (.lst ((xs.eraseIdx j).map V.str)))
theorem eraseVals : ∀ {vs : List V} {us : List Value} (j : Nat), Vals vs us → Vals (vs.eraseIdx j) (us.eraseIdx j)
  | _, _, _, .nil => by simp; exact .nil
  | _, _, 0, .cons r t => t
  | _, _, j + 1, .cons r t => .cons r (eraseVals j t)
theorem eraseMap {α β : Type} (f : α → β) : ∀ (l : List α) (j : Nat), (l.eraseIdx j).map f = (l.map f).eraseIdx j
  | [], _ => rfl
  | _ :: _, 0 => rfl
  | a :: l, j + 1 => by
    show f a :: (l.eraseIdx j).map f = f a :: (l.map f).eraseIdx j
    rw [eraseMap f l j]
def strIs (y : Str) : Value → Bool
  | .str x _ => x == y
  | _ => false
theorem mt_remove : MtR X "list.remove" rRemove := by
  intro pins s σ H x vs v us Q I rx rv h
  obtain ⟨l, xs, y, j, rfl, rfl, hH, hj, hno, q⟩ := h
  cases rx
  obtain ⟨u, rfl, ty, rfl⟩ := rv.one
  obtain ⟨z, its, n, r, hl, e⟩ := I.lstM hH
  have hst : ∀ (i : Nat) (w : Value), its[i]? = some w → ∃ x t, xs[i]? = some x ∧ w = .str x t := by
    intro i w hw
    have hlen := r.length
    have hi := (List.getElem?_eq_some_iff.mp hw).1
    have hv : (xs.map V.str)[i]? = some ((xs.map V.str)[i]'(by omega)) := List.getElem?_eq_getElem _
    obtain ⟨w', hw', rw'⟩ := r.get hv
    obtain ⟨x', hx', ex⟩ := get_map hv
    rw [hw] at hw'
    cases hw'
    rw [ex] at rw'
    obtain ⟨t, rfl⟩ := rw'
    exact ⟨x', t, hx', rfl⟩
  have hjl : j < its.length := by
    have hlen := r.length
    have := (List.getElem?_eq_some_iff.mp hj).1
    rw [List.length_map] at hlen
    omega
  have hjs : j < its.toArray.size := by simpa using hjl
  refine call_meets PySem.F.slot_list_remove ⟨_, e, rfl⟩ PySem.F.entry_list_remove (PySem.F.args_list_remove_2 _ _)
    (MeetsSeq.list_remove l its.toArray n (.str y ty) (strIs y) (fun w hw => ?_) j hjs ?_ (fun i hi hlt => ?_) (by rw [List.size_toArray]; rw [List.length_map] at hl z; omega)) ⟨e, ?_⟩
  · obtain ⟨i, hi⟩ := List.getElem?_of_mem (by simpa using hw : w ∈ its)
    obtain ⟨x', t, _, rfl⟩ := hst i w hi
    show MeetsSeq.EqGives _ _ (x' == y)
    rw [← SeqAt.str_beq]
    exact SeqRoads2.EqGives.str x' y t ty
  · obtain ⟨x', t, hx', ex⟩ := hst j its[j] (List.getElem?_eq_getElem hjl)
    rw [hj] at hx'
    cases hx'
    have e1 : its.toArray[j] = its[j] := by simp
    rw [e1, ex]
    simp [strIs]
  · have hil : i < its.length := by simpa using hi
    obtain ⟨x', t, hx', ex⟩ := hst i its[i] (List.getElem?_eq_getElem hil)
    have e1 : its.toArray[i] = its[i] := by simp
    rw [e1, ex]
    have := hno i x' hlt hx'
    simp [strIs, this]
  · refine ⟨.non, _, I.lset (its' := its.eraseIdx j) (ys := (xs.eraseIdx j).map V.str) hH e ?_ ?_ ?_, rfl, q⟩
    · simp
    · have := eraseVals j r
      rw [show (xs.eraseIdx j).map V.str = (xs.map V.str).eraseIdx j from ?_]
      · exact this
      · exact (eraseMap V.str xs j)
    · rw [List.length_map]
      have := List.length_eraseIdx_le xs j
      rw [List.length_map] at z
      omega
theorem b_remove (ho : Bx (PE X a ta)) (ha : Bx (PA X [e] t)) (hbase : attributeBase a "remove" X.env (eval a X.env) = eval a X.env := by rfl)
    (hfew : ((backTo cpos (starEach [e] X.env)).all (fun x => !x.1) && (backToKw cpos (keywordEach [] X.env)).all (fun x => x.1.isSome) && decide ([e].length + ([] : List Keyword).length + (if ([] : List Keyword).isEmpty then 0 else 1) < 30)) = true := by rfl)
    (hline : (apos.endLine == cpos.line) = true := by rfl) (he : noStar e = true := by rfl) :
    Bx (PE X (.Call (.Attribute a "remove" apos) [e] [] cpos) (tBM X.K "list" rRemove ta t)) := ⟨by
  exact pe_bm PySem.F.plainAttrs_list PySem.F.slot_list_remove PySem.F.type_list_remove mt_remove ho.o ha.o hbase hfew hline (star_cons he) rfl⟩
end
end Hs

namespace Hs
open PySem PySem.Spec PyProof.Rows L2
/-! ### a shelf -/
def partOf (bk : Book) (x : Str) : Option Part := bk.find? fun a => decide (a.name = x)
def szOf (bk : Book) (x : Str) : Int := ((partOf bk x).map (·.size)).getD 0
def csOf (bk : Book) (x : Str) : Int := ((partOf bk x).map (·.cost)).getD 0
def loadS (bk : Book) (l : List Str) : Int := (l.map (szOf bk)).sum
theorem part_is {bk : Book} (hn : (bk.map (·.name)).Nodup) {a : Part} (ha : a ∈ bk) : partOf bk a.name = some a := by
  induction bk with
  | nil => simp at ha
  | cons b r ih =>
    rw [List.map_cons, List.nodup_cons] at hn
    unfold partOf
    rw [List.find?_cons]
    rcases List.mem_cons.mp ha with e | h
    · subst e; simp
    · have ne : b.name ≠ a.name := fun z => hn.1 (z ▸ List.mem_map.mpr ⟨a, h, rfl⟩)
      simp only [ne, decide_false]
      exact ih hn.2 h
/-! ### its dicts -/
def kvP : Book → List Addr → List (Key × V)
  | a :: bk, p :: ps => (Sum.inr a.name, V.ref p) :: kvP bk ps
  | _, _ => []
theorem kvP_val : ∀ {bk : Book} {ps : List Addr} {x : Str}, ps.length = bk.length → x ∈ bk.map (·.name) → ∃ (i : Nat) (a : Part) (p : Addr), bk[i]? = some a ∧ ps[i]? = some p ∧ a.name = x ∧ partOf bk x = some a ∧ valV (kvP bk ps) (Sum.inr x : Key) = some (.ref p)
  | [], _, x, _, h => by simp at h
  | _ :: _, [], _, h, _ => by simp at h
  | a :: bk, p :: ps, x, hl, h => by
    by_cases e : a.name = x
    · refine ⟨0, a, p, rfl, rfl, e, ?_, ?_⟩
      · unfold partOf; rw [List.find?_cons]; simp [e]
      · exact valV_pos (by rw [e])
    · have h' : x ∈ bk.map (·.name) := by
        rcases List.mem_cons.mp h with q | q
        · exact absurd q.symm e
        · exact q
      obtain ⟨i, b, q, h1, h2, h3, h4, h5⟩ := kvP_val (bk := bk) (ps := ps) (by simpa using hl) h'
      refine ⟨i + 1, b, q, h1, h2, h3, ?_, ?_⟩
      · unfold partOf; rw [List.find?_cons]; simp only [e, decide_false]; exact h4
      · have ne : ¬ ((Sum.inr a.name : Key) = Sum.inr x) := fun z => e (by injection z)
        show valV ((Sum.inr a.name, V.ref p) :: kvP bk ps) (Sum.inr x : Key) = _
        rw [valV_neg ne]
        exact h5
theorem mergeK_P {bk : Book} {ps : List Addr} (hn : (bk.map (·.name)).Nodup) : mergeK [] (kvP bk ps) = kvP bk ps := by
  have key : ∀ (bk : Book) (ps : List Addr) (acc : List (Key × V)), (bk.map (·.name)).Nodup → (∀ x ∈ bk.map (·.name), valV acc (Sum.inr x : Key) = none) → mergeK acc (kvP bk ps) = acc ++ kvP bk ps := by
    intro bk
    induction bk with
    | nil => intro ps acc _ _; show acc = acc ++ []; simp
    | cons a bk ih =>
      intro ps acc hn hv
      cases ps with
      | nil => show acc = acc ++ []; simp
      | cons p ps =>
        rw [List.map_cons, List.nodup_cons] at hn
        show mergeK (putK acc (Sum.inr a.name) (.ref p)) (kvP bk ps) = _
        rw [putK_new _ (hv a.name (by simp)), ih ps _ hn.2]
        · rw [List.append_assoc]; rfl
        · intro x hx
          have h1 := hv x (List.mem_cons_of_mem _ hx)
          have ne : a.name ≠ x := fun z => hn.1 (z ▸ hx)
          unfold valV at h1 ⊢
          rw [List.find?_append]
          have h2 : acc.find? (fun kv => decide (kv.1 = (Sum.inr x : Key))) = none := by
            cases q : acc.find? (fun kv => decide (kv.1 = (Sum.inr x : Key))) with
            | none => rfl
            | some v => rw [q] at h1; cases h1
          rw [h2]
          simp [ne]
  have := key bk ps [] hn fun x _ => rfl
  simpa using this
/-! ### on the heap -/
end Hs

namespace Hs
open PySem PySem.Spec PyProof.Rows L2
/-! ### an exception on its way keeps its dict -/
section
variable {M : Model} {A : Around} {E : Value → Shared → Prop} {s : Shared} {base : Heap} {env : Env} {outer l : List Env} {L e : Addr} {oe : Obj} {vs : Array Value} {head a0 cls : Value}
end
end Hs

namespace Hs
open PySem PySem.Spec PyProof.Rows L2
/-! ### an exception in flight, behind a call -/
section
variable {X : Cx} {pins : List (Addr × Obj)} {σ : L2.St} {H H' : Hp} {s s' : Shared} {ea : Addr} {cls : Value} {dd : Option Addr} {Q : Unit → Shared → Prop} {E : Value → Shared → Prop}
end
end Hs

namespace Hs
open PySem PySem.Spec PyProof.Rows L2
section
variable {X : Cx} {pins : List (Addr × Obj)} {σ : L2.St} {H H' : Hp} {s s' : Shared} {ea : Addr} {cls : Value} {dd : Option Addr}
end
/-! ### what is wanted of exceptions -/
section
variable {P : Program} {w : World} {K : PySem.W.Frag} {mg : Str → Option Value} {base : Heap} {N : List Str} {qual : Str} {scope : Scope} {f : Addr} {cd : Value} {A : Around} {outer : List Env} {s : Shared} {H : Hp} {E : XK}
end
/-! ### defs that may raise -/
section
variable {X : Cx} {E : XK} {x c n : Str} {p pos cpos np : Pos} {e : Expr} {es : List Expr} {t : TA}
end
end Hs

namespace Hs
open PySem PySem.Spec PyProof.Rows L2
/-! ### try: .. except C as n: c = n -/
section
variable {X : Cx} {x n c : Str} {np hp cp ep ap pos : Pos} {body : List Stmt}
end
end Hs

namespace Hs
open PySem PySem.Spec PyProof.Rows L2
/-! ### __class__ of an exception of an own class -/
section
variable {prog : Program} {w : World} {K : PySem.W.Frag} {A : Around} {E : Value → Shared → Prop} {h : Heap} {g : Array GenState} {d : Drawn} {t : Nat} {os : OsState} {a C : Addr} {o : Obj}
end
end Hs

namespace Hs
open PySem PySem.Spec PyProof.Rows L2
/-! ### isinstance of an exception of an own class -/
section
variable {X : Cx}
end
/-! ### a class of the text, as it is raised -/
/-! ### f"..{name!r}" -/
section
variable {X : Cx} {e : Expr} {te : TE} {p1 p2 pos : Pos} {c : Str} {k : Nat}
end
end Hs
namespace Hs
open PySem PySem.Spec PyProof.Rows L2
section
variable {X : Cx} {x n c : Str} {np hp cp ep ap pos apos : Pos} {body : List Stmt} {e : Expr} {te : TE}
end
end Hs

namespace Hs
open PySem PySem.Spec PyProof.Rows L2
section
variable {X : Cx} {a b c e tg : Expr} {ta tb tc te : TE} {pos : Pos} {op op' : CmpOp} {r r' : R2}
end
end Hs

namespace Hs
open PySem PySem.Spec PyProof.Rows L2
section
variable {X : Cx} {a b c e f : Expr} {es rest : List Expr} {pos apos cpos p2 : Pos} {ta tb te tf : TE} {t : TA}
theorem b_popAt (ho : Bx (PE X a ta)) (ha : Bx (PA X [e] t)) (hbase : attributeBase a "pop" X.env (eval a X.env) = eval a X.env := by rfl)
    (hfew : ((backTo cpos (starEach [e] X.env)).all (fun x => !x.1) && (backToKw cpos (keywordEach [] X.env)).all (fun x => x.1.isSome) && decide ([e].length + ([] : List Keyword).length + (if ([] : List Keyword).isEmpty then 0 else 1) < 30)) = true := by rfl)
    (hline : (apos.endLine == cpos.line) = true := by rfl) (he : noStar e = true := by rfl) :
    Bx (PE X (.Call (.Attribute a "pop" apos) [e] [] cpos) (tBM X.K "list" rPopAt ta t)) := ⟨by
  exact pe_bm PySem.F.plainAttrs_list PySem.F.slot_list_pop PySem.F.type_list_pop mt_popAt ho.o ha.o hbase hfew hline (star_cons he) rfl⟩
end
end Hs

namespace Hs
open PySem PySem.Spec PyProof.Rows L2
section
variable {X : Cx}
end
end Hs

namespace Hs
open PySem PySem.Spec PyProof.Rows L2
/-! ### sum, max of a tuple of whole numbers -/
section
variable {prog : Program} {w : World} {A : Around} {E : Value → Shared → Prop} {s : Shared} {t : Addr} {its : List Value} {ns : List Int} {Q : Value → Shared → Prop}
end
section
variable {X : Cx}
end
/-! ### stars in displays -/
theorem vals_app : ∀ {xs : List V} {us : List Value}, Vals xs us → ∀ {ys : List V} {vs : List Value}, Vals ys vs → Vals (xs ++ ys) (us ++ vs)
  | _, _, .nil, _, _, h => h
  | _, _, .cons r t, _, _, h => .cons r (vals_app t h)
def tStar (K : PySem.W.Frag) (ta : TE) (tr : TA) : TA := fun σ H Q => ta σ H fun x H1 => ∃ a xs, x = .ref a ∧ (SqL K H1 a xs ∨ SqT K H1 a xs) ∧ tr σ H1 fun ys H2 => Q (xs ++ ys) H2
section
variable {X : Cx} {e : Expr} {es : List Expr} {te : TE} {t : TA} {pos p : Pos}
theorem pa_star (ha : PE X e te) (hr : PA X es t) (hs : starEach (.Starred e p :: es) X.env = (true, eval e X.env) :: starEach es X.env := by rfl) : PA X (.Starred e p :: es) (tStar X.K te t) := by
  intro pos pins s σ H Q I h
  refine PySem.W.items_star (thn (ha pins s σ H _ I h) fun u s1 ⟨x, H1, I1, r1, a, xs, ex, hs2, q⟩ => ?_) hs
  subst ex
  cases r1
  have go : ∀ {its : List Value} {T : String} {o : Obj} {n : Nat}, Vals xs its → (T = "list" ∨ T = "tuple") → s1.heap.get? a = some o → o.cls = .type T → o.data = .seq its.toArray n → xs.length ≤ sizeLine →
      wpAny (model X.prog X.w) X.A (collect (.ref a)) (fun here s2 => wpAny (model X.prog X.w) X.A (spliced (backTo pos (starEach es X.env))) (fun vs s3 => AP X pins σ Q (here ++ vs) s3) X.xe s2) X.xe s1 := by
    intro its T o n hv hT ho hc hd hz
    refine wpAny_collect_seq a hT ho hc hd (fun h' hk => ?_) (by rw [List.size_toArray, ← hv.length]; exact hz)
    have I2 : Inv X pins σ H1 { s1 with heap := h' } := I1.kept (t' := s1.toks) hk
    exact thn (hr pos pins _ σ H1 _ I2 q) fun us s2 ⟨ys, H2, I3, r3, q3⟩ => ⟨xs ++ ys, H2, I3, vals_app hv r3, q3⟩
  rcases hs2 with hl | ht
  · obtain ⟨its, hv, hl, hz⟩ := I1.list hl
    obtain ⟨o, ho, hc, n, hd⟩ := hl.isList
    have hT' : s1.TypeIs (.ref a) "list" := ⟨o, ho, hc⟩
    unfold PySem.W.StarOf notIterableAtAll
    exact wpAny_bind (wpAny_specialOf hT' PySem.F.slot_list_iter.lookup (wpAny_pure ⟨rfl, go hv (.inl rfl) ho hc hd hz⟩))
  · obtain ⟨its, hv, hl, hz⟩ := I1.tuple ht
    obtain ⟨o, ho, hc, ⟨n, hd⟩⟩ := id hl
    have hT' : s1.TypeIs (.ref a) "tuple" := ⟨o, ho, hc⟩
    unfold PySem.W.StarOf notIterableAtAll
    exact wpAny_bind (wpAny_specialOf hT' PySem.F.slot_tuple_iter.lookup (wpAny_pure ⟨rfl, go hv (.inr rfl) ho hc hd hz⟩))
theorem ba_star (ha : Bx (PE X e te)) (hr : Bx (PA X es t)) (hs : starEach (.Starred e p :: es) X.env = (true, eval e X.env) :: starEach es X.env := by rfl) : Bx (PA X (.Starred e p :: es) (tStar X.K te t)) := ⟨pa_star ha.o hr.o hs⟩
end
end Hs

namespace Hs
open PySem PySem.Spec PyProof.Rows L2
section
variable {X : Cx} {o e a : Expr} {to te ta : TE} {apos pos cpos : Pos}
theorem bt_truth (ha : Bx (PE X a ta)) (he : ∀ whole, isTrue a X.env whole = (do let v ← whole; standAt a.pos; holding [v] (truthy v)) := by intro _; rfl) :
    Bx (PT X a (fun σ H Q => ta σ H fun x H' => ∃ k, TruV X.K x H' k ∧ Q k H')) := ⟨pt_truth ha.o he⟩
theorem b_pop0 (ho : Bx (PE X a ta)) (hbase : attributeBase a "pop" X.env (eval a X.env) = eval a X.env := by rfl) (hline : (apos.endLine == cpos.line) = true := by rfl) : Bx (PE X (.Call (.Attribute a "pop" apos) [] [] cpos) (tBM0 X.K "list" rPop ta)) :=
  ⟨pe_bm0 PySem.F.plainAttrs_list PySem.F.slot_list_pop PySem.F.type_list_pop mt_pop ho.o hbase hline⟩
end
/-! ### a, b, *rest = a list -/
section
variable {X : Cx} {pos p : Pos}
end
end Hs

namespace Hs
open PySem PySem.Spec PyProof.Rows L2
/-! ### a keeper: what each part made last -/
/-! ### frames -/
/-! ### what was made, in a dict: name to (worth, [numbers]) -/
/-! ### what is below is closed -/
theorem bStep_sub (acc : List Str) (a : Part) {x : Str} (h : x ∈ acc) : x ∈ bStep acc a := by
  unfold bStep
  split
  · exact List.mem_append_left _ h
  · exact h
theorem bFold_sub : ∀ (l : Book) (acc : List Str) {x : Str}, x ∈ acc → x ∈ l.foldl bStep acc
  | [], _, _, h => h
  | a :: l, acc, x, h => bFold_sub l (bStep acc a) (bStep_sub acc a h)
theorem bFold_new : ∀ (l : Book) (acc : List Str) {x : Str}, x ∈ l.foldl bStep acc → x ∈ acc ∨ ∃ a ∈ l, x ∈ a.how.names
  | [], _, _, h => .inl h
  | a :: l, acc, x, h => by
    rcases bFold_new l (bStep acc a) h with h | ⟨b, hb, hx⟩
    · unfold bStep at h
      split at h
      · rcases List.mem_append.mp h with h | h
        · exact .inl h
        · exact .inr ⟨a, List.mem_cons_self, h⟩
      · exact .inl h
    · exact .inr ⟨b, List.mem_cons_of_mem _ hb, hx⟩
theorem bAcc_split (bk : Book) (xs : List Str) (i : Nat) : bAcc bk xs = (bk.take i).reverse.foldl bStep ((bk.drop i).reverse.foldl bStep xs) := by
  unfold bAcc
  rw [← List.foldl_append, ← List.reverse_append, List.take_append_drop]
theorem ahead_ne {bk : Book} (h : BookOk bk) {i : Nat} {a : Part} (ha : bk[i]? = some a) {b : Part} (hb : b ∈ bk.take i) : a.name ∉ b.how.names := by
  intro hm
  obtain ⟨j, hj⟩ := List.getElem?_of_mem hb
  rw [List.getElem?_take] at hj
  split at hj
  · rename_i hlt
    have h1 := need_ahead h hj hm
    have h2 : a.name ∈ (bk.take i).map (·.name) := by
      obtain ⟨c, hc, e⟩ := List.mem_map.mp h1
      refine List.mem_map.mpr ⟨c, ?_, e⟩
      have : bk.take j = (bk.take i).take j := by rw [List.take_take, Nat.min_eq_left (by omega)]
      rw [this] at hc
      exact List.mem_of_mem_take hc
    exact name_new h ha h2
  · cases hj
theorem bAcc_needs {bk : Book} (h : BookOk bk) {xs : List Str} {i : Nat} {a : Part} (ha : bk[i]? = some a) (hm : a.name ∈ bAcc bk xs) {y : Str} (hy : y ∈ a.how.names) : y ∈ bAcc bk xs := by
  rw [bAcc_split bk xs i] at hm
  have hd : bk.drop i = a :: bk.drop (i + 1) := by
    have hi := (List.getElem?_eq_some_iff.mp ha).1
    rw [List.drop_eq_getElem_cons hi]
    congr 1
    exact (List.getElem?_eq_some_iff.mp ha).2
  have h1 : a.name ∈ (bk.drop i).reverse.foldl bStep xs := by
    rcases bFold_new _ _ hm with h1 | ⟨b, hb, hx⟩
    · exact h1
    · exact absurd hx (ahead_ne h ha (List.mem_reverse.mp hb))
  have h2 : a.name ∈ (bk.drop (i + 1)).reverse.foldl bStep xs := by
    rw [hd, List.reverse_cons, List.foldl_append] at h1
    have h1 : a.name ∈ bStep ((bk.drop (i + 1)).reverse.foldl bStep xs) a := h1
    unfold bStep at h1
    split at h1
    · assumption
    · exact h1
  rw [bAcc_split bk xs i]
  refine bFold_sub _ _ ?_
  rw [hd, List.reverse_cons, List.foldl_append]
  show y ∈ bStep _ a
  rw [bStep_pos h2]
  exact List.mem_append_right _ hy
theorem bAcc_asked {bk : Book} {xs : List Str} {x : Str} (h : x ∈ xs) : x ∈ bAcc bk xs := bFold_sub _ _ h
end Hs

namespace Hs
open PySem PySem.Spec PyProof.Rows L2
/-! ### the book while it changes -/
/-! ### deeds on a keeper -/
end Hs

namespace Hs
open PySem PySem.Spec PyProof.Rows L2
end Hs

namespace Hs
open PySem PySem.Spec PyProof.Rows L2
/-! ### what is shown is short -/
end Hs

namespace Hs
open PySem PySem.Spec PyProof.Rows L2 TL
/-! ### books as texts -/
end Hs

namespace Hs
open PySem PySem.Spec PyProof.Rows L2
/-! ### an exception of an own class that has an __init__ of its own, other own classes above it -/
section
variable {w : World} {prog : Program} {h : Heap} {A : Around} {E : Value → Shared → Prop} {g : Array GenState} {d : Drawn} {t : Nat} {os : OsState}
variable {C N : Addr} {nm q : Str} {bmB bs bm : List Value} {hdct : Bool} {sn : List Str} {sub : List Value} {ab : Bool} {col : Option Bool} {dd : Option Addr} {k0 k1 k2 k3 k5 : Option Value} {B newId initId : String}
end
end Hs

namespace Hs
open PySem PySem.Spec PyProof.Rows L2
/-! ### super().__init__ of an exception: the built-in one, bound -/
section
variable {prog : Program} {w : World} {M : Model} {A : Around} {E : Value → Shared → Prop} {h : Heap} {g : Array GenState} {d : Drawn} {t : Nat} {os : OsState} {K : PySem.W.Frag} {su D x C : Addr} {ox : Obj}
end
end Hs

namespace Hs
open PySem PySem.Spec PyProof.Rows L2
section
variable {prog : Program} {w : World} {M : Model} {A : Around} {E : Value → Shared → Prop} {h : Heap} {g : Array GenState} {d : Drawn} {t : Nat} {os : OsState} {K : PySem.W.Frag} {q x C t0 : Addr} {v : Value}
/-! ### a field of an exception is stored -/
end
end Hs

namespace Hs
open PySem PySem.Spec PyProof.Rows L2
/-! ### the __init__ itself -/
section
variable {prog : Program} {w : World} {par qual c1 c2 : Str} {fI cda cc : Addr} {p1 p2 p3 p4 p5 : Pos} {k1 k2 : Nat}
end
section
variable {prog : Program} {w : World} {K : PySem.W.Frag} {mg mb : Str → Option Value} {A : Around} {s : Shared} {C fI cda cc e t0 : Addr} {par qual : Str} {params : Arguments} {msg : Expr} {v : Value} {p0 p1 p2 p3 p4 p5 p6 p7 p8 : Pos}
end
end Hs

namespace Hs
open PySem PySem.Spec PyProof.Rows L2
/-! ### raise C(v): an own class with an own __init__ -/
section
variable {A : Around} {M : Model} {s : Shared} {env : Env} {E : Value → Shared → Prop}
variable {C N : Addr} {nm q : Str} {bm bs : List Value} {hdct : Bool} {sn : List Str} {sub : List Value} {ab : Bool} {col : Option Bool} {dd : Option Addr} {k0 k1 k2 k3 k5 : Option Value} {newId : String}
end
section
variable {X : Cx} {E : XK} {x : Str} {np pos cpos : Pos} {a : Expr} {t : TA} {C : Addr} {par : Str} {ok : V → Prop}
end
end Hs

namespace Hs
open PySem PySem.Spec PyProof.Rows L2
/-! ### a field of an exception, read -/
section
variable {prog : Program} {w : World} {K : PySem.W.Frag} {A : Around} {E : Value → Shared → Prop} {h : Heap} {g : Array GenState} {d : Drawn} {t : Nat} {os : OsState} {a C dx : Addr} {o : Obj} {name : Str} {m : Str → Option Value} {v : Value} {cd : ClassData}
end
section
variable {X : Cx} {e : Expr} {te : TE} {pos : Pos} {name : Str} {C : Addr}
end
end Hs

namespace Hs
open PySem PySem.Spec PyProof.Rows L2
/-! ### isinstance of an exception with a dict -/
section
variable {X : Cx}
end
/-! ### try: .. except C: return b -/
section
variable {X : Cx} {x : Str} {np hp rp pos cp : Pos} {body : List Stmt} {b : Bool} {ck : Nat}
end
end Hs

namespace Hs
open PySem PySem.Spec PyProof.Rows L2
/-! ### try: f(..) except C as n: c = n, the names kept -/
section
variable {X : Cx} {E : XK} {x : Str} {p pos : Pos} {e : Expr} {es : List Expr} {t : TA} {pins : List (Addr × Obj)} {σ : L2.St} {H : Hp} {s : Shared} {Q : VK}
end
section
variable {X : Cx} {x y n c : Str} {np hp cp ep ap pos xp pp cpos : Pos} {a : Expr} {as : List Expr} {t : TA}
end
end Hs

namespace Hs
open PySem PySem.Spec PyProof.Rows L2
/-! ### try: m = f(..) except C as n: c = n -/
section
variable {X : Cx} {x y n c o : Str} {op np hp cp ep ap pos xp pp cpos : Pos} {a : Expr} {as : List Expr} {t : TA}
end
end Hs

namespace Hs
open PySem PySem.Spec PyProof.Rows L2
/-! ### methods that raise -/
section
variable {X : Cx} {E : XK} {o e : Expr} {es : List Expr} {ta te : TE} {t : TA} {m : Str} {pos apos p1 p2 : Pos}
/-! ### f"{name}.." -/
end
end Hs

namespace Hs
open PySem PySem.Spec PyProof.Rows L2
section
variable {X : Cx} {a b c e o st : Expr} {ta tb tc te to ts : TE} {pos apos p2 : Pos} {body : List Stmt} {tt : TT} {tsb : TS}
/-! ### more of texts -/
theorem bs_while (hp : PassesOwn (model X.prog X.w) X.A X.env X.xe) (hc : Bx (PT X c tt)) (hb : Bx (PSs X body tsb)) : Bx (PS X (.While c body [] pos) (tWhile tt tsb)) := ⟨ps_while hp hc.o hb.o⟩
end
/-! ### lines -/
end Hs

namespace Hs
open PySem PySem.Spec PyProof.Rows L2
/-! ### joints -/
/-- what stands between two pieces, whichever way the first went -/
theorem seq_by {t u : TS} {D : Ends} {σ : L2.St} {H : Hp} (I : L2.St → Hp → Prop) (h : ∀ G : L2.St → Hp → Prop, (∀ σ' H', I σ' H' → G σ' H') → t { D with nx := G } σ H) (hI : ∀ σ' H', I σ' H' → u D σ' H') : tSeq t u D σ H := h (u D) hI
theorem at_nx {i : Nat} {v : V} {σ : L2.St} {H : Hp} {N : L2.St → Hp → Prop} (σ' : L2.St) (h : N σ' H) (e : σ.set i (some v) = σ' := by rfl) : gName i v σ H N := by
  subst e
  exact h
theorem at_seq {i : Nat} {v : V} {σ : L2.St} {H : Hp} {D : Ends} {t u : TS} {R : VK} {B C : L2.St → Hp → Prop} (σ' : L2.St) (h : tSeq t u D σ' H) (e : σ.set i (some v) = σ' := by rfl) : gName i v σ H (Ends.nx { nx := tSeq t u D, rt := R, bk := B, ct := C }) := by
  subst e
  exact h
theorem or2 {c : Bool} {σ : L2.St} {H : Hp} {u : TT} {F : Bool → Hp → Prop} (hF : F true H) (hU : c = false → F true H → u σ H F) : if c = true then F true H else u σ H F := by
  cases c with
  | true => exact hF
  | false => exact hU rfl hF
theorem tups_lst {H : Hp} {D : Addr} {xs : List V} {o : HO} (h : H D = some (.lst xs)) : Tups H (upd H D o) := fun c ys e => by
  rw [upd_ne (ne_of e h (by intro z; cases z))]
  exact e
theorem sIx {j n : Nat} (h : j < n) : seqIndex? ((j : Nat) : Int) n = some j := PySem.StrLaws.seqIndex_nonneg (by omega) (by omega)
/-! ### the turns of a dict comprehension over a tuple -/
theorem dc_tup {K : PySem.W.Frag} {a : Addr} {xs : List V} {g : TG} {tt : TT} {tk tv : TE} {vs : List Nat} {σ : L2.St} {H1 : Hp} {D : Addr} {Qd : Hp → Prop} (Pv : Nat → Hp → Prop) (h0 : Pv 0 (upd H1 D (.dK []))) (hl : ∀ i H, i ≤ xs.length → Pv i H → SqT K H a xs)
    (hs : ∀ i x H, xs[i]? = some x → Pv i H → g x (wipe σ vs) H fun σ2 H2 => wipe σ2 vs = wipe σ vs ∧ tt σ2 H2 fun b H3 =>
      if b = true then tk σ2 H3 fun kk H4 => tv σ2 H4 fun vv H5 => ∃ H6, (∃ kvs k, H5 D = some (.dK kvs) ∧ kk = kV k ∧ kvs.length < sizeLine ∧ H6 = upd H5 D (.dK (putK kvs k vv))) ∧ Pv (i + 1) H6 else Pv (i + 1) H3) (hd : ∀ H, Pv xs.length H → Qd H) :
    ∃ W : Nat → Nat → Hp → Prop, (∃ m, W 0 m (upd H1 D (.dK []))) ∧ ∀ i m H, W i m H →
      ((Itt K a).stop i H ∧ Qd H) ∨ ((Itt K a).go i H ∧ ∃ Nx : Hp → Prop, (∀ H', Nx H' → ∃ m', m' < m ∧ W (i + 1) m' H') ∧ ∀ x H', (Itt K a).yld i H x H' → g x (wipe σ vs) H' fun σ2 H2 => wipe σ2 vs = wipe σ vs ∧ tt σ2 H2 fun b H3 =>
        if b = true then tk σ2 H3 fun kk H4 => tv σ2 H4 fun vv H5 => ∃ H6, (∃ kvs k, H5 D = some (.dK kvs) ∧ kk = kV k ∧ kvs.length < sizeLine ∧ H6 = upd H5 D (.dK (putK kvs k vv))) ∧ Nx H6 else Nx H3) := by
  refine ⟨fun i m H => m = xs.length - i ∧ i ≤ xs.length ∧ Pv i H, ⟨xs.length, by simp, Nat.zero_le _, h0⟩, ?_⟩
  rintro i m H ⟨rfl, hi, p⟩
  have hS := hl i H hi p
  by_cases hlt : i < xs.length
  · have hx : xs[i]? = some xs[i] := List.getElem?_eq_getElem hlt
    refine .inr ⟨⟨xs, _, hS, hx⟩, Pv (i + 1), fun H' p' => ⟨xs.length - (i + 1), by omega, rfl, hlt, p'⟩, fun x H' y => ?_⟩
    obtain ⟨e, y⟩ := y
    subst e
    exact hs i x _ (y xs hS) p
  · have e : i = xs.length := by omega
    subst e
    exact .inl ⟨⟨xs, hS, Nat.le_refl _⟩, hd H p⟩
section
variable {X : Cx} {a b e e2 : Expr} {ta tb te te2 : TE} {pos pos' apos cpos : Pos}
theorem bs_daug {op : Operator} {rd : V → V → Hp → VK → Prop} (hu : X.A.units + 1 < cLine) (hop : InOp X op rd) (ho : Bx (PE X a ta)) (hi : Bx (PE X b tb)) (hv : Bx (PE X e te))
    (ha : ∀ ov iv new, augStore b ov iv new = (do holding [new, ov, iv] (setItem ov iv new); release [new, ov, iv] []; pure .next) := by intro _ _ _; rfl) : Bx (PS X (.AugAssign (.Subscript a b pos') op e pos) (sDAug ta tb te rd)) := ⟨ps_daug hu ho.o hi.o hv.o hop ha⟩
end
end Hs

namespace Hs
open PySem PySem.Spec PyProof.Rows L2
/-! ### trees -/
def needsOf (bk : Book) : List Str := bk.flatMap (·.how.names)
def cntN (bk : Book) (x : Str) : Nat := (needsOf bk).count x
def isTree (bk : Book) : Bool := decide (bk.map (fun a => (cntN bk a.name : Int)) = List.replicate (bk.length - 1) (1 : Int) ++ [0])
theorem needsOf_take {bk : Book} {i : Nat} {a : Part} (h : bk[i]? = some a) : needsOf (bk.take (i + 1)) = needsOf (bk.take i) ++ a.how.names := by
  unfold needsOf
  rw [List.take_add_one, h, List.flatMap_append]
  simp
theorem isTree_last {bk : Book} {z : Part} (h : bk.getLast? = some z) : isTree bk = (decide (cntN bk z.name = 0) && bk.dropLast.all fun a => decide (cntN bk a.name = 1)) := by
  have hne : bk ≠ [] := by intro e; rw [e] at h; cases h
  have e1 : bk = bk.dropLast ++ [z] := by
    have := List.dropLast_concat_getLast hne
    rw [List.getLast?_eq_some_getLast hne] at h
    cases h
    exact this.symm
  have hl : bk.length - 1 = bk.dropLast.length := by rw [List.length_dropLast]
  unfold isTree
  rw [hl]
  generalize hf : (fun a : Part => (cntN bk a.name : Int)) = f
  have e2 : bk.map f = bk.dropLast.map f ++ [f z] := by
    conv => lhs; rw [e1]
    rw [List.map_append]
    rfl
  rw [e2]
  have h3 : (bk.dropLast.map f ++ [f z] = List.replicate bk.dropLast.length 1 ++ [0]) ↔ (f z = 0 ∧ ∀ a ∈ bk.dropLast, f a = 1) := by
    constructor
    · intro h
      have := List.append_inj h (by rw [List.length_map, List.length_replicate])
      refine ⟨by have := this.2; simpa using this, fun a ha => ?_⟩
      exact (List.eq_replicate_iff.mp this.1).2 _ (List.mem_map.mpr ⟨a, ha, rfl⟩)
    · rintro ⟨h1, h2⟩
      have h4 : bk.dropLast.map f = List.replicate bk.dropLast.length 1 := List.eq_replicate_iff.mpr ⟨by rw [List.length_map], fun y hy => by
        obtain ⟨a, ha, rfl⟩ := List.mem_map.mp hy
        exact h2 a ha⟩
      rw [h1, h4]
  rw [Bool.eq_iff_iff]
  rw [decide_eq_true_iff, h3, Bool.and_eq_true, decide_eq_true_iff, List.all_eq_true]
  have hz : f z = 0 ↔ cntN bk z.name = 0 := by rw [← hf]; show ((cntN bk z.name : Int) = 0) ↔ _; omega
  have ha : ∀ a, f a = 1 ↔ cntN bk a.name = 1 := fun a => by rw [← hf]; show ((cntN bk a.name : Int) = 1) ↔ _; omega
  rw [hz]
  refine and_congr Iff.rfl ⟨fun h a m => decide_eq_true ((ha a).mp (h a m)), fun h a m => (ha a).mpr (of_decide_eq_true (h a m))⟩
/-- how a tree grows: what is needed and the roots are the names -/
def TreeInv (bk : Book) (rt : List Str) : Prop := (needsOf bk ++ rt).Perm (bk.map (·.name)) ∧ (bk = [] ∨ ∃ rt0 z, bk.getLast? = some z ∧ rt = rt0 ++ [z.name])
theorem TreeInv.nil : TreeInv [] [] := ⟨List.Perm.refl _, .inl rfl⟩
theorem TreeInv.snoc {bk : Book} {rt rt' nn : List Str} {a : Part} (h : TreeInv bk rt) (hp : (nn ++ rt').Perm rt) (hn : a.how.names = nn) : TreeInv (bk ++ [a]) (rt' ++ [a.name]) := by
  refine ⟨?_, .inr ⟨rt', a, by simp, rfl⟩⟩
  have e : needsOf (bk ++ [a]) = needsOf bk ++ nn := by
    unfold needsOf
    rw [List.flatMap_append]
    simp [hn]
  rw [e, List.map_append, ← List.append_assoc, List.append_assoc (needsOf bk)]
  exact List.Perm.append_right _ ((List.Perm.append_left _ hp).trans h.1)
theorem TreeInv.tree {bk : Book} {rt : List Str} (h : TreeInv bk rt) (hO : BookOk bk) (h1 : 1 ≤ bk.length) (hr : rt.length ≤ 1) : isTree bk = true := by
  obtain ⟨hp, he | ⟨rt0, z, hz, e⟩⟩ := h
  · rw [he] at h1
    simp at h1
  · have h0 : rt0 = [] := by
      rw [e, List.length_append, List.length_singleton] at hr
      exact List.eq_nil_of_length_eq_zero (by omega)
    rw [e, h0, List.nil_append] at hp
    obtain ⟨ys, ey⟩ := List.getLast?_eq_some_iff.mp hz
    have hd : bk.dropLast = ys := by rw [ey, List.dropLast_concat]
    have hnd := hO.nd
    have cnt : ∀ y ∈ bk.map (·.name), (needsOf bk).count y + [z.name].count y = 1 := fun y hy => by
      rw [← List.count_append, hp.count_eq]
      have h2 := List.nodup_iff_count.mp hnd y
      have h3 := List.count_pos_iff.mpr hy
      omega
    rw [isTree_last hz, Bool.and_eq_true, decide_eq_true_iff, List.all_eq_true]
    have hzm : z ∈ bk := by rw [ey]; simp
    refine ⟨?_, fun a ha => decide_eq_true ?_⟩
    · have := cnt z.name (List.mem_map.mpr ⟨z, hzm, rfl⟩)
      rw [List.count_singleton_self] at this
      show (needsOf bk).count z.name = 0
      omega
    · rw [hd] at ha
      have ham : a ∈ bk := by rw [ey]; exact List.mem_append_left _ ha
      have := cnt a.name (List.mem_map.mpr ⟨a, ham, rfl⟩)
      have hne : a.name ≠ z.name := fun e2 => by
        rw [ey, List.map_append] at hnd
        exact (List.nodup_append.mp hnd).2.2 a.name (List.mem_map.mpr ⟨a, ha, rfl⟩) z.name (by simp) e2
      have h0 : [z.name].count a.name = 0 := List.count_eq_zero.mpr (by simp [hne])
      rw [h0] at this
      show (needsOf bk).count a.name = 1
      omega
theorem drop_perm {α : Type} : ∀ {l : List α} {i : Nat} (h : i < l.length), (l[i] :: l.eraseIdx i).Perm l
  | [], _, h => by simp at h
  | x :: l, 0, _ => List.Perm.refl _
  | x :: l, i + 1, h => by
    show (l[i]'(by simpa using h) :: x :: l.eraseIdx i).Perm (x :: l)
    exact (List.Perm.swap x _ _).trans ((drop_perm (l := l) (i := i) (by simpa using h)).cons x)

end Hs
namespace Hs
open PySem PySem.Spec PyProof.Rows L2
theorem ex_pss {X : Cx} {sts : List Stmt} {t : TS} {D : Ends} {σ : L2.St} {H : Hp} (h : Bx (PSs X sts t)) (k : t D σ H) : ∃ t, PSs X sts t ∧ t D σ H := ⟨t, h.o, k⟩
section
variable {X : Cx} {a e : Expr} {apos cpos : Pos} {ta : TE} {t : TA}
theorem b_popAtK (K' : PySem.W.Frag) (ho : Bx (PE X a ta)) (ha : Bx (PA X [e] t)) (hK : X.K = K' := by rfl) (hbase : attributeBase a "pop" X.env (eval a X.env) = eval a X.env := by rfl)
    (hfew : ((backTo cpos (starEach [e] X.env)).all (fun x => !x.1) && (backToKw cpos (keywordEach [] X.env)).all (fun x => x.1.isSome) && decide ([e].length + ([] : List Keyword).length + (if ([] : List Keyword).isEmpty then 0 else 1) < 30)) = true := by rfl)
    (hline : (apos.endLine == cpos.line) = true := by rfl) (he : noStar e = true := by rfl) :
    Bx (PE X (.Call (.Attribute a "pop" apos) [e] [] cpos) (tBM K' "list" rPopAt ta t)) := by
  subst hK
  exact b_popAt ho ha hbase hfew hline he
end
/-! ### _law_tree: what is held meanwhile -/
structure TrN (H : Hp) (t lw lf lr : Addr) : Prop where
  tw : t ≠ lw
  tf : t ≠ lf
  tr : t ≠ lr
  wf : lw ≠ lf
  wr : lw ≠ lr
  fr : lf ≠ lr
  nt : H t = none
  nf : H lf = none
  nr : H lr = none
structure TrS (H : Hp) (t lw lf lr : Addr) (ws : List Str) (H2 : Hp) (ps : List Addr) (bk : Book) (rt : List Str) : Prop where
  par : PartsAt H2 ps bk
  same : Same H H2
  tp : Tape H2 t
  w : H2 lw = some (.lst (ws.map V.str))
  f : H2 lf = some (.lst (ps.map V.ref))
  r : H2 lr = some (.lst (rt.map V.str))
section
variable {H H2 H3 : Hp} {t lw lf lr : Addr} {ws : List Str} {ps : List Addr} {bk : Book} {rt : List Str}
theorem TrS.but (N : TrN H t lw lf lr) (T : TrS H t lw lf lr ws H2 ps bk rt) (b : But t H2 H3) (hT : Tape H3 t) : TrS H t lw lf lr ws H3 ps bk rt :=
  ⟨T.par.tups (b.tupsT T.tp), T.same.butTo b N.nt, hT, b _ _ N.tw.symm T.w, b _ _ N.tf.symm T.f, b _ _ N.tr.symm T.r⟩
theorem TrS.sm (T : TrS H t lw lf lr ws H2 ps bk rt) (b : Same H2 H3) : TrS H t lw lf lr ws H3 ps bk rt := by
  obtain ⟨n, hn⟩ := T.tp
  exact ⟨T.par.tups b.tups, T.same.trans b, ⟨n, b _ _ hn⟩, b _ _ T.w, b _ _ T.f, b _ _ T.r⟩
theorem TrS.setR (N : TrN H t lw lf lr) (T : TrS H t lw lf lr ws H2 ps bk rt) (rt' : List Str) : TrS H t lw lf lr ws (upd H2 lr (.lst (rt'.map V.str))) ps bk rt' := by
  obtain ⟨n, hn⟩ := T.tp
  exact ⟨T.par.tups (tups_lst T.r), T.same.own N.nr, ⟨n, by rw [upd_ne N.tr]; exact hn⟩, by rw [upd_ne N.wr]; exact T.w, by rw [upd_ne N.fr]; exact T.f, upd_same⟩
theorem TrS.set {D : Addr} {xs : List V} {o : HO} (T : TrS H t lw lf lr ws H2 ps bk rt) (h : H2 D = some (.lst xs)) (h0 : H D = none) (h1 : t ≠ D) (h2 : lw ≠ D) (h3 : lf ≠ D) (h4 : lr ≠ D) : TrS H t lw lf lr ws (upd H2 D o) ps bk rt := by
  obtain ⟨n, hn⟩ := T.tp
  exact ⟨T.par.tups (tups_lst h), T.same.own h0, ⟨n, by rw [upd_ne h1]; exact hn⟩, by rw [upd_ne h2]; exact T.w, by rw [upd_ne h3]; exact T.f, by rw [upd_ne h4]; exact T.r⟩
theorem TrS.add {p : Addr} {a : Part} (N : TrN H t lw lf lr) (T : TrS H t lw lf lr ws H2 ps bk rt) (hp : PartAt H2 p a) : TrS H t lw lf lr ws (upd H2 lf (.lst (ps.map V.ref ++ [V.ref p]))) (ps ++ [p]) (bk ++ [a]) rt := by
  obtain ⟨n, hn⟩ := T.tp
  exact ⟨(T.par.snoc hp).tups (tups_lst T.f), T.same.own N.nf, ⟨n, by rw [upd_ne N.tf]; exact hn⟩, by rw [upd_ne N.wf]; exact T.w, by rw [upd_same, List.map_append]; rfl, by rw [upd_ne N.fr.symm]; exact T.r⟩
end
def lenF (σ : L2.St) (H : Hp) : Nat := match σ[7]? with
  | some (some (V.ref p)) => match H p with
    | some (.lst xs) => 25 - xs.length
    | _ => 0
  | _ => 0
section
variable {P : Program} {w : World} {K : PySem.W.Frag} {mg : Str → Option Value} {base : Heap}
abbrev nTree : List Str := ["script", "start", "most", "tape", "many", "words", "wide", "found", "roots", "count", "names", "k", "recipe"]
def spTree (K : PySem.W.Frag) : Sp := fun vs H Q _ => ∃ (a : Addr) (ns : List Int) (st mo : Int), vs = [.ref a, .int st, .int mo] ∧ SqL K H a (ns.map V.int) ∧ 0 ≤ st ∧ st ≤ 900 ∧ 1 ≤ mo ∧ mo ≤ 24 ∧
  ∀ (b : Addr) (bk : Book) (H' : Hp), BookOk bk → (∀ a ∈ bk, NoB a.name) → 1 ≤ bk.length → bk.length ≤ 24 → isTree bk = true → (bk.length : Int) ≤ mo + (mo + 1) / 3 → BookAt H' b bk → Same H H' → Q (.ref b) H'
theorem sc_tree : FnScope nTree ["script", "start", "most"] (defScope s_law_tree) := ⟨rfl, rfl, rfl, by decide +kernel, rfl, by decide +kernel, by decide +kernel⟩
set_option maxHeartbeats 4000000 in
theorem c_tree (B : Blt mg) (D : Dfn K mg "_law_tree" s_law_tree) (Ct : Cal P w K mg base 2 "_law_tape" ["script", "k"] (spTape K)) (C : Cal P w K mg base 1 "_law_digit" ["tape", "many"] spDigit) (Cw : Cal P w K mg base 2 "_law_words" ["tape", "many"] spWords)
    (Cn : Cal P w K mg base 2 "_law_number" ["tape"] spNumber) : Cal P w K mg base 3 "_law_tree" ["script", "start", "most"] (spTree K) := by
  refine D.cal (fun _ _ _ _ _ _ us hl => match us, hl with | [_, _, _], _ => rfl) fun f fd F => F.ok sc_tree (fun vs H Q E h => ?_) (fun cdv A outer s H vs Q E hr h => ?_)
  · obtain ⟨a, _, _, _, rfl, _⟩ := h
    rfl
  · obtain ⟨a, ns, st, mo, rfl, hS, hs0, hs1, hm0, hm1, q⟩ := h
    have nd := sc_tree.nd
    refine ex_pss ((bs_c (bs_set 3 nd (b_cal Ct hr (ba_c (b_v 0) (ba_c (b_v 1) ba_nil))))
      (bs_c (bs_set 4 nd (b_op op_add b_int (b_cal C hr (ba_c (b_v 3) (ba_c (b_v 2) ba_nil)))))
      (bs_c (bs_set 5 nd (b_cal Cw hr (ba_c (b_v 3) (ba_c b_int ba_nil))))
      (bs_c (bs_set 6 nd (b_ix ix_list (b_lst (ba_c b_int (ba_c b_int (ba_c b_int (ba_c b_int (ba_c b_int ba_nil)))))) (b_cal C hr (ba_c (b_v 3) (ba_c b_int ba_nil)))))
      (bs_c (bs_set 7 nd (b_lst ba_nil))
      (bs_c (bs_set 8 nd (b_lst ba_nil))
      (bs_c (bs_while PassesOwn.never (bt_w (bw_or (bt_cmpR op_lt (b_callB call_len_seq B.len (ba_c (b_v 7) ba_nil)) (b_v 4) (nomark _)) (bw_or1 (bt_cmpR op_gt (b_callB call_len_seq B.len (ba_c (b_v 8) ba_nil)) b_int (nomark _))))) (bs_c (bs_set 9 nd (b_callB (call_min2 rfl) B.min (ba_c (b_callB call_len_seq B.len (ba_c (b_v 8) ba_nil)) (ba_c (b_cal C hr (ba_c (b_v 3) (ba_c (b_op op_add (b_v 6) b_int) ba_nil))) ba_nil))))
      (bs_c (bs_if (bt_w (bw_or (bt_cmpR op_gt (b_op op_add (b_callB call_len_seq B.len (ba_c (b_v 7) ba_nil)) (b_callB call_len_seq B.len (ba_c (b_v 8) ba_nil))) b_int (nomark _)) (bw_or1 (bt_cmpR op_ge (b_callB call_len_seq B.len (ba_c (b_v 7) ba_nil)) (b_v 4) (nomark _))))) (bs_one (bs_set 9 nd (b_callB (call_min2 rfl) B.min (ba_c b_int (ba_c (b_callB call_len_seq B.len (ba_c (b_v 8) ba_nil)) ba_nil))))) bs_nil)
      (bs_c (bs_setc 10 [("k", 11)] nTree (defScope s_law_tree) nd (bi_range1 B.range (ba_c (b_v 9) ba_nil)) (fun _ _ _ _ _ => bts_nil) (fun _ _ _ _ _ => (b_popAtK K (b_v 8) (ba_c (b_cal C hr (ba_c (b_v 3) (ba_c (b_callB (r := fun xs H Q => ∃ p ys, xs = [.ref p] ∧ (SqL K H p ys ∨ SqT K H p ys) ∧ Q (.int ys.length) H) call_len_seq B.len (ba_c (b_v 8) ba_nil)) ba_nil))) ba_nil))) (fun _ _ _ _ _ => (bg_n 11 nd)))
      (bs_c (bs_set 12 nd (b_tup (ba_c b_str (ba_c (b_cal C hr (ba_c (b_v 3) (ba_c b_int ba_nil))) ba_nil))))
      (bs_c (bs_if (bt_cmpR (op_neD hr.units) (b_v 10) (b_lst ba_nil) (nomark _)) (bs_one (bs_set 12 nd (b_tup (ba_c (b_ix ix_list (b_lst (ba_c b_str (ba_c b_str (ba_c b_str ba_nil)))) (b_cal C hr (ba_c (b_v 3) (ba_c b_int ba_nil)))) (ba_c (b_callTy call_tuple_of B.tuple (ba_c (b_v 10) ba_nil)) ba_nil))))) bs_nil)
      (bs_c (bs_if (bt_w (bw_and (bt_cmpR op_eq (b_callB call_len_seq B.len (ba_c (b_v 10) ba_nil)) b_int (nomark _)) (bw_and1 (bt_cmpR op_eq (b_cal C hr (ba_c (b_v 3) (ba_c b_int ba_nil))) b_int (nomark _))))) (bs_one (bs_set 12 nd (b_tup (ba_c b_str (ba_c (b_callTy call_tuple_of B.tuple (ba_c (b_v 10) ba_nil)) ba_nil))))) bs_nil)
      (bs_c (bs_expr (b_append (b_v 8) (ba_c (b_ix ix_list (b_v 5) (b_callB call_len_seq B.len (ba_c (b_v 7) ba_nil))) ba_nil)))
      (bs_one (bs_expr (b_append (b_v 7) (ba_c (b_tup (ba_c (b_ix ix_list (b_v 5) (b_callB call_len_seq B.len (ba_c (b_v 7) ba_nil))) (ba_c (b_v 12) (ba_c (b_cal Cn hr (ba_c (b_v 3) ba_nil)) (ba_c (b_cal Cn hr (ba_c (b_v 3) ba_nil)) ba_nil))))) ba_nil))))))))))))
      (bs_one (bs_ret (b_callTy call_tuple_of B.tuple (ba_c (b_v 7) ba_nil)))))))))))) ?_
    refine ⟨_, rfl, _, rfl, a, ns, st, rfl, hS, hs0, by omega, fun t H1 ht hS1 hT1 => ?_⟩
    refine ⟨_, rfl, _, rfl, t, mo, rfl, hT1, by omega, by omega, fun d n1 hd0 hd1 => ⟨_, _, rfl, rfl, ?_⟩⟩
    refine ⟨_, rfl, t, 24, rfl, Tape.upd, by decide, by decide, fun lw ws H3 hp hlw hW hb3 hT3 hp3 => ?_⟩
    have hlw : ws.length = 24 := by omega
    refine ⟨lit 5, fun p5 hp5 => ?_⟩
    refine ⟨_, rfl, t, 5, rfl, hT3.new hp5, by decide, by decide, fun e n5 he0 he1 => ?_⟩
    obtain ⟨v, hv1, hv2⟩ := atI_of (xs := ([1, 2, 2, 3, 4] : List Int).map V.int) he0 he1
    obtain ⟨wd, hwd, rfl⟩ := get_map hv1
    have hwd : wd ∈ ([1, 2, 2, 3, 4] : List Int) := List.mem_of_getElem? hwd
    have hwd : 1 ≤ wd ∧ wd ≤ 4 := by simp at hwd; omega
    refine ⟨p5, _, e, _, rfl, rfl, SqL.of (by rw [upd_ne (hT3.fresh hp5).symm]; exact upd_same), hv2, ?_⟩
    have hS3 : Same H H3 := hS1.butTo ((But.upd _ _ _).trans hb3) ht
    have hpt := hT3.neStrs hp3
    have hbb : But t H3 (upd (upd H3 p5 (.lst [V.int 1, V.int 2, V.int 2, V.int 3, V.int 4])) t (.lst [.int n5])) := (But.new hp5).upd'
    have hp4 := hbb _ _ hpt hp3
    have hT4 : Tape (upd (upd H3 p5 (.lst [V.int 1, V.int 2, V.int 2, V.int 3, V.int 4])) t (.lst [.int n5])) t := Tape.upd
    have hS4 := hS3.butTo hbb ht
    generalize upd (upd H3 p5 (.lst [V.int 1, V.int 2, V.int 2, V.int 3, V.int 4])) t (.lst [.int n5]) = H4 at hp4 hT4 hS4
    refine ⟨lit 0, fun lf hlf => ?_⟩
    refine ⟨lit 0, fun lr hlr => ?_⟩
    have hpt4 := hT4.neStrs hp4
    have hT5 : Tape (upd H4 lf (.lst [])) t := hT4.new hlf
    have n1 : TrN H t lw lf lr := ⟨hpt4.symm, hT4.fresh hlf, hT5.fresh hlr, ne_of_none hp4 hlf, ne_of_none (Same.new hlf _ _ hp4) hlr, ne_of_none upd_same hlr, ht, hS4.free hlf, (hS4.trans (Same.new hlf)).free hlr⟩
    have T0 : TrS H t lw lf lr ws (upd (upd H4 lf (.lst [])) lr (.lst [])) [] [] [] := by
      refine ⟨⟨rfl, fun i p a h => by simp at h⟩, (hS4.trans (Same.new hlf)).trans (Same.new hlr), hT5.new hlr, ?_, ?_, upd_same⟩
      · rw [upd_ne n1.wr, upd_ne n1.wf]; exact hp4
      · rw [upd_ne n1.fr]; exact upd_same
    generalize upd (upd H4 lf (.lst [])) lr (.lst []) = H5 at T0
    have hLW : ∀ {H9 : Hp} {ps : List Addr} {bk : Book} {rt : List Str}, TrS H t lw lf lr ws H9 ps bk rt → ps.length = bk.length := fun T => T.par.1
    refine while_by (fun σ H2 => ∃ (ps : List Addr) (bk : Book) (rt : List Str) (v9 v10 v12 : Option V), σ = [some (.ref a), some (.int st), some (.int mo), some (.ref t), some (.int (1 + d)), some (.ref lw), some (.int wd), some (.ref lf), some (.ref lr), v9, v10, none, v12] ∧ TrS H t lw lf lr ws H2 ps bk rt ∧ Grown ws bk ∧ (∀ x ∈ rt, x ∈ ws.take bk.length) ∧ bk.length + (rt.length + 1) / 3 ≤ 24 ∧ TreeInv bk rt ∧ ((bk.length : Int) ≤ 1 + d ∧ rt.length ≤ bk.length ∨ 1 + d ≤ (bk.length : Int) ∧ (bk.length : Int) + ((rt.length : Int) + 1) / 3 ≤ 1 + d + (1 + d + 1) / 3)) lenF ⟨[], [], [], none, none, none, rfl, T0, ⟨rfl, fun i a h => by simp at h, by simp, by simp⟩, by simp, by simp, TreeInv.nil, .inl ⟨by simp; omega, Nat.le_refl _⟩⟩ ?_ ?_
    · rintro σ H2 ⟨ps, bk, rt, v9, v10, v12, rfl, T, hG, hrt, hphi, hti, hpsi⟩
      have hpl := T.par.1
      have hlf2 : (((ps.map V.ref).length : Nat) : Int) = (bk.length : Int) := by rw [List.length_map, hpl]
      have hlr2 : (((rt.map V.str).length : Nat) : Int) = (rt.length : Int) := by rw [List.length_map]
      refine ⟨_, rfl, lf, _, rfl, .inl (SqL.of T.f), _, rfl, _, _, rfl, rfl, _, rfl, ?_⟩
      rw [hlf2]
      by_cases hgo : (bk.length : Int) < 1 + d ∨ 1 < rt.length
      rotate_left
      · rw [decide_eq_false (fun z => hgo (.inl z))]
        refine iteF ?_
        refine ⟨_, rfl, lr, _, rfl, .inl (SqL.of T.r), _, _, rfl, rfl, _, rfl, ?_⟩
        rw [hlr2, decide_eq_false (fun z => hgo (.inr (by omega)))]
        refine iteF ?_
        refine ⟨_, rfl, lf, _, rfl, .inl ⟨SqL.of T.f, fun b hb => ?_⟩⟩
        exact q b bk _ (hG.ok hW.toWordsOk) (hG.nob hW) (by omega) (by omega) (hti.tree (hG.ok hW.toWordsOk) (by omega) (by omega)) (by omega) ⟨ps, upd_same, T.par.tups (Same.tups (Same.new hb))⟩ (T.same.trans (Same.new hb))
      have hb23 : bk.length ≤ 23 := by omega
      refine or2 ?_ (fun hc hF => ?_)
      rotate_left
      · have hc := of_decide_eq_false hc
        refine ⟨_, rfl, lr, _, rfl, .inl (SqL.of T.r), _, _, rfl, rfl, _, rfl, ?_⟩
        rw [hlr2, decide_eq_true (by omega)]
        exact hF
      refine iteT ?_
      have hmu : lenF [some (.ref a), some (.int st), some (.int mo), some (.ref t), some (.int (1 + d)), some (.ref lw), some (.int wd), some (.ref lf), some (.ref lr), v9, v10, none, v12] H2 = 25 - bk.length := by
        unfold lenF
        show (match H2 lf with | some (.lst xs) => 25 - xs.length | _ => 0) = _
        rw [T.f]
        show 25 - (ps.map V.ref).length = _
        rw [List.length_map, hpl]
      rw [hmu]
      refine ⟨_, rfl, lr, _, rfl, .inl (SqL.of T.r), _, rfl, _, rfl, _, _, rfl, rfl, t, _, rfl, T.tp, by omega, by omega, fun e6 n6 he0 he1 => ⟨_, _, rfl, ?_⟩⟩
      rw [ite_min, hlr2]
      have T6 := T.but n1 (But.upd _ _ (.lst [.int n6])) Tape.upd
      generalize upd H2 t (.lst [.int n6]) = H6 at T6
      refine at_seq [some (.ref a), some (.int st), some (.int mo), some (.ref t), some (.int (1 + d)), some (.ref lw), some (.int wd), some (.ref lf), some (.ref lr), some (.int (min (rt.length : Int) e6)), v10, none, v12] ?_
      refine seq_by (fun σ' H' => ∃ c : Int, σ' = [some (.ref a), some (.int st), some (.int mo), some (.ref t), some (.int (1 + d)), some (.ref lw), some (.int wd), some (.ref lf), some (.ref lr), some (.int c), v10, none, v12] ∧ H' = H6 ∧ 0 ≤ c ∧ c ≤ 4 ∧ c ≤ rt.length ∧ bk.length + 1 + (rt.length - c.toNat + 2) / 3 ≤ 24 ∧ ((1 + d) ≤ (bk.length : Int) → c = min 4 (rt.length : Int))) (fun G hG => ?_) ?_
      · refine ⟨_, rfl, lf, _, rfl, .inl (SqL.of T6.f), _, rfl, lr, _, rfl, .inl (SqL.of T6.r), _, _, rfl, rfl, _, _, rfl, rfl, _, rfl, ?_⟩
        rw [hlf2, hlr2]
        by_cases hc : (20 : Int) < bk.length + rt.length ∨ (1 + d) ≤ bk.length
        · refine or2 ?_ (fun hc' hF => ?_)
          rotate_left
          · have hc' := of_decide_eq_false hc'
            refine ⟨_, rfl, lf, _, rfl, .inl (SqL.of T6.f), _, rfl, _, _, rfl, rfl, _, rfl, ?_⟩
            rw [hlf2, decide_eq_true (by omega)]
            exact hF
          refine iteT ?_
          refine ⟨_, rfl, lr, _, rfl, .inl (SqL.of T6.r), _, _, rfl, ?_⟩
          rw [ite_min, hlr2]
          exact hG _ _ ⟨min 4 (rt.length : Int), rfl, rfl, by omega, by omega, by omega, by omega, fun _ => rfl⟩
        · rw [decide_eq_false (by omega)]
          refine iteF ?_
          refine ⟨_, rfl, lf, _, rfl, .inl (SqL.of T6.f), _, rfl, _, _, rfl, rfl, _, rfl, ?_⟩
          rw [hlf2, decide_eq_false (by omega)]
          refine iteF ?_
          exact hG _ _ ⟨_, rfl, rfl, by omega, by omega, by omega, by omega, fun z => absurd (.inr z) hc⟩
      rintro _ _ ⟨c, rfl, rfl, hc0, hc4, hcr, hphi', hmin⟩
      refine ⟨_, rfl, c, rfl, by omega, by omega, fun Dn hDn => ?_⟩
      have q1 : t ≠ Dn := T6.tp.fresh hDn
      have q2 : lw ≠ Dn := ne_of_none T6.w hDn
      have q3 : lf ≠ Dn := ne_of_none T6.f hDn
      have q4 : lr ≠ Dn := ne_of_none T6.r hDn
      have q5 : H Dn = none := T6.same.free hDn
      refine lc_range (lo := 0) (n := c.toNat) (fun i H7 => ∃ (rt' nn : List Str), TrS H t lw lf lr ws H7 ps bk rt' ∧ H7 Dn = some (.lst (nn.map V.str)) ∧ nn.length = i ∧ rt'.length + i = rt.length ∧ (∀ x ∈ rt', x ∈ rt) ∧ (∀ x ∈ nn, x ∈ rt) ∧ (nn ++ rt').Perm rt) ⟨rt, [], T6.sm (Same.new hDn), upd_same, rfl, rfl, fun _ h => h, by simp, List.Perm.refl _⟩ ?_ ?_
      · rintro i H7 hi ⟨rt', nn, T7, hD7, hnl, hrl, hs1, hs2, hpm⟩
        refine ⟨rfl, yes ?_⟩
        have hlr' : (((rt'.map V.str).length : Nat) : Int) = (rt'.length : Int) := by rw [List.length_map]
        refine ⟨_, rfl, .inl ⟨rfl, _, SqL.of T7.r⟩, _, rfl, _, rfl, lr, _, rfl, .inl (SqL.of T7.r), t, _, rfl, T7.tp, by omega, by omega, fun e7 n7 h70 h71 => ?_⟩
        have T8 := T7.but n1 (But.upd _ _ (.lst [.int n7])) Tape.upd
        have hD8 : (upd H7 t (.lst [.int n7])) Dn = some (.lst (nn.map V.str)) := by rw [upd_ne q1.symm]; exact hD7
        generalize upd H7 t (.lst [.int n7]) = H8 at T8 hD8
        rw [hlr'] at h71
        have hlt : e7.toNat < rt'.length := by omega
        have ee : e7 = ((e7.toNat : Nat) : Int) := by omega
        refine ⟨lr, _, e7, e7.toNat, .str (rt'[e7.toNat]'hlt), rfl, rfl, T8.r, by omega, by omega, ?_, ?_, ?_⟩
        · rw [ee, List.length_map]; exact sIx (by omega)
        · rw [List.getElem?_map, List.getElem?_eq_getElem hlt]; rfl
        refine ⟨nn.map V.str, ?_, by rw [List.length_map, hnl]; exact small1000 (by omega), ?_⟩
        · rw [upd_ne q4.symm]; exact hD8
        have eR : (rt'.map V.str).eraseIdx e7.toNat = (rt'.eraseIdx e7.toNat).map V.str := by rw [List.eraseIdx_eq_take_drop_succ, List.eraseIdx_eq_take_drop_succ, List.map_append, List.map_take, List.map_drop]
        rw [eR]
        have T9 := T8.setR n1 (rt'.eraseIdx e7.toNat)
        have hD9 : (upd H8 lr (.lst ((rt'.eraseIdx e7.toNat).map V.str))) Dn = some (.lst (nn.map V.str)) := by rw [upd_ne q4.symm]; exact hD8
        refine ⟨rt'.eraseIdx e7.toNat, nn ++ [rt'[e7.toNat]'hlt], T9.set hD9 q5 q1 q2 q3 q4, by rw [upd_same, List.map_append]; rfl, by rw [List.length_append, hnl]; rfl, ?_, fun x hx => hs1 x (List.mem_of_mem_eraseIdx hx), fun x hx => ?_, ?_⟩
        · rw [List.length_eraseIdx_of_lt hlt]; omega
        · rcases List.mem_append.mp hx with h | h
          · exact hs2 x h
          · rw [List.mem_singleton.mp h]; exact hs1 _ (List.getElem_mem hlt)
        · rw [List.append_assoc]
          exact (List.Perm.append_left nn (drop_perm hlt)).trans hpm
      rintro H7 ⟨rt', nn, T7, hD7, hnl, hrl, hs1, hs2, hpm⟩
      refine at_seq [some (.ref a), some (.int st), some (.int mo), some (.ref t), some (.int (1 + d)), some (.ref lw), some (.int wd), some (.ref lf), some (.ref lr), some (.int c), some (.ref Dn), none, v12] ?_
      have hnl4 : nn.length ≤ 4 := by omega
      have hnsub : ∀ x ∈ nn, x ∈ ws.take bk.length := fun x hx => hrt x (hs2 x hx)
      refine ⟨_, rfl, t, 100, rfl, T7.tp, by decide, by decide, fun e8 n8 h80 h81 => ⟨lit 2, fun r8 hr8 => ?_⟩⟩
      have hD8 : (upd H7 t (.lst [.int n8])) Dn = some (.lst (nn.map V.str)) := by rw [upd_ne q1.symm]; exact hD7
      have T8 := (T7.but n1 (But.upd _ _ (.lst [.int n8])) Tape.upd).sm (Same.new (o := .tup [.str "leaf", .int e8]) hr8)
      have hD8 := Same.new (o := .tup [.str "leaf", .int e8]) hr8 _ _ hD8
      have hR8 : RecAt (upd (upd H7 t (.lst [.int n8])) r8 (.tup [.str "leaf", .int e8])) r8 (.leaf e8) := upd_same
      generalize upd (upd H7 t (.lst [.int n8])) r8 (.tup [.str "leaf", .int e8]) = H8 at T8 hD8 hR8
      refine at_seq [some (.ref a), some (.int st), some (.int mo), some (.ref t), some (.int (1 + d)), some (.ref lw), some (.int wd), some (.ref lf), some (.ref lr), some (.int c), some (.ref Dn), none, some (.ref r8)] ?_
      have hw8 : ∀ x ∈ nn, WordOk x := fun x hx => hW.word x (List.mem_of_mem_take (hnsub x hx))
      refine seq_by (fun σ' H' => ∃ (r : Addr) (rc : Rec), σ' = [some (.ref a), some (.int st), some (.int mo), some (.ref t), some (.int (1 + d)), some (.ref lw), some (.int wd), some (.ref lf), some (.ref lr), some (.int c), some (.ref Dn), none, some (.ref r)] ∧ TrS H t lw lf lr ws H' ps bk rt' ∧ H' Dn = some (.lst (nn.map V.str)) ∧ RecAt H' r rc ∧ RecOk (ws.take bk.length) rc ∧ rc.names = nn) (fun G hG => ?_) ?_
      · refine ⟨_, rfl, lit 0, fun pe hpe => ?_⟩
        have T9 := T8.sm (Same.new (o := .lst []) hpe)
        have hD9 := Same.new (o := .lst []) hpe _ _ hD8
        have hR9 := hR8.tups (Same.new (o := .lst []) hpe).tups
        refine ⟨.list (nn.map PyData.str), .list (([] : List Str).map PyData.str), .lst (SqL.of hD9) (dpAll_strs nn), .lst (SqL.of upd_same) (dpAll_strs []), shaped_strs hw8, shaped_strs (by simp), _, rfl, ?_⟩
        have ee : PyData.eqv (.list (nn.map PyData.str)) (.list (([] : List Str).map PyData.str)) = decide (nn = []) := eqvAll_strs nn []
        rw [ee]
        clear ee
        generalize upd H8 pe (.lst []) = H9 at T9 hD9 hR9
        by_cases hn0 : nn = []
        · rw [decide_eq_true hn0]
          refine iteF ?_
          exact hG _ _ ⟨r8, .leaf e8, rfl, T9, hD9, hR9, ⟨h80, by omega⟩, by rw [hn0]; rfl⟩
        · rw [decide_eq_false hn0]
          refine iteT ?_
          have hn1 : 1 ≤ nn.length := by
            cases nn with
            | nil => exact absurd rfl hn0
            | cons _ _ => simp
          refine ⟨lit 3, fun p3 hp3 => ?_⟩
          refine ⟨_, rfl, t, 3, rfl, T9.tp.new hp3, by decide, by decide, fun e9 n9 h90 h91 => ?_⟩
          obtain ⟨v, hv1, hv2⟩ := atI_of (xs := (["plus", "times", "most"] : List Str).map V.str) h90 h91
          obtain ⟨wo, hwo, rfl⟩ := get_map hv1
          have hwo : wo ∈ (["plus", "times", "most"] : List Str) := List.mem_of_getElem? hwo
          have hwo : wo = "plus" ∨ wo = "times" ∨ wo = "most" := by simpa using hwo
          have T10 := (T9.sm (Same.new (o := .lst [V.str "plus", V.str "times", V.str "most"]) hp3)).but n1 (But.upd _ _ (.lst [.int n9])) Tape.upd
          have hD10 : (upd (upd H9 p3 (.lst [V.str "plus", V.str "times", V.str "most"])) t (.lst [.int n9])) Dn = some (.lst (nn.map V.str)) := by
            rw [upd_ne q1.symm]; exact Same.new hp3 _ _ hD9
          refine ⟨p3, _, e9, _, rfl, rfl, SqL.of (by rw [upd_ne (T9.tp.fresh hp3).symm]; exact upd_same), hv2, _, rfl, Dn, _, rfl, .inl ⟨SqL.of hD10, fun l hl => ⟨lit 2, fun r hr => ?_⟩⟩⟩
          generalize upd (upd H9 p3 (.lst [V.str "plus", V.str "times", V.str "most"])) t (.lst [.int n9]) = H10 at T10 hD10 hl hr
          have s1 : Same H10 (upd H10 l (.tup (nn.map V.str))) := Same.new hl
          have s2 : Same (upd H10 l (.tup (nn.map V.str))) (upd (upd H10 l (.tup (nn.map V.str))) r (.tup [.str wo, .ref l])) := Same.new hr
          exact hG _ _ ⟨r, .op wo nn, rfl, (T10.sm s1).sm s2, s2 _ _ (s1 _ _ hD10), ⟨l, upd_same, s2 _ _ upd_same⟩, ⟨.inl ⟨hwo, hn1, hnl4⟩, hnsub⟩, rfl⟩
      rintro _ H9 ⟨r9, rc9, rfl, T9, hD9, hR9, hO9, hnm9⟩
      refine seq_by (fun σ' H' => ∃ (r : Addr) (rc : Rec), σ' = [some (.ref a), some (.int st), some (.int mo), some (.ref t), some (.int (1 + d)), some (.ref lw), some (.int wd), some (.ref lf), some (.ref lr), some (.int c), some (.ref Dn), none, some (.ref r)] ∧ TrS H t lw lf lr ws H' ps bk rt' ∧ RecAt H' r rc ∧ RecOk (ws.take bk.length) rc ∧ rc.names = nn) (fun G hG => ?_) ?_
      · refine ⟨_, rfl, Dn, _, rfl, .inl (SqL.of hD9), rfl, _, rfl, ite2 (fun h2 => ?_) (fun _ => iteF (hG _ _ ⟨r9, rc9, rfl, T9, hR9, hO9, hnm9⟩))⟩
        have h2 : nn.length = 2 := by
          have := of_decide_eq_true h2
          injection this with this
          rw [List.length_map] at this
          omega
        refine ⟨_, rfl, t, 3, rfl, T9.tp, by decide, by decide, fun e9 n9 h90 h91 => ?_⟩
        have T10 := T9.but n1 (But.upd _ _ (.lst [.int n9])) Tape.upd
        have hD10 : (upd H9 t (.lst [.int n9])) Dn = some (.lst (nn.map V.str)) := by rw [upd_ne q1.symm]; exact hD9
        have hR10 := hR9.tups ((But.upd t H9 (.lst [.int n9])).tupsT T9.tp)
        generalize upd H9 t (.lst [.int n9]) = H10 at T10 hD10 hR10
        refine ⟨rfl, _, rfl, ite2 (fun h3 => ?_) (fun _ => hG _ _ ⟨r9, rc9, rfl, T10, hR10, hO9, hnm9⟩)⟩
        refine ⟨_, rfl, Dn, _, rfl, .inl ⟨SqL.of hD10, fun l hl => ⟨lit 2, fun r hr => ?_⟩⟩⟩
        have s1 : Same H10 (upd H10 l (.tup (nn.map V.str))) := Same.new hl
        have s2 : Same (upd H10 l (.tup (nn.map V.str))) (upd (upd H10 l (.tup (nn.map V.str))) r (.tup [.str "less", .ref l])) := Same.new hr
        exact hG _ _ ⟨r, .op "less" nn, rfl, (T10.sm s1).sm s2, ⟨l, upd_same, s2 _ _ upd_same⟩, ⟨.inr ⟨rfl, h2⟩, hnsub⟩, rfl⟩
      clear hD9 T9 hR9 hO9 hnm9 r9 rc9 H9
      rintro _ H9 ⟨r9, rc9, rfl, T9, hR9, hO9, hnm9⟩
      -- the name
      obtain ⟨x, hx⟩ : ∃ x, ws[bk.length]? = some x := ⟨ws[bk.length]'(by omega), List.getElem?_eq_getElem (by omega)⟩
      have hat : atI (ws.map V.str) (((ps.map V.ref).length : Nat) : Int) = some (V.str x) := at_of (j := bk.length) hlf2 (by rw [List.getElem?_map, hx]; rfl)
      refine ⟨_, rfl, .inl ⟨rfl, _, SqL.of T9.r⟩, _, rfl, _, rfl, lf, _, rfl, .inl (SqL.of T9.f), lw, _, _, _, rfl, rfl, SqL.of T9.w, hat, lr, _, _, rfl, rfl, T9.r, ?_, ?_⟩
      · rw [List.length_map]; exact small1000 (by omega)
      have e1 : rt'.map V.str ++ [V.str x] = (rt' ++ [x]).map V.str := by rw [List.map_append]; rfl
      rw [e1]
      have T10 := T9.setR n1 (rt' ++ [x])
      have hR10 := hR9.tups (tups_lst (o := .lst ((rt' ++ [x]).map V.str)) T9.r)
      generalize upd H9 lr (.lst ((rt' ++ [x]).map V.str)) = H10 at T10 hR10
      refine ⟨_, rfl, .inl ⟨rfl, _, SqL.of T10.f⟩, _, rfl, _, rfl, lf, _, rfl, .inl (SqL.of T10.f), lw, _, _, _, rfl, rfl, SqL.of T10.w, hat, _, rfl, ?_⟩
      refine ⟨_, rfl, t, rfl, T10.tp, fun sz H11 hz1 hz9 hb11 hT11 => ⟨_, rfl, t, rfl, hT11, fun co H12 hc1 hc9 hb12 hT12 => ⟨lit 4, fun pt hpt => ?_⟩⟩⟩
      have T12 := ((T10.but n1 hb11 hT11).but n1 hb12 hT12).sm (Same.new (o := .tup [.str x, .ref r9, .int sz, .int co]) hpt)
      have hPt : PartAt (upd H12 pt (.tup [.str x, .ref r9, .int sz, .int co])) pt ⟨x, rc9, sz, co⟩ :=
        ⟨r9, upd_same, (((hR10.tups (hb11.tupsT T10.tp)).tups (hb12.tupsT hT11)).tups (Same.tups (Same.new hpt)))⟩
      generalize upd H12 pt (.tup [.str x, .ref r9, .int sz, .int co]) = H13 at T12 hPt
      refine ⟨lf, _, _, rfl, rfl, T12.f, by rw [List.length_map, hpl]; exact small1000 (by omega), ?_⟩
      have T13 := T12.add n1 hPt
      refine ⟨⟨ps ++ [pt], bk ++ [⟨x, rc9, sz, co⟩], rt' ++ [x], _, _, _, rfl, T13, hG.snoc hx hO9 ⟨hz1, hz9⟩ ⟨hc1, hc9⟩, fun y hy => ?_, ?_, hti.snoc hpm hnm9, ?_⟩, ?_⟩
      · rw [List.length_append, show bk.length + [(⟨x, rc9, sz, co⟩ : Part)].length = bk.length + 1 from rfl, List.take_add_one]
        rcases List.mem_append.mp hy with h | h
        · exact List.mem_append_left _ (hrt y (hs1 y h))
        · rw [List.mem_singleton.mp h, hx]
          exact List.mem_append_right _ (by simp)
      · rw [List.length_append, List.length_append]
        show bk.length + 1 + (rt'.length + 1 + 1) / 3 ≤ 24
        omega
      · rw [List.length_append, List.length_append]
        show (((bk.length + 1 : Nat) : Int) ≤ 1 + d ∧ rt'.length + 1 ≤ bk.length + 1 ∨ 1 + d ≤ ((bk.length + 1 : Nat) : Int) ∧ ((bk.length + 1 : Nat) : Int) + (((rt'.length + 1 : Nat) : Int) + 1) / 3 ≤ 1 + d + (1 + d + 1) / 3)
        omega
      · unfold lenF
        show (match (upd H13 lf (.lst (ps.map V.ref ++ [V.ref pt]))) lf with | some (.lst xs) => 25 - xs.length | _ => 0) < _
        rw [upd_same]
        show 25 - (ps.map V.ref ++ [V.ref pt]).length < _
        rw [List.length_append, List.length_map, hpl]
        show 25 - (bk.length + 1) < _
        omega
    · rintro σ H2 Q1 Q2 hQ ⟨v1, e1, p1, y1, w1, w2, v2, e2, i1, i2, j1, j2, b1, k1, h⟩
      refine ⟨v1, e1, p1, y1, w1, w2, v2, e2, i1, i2, j1, j2, b1, k1, ?_⟩
      revert h
      cases b1 with
      | true => exact fun h => hQ _ _ h
      | false =>
        rintro ⟨v1, e1, p1, y1, w1, w2, i1, i2, j1, j2, b1, k1, h⟩
        exact ⟨v1, e1, p1, y1, w1, w2, i1, i2, j1, j2, b1, k1, hQ _ _ h⟩
end


end Hs
namespace Hs
open PySem PySem.Spec PyProof.Rows L2
theorem PartsAt.get {H : Hp} {ps : List Addr} {bk : Book} (h : PartsAt H ps bk) {i : Nat} {v : V} (hv : (ps.map V.ref)[i]? = some v) : ∃ p a, v = .ref p ∧ bk[i]? = some a ∧ PartAt H p a := by
  obtain ⟨p, hp, rfl⟩ := get_map hv
  have hi := (List.getElem?_eq_some_iff.mp hp).1
  have hb : bk[i]? = some (bk[i]'(by rw [← h.1]; exact hi)) := List.getElem?_eq_getElem _
  exact ⟨p, _, rfl, hb, h.2 i p _ hp hb⟩
section
variable {P : Program} {w : World} {K : PySem.W.Frag} {mg : Str → Option Value} {base : Heap}
/-! ### names_in -/
abbrev nNamesIn : List Str := ["recipe", "word", "given"]
def spNamesIn : Sp := fun vs H Q _ => ∃ (r : Addr) (rc : Rec) (ws : List Str), vs = [.ref r] ∧ RecAt H r rc ∧ RecOk ws rc ∧ ∀ (q : Addr) (H' : Hp), H' q = some (.tup (rc.names.map V.str)) → Same H H' → Q (.ref q) H'
theorem sc_names_in : FnScope nNamesIn ["recipe"] (defScope s_names_in) := ⟨rfl, rfl, rfl, by decide +kernel, rfl, by decide +kernel, by decide +kernel⟩
theorem not_leaf {ws ns : List Str} {wd : Str} (h : RecOk ws (.op wd ns)) : wd ≠ "leaf" := by
  intro z
  subst z
  rcases h.1 with ⟨h, _⟩ | ⟨h, _⟩
  · exact absurd h (by decide +kernel)
  · exact absurd h (by decide +kernel)
theorem c_names_in (D : Dfn K mg "names_in" s_names_in) : Cal P w K mg base 1 "names_in" ["recipe"] spNamesIn := by
  refine D.cal (fun _ _ _ _ _ _ us hl => match us, hl with | [_], _ => rfl) fun f fd F => F.ok sc_names_in (fun vs H Q E h => ?_) (fun cdv A outer s H vs Q E hr h => ?_)
  · obtain ⟨a, _, _, rfl, _⟩ := h
    rfl
  · obtain ⟨r, rc, ws, rfl, hR, hO, q⟩ := h
    have nd := sc_names_in.nd
    refine ⟨_, (bs_c (bs_asg (b_v 0) (bg_tup (bgs_c (bg_n 1 nd) (bgs_c (bg_n 2 nd) bgs_nil))))
      (bs_one (bs_ret (b_if (bt_cmpR op_eq (b_v 1) b_str (nomark _)) (b_tup ba_nil) (b_v 2))))).o, ?_⟩
    cases rc with
    | leaf n =>
      refine ⟨_, rfl, r, _, rfl, SqT.of hR, rfl, _, _, rfl, _, _, rfl, rfl, ?_⟩
      refine ⟨_, rfl, rfl, _, rfl, ite2 (fun _ => ⟨lit 0, fun p hp => q p _ upd_same (Same.new hp)⟩) (fun hc => absurd (decide_eq_true rfl) hc)⟩
    | op wd ns =>
      obtain ⟨q0, h1, h2⟩ := id hR
      refine ⟨_, rfl, r, _, rfl, SqT.of h1, rfl, _, _, rfl, _, _, rfl, rfl, ?_⟩
      refine ⟨_, rfl, rfl, _, rfl, ite2 (fun hc => ?_) (fun _ => ⟨_, rfl, q q0 H h2 (Same.refl H)⟩)⟩
      exact absurd (by have z := of_decide_eq_true hc; injection z) (not_leaf hO)
end


end Hs
namespace Hs
open PySem PySem.Spec PyProof.Rows L2
section
variable {P : Program} {w : World} {K : PySem.W.Frag} {mg : Str → Option Value} {base : Heap}
theorem strE {a b : Str} (h : decide (V.str a = V.str b) = true) : a = b := by have z := of_decide_eq_true h; injection z
theorem names4 {ws : List Str} {rc : Rec} (h : RecOk ws rc) : rc.names.length ≤ 4 := by
  cases rc with
  | leaf n => simp [Rec.names]
  | op wd us =>
    rcases h.1 with ⟨_, _, h⟩ | ⟨_, h⟩
    · exact h
    · simp [Rec.names, h]
/-! ### _law_needs -/
abbrev nNeeds : List Str := ["part"]
def spNeeds : Sp := fun vs H Q _ => ∃ (p : Addr) (a : Part) (ws : List Str), vs = [.ref p] ∧ PartAt H p a ∧ RecOk ws a.how ∧ ∀ (l : Addr) (H' : Hp), H l = none → Same H H' → H' l = some (.lst (a.how.names.map V.str)) → Q (.ref l) H'
theorem sc_needs : FnScope nNeeds ["part"] (defScope s_law_needs) := ⟨rfl, rfl, rfl, by decide +kernel, rfl, by decide +kernel, by decide +kernel⟩
theorem c_needs (B : Blt mg) (D : Dfn K mg "_law_needs" s_law_needs) : Cal P w K mg base 1 "_law_needs" ["part"] spNeeds := by
  refine D.cal (fun _ _ _ _ _ _ us hl => match us, hl with | [_], _ => rfl) fun f fd F => F.ok sc_needs (fun vs H Q E h => ?_) (fun cdv A outer s H vs Q E hr h => ?_)
  · obtain ⟨a, _, _, rfl, _⟩ := h
    rfl
  · obtain ⟨p, a, ws, rfl, ⟨r, hp, hR⟩, hO, q⟩ := h
    have nd := sc_needs.nd
    refine ⟨_, (bs_c (bs_if (bt_cmpR op_eq (b_ix ix_tup (b_ix ix_tup (b_v 0) b_int) b_int) b_str (nomark _)) (bs_one (bs_ret (b_lst ba_nil))) bs_nil)
      (bs_one (bs_ret (b_callTy call_list_of B.list (ba_c (b_ix ix_tup (b_ix ix_tup (b_v 0) b_int) b_int) ba_nil))))).o, ?_⟩
    cases e : a.how with
    | leaf n =>
      rw [e] at hR q
      refine ⟨_, rfl, p, _, _, _, rfl, rfl, SqT.of hp, rfl, r, _, _, _, rfl, rfl, SqT.of hR, rfl, rfl, _, rfl, ite2 (fun _ => ⟨lit 0, fun l hl => q l _ hl (Same.new hl) upd_same⟩) (fun hc => absurd (decide_eq_true rfl) hc)⟩
    | op wd us =>
      rw [e] at hR q hO
      obtain ⟨q0, h1, h2⟩ := hR
      refine ⟨_, rfl, p, _, _, _, rfl, rfl, SqT.of hp, rfl, r, _, _, _, rfl, rfl, SqT.of h1, rfl, rfl, _, rfl, ite2 (fun hc => absurd (strE hc) (not_leaf hO)) (fun _ => ?_)⟩
      exact ⟨_, rfl, p, _, _, _, rfl, rfl, SqT.of hp, rfl, r, _, _, _, rfl, rfl, SqT.of h1, rfl, q0, _, rfl, .inr (SqT.of h2), fun l hl => q l _ hl (Same.new hl) upd_same⟩
end


end Hs
namespace Hs
open PySem PySem.Spec PyProof.Rows L2
theorem dpAll_ints {K : PySem.W.Frag} {H : Hp} : ∀ ns : List Int, DpAll K H (ns.map V.int) (ns.map PyData.int)
  | [] => .nil
  | x :: r => .cons (.int x) (dpAll_ints r)
theorem canLay_ints : ∀ ns : List Int, PyData.canLayAll0 (ns.map PyData.int) = true
  | [] => rfl
  | x :: r => by
    show (PyData.canLay0 (.int x) && PyData.canLayAll0 (r.map PyData.int)) = true
    rw [canLay_ints r]
    rfl
theorem depth_ints : ∀ ns : List Int, PyData.depthAll (ns.map PyData.int) = 0
  | [] => rfl
  | x :: r => by
    show max (PyData.depth (.int x)) (PyData.depthAll (r.map PyData.int)) = 0
    rw [depth_ints r]
    rfl
theorem shaped_ints (ns : List Int) : SeqAt.shaped (.list (ns.map PyData.int)) = true := by
  unfold SeqAt.shaped
  have a : PyData.canLay0 (.list (ns.map PyData.int)) = true := canLay_ints ns
  have b : PyData.depth (.list (ns.map PyData.int)) = 1 := by
    show PyData.depthAll (ns.map PyData.int) + 1 = 1
    rw [depth_ints]
  rw [a, b]
  rfl
theorem eqvAll_ints : ∀ xs ys : List Int, PyData.eqvAll (xs.map PyData.int) (ys.map PyData.int) = decide (xs = ys)
  | [], [] => rfl
  | [], _ :: _ => rfl
  | _ :: _, [] => rfl
  | x :: xs, y :: ys => by
    show (PyData.eqv (.int x) (.int y) && PyData.eqvAll (xs.map PyData.int) (ys.map PyData.int)) = _
    rw [eqvAll_ints xs ys]
    show ((x == y) && decide (xs = ys)) = _
    by_cases h : x = y
    · subst h
      simp
    · simp [h]
/-- a dict of texts: what it tells -/
def DV (H : Hp) (d : Addr) (m : Nat) (F : Str → Option V) : Prop := ∃ kvs, H d = some (.dK kvs) ∧ kvs.length ≤ m ∧ ∀ x, valV kvs (Sum.inr x : Key) = F x
theorem DV.same {H H' : Hp} {d : Addr} {m : Nat} {F : Str → Option V} (h : DV H d m F) (s : Same H H') : DV H' d m F := by
  obtain ⟨kvs, a, b, c⟩ := h
  exact ⟨kvs, s _ _ a, b, c⟩
theorem DV.mono {H : Hp} {d : Addr} {m n : Nat} {F : Str → Option V} (h : DV H d m F) (l : m ≤ n) : DV H d n F := by
  obtain ⟨kvs, a, b, c⟩ := h
  exact ⟨kvs, a, Nat.le_trans b l, c⟩
theorem DV.fn {H : Hp} {d : Addr} {m : Nat} {F G : Str → Option V} (h : DV H d m F) (e : ∀ x, F x = G x) : DV H d m G := by
  obtain ⟨kvs, a, b, c⟩ := h
  exact ⟨kvs, a, b, fun x => (c x).trans (e x)⟩
theorem dv_put {H : Hp} {d : Addr} {m : Nat} {F : Str → Option V} {kvs : List (Key × V)} (h1 : kvs.length ≤ m) (h2 : ∀ x, valV kvs (Sum.inr x : Key) = F x) (y : Str) (v : V) : DV (upd H d (.dK (putK kvs (Sum.inr y : Key) v))) d (m + 1) (fun x => if x = y then some v else F x) := by
  refine ⟨_, upd_same, Nat.le_trans (length_putK _ _ _) (by omega), fun x => ?_⟩
  rw [valV_put]
  show _ = if x = y then some v else F x
  by_cases e : x = y
  · rw [if_pos (by rw [e]), if_pos e]
  · rw [if_neg (by intro z; injection z with z; exact e z), if_neg e, h2]
theorem dgetS {H : Hp} {d : Addr} {kvs : List (Key × V)} {x : Str} {o : Option V} (h : H d = some (.dK kvs)) (e : valV kvs (Sum.inr x : Key) = o) : DGet H d (.str x) o := by
  rw [← e]
  exact DGet.k (k := Sum.inr x) h
section
variable {P : Program} {w : World} {K : PySem.W.Frag} {mg : Str → Option Value} {base : Heap}
/-! ### is_tree -/
abbrev nIsT : List Str := ["book", "times", "part", "need"]
def spIsT : Sp := fun vs H Q _ => ∃ (b : Addr) (bk : Book), vs = [.ref b] ∧ BookAt H b bk ∧ BookOk bk ∧ 1 ≤ bk.length ∧ bk.length ≤ 24 ∧ ∀ H' : Hp, Same H H' → Q (.bl (isTree bk)) H'
theorem sc_isT : FnScope nIsT ["book"] (defScope s_is_tree) := ⟨rfl, rfl, rfl, by decide +kernel, rfl, by decide +kernel, by decide +kernel⟩
def cF (ns l : List Str) (x : Str) : Option V := if x ∈ ns then some (.int (l.count x)) else none
set_option maxHeartbeats 2000000 in
theorem c_isT (B : Blt mg) (D : Dfn K mg "is_tree" s_is_tree) (Cn : Cal P w K mg base 1 "names_in" ["recipe"] spNamesIn) : Cal P w K mg base 2 "is_tree" ["book"] spIsT := by
  refine D.cal (fun _ _ _ _ _ _ us hl => match us, hl with | [_], _ => rfl) fun f fd F => F.ok sc_isT (fun vs H Q E h => ?_) (fun cdv A outer s H vs Q E hr h => ?_)
  · obtain ⟨b, _, rfl, _⟩ := h
    rfl
  · obtain ⟨b, bk, rfl, ⟨ps, hb, hP⟩, hO, h1, h24, q⟩ := h
    have nd := sc_isT.nd
    have hu := hu_of hr
    have hpl := hP.1
    refine ex_pss ((bs_c (bs_set 1 nd (b_dc [("part", 2)] nIsT (defScope s_is_tree) nd (bi_tup (b_v 0)) (fun _ _ _ _ _ => bts_nil) (fun _ _ _ _ _ => (b_ix (r := rIxT K) ix_tup (b_v 2) b_int)) (fun _ _ _ _ _ => b_int) (fun _ _ _ _ _ => (bg_n 2 nd))))
      (bs_c (bs_for (bi_tup (b_v 0)) (bg_n 2 nd) (bs_one (bs_for (bi_tup (b_cal Cn hr (ba_c (b_ix ix_tup (b_v 2) b_int) ba_nil))) (bg_n 3 nd) (bs_one (bs_daug hu in_add (b_v 1) (b_v 3) b_int)))))
      (bs_one (bs_ret (b_cmpR (op_eqD hr.units) (b_c 2 nIsT (defScope s_is_tree) nd (bi_tup (b_v 0)) (fun _ _ _ _ _ => bts_nil) (fun _ _ _ _ _ => (b_dget hu (b_v 1) (b_ix (r := rIxT K) ix_tup (b_v 2) b_int))) (fun _ _ _ _ _ => (bg_n 2 nd))) (b_op op_cat (b_op op_rep (b_lst (ba_c b_int ba_nil)) (b_op op_sub (b_callB call_len_seq B.len (ba_c (b_v 0) ba_nil)) b_int)) (b_lst (ba_c b_int ba_nil))) (nomark _))))))) ?_
    refine ⟨_, rfl, b, rfl, ⟨_, SqT.of hb⟩, fun d hd => ?_⟩
    have hdb : b ≠ d := ne_of_none hb hd
    refine dc_tup (K := K) (a := b) (xs := ps.map V.ref) (fun i H2 => Same H H2 ∧ DV H2 d i (cF ((bk.take i).map (·.name)) [])) ⟨Same.new hd, [], upd_same, Nat.le_refl _, fun x => rfl⟩ ?_ ?_ ?_
    · rintro i H2 _ ⟨hS2, _⟩
      exact SqT.of (hS2 _ _ hb)
    · rintro i v H2 hi ⟨hS2, kvs, hk1, hk2, hk3⟩
      obtain ⟨p, a, rfl, ha, r, hp, hR⟩ := hP.get hi
      refine ⟨rfl, yes ?_⟩
      refine ⟨_, rfl, p, _, _, _, rfl, rfl, SqT.of (hS2 _ _ hp), rfl, _, ⟨kvs, Sum.inr a.name, hk1, rfl, small1000 (by have := (List.getElem?_eq_some_iff.mp ha).1; omega), rfl⟩, hS2.own hd, ?_⟩
      refine (dv_put hk2 hk3 a.name (.int 0)).fn fun x => ?_
      unfold cF
      rw [List.take_add_one, ha, List.map_append]
      show _ = if x ∈ _ ++ [a.name] then _ else _
      by_cases e : x = a.name
      · rw [if_pos e, if_pos (List.mem_append_right _ (by rw [e]; exact List.mem_singleton_self _))]
        rfl
      · rw [if_neg e]
        by_cases m : x ∈ (bk.take i).map (·.name)
        · rw [if_pos m, if_pos (List.mem_append_left _ m)]
        · rw [if_neg m, if_neg (fun z => (List.mem_append.mp z).elim m (fun z => e (List.mem_singleton.mp z)))]
    rintro H2 ⟨hS2, hV2⟩
    rw [List.length_map, hpl, List.take_length] at hV2
    refine at_seq [some (.ref b), some (.ref d), none, none] ?_
    -- the needs are counted
    have hnm : ∀ (i : Nat) (a : Part), bk[i]? = some a → ∀ y ∈ a.how.names, y ∈ bk.map (·.name) := fun i a ha y hy => by
      have hh := hO.how i a ha
      cases hw : a.how with
      | leaf n => rw [hw] at hy; cases hy
      | op wd us =>
        rw [hw] at hh hy
        have := hh.2 y hy
        rw [List.map_take] at this
        exact List.mem_of_mem_take this
    refine ⟨_, rfl, b, rfl, ⟨_, SqT.of (hS2 _ _ hb)⟩, for_tup (K := K) (a := b) (xs := ps.map V.ref) (fun i σ H3 => ∃ (v2 v3 : Option V), σ = [some (.ref b), some (.ref d), v2, v3] ∧ Same H H3 ∧ DV H3 d (24 + 4 * i) (cF (bk.map (·.name)) (needsOf (bk.take i)))) ⟨_, _, rfl, hS2, hV2.mono (by omega)⟩ ?_ ?_ ?_⟩
    · rintro i σ H3 _ ⟨_, _, _, hS3, _⟩
      exact SqT.of (hS3 _ _ hb)
    · rintro i v σ H3 hi ⟨v2, v3, rfl, hS3, hV3⟩
      obtain ⟨p, a, rfl, ha, r, hp, hR⟩ := hP.get hi
      have hi24 := (List.getElem?_eq_some_iff.mp ha).1
      have hhow := hO.how i a ha
      refine ⟨_, rfl, p, _, _, _, rfl, rfl, SqT.of (hS3 _ _ hp), rfl, r, a.how, _, rfl, hR.tups hS3.tups, hhow, fun t H4 ht4 hS4 => ?_⟩
      have hS04 := hS3.trans hS4
      have hV4 := hV3.same hS4
      have hn4 := names4 hhow
      refine ⟨t, rfl, ⟨_, SqT.of ht4⟩, for_tup (K := K) (a := t) (xs := a.how.names.map V.str) (fun j σ H5 => ∃ (v3 : Option V), σ = [some (.ref b), some (.ref d), some (.ref p), v3] ∧ Same H H5 ∧ H5 t = some (.tup (a.how.names.map V.str)) ∧ DV H5 d (24 + 4 * i + j) (cF (bk.map (·.name)) (needsOf (bk.take i) ++ a.how.names.take j))) ⟨_, rfl, hS04, ht4, by rw [List.take_zero, List.append_nil]; exact hV4⟩ ?_ ?_ ?_⟩
      · rintro j σ H5 _ ⟨_, _, _, h5, _⟩
        exact SqT.of h5
      · rintro j v σ H5 hj ⟨v3, rfl, hS5, ht5, kvs, hk1, hk2, hk3⟩
        obtain ⟨y, hy, rfl⟩ := get_map hj
        have hj4 := (List.getElem?_eq_some_iff.mp hy).1
        have hym := hnm i a ha y (List.mem_of_getElem? hy)
        have hval : valV kvs (Sum.inr y : Key) = some (.int ((needsOf (bk.take i) ++ a.how.names.take j).count y)) := by
          rw [hk3]
          unfold cF
          rw [if_pos hym]
        refine ⟨_, rfl, _, rfl, d, _, rfl, dgetS hk1 hval, _, _, rfl, rfl, _, DPut.k (k := Sum.inr y) hk1 (small1000 (by omega)), ?_⟩
        refine ⟨_, rfl, hS5.own hd, ?_, ?_⟩
        · rw [upd_ne (ne_of ht5 hk1 (by intro z; cases z))]
          exact ht5
        · refine (dv_put hk2 hk3 y _).fn fun x => ?_
          unfold cF
          rw [List.take_add_one, hy, ← List.append_assoc]
          by_cases e : x = y
          · subst e
            have ec : (needsOf (bk.take i) ++ a.how.names.take j ++ (some x).toList).count x = (needsOf (bk.take i) ++ a.how.names.take j).count x + 1 := by
              rw [List.count_append (l₂ := (some x).toList)]
              show _ + List.count x [x] = _
              rw [List.count_singleton_self]
            rw [if_pos rfl, if_pos hym, ec]
            rfl
          · rw [if_neg e, List.count_append (l₂ := Option.toList (some y))]
            have : List.count x (Option.toList (some y)) = 0 := by
              show List.count x [y] = 0
              rw [List.count_singleton]
              simp [Ne.symm e]
            rw [this]
            rfl
      · rintro σ H5 ⟨v3, rfl, hS5, ht5, hV5⟩
        rw [List.length_map, List.take_length, ← needsOf_take ha] at hV5
        exact ⟨_, _, rfl, hS5, hV5.mono (by omega)⟩
    rintro σ H3 ⟨v2, v3, rfl, hS3, kvs, hk1, hk2, hk3⟩
    rw [List.length_map, hpl, List.take_length] at hk3
    refine ⟨_, rfl, b, rfl, ⟨_, SqT.of (hS3 _ _ hb)⟩, fun Dl hDl => ?_⟩
    have hdl : d ≠ Dl := ne_of_none hk1 hDl
    refine lc_tup (K := K) (a := b) (xs := ps.map V.ref) (fun i H4 => H4 = upd H3 Dl (.lst (((bk.take i).map (fun a => (cntN bk a.name : Int))).map V.int))) rfl ?_ ?_ ?_
    · rintro i H4 _ rfl
      exact SqT.of (Same.new hDl _ _ (hS3 _ _ hb))
    · rintro i v H4 hi rfl
      obtain ⟨p, a, rfl, ha, r, hp, hR⟩ := hP.get hi
      have hi24 := (List.getElem?_eq_some_iff.mp ha).1
      have hval : valV kvs (Sum.inr a.name : Key) = some (.int (cntN bk a.name)) := by
        rw [hk3]
        unfold cF
        rw [if_pos (List.mem_map.mpr ⟨a, List.mem_of_getElem? ha, rfl⟩)]
        rfl
      refine ⟨rfl, yes ?_⟩
      refine ⟨_, rfl, _, rfl, p, _, _, _, rfl, rfl, SqT.of (Same.new hDl _ _ (hS3 _ _ hp)), rfl, d, _, rfl, dgetS (by rw [upd_ne hdl]; exact hk1) hval, _, upd_same, ?_, ?_⟩
      · rw [List.length_map, List.length_map, List.length_take]
        exact small1000 (by omega)
      · rw [upd_upd, List.take_add_one, ha, List.map_append, List.map_append]
        rfl
    rintro H4 rfl
    rw [List.length_map, hpl, List.take_length]
    have hS4 : Same H3 (upd H3 Dl (.lst ((bk.map (fun a => (cntN bk a.name : Int))).map V.int))) := Same.new hDl
    have hl4 : (upd H3 Dl (.lst ((bk.map (fun a => (cntN bk a.name : Int))).map V.int))) Dl = some (.lst ((bk.map (fun a => (cntN bk a.name : Int))).map V.int)) := upd_same
    generalize upd H3 Dl (.lst ((bk.map (fun a => (cntN bk a.name : Int))).map V.int)) = H4 at hS4 hl4
    have hS04 := hS3.trans hS4
    refine ⟨lit 1, fun p1 hp1 => ?_⟩
    have s1 : Same H4 (upd H4 p1 (.lst [.int 1])) := Same.new hp1
    have u1 : (upd H4 p1 (.lst [.int 1])) p1 = some (.lst [.int 1]) := upd_same
    generalize upd H4 p1 (.lst [.int 1]) = H5 at s1 u1
    have hlen : (((ps.map V.ref).length : Nat) : Int) = (bk.length : Int) := by rw [List.length_map, hpl]
    have hS05 := hS04.trans s1
    refine ⟨_, rfl, b, _, rfl, .inr (SqT.of (hS05 _ _ hb)), _, _, rfl, rfl, p1, _, _, rfl, rfl, u1, by rw [hlen]; omega, by rw [hlen]; omega, ?_, fun p2 hp2 => ?_⟩
    · rw [hlen]
      show 1 * _ ≤ _
      exact Nat.le_of_lt (small1000 (by omega))
    rw [hlen]
    have e2 : (List.replicate ((bk.length : Int) - 1).toNat [V.int 1]).flatten = (List.replicate (bk.length - 1) (1 : Int)).map V.int := by
      rw [show ((bk.length : Int) - 1).toNat = bk.length - 1 by omega, List.map_replicate]
      generalize bk.length - 1 = n
      induction n with
      | zero => rfl
      | succ n ih => rw [List.replicate_succ, List.replicate_succ, List.flatten_cons, ih]; rfl
    rw [e2]
    have s2 : Same H5 (upd H5 p2 (.lst ((List.replicate (bk.length - 1) (1 : Int)).map V.int))) := Same.new hp2
    have u2 : (upd H5 p2 (.lst ((List.replicate (bk.length - 1) (1 : Int)).map V.int))) p2 = some (.lst ((List.replicate (bk.length - 1) (1 : Int)).map V.int)) := upd_same
    generalize upd H5 p2 (.lst ((List.replicate (bk.length - 1) (1 : Int)).map V.int)) = H6 at s2 u2
    refine ⟨lit 1, fun p3 hp3 => ?_⟩
    have s3 : Same H6 (upd H6 p3 (.lst [.int 0])) := Same.new hp3
    have u3 : (upd H6 p3 (.lst [.int 0])) p3 = some (.lst [.int 0]) := upd_same
    have u2' := s3 _ _ u2
    generalize upd H6 p3 (.lst [.int 0]) = H7 at s3 u3 u2'
    refine ⟨p2, p3, _, _, rfl, rfl, u2', u3, ?_, fun p4 hp4 => ?_⟩
    · rw [List.length_map, List.length_replicate]
      show bk.length - 1 + 1 ≤ _
      exact Nat.le_of_lt (small1000 (by omega))
    have e4 : (List.replicate (bk.length - 1) (1 : Int)).map V.int ++ [V.int 0] = (List.replicate (bk.length - 1) (1 : Int) ++ [0]).map V.int := by rw [List.map_append]; rfl
    rw [e4]
    have s4 : Same H7 (upd H7 p4 (.lst ((List.replicate (bk.length - 1) (1 : Int) ++ [0]).map V.int))) := Same.new hp4
    have u4 : (upd H7 p4 (.lst ((List.replicate (bk.length - 1) (1 : Int) ++ [0]).map V.int))) p4 = some (.lst ((List.replicate (bk.length - 1) (1 : Int) ++ [0]).map V.int)) := upd_same
    generalize upd H7 p4 (.lst ((List.replicate (bk.length - 1) (1 : Int) ++ [0]).map V.int)) = H8 at s4 u4
    have s48 := s1.trans (s2.trans (s3.trans s4))
    refine ⟨.list ((bk.map (fun a => (cntN bk a.name : Int))).map .int), .list ((List.replicate (bk.length - 1) (1 : Int) ++ [0]).map .int), .lst (SqL.of (s48 _ _ hl4)) (dpAll_ints _), .lst (SqL.of u4) (dpAll_ints _), shaped_ints _, shaped_ints _, ?_⟩
    have ee : PyData.eqv (.list ((bk.map (fun a => (cntN bk a.name : Int))).map .int)) (.list ((List.replicate (bk.length - 1) (1 : Int) ++ [0]).map .int)) = isTree bk := eqvAll_ints _ _
    rw [ee]
    exact q _ (hS04.trans s48)
end


end Hs
namespace PySem
open Sem (wp)
open Builtin
/-! ### a tuple, so many times -/
end PySem
namespace Hs
open PySem PySem.Spec PyProof.Rows L2
section
variable {X : Cx}
end
end Hs

namespace Hs
open PySem PySem.Spec PyProof.Rows L2
theorem at_last' {α : Type} {xs : List α} {v : α} (h : xs.getLast? = some v) : atI xs (-1) = some v := by
  have hne : xs ≠ [] := by intro e; rw [e] at h; cases h
  rw [List.getLast?_eq_some_getLast hne] at h
  cases h
  have := atI_last xs.dropLast (xs.getLast hne)
  rwa [List.dropLast_concat_getLast hne] at this
/-! ### who needs whom -/
section
variable {H0 H H' : Hp} {d pe : Addr} {m : Nat} {L : List Str} {y : Str} {kvs : List (Key × V)}
end
section
variable {P : Program} {w : World} {K : PySem.W.Frag} {mg : Str → Option Value} {base : Heap}
/-! ### _law_is_tree -/
end

end Hs
namespace Hs
open PySem PySem.Spec PyProof.Rows L2
/-! ### a lambda that subtracts one item of a tuple from another -/
section
variable {P : Program} {w : World} {A : Around} {s : Shared}
/-- what may be known of the lambda's text -/
structure LamSc (x : Str) (sc : Scope) : Prop where
  kind : sc.kind = .function
  co : sc.isCoroutine = false
  gen : sc.isGenerator = false
  loc : sc.names.lookup x = some .local
  cell : ∀ y ∈ sc.names, y.2 ≠ .cell
def subB (x : Str) (i k : Int) (p1 p2 p3 p4 p5 p6 p7 : Pos) (c1 c2 : Nat) : Expr :=
  .BinOp (.Subscript (.Name x p1) (.Constant (.int i) c1 p2) p3) .Sub (.Subscript (.Name x p4) (.Constant (.int k) c2 p5) p6) p7
theorem lam_call {f a c' : Addr} {x qual : Str} {params : Arguments} {sc : Scope} {pm ctv : Value} {i k : Int} {p1 p2 p3 p4 p5 p6 p7 : Pos} {c1 c2 : Nat} {its : Array Value} {y z : Int} {ty tz : Tok} {E : Value → Shared → Prop}
    (hS : LamSc x sc) (ho : s.heap.get? f = some (PySem.W.kla_obj "<lambda>" qual params (subB x i k p1 p2 p3 p4 p5 p6 p7 c1 c2) sc [] pm c' ctv)) (hcd : s.heap.CodeRec (.ref c') qual) (lim : s.heap.NoLimit) (hroom : A.depth < recursionLimit)
    (hbind : bindArgs (PySem.W.kla_fn "<lambda>" qual params (subB x i k p1 p2 p3 p4 p5 p6 p7 c1 c2) sc [] pm (.ref c') ctv) ⟨[.ref a], []⟩ = pure [(x, .ref a)]) (hxd : (x == ("__debug__" : Str)) = false)
    (ht : IsTup s.heap a its) (hi : 0 ≤ i) (hi2 : i < 1000) (hk : 0 ≤ k) (hk2 : k < 1000) (hy : its[i.toNat]? = some (.int y ty)) (hz : its[k.toNat]? = some (.int z tz)) :
    wpAny (model P w) A (call (.ref f) [.ref a]) (fun v s' => ∃ h' tk t', s' = { s with heap := h', toks := tk } ∧ v = .int (y - z) t' ∧ ∀ b o, s.heap.get? b = some o → h'.get? b = some o) E s := by
  refine wpAny_call (PySem.W.kla_callFunE hroom ho rfl hS.co hS.gen rfl hcd ?_)
  rw [hbind]
  refine wpAny_pure (wpAny_newFunctionEnv hS.cell (fun y hy => ?_) (fun h₁ hns hsb => ⟨lim.fresh _ hsb, ?_⟩) hS.kind)
  · rw [List.mem_singleton.mp hy]
    exact hS.loc
  have hk₁ : ∀ b o, s.heap.get? b = some o → h₁.get? b = some o := fun b o e => hsb.extBut b o (Nat.ne_of_lt (Heap.lt_size e)) (Heap.get?_push_of_some _ e)
  generalize henv : newEnv sc s.heap.objs.size mainGlobals [] (qual ++ ".<locals>.") (some f) (.ref c') none builtinsNs = env
  have hloc : env.locals = s.heap.objs.size := by rw [← henv]; rfl
  have hesc : env.scope = sc := by rw [← henv]; rfl
  refine PySem.W.kla_codeExpr ?_
  have ht1 : IsTup h₁ a its := by
    obtain ⟨o, e, r⟩ := ht
    exact ⟨o, hk₁ _ _ e, r⟩
  have rd : ∀ (tk : Nat) (p : Pos) (Q : Value → Shared → Prop) (E' : Value → Shared → Prop), Q (.ref a) { s with heap := h₁, toks := tk } → wpAny (model P w) (A.deeper env) (eval (.Name x p) env) Q E' { s with heap := h₁, toks := tk } := fun tk p Q E' hq => by
    refine wpAny_Name (wpAny_loadName_local (m := fun x_1 => [(x, Value.ref a)].reverse.lookup x_1) (by rw [hesc]; exact hS.kind) (by show env.kindOf x = _; unfold Env.kindOf; rw [hesc]; exact hS.loc) (by rw [hloc]; exact hns) ?_ hq) hxd
    show List.lookup x [(x, Value.ref a)] = some (.ref a)
    rw [List.lookup_cons, beq_self_eq_true]
  have ix : ∀ (tk : Nat) (j : Int) (u : Value) (p q r : Pos) (cc : Nat) (Q : Value → Shared → Prop) (E' : Value → Shared → Prop), 0 ≤ j → j < 1000 → its[j.toNat]? = some u → (∀ tk', Q u { s with heap := h₁, toks := tk' }) → wpAny (model P w) (A.deeper env) (eval (.Subscript (.Name x p) (.Constant (.int j) cc q) r) env) Q E' { s with heap := h₁, toks := tk } := fun tk j u p q r cc Q E' h0 h1 hu hq => by
    refine Subscript_ (rd tk p _ E' ?_)
    refine wpAny_Constant_int ?_
    have hsz : j.toNat < its.size := (Array.getElem?_eq_some_iff.mp hu).1
    refine subscriptTail_builtinR (x := u) ht1.typeIs slot_tuple_getitem.lookup (getItem_tuple (j := j.toNat) (Q := fun r s' => r = u ∧ Q r s') ht1 (by omega) (by omega) ?_ hu ⟨rfl, hq _⟩) rfl
    exact PySem.StrLaws.seqIndex_nonneg h0 (by omega)
  refine wpAny_BinOp (ix _ i _ p1 p2 p3 c1 _ _ hi hi2 hy fun tk1 => ix _ k _ p4 p5 p6 c2 _ _ hk hk2 hz fun tk2 => ?_)
  exact sub_int ⟨h₁, _, _, rfl, rfl, hk₁⟩
end
/-! ### the table of a def's code, in which the codes of its lambdas are kept -/
def codeX (c : Addr) (qual : Str) : HO := .ext fun h => h.CodeRec (.ref c) qual
def TabAt (H : Hp) (T : Addr) (pos : Pos) (qual : Str) : Prop :=
  ∃ ps : Array Value, H T = some (.tbl ps) ∧ TriplesOk ps.toList ∧ (codeAmong pos ps.toList = none ∨ ∃ c', codeAmong pos ps.toList = some (.ref c') ∧ H c' = some (codeX c' qual))
theorem TabAt.but {H H' : Hp} {T b : Addr} {pos : Pos} {qual : Str} (h : TabAt H T pos qual) (s : But b H H') (hT : T ≠ b) (hb : ∀ c, H c = some (codeX c qual) → c ≠ b) : TabAt H' T pos qual := by
  obtain ⟨ps, h1, h2, h3⟩ := h
  refine ⟨ps, s _ _ hT h1, h2, h3.imp id fun ⟨c', e1, e2⟩ => ⟨c', e1, s _ _ (hb _ e2) e2⟩⟩
theorem TabAt.same {H H' : Hp} {T : Addr} {pos : Pos} {qual : Str} (h : TabAt H T pos qual) (s : Same H H') : TabAt H' T pos qual := by
  obtain ⟨ps, h1, h2, h3⟩ := h
  exact ⟨ps, s _ _ h1, h2, h3.imp id fun ⟨c', e1, e2⟩ => ⟨c', e1, s _ _ e2⟩⟩
theorem code_ok {P : Program} {w : World} {H : Hp} {h : Heap} {c : Addr} {qual : Str} (x : h.CodeRec (.ref c) qual) : ObjOk P w H h c (codeX c qual) := by
  refine ⟨x, ?_, fun h1 h2 q k => ?_⟩
  · obtain ⟨c1, o, vs, t, e, g, r⟩ := x
    cases e
    exact ⟨o, g⟩
  · obtain ⟨c1, o, vs, t, e, g, r⟩ := q
    cases e
    exact ⟨c, o, vs, t, rfl, k _ g, r⟩
section
variable {X : Cx} {pins : List (Addr × Obj)} {σ : L2.St} {H : Hp} {s : Shared}
theorem lam_made {params : Arguments} {body : Expr} {sc : Scope} {pos : Pos} {c T : Addr} (I : Inv X pins σ H s) (hcode : X.env.code = .ref c) (C : PySem.W.CodeHd X.base c T) (hB : X.base.BuiltinsAt X.mg T) (hcl : closureFor sc X.env = pure [])
    (hdef : defaultsOf params X.env = ([], [])) (hT : TabAt H T pos (X.env.qual ++ "<lambda>")) :
    wpAny (model X.prog X.w) X.A (eval (.Lambda params body sc pos) X.env) (fun v s' => ∃ (f c' : Addr) (ctv pm : Value) (H' : Hp), v = .ref f ∧ Inv X pins σ H' s' ∧ s'.heap.get? f = some (PySem.W.kla_obj "<lambda>" (X.env.qual ++ "<lambda>") params body sc [] pm c' ctv) ∧
      s'.heap.CodeRec (.ref c') (X.env.qual ++ "<lambda>") ∧ s'.heap.objs.size = f + 1 ∧ But T H H' ∧ TabAt H' T pos (X.env.qual ++ "<lambda>")) X.xe s := by
  obtain ⟨ps, hP, ht, hm⟩ := hT
  have hPh : s.heap.get? T = some (PySem.W.tabObj ps) := I.hok T _ hP
  have hg : s.heap.Ns mainGlobals X.mg := I.mod.glob.keeps I.bk
  have hC := C.keeps I.bk
  have hBs : s.heap.BuiltinsAt X.mg T := by
    obtain ⟨bm, ob, a1, a2, a3, a4, a5, r⟩ := hB
    exact ⟨bm, ob, a1, a2, a3, a4, I.bk _ _ a5, r⟩
  have hgP : mainGlobals ≠ T := fun q => by
    obtain ⟨o, es, ep, e, hd, _⟩ := hg
    rw [q, hPh] at e; cases e; cases hd
  refine PySem.W.kla_eval hdef ?_
  rcases hm with hnf | ⟨c', hf, hc'⟩
  · refine PySem.W.kla_makeFunction hcl I.ok.glob hg hcode hC hPh ht hnf hgP hBs fun c' ctv h' tk hx hge hlt hrec htb => ?_
    have hc0 : H c' = none := I.hok.fresh hge
    have hTc : T ≠ c' := ne_of_none hP hc0
    have kp : ∀ b o, b ≠ T → s.heap.get? b = some o → (h'.push (PySem.W.kla_obj "<lambda>" (X.env.qual ++ "<lambda>") params body sc [] ((X.mg "__name__").getD .none) c' ctv)).get? b = some o := fun b o hb e => Heap.get?_push_of_some _ (hx b o hb e)
    have nT : ∀ b, H b = none → b ≠ T := fun b q z => by rw [z, hP] at q; cases q
    refine ⟨h'.objs.size, c', ctv, _, upd (upd H T (.tbl (ps ++ #[rawInt pos.line, rawInt pos.col, .ref c']))) c' (codeX c' (X.env.qual ++ "<lambda>")), rfl, ?_, Heap.get?_push_size _ rfl, hrec.push _, Heap.size_push .., fun b o hb e => ?_, ?_⟩
    · refine I.step (g' := s.gens) (d' := s.drawn) (ch := []) (fun b hb => absurd hb (by simp)) (fun b o _ _ _ e n => kp b o (nT b n) e) (fun b o _ _ _ e n => ⟨o.slots, kp b o (nT b n) e⟩) (fun b o _ e n => ?_) (fun b o _ e => ?_) (fun b xs e => ?_) (fun b o u e => ?_) (fun b qs e => ?_) (fun m hm => ?_) (fun b u e => ?_) I.bare
      · rw [upd_ne (Nat.ne_of_lt (Nat.lt_of_lt_of_le (Heap.lt_size e) hge)), upd_ne (nT b n)]
        exact n
      · by_cases hb : b = T
        · rw [hb]; exact ⟨_, Heap.get?_push_of_some _ htb⟩
        · exact ⟨o, kp b o hb e⟩
      · rw [upd_ne (ne_of_none e hc0), upd_ne (ne_of e hP (by intro z; cases z))]
        exact e
      · rw [upd_ne (ne_of_none e hc0), upd_ne (ne_of e hP (by intro z; cases z))]
        exact e
      · by_cases hb : b = T
        · subst hb
          rw [hP] at e
          cases e
          exact ⟨#[rawInt pos.line, rawInt pos.col, .ref c'], by rw [upd_ne hTc, upd_same]⟩
        · exact ⟨#[], by rw [upd_ne (ne_of_none e hc0), upd_ne hb, e]; simp⟩
      · obtain ⟨o, es, ep, ho, r⟩ := hm
        exact ⟨o, es, ep, kp _ o (nT _ I.free) ho, r⟩
      · by_cases hb : b = c'
        · subst hb
          rw [upd_same] at e
          cases e
          exact code_ok (hrec.push _)
        · rw [upd_ne hb] at e
          by_cases hbT : b = T
          · subst hbT
            rw [upd_same] at e
            cases e
            exact Heap.get?_push_of_some _ htb
          · rw [upd_ne hbT] at e
            have nown : ∀ c, H c = some (.own b) → c ≠ T := fun c q z => by rw [z, hP] at q; cases q
            refine (I.hok b u e).stay (fun c v hc q => kp c v ?_ q) (fun c q => ?_) fun c xs q => ?_
            · rcases hc with z | z
              · rw [z]; exact hbT
              · exact nown c z
            · rw [upd_ne (ne_of_none q hc0), upd_ne (nown c q)]; exact q
            · rw [upd_ne (ne_of_none q hc0), upd_ne (ne_of q hP (by intro z; cases z))]; exact q
    · rw [upd_ne (ne_of_none e hc0), upd_ne hb]
      exact e
    · refine ⟨ps ++ #[rawInt pos.line, rawInt pos.col, .ref c'], by rw [upd_ne hTc, upd_same], ?_, .inr ⟨c', ?_, upd_same⟩⟩
      · rw [Array.toList_append]
        exact TriplesOk_snoc _ _ _ _ ht
      · rw [Array.toList_append]
        exact codeAmong_snoc _ ht hnf
  · refine PySem.W.kla_makeFunctionHit hcl I.ok.glob hg hcode hC hPh ht hf hBs fun ctv h' tk hk hsz => ?_
    have kp : ∀ b o, s.heap.get? b = some o → (h'.push (PySem.W.kla_obj "<lambda>" (X.env.qual ++ "<lambda>") params body sc [] ((X.mg "__name__").getD .none) c' ctv)).get? b = some o := fun b o e => Heap.get?_push_of_some _ (hk b o e)
    have hrec : s.heap.CodeRec (.ref c') (X.env.qual ++ "<lambda>") := (I.hok c' _ hc').1
    exact ⟨h'.objs.size, c', ctv, _, H, rfl, I.kept kp, Heap.get?_push_size _ rfl, hrec.keeps kp, Heap.size_push .., But.refl _ _, ps, hP, ht, .inr ⟨c', hf, hc'⟩⟩
end
/-! ### sorted(xs, key=lambda x: x[i] - x[k]) -/
theorem vals_refs : ∀ {as : List Addr} {us : List Value}, Vals (as.map V.ref) us → us = as.map Value.ref
  | [], _, h => by rw [List.map_nil] at h; cases h; rfl
  | a :: r, _, h => by
    rw [List.map_cons] at h
    cases h with
    | cons h1 h2 =>
      rw [vals_refs h2]
      cases h1
      rfl
theorem refs_vals : ∀ (as : List Addr), Vals (as.map V.ref) (as.map Value.ref)
  | [] => .nil
  | a :: r => .cons rfl (refs_vals r)
def refU : Int × Value → Option Addr := fun p => match p.2 with
  | .ref a => some a
  | _ => none
theorem refU_map (κ : Addr → Int) : ∀ as : List Addr, (as.map fun a => (κ a, Value.ref a)).filterMap refU = as
  | [] => rfl
  | a :: r => by
    rw [List.map_cons, List.filterMap_cons]
    show a :: _ = _
    rw [refU_map κ r]
theorem of_refU (κ : Addr → Int) : ∀ ps : List (Int × Value), (∀ p ∈ ps, ∃ a, p = (κ a, Value.ref a)) → ps = (ps.filterMap refU).map fun a => (κ a, Value.ref a)
  | [], _ => rfl
  | p :: r, h => by
    obtain ⟨a, rfl⟩ := h p List.mem_cons_self
    rw [List.filterMap_cons]
    show _ = (κ a, Value.ref a) :: _
    rw [← of_refU κ r fun q hq => h q (List.mem_cons_of_mem _ hq)]
theorem out_refs {κ : Addr → Int} {as : List Addr} {out : List Value} (h : KskOutSt false (as.map κ) (as.map Value.ref) out) :
    ∃ os : List Addr, out = os.map Value.ref ∧ os.Perm as ∧ os.Pairwise (fun a b => κ a ≤ κ b) ∧ ∀ c, os.filter (fun a => κ a == c) = as.filter (fun a => κ a == c) := by
  obtain ⟨ps, h1, h2, h3, h4⟩ := h
  have hz : (as.map κ).zip (as.map Value.ref) = as.map fun a => (κ a, Value.ref a) := by
    rw [List.zip_map']
  rw [hz] at h1 h4
  have hp : ps = (ps.filterMap refU).map fun a => (κ a, Value.ref a) := of_refU κ ps fun p hp => by
    obtain ⟨a, _, rfl⟩ := List.mem_map.mp (h1.mem_iff.mp hp)
    exact ⟨a, rfl⟩
  refine ⟨ps.filterMap refU, ?_, ?_, ?_, fun c => ?_⟩
  · rw [h2]
    conv => lhs; rw [hp]
    rw [List.map_map]
    rfl
  · have := h1.filterMap refU
    rwa [refU_map] at this
  · rw [hp, List.pairwise_map] at h3
    exact h3
  · have := h4 c
    rw [hp, List.filter_map, List.filter_map] at this
    have := congrArg (List.filterMap refU) this
    rw [refU_map, refU_map] at this
    exact this
section
variable {X : Cx} {pins : List (Addr × Obj)} {σ : L2.St} {H : Hp} {s : Shared}
/-- .. and one more object is laid and tracked -/
theorem inv_laid {h' : Heap} {t' : Nat} {a : Addr} {o : HO} (I : Inv X pins σ H s) (k : ∀ b o, b ≠ X.env.locals → s.heap.get? b = some o → h'.get? b = some o) (ns : ∀ m, s.heap.Ns X.env.locals m → h'.Ns X.env.locals m)
    (hp : s.heap.objs.size ≤ a) (new : ObjOk X.prog X.w (upd H a o) h' a o) : Inv X pins σ (upd H a o) { s with heap := h', toks := t' } := by
  have hn : H a = none := I.hok.fresh hp
  refine I.step (g' := s.gens) (d' := s.drawn) (ch := []) (fun b hb => absurd hb (by simp)) (fun b o h1 _ _ e _ => k b o h1 e) (fun b o h1 _ _ e _ => ⟨o.slots, k b o h1 e⟩) (fun b o _ e n => ?_) (fun b o _ e => ?_) (fun b xs e => ?_) (fun b o u e => ?_) (fun b ps e => ⟨#[], ?_⟩) ns (fun b u e => ?_) I.bare
  · rw [upd_ne (Nat.ne_of_lt (Nat.lt_of_lt_of_le (Heap.lt_size e) hp))]; exact n
  · by_cases h1 : b = X.env.locals
    · subst h1
      obtain ⟨m, hn, _⟩ := I.loc
      obtain ⟨o', _, _, ho', _⟩ := ns m hn
      exact ⟨o', ho'⟩
    · exact ⟨o, k b o h1 e⟩
  · rw [upd_ne (ne_of_none e hn)]; exact e
  · rw [upd_ne (ne_of_none e hn)]; exact e
  · rw [upd_ne (ne_of_none e hn), e]; simp
  · by_cases hb : b = a
    · subst hb
      rw [upd_same] at e
      cases e
      exact new
    · rw [upd_ne hb] at e
      have nl : ∀ c v, H c = some v → c ≠ X.env.locals := fun c v q z => by rw [z, I.free] at q; cases q
      refine (I.hok b u e).stay (fun c v hc q => k c v ?_ q) (fun c q => by rw [upd_ne (ne_of_none q hn)]; exact q) fun c xs q => by rw [upd_ne (ne_of_none q hn)]; exact q
      rcases hc with z | z
      · rw [z]; exact nl b u e
      · exact nl c _ z
/-- all objects of a heap but the frame's and the base's -/
def others (X : Cx) (h : Heap) : List (Addr × Obj) := (List.range h.objs.size).filterMap fun b => if b = X.env.locals ∨ (X.base.get? b).isSome then none else (h.get? b).map fun o => (b, o)
theorem mem_others {h : Heap} {p : Addr × Obj} : p ∈ others X h ↔ p.1 ≠ X.env.locals ∧ X.base.get? p.1 = none ∧ h.get? p.1 = some p.2 := by
  unfold others
  rw [List.mem_filterMap]
  constructor
  · rintro ⟨b, _, hb⟩
    by_cases hc : b = X.env.locals ∨ (X.base.get? b).isSome
    · rw [if_pos hc] at hb; cases hb
    · rw [if_neg hc] at hb
      cases hg : h.get? b with
      | none => rw [hg] at hb; cases hb
      | some o =>
        rw [hg] at hb
        cases hb
        refine ⟨fun z => hc (.inl z), ?_, hg⟩
        cases hq : X.base.get? b with
        | none => rfl
        | some q => exact absurd (.inr (by rw [hq]; rfl)) hc
  · rintro ⟨h1, h2, h3⟩
    refine ⟨p.1, List.mem_range.mpr (Heap.lt_size h3), ?_⟩
    rw [if_neg (by rw [h2]; simpa using h1), h3]
    rfl
end
def tSortL (T : Addr) (lp : Pos) (q : Str) (i k : Int) (te : TE) : TE := fun σ H Q => te σ H fun x H1 => ∃ (l : Addr) (as : List Addr) (κ : Addr → Int), x = .ref l ∧ H1 l = some (.lst (as.map V.ref)) ∧ as.length ≤ 1000 ∧
  (∀ a ∈ as, ∃ xs y z, H1 a = some (.tup xs) ∧ xs[i.toNat]? = some (.int y) ∧ xs[k.toNat]? = some (.int z) ∧ κ a = y - z) ∧ TabAt H1 T lp q ∧
  ∀ (D : Addr) (H2 : Hp) (os : List Addr), But T H1 H2 → TabAt H2 T lp q → H1 D = none → H2 D = some (.lst (os.map V.ref)) → os.Perm as → os.Pairwise (fun a b => κ a ≤ κ b) → (∀ c, os.filter (fun a => κ a == c) = as.filter (fun a => κ a == c)) → Q (.ref D) H2
section
variable {X : Cx} {e : Expr} {te : TE} {p pos lp kp : Pos}
set_option maxHeartbeats 1000000 in
theorem b_sortL {j : Nat} {c T : Addr} {x q : Str} {params : Arguments} {sc : Scope} {i k : Int} {p1 p2 p3 p4 p5 p6 p7 : Pos} {c1 c2 : Nat} (hr : Room j X.A) (hm : X.mg "sorted" = none) (hcode : X.env.code = .ref c) (C : PySem.W.CodeHd X.base c T) (hB : X.base.BuiltinsAt X.mg T)
    (hq : X.env.qual ++ "<lambda>" = q) (hS : LamSc x sc) (hi : 0 ≤ i) (hi2 : i < 1000) (hk : 0 ≤ k) (hk2 : k < 1000) (he : Bx (PE X e te))
    (hg : Gl X "sorted" := by rfl) (hcl : closureFor sc X.env = pure [] := by rfl) (hdef : defaultsOf params X.env = ([], []) := by rfl) (hxd : (x == ("__debug__" : Str)) = false := by decide)
    (hbind : ∀ (a c' : Addr) (pm ctv : Value), bindArgs (PySem.W.kla_fn "<lambda>" q params (subB x i k p1 p2 p3 p4 p5 p6 p7 c1 c2) sc [] pm (.ref c') ctv) ⟨[.ref a], []⟩ = pure [(x, .ref a)] := by intro _ _ _ _; rfl)
    (hst : starEach [e] X.env = [(false, eval e X.env)] := by rfl) (hall : (backToKw pos (keywordEach [⟨some "key", .Lambda params (subB x i k p1 p2 p3 p4 p5 p6 p7 c1 c2) sc lp, kp⟩] X.env)).all (·.1.isSome) = true := by rfl) :
    Bx (PE X (.Call (.Name "sorted" p) [e] [⟨some "key", .Lambda params (subB x i k p1 p2 p3 p4 p5 p6 p7 c1 c2) sc lp, kp⟩] pos) (tSortL T lp q i k te)) := ⟨by
  intro pins s σ H Q I h
  subst hq
  refine wpAny_Call_Name_kw (ld_blt I hg hm (by decide +kernel : bootBuiltins "sorted" = some (.builtin "sorted")) ?_)
  refine callWith_kw (thn ((pa_cons he.o pa_nil hst) pos pins s σ H (fun vs H1 => match vs with
    | [x] => ∃ (l : Addr) (as : List Addr) (κ : Addr → Int), x = .ref l ∧ H1 l = some (.lst (as.map V.ref)) ∧ as.length ≤ 1000 ∧
      (∀ a ∈ as, ∃ xs y z, H1 a = some (.tup xs) ∧ xs[i.toNat]? = some (.int y) ∧ xs[k.toNat]? = some (.int z) ∧ κ a = y - z) ∧ TabAt H1 T lp (X.env.qual ++ "<lambda>") ∧
      ∀ (D : Addr) (H2 : Hp) (os : List Addr), But T H1 H2 → TabAt H2 T lp (X.env.qual ++ "<lambda>") → H1 D = none → H2 D = some (.lst (os.map V.ref)) → os.Perm as → os.Pairwise (fun a b => κ a ≤ κ b) → (∀ c, os.filter (fun a => κ a == c) = as.filter (fun a => κ a == c)) → Q (.ref D) H2
    | _ => False) I h) fun us s1 ⟨vs, H1, I1, r1, q1⟩ => ?_) (by rw [hst]; rfl) (by rw [hst]; rfl) hall rfl
  rcases vs with _ | ⟨y, _ | ⟨z, vs⟩⟩
  · exact q1.elim
  rotate_left
  · exact q1.elim
  obtain ⟨u, rfl, ru⟩ := r1.one
  obtain ⟨l, as, κ, ex, hl1, hlen, htup, hT1, qf⟩ := q1
  subst ex
  cases ru
  refine kws_cons (thn (lam_made I1 hcode C hB hcl hdef hT1) fun v s2 ⟨f, c', ctv, pm, H2, ev, I2, hf, hrec, hsz, hBt, hT2⟩ => kws_nil ?_)
  subst ev
  obtain ⟨m, hF⟩ := I2.fr
  have hlT : l ≠ T := by
    obtain ⟨ps, hP, _⟩ := hT1
    exact ne_of hl1 hP (by intro z; cases z)
  have htT : ∀ a xs, H1 a = some (.tup xs) → a ≠ T := fun a xs ha => by
    obtain ⟨ps, hP, _⟩ := hT1
    exact ne_of ha hP (by intro z; cases z)
  have hl2 := hBt _ _ hlT hl1
  obtain ⟨its, r, hlst, hz⟩ := I2.list (SqL.of hl2)
  obtain rfl := vals_refs r
  have hN : News X.base X.env.locals s2.heap (others X s2.heap) := fun p hp => by
    obtain ⟨h1, h2, h3⟩ := mem_others.mp hp
    exact ⟨h3, h1, h2⟩
  have kept : ∀ {h : Heap} {own : List (Addr × Obj)}, Fr X.base X.env.locals h m → News X.base X.env.locals h (others X s2.heap ++ own) → ∀ b o, b ≠ X.env.locals → s2.heap.get? b = some o → h.get? b = some o := fun {h own} F N b o hb e => by
    cases hq : X.base.get? b with
    | some o' =>
      have := I2.bk b o' hq
      rw [e] at this
      cases this
      exact F.keep b _ hq
    | none => exact (N (b, o) (List.mem_append_left _ (mem_others.mpr ⟨hb, hq, e⟩))).1
  have notL : ∀ b o, s2.heap.get? b = some o → (∀ es ep, o.data ≠ .dict es ep) → b ≠ X.env.locals := fun b o e hd z => by
    obtain ⟨oL, es, ep, hL, hdd, _⟩ := hF.ns
    rw [← z, e] at hL
    cases hL
    exact hd _ _ hdd
  have hfL : f ≠ X.env.locals := notL f _ hf (by intro es ep z; cases z)
  show wpAny (model X.prog X.w) X.A (call (.builtin "sorted") [.ref l] [("key", .ref f)]) (EP X pins σ Q) X.xe s2
  refine ksk_sortedSt (b := false) (f := .ref f) (kz := as.map κ) (vs := as.map Value.ref) hF hN hlst.isList (by rw [List.length_map, List.length_map]) (by rw [List.length_map]; exact Nat.le_of_lt (small1000 hlen)) (ksk_s1 _ _) (fun x => ksk_l1 _ _) (fun x => ksk_t1 f x) (fun n v kk hv hkk h tk own F N => ?_) (fun D h' tk out cc F N hlt ho => ?_)
  · obtain ⟨a, ha, rfl⟩ := get_map hv
    obtain ⟨a', ha', rfl⟩ := get_map hkk
    rw [ha] at ha'
    cases ha'
    obtain ⟨xs, y, z, hx1, hy, hz', hκ⟩ := htup a (List.mem_of_getElem? ha)
    have hx2 := hBt _ _ (htT a xs hx1) hx1
    obtain ⟨its', r', hti, _⟩ := I2.tuple (SqT.of hx2)
    obtain ⟨uy, e1, t1⟩ := r'.get hy
    obtain ⟨uz, e2, t2⟩ := r'.get hz'
    obtain ⟨ty, rfl⟩ := t1
    obtain ⟨tz, rfl⟩ := t2
    have haL : a ≠ X.env.locals := fun z => by rw [z, I2.free] at hx2; cases hx2
    have hti' : IsTup h a its'.toArray := by
      obtain ⟨o, e, rr⟩ := hti
      exact ⟨o, kept F N a o haL e, rr⟩
    have hrec' : h.CodeRec (.ref c') (X.env.qual ++ "<lambda>") := by
      obtain ⟨c3, o, ws, t, e, g, d, rr⟩ := hrec
      cases e
      exact ⟨c', o, ws, t, rfl, kept F N c' o (notL c' o g (by intro es ep z; rw [d] at z; cases z)) g, d, rr⟩
    refine wpAny_mono (lam_call (s := { s2 with heap := h, toks := tk }) (E := fun _ _ => False) hS (kept F N f _ hfL hf) hrec' (I2.ok.mod.nolimit.keeps F.keep) (by show X.A.depth < _; exact hr.depth) (hbind a c' pm ctv) hxd hti' hi hi2 hk hk2 (by simpa using e1) (by simpa using e2)) (fun v s' hv => ?_) fun _ _ z => z
    obtain ⟨h3, tk3, t3, rfl, rfl, k3⟩ := hv
    refine ⟨h3, tk3, t3, rfl, ?_, F.kept k3, N.grown k3⟩
    rw [hκ]
  · have hD := N (D, seqObj "list" out cc) (.head _)
    have N2 : News X.base X.env.locals h' (others X s2.heap ++ []) := fun p hp => N p (.tail _ (by rw [List.append_nil] at hp; exact hp))
    have hDs : s2.heap.objs.size ≤ D := by
      have : f < D := hlt (f, _) (mem_others.mpr ⟨hfL, by
        cases hq : X.base.get? f with
        | none => rfl
        | some o =>
          have h1 := Heap.lt_size hq
          have h2 := I2.ok.bsz
          have h3 := I2.ok.above
          have h4 := hF.ns.lt
          exact absurd h4 (by rw [hsz]; exact Nat.not_lt.mpr (Nat.lt_of_lt_of_le h1 (Nat.le_trans h2 h3))), hf⟩)
      rw [hsz]
      exact this
    obtain ⟨os, ho1, ho2, ho3, ho4⟩ := out_refs ho
    have ho5 : out = (os.map Value.ref).toArray := by rw [← ho1]
    refine ⟨.ref D, upd H2 D (.lst (os.map V.ref)), inv_laid I2 (kept F N2) (fun m' hm' => ?_) hDs ⟨?_, os.map Value.ref, cc, refs_vals os, ?_⟩, rfl, ?_⟩
    · rw [hm'.eq_nsMap, ← hF.ns.eq_nsMap]
      exact F.ns
    · rw [List.length_map, ho2.length_eq]
      exact Nat.le_of_lt (small1000 hlen)
    · rw [← ho5]
      exact hD.1
    · have hDn : H2 D = none := I2.hok.fresh hDs
      refine qf D _ os (fun b o hb e => ?_) (hT2.same (Same.new hDn)) ?_ upd_same ho2 ho3 ho4
      · rw [upd_ne (ne_of_none (hBt b o hb e) hDn)]
        exact hBt b o hb e
      · cases hq : H1 D with
        | none => rfl
        | some o =>
          by_cases hDT : D = T
          · obtain ⟨ps, hP, _⟩ := hT2
            rw [hDT, hP] at hDn; cases hDn
          · rw [hBt D o hDT hq] at hDn; cases hDn⟩
end
end Hs

namespace Hs
open PySem PySem.Spec PyProof.Rows L2
/-! ### [elt for a in x for b in y] -/
section
variable {elt tg1 it1 tg2 it2 : Expr} {scope : Scope} {pos : Pos} {it acc : Value} {env : Env}
abbrev lc2E (elt tg1 it1 tg2 it2 : Expr) (scope : Scope) (pos : Pos) : Expr := .ListComp elt [⟨tg1, it1, [], 0⟩, ⟨tg2, it2, [], 0⟩] scope pos
theorem turn_outer : compTurn (lc2E elt tg1 it1 tg2 it2 scope pos) 0 it acc env = (standAt it1.pos >>= fun _ => pyNext it >>= fun r => match r with
    | none => pure (.done .next)
    | some v => letOwnedTupleGo tg1 it v >>= fun _ => assign tg1 env v >>= fun _ => eval it2 env >>= fun x => standAt it2.pos >>= fun _ => foldedSetIterable it2 env x >>= fun x => holding [x] (pyIter x) >>= fun i =>
      runOwn (.compStart (lc2E elt tg1 it1 tg2 it2 scope pos) 1 i acc env) env >>= fun _ => again (.compLoop (lc2E elt tg1 it1 tg2 it2 scope pos) 0 it acc env)) := by rfl
theorem turn_inner : compTurn (lc2E elt tg1 it1 tg2 it2 scope pos) 1 it acc env = (standAt it2.pos >>= fun _ => pyNext it >>= fun r => match r with
    | none => pure (.done .next)
    | some v => letOwnedTupleGo tg2 it v >>= fun _ => assign tg2 env v >>= fun _ => (eval elt env >>= fun x => call (.builtin "list.append") [acc, x] >>= fun _ => pure ()) >>= fun _ => again (.compLoop (lc2E elt tg1 it1 tg2 it2 scope pos) 1 it acc env)) := by rfl
theorem start_inner {prog : Program} {w : World} {A : Around} {R : Result → Shared → Prop} {s : Shared}
    (h0 : codeAny (model prog w) A (.compLoop (lc2E elt tg1 it1 tg2 it2 scope pos) 1 it acc env) R s)
    (h : wpAny (model prog w) A (pyIter it) (fun it' s' => codeAny (model prog w) A (.compLoop (lc2E elt tg1 it1 tg2 it2 scope pos) 1 it' acc env) R s') (fun _ _ => False) s) :
    codeAny (model prog w) A (.compStart (lc2E elt tg1 it1 tg2 it2 scope pos) 1 it acc env) R s := by
  refine codeAny_of_tree ?_
  show wpAny _ _ ((compStart (lc2E elt tg1 it1 tg2 it2 scope pos) 1 it acc env).onRaise (fun x => do noteFrame x env; standAt theWindowsPlace)) _ _ s
  refine wpAny_notedAt ?_
  unfold compStart
  show wpAny _ _ (ask >>= _) _ _ s
  refine wpAny_bind (wpAny_askSetting (wpAny_ite ?_))
  split
  · first
      | exact wpAny_bind (wpAny_pure (wpAny_pure ⟨rfl, h0⟩))
      | exact wpAny_pure ⟨rfl, h0⟩
  · refine wpAny_bind (wpAny_rule ?_)
    show wpAny _ _ (standAt it2.pos >>= _) _ _ s
    exact wpAny_bind (wpAny_standAt (wpAny_bind (wpAny_mono h (fun it' s' h' => wpAny_pure ⟨rfl, h'⟩) fun _ _ x => x.elim)))
end
section
variable {Y : Cx} {pins : List (Addr × Obj)} {σ : L2.St} {H : Hp} {s : Shared} {elt tg1 it1 tg2 it2 : Expr} {scope : Scope} {pos : Pos}
/-- the second clause's walk: W by the turn, a measure and the names; N what it is to reach -/
def tIn2 (wi : TI) (g : TG) (te : TE) (D : Addr) (N : L2.St → Hp → Prop) : L2.St → Hp → Prop := fun σ H => wi σ H fun J H1 => ∃ W : Nat → Nat → L2.St → Hp → Prop, (∃ m, W 0 m σ H1) ∧ ∀ i m σ H, W i m σ H →
  (J.stop i H ∧ N σ H) ∨ (J.go i H ∧ ∃ Nx : L2.St → Hp → Prop, (∀ σ' H', Nx σ' H' → ∃ m', m' < m ∧ W (i + 1) m' σ' H') ∧ ∀ x H', J.yld i H x H' → g x σ H' fun σ2 H2 => te σ2 H2 fun y H3 => ∃ acc, H3 D = some (.lst acc) ∧ acc.length < sizeLine ∧ Nx σ2 (upd H3 D (.lst (acc ++ [y]))))
theorem loop_inner {wi : TI} {g : TG} {te : TE} {D : Addr} {N : L2.St → Hp → Prop} {Q : Fin → Shared → Prop} {E : Value → Shared → Prop} {k : Sem Fin} (hc : Y.calm = true) (hx : Y.xe = fun _ _ => False) (hi : PI Y tg2 it2 wi) (hg : PG Y tg2 g) (he : PE Y elt te)
    (hs : ∀ x, foldedSetIterable it2 Y.env x = pure x) (I : Inv Y pins σ H s) (h : tIn2 wi g te D N σ H)
    (hk : ∀ σ' H' s', Inv Y pins σ' H' s' → N σ' H' → wpAny (model Y.prog Y.w) Y.A k Q E s') :
    wpAny (model Y.prog Y.w) Y.A (eval it2 Y.env >>= fun x => standAt it2.pos >>= fun _ => foldedSetIterable it2 Y.env x >>= fun x => holding [x] (pyIter x) >>= fun i =>
      runOwn (.compStart (lc2E elt tg1 it1 tg2 it2 scope pos) 1 i (.ref D) Y.env) Y.env >>= fun _ => k) Q E s := by
  have fl : ∀ {α : Type} {t : Sem α} {Q Q' : α → Shared → Prop} {E' : Value → Shared → Prop} {s : Shared}, wpAny (model Y.prog Y.w) Y.A t Q Y.xe s → (∀ a s, Q a s → Q' a s) → wpAny (model Y.prog Y.w) Y.A t Q' E' s := fun h hq => wpAny_mono h hq fun e s z => by rw [hx] at z; exact z.elim
  refine wpAny_bind (fl (hi pins s σ H _ I h) fun v s1 h1 => wpAny_bind (wpAny_standAt (wpAny_bind ?_)))
  rw [hs v]
  refine wpAny_pure (wpAny_bind (wpAny_holding (fl h1 fun itv s2 h2 => ?_)))
  obtain ⟨it, fp, tn, J, H2, e, I2, T, st2, f2, W, ⟨m0, w0⟩, turn⟩ := h2
  subst e
  refine wpAny_bind (wpAny_runOwn (h := none) ?_)
  have fp' : ∀ {H' : Hp}, (∀ b ∈ fp, H' b = none) → ∀ b ∈ fp, FpOk Y pins H' b := fun hn b hb => ⟨hn b hb, (f2 b hb).2⟩
  have loop : codeAny (model Y.prog Y.w) Y.A (.compLoop (lc2E elt tg1 it1 tg2 it2 scope pos) 1 (.ref it) (.ref D) Y.env) (fun r s' => match r with | .ok f => wpAny (model Y.prog Y.w) Y.A k Q E s' | .error e => cameBackBy (model Y.prog Y.w) Y.A Y.env E e s') s2 := by
    refine codeAny_loop rfl (fun n s' => ∃ i σ' H', Inv Y pins σ' H' s' ∧ tn i s'.heap ∧ (∀ b ∈ fp, H' b = none) ∧ W i n σ' H') ?_ m0 ⟨0, σ, H2, I2, st2, fun b hb => (f2 b hb).1, w0⟩
    rintro n s3 ⟨i, σ3, H3, I3, st3, n3, w3⟩
    show wpAny _ Y.A ((compTurn (lc2E elt tg1 it1 tg2 it2 scope pos) 1 (.ref it) (.ref D) Y.env).onRaise (fun x => do noteFrame x Y.env; theTreesLotGoes x)) _ _ s3
    refine wpAny_noted ?_
    rw [turn_inner]
    refine wpAny_bind (wpAny_standAt (wpAny_bind ?_))
    rcases turn i n σ3 H3 w3 with ⟨stop, qn⟩ | ⟨go, Nx, hNx, step⟩
    · refine fl (T.done Y rfl rfl rfl hc i pins s3 σ3 H3 Y.xe I3 (fp' n3) st3 stop) fun r s4 ⟨hr, I4⟩ => ?_
      subst hr
      exact wpAny_pure (hk σ3 H3 s4 I4 qn)
    · refine fl (T.item Y rfl rfl rfl hc i pins s3 σ3 H3 Y.xe I3 (fp' n3) st3 go) fun r s4 ⟨u, hr, h4⟩ => ?_
      subst hr
      refine wpAny_bind (fl h4 fun _ s5 ⟨x, H5, I5, r5, y5, st5, n5⟩ => ?_)
      have I5' := I5.pinned (fp' n5) (T.obj _ _ st5)
      refine wpAny_bind (fl (hg _ s5 σ3 H5 x u _ I5' r5 (step x H5 y5)) fun _ s6 ⟨σ6, H6, I6, q6⟩ => ?_)
      refine wpAny_bind (wpAny_bind (fl (he _ s6 σ6 H6 _ I6 q6) fun z s7 ⟨yv, H7, I7, r7, acc, hD7, hz7, nx⟩ => ?_))
      refine wpAny_bind (app_ok I7 hD7 hz7 r7 fun s8 I8 => wpAny_pure (wpAny_pure ⟨rfl, ?_⟩))
      obtain ⟨m', hm, w8⟩ := hNx _ _ nx
      have pn : ∀ b ∈ fp, ∀ o, s5.heap.get? b = some o → s8.heap.get? b = some o ∧ (upd H7 D (.lst (acc ++ [yv]))) b = none := fun b hb o e =>
        let z := I8.pin (b, o) (List.mem_append_right _ (List.mem_append_right _ (mem_pinsAt hb e)))
        ⟨z.1, z.2.1⟩
      refine ⟨m', hm, i + 1, σ6, _, I8.unpinned, T.keep _ _ _ st5 fun b hb o e => (pn b hb o e).1, fun b hb => ?_, w8⟩
      obtain ⟨o, e, _⟩ := T.obj _ _ st5 b hb
      exact (pn b hb o e).2
  exact start_inner loop (T.self _ 0 _ _ _ st2 loop)
end
/-- [elt for a in x for b in y]: D the new list, W by the first clause's turn and a measure -/
def tLc2 (wi : TI) (g : TG) (wi2 : TI) (g2 : TG) (te : TE) (vs : List Nat) : TE := fun σ H Q => wi σ H fun J H1 => ∀ D, H1 D = none → ∃ W : Nat → Nat → Hp → Prop, (∃ m, W 0 m (upd H1 D (.lst []))) ∧ ∀ i m H, W i m H →
  (J.stop i H ∧ Q (.ref D) H) ∨ (J.go i H ∧ ∃ Nx : Hp → Prop, (∀ H', Nx H' → ∃ m', m' < m ∧ W (i + 1) m' H') ∧ ∀ x H', J.yld i H x H' → g x (wipe σ vs) H' (tIn2 wi2 g2 te D fun σ2 H2 => wipe σ2 vs = wipe σ vs ∧ Nx H2))
section
variable {X : Cx} {elt tg1 it1 tg2 it2 : Expr} {scope : Scope} {own : List (Str × Nat)} {pos pos' : Pos} {wi wi2 : TI} {g g2 : TG} {te : TE}
/-- what the pieces of such a list must keep, in the block that runs them -/
structure Lc2K (X : Cx) (elt tg1 it1 tg2 it2 : Expr) (scope : Scope) (own : List (Str × Nat)) (wi wi2 : TI) (g g2 : TG) (te : TE) : Prop where
  calm : X.calm = true
  nd : X.N.Nodup
  i1 : PI X tg1 it1 wi
  blk : BlkOk X.N X.env.scope scope own
  g1 : ∀ (s : Shared) (H : Hp) (C : Addr) (cl : List (Str × Addr)) (fp : List Addr), PG (X.blk s H scope (compEnvC scope cl C X.env) fp) tg1 g
  i2 : ∀ (s : Shared) (H : Hp) (C : Addr) (cl : List (Str × Addr)) (fp : List Addr), PI (X.blk s H scope (compEnvC scope cl C X.env) fp) tg2 it2 wi2
  g2 : ∀ (s : Shared) (H : Hp) (C : Addr) (cl : List (Str × Addr)) (fp : List Addr), PG (X.blk s H scope (compEnvC scope cl C X.env) fp) tg2 g2
  el : ∀ (s : Shared) (H : Hp) (C : Addr) (cl : List (Str × Addr)) (fp : List Addr), PE (X.blk s H scope (compEnvC scope cl C X.env) fp) elt te
  f1 : ∀ x, foldedSetIterable it1 X.env x = pure x
  f2 : ∀ (C : Addr) (cl : List (Str × Addr)) (x : Value), foldedSetIterable it2 (compEnvC scope cl C X.env) x = pure x
theorem lc2_core {pins : List (Addr × Obj)} {s : Shared} {σ : L2.St} {H : Hp} {Q : VK} {use : Option (Value → Sem Unit)} {Qf : Value → Shared → Prop} (O : Lc2K X elt tg1 it1 tg2 it2 scope own wi wi2 g g2 te) (I : Inv X pins σ H s)
    (h : tLc2 wi g wi2 g2 te (own.map (·.2)) σ H Q)
    (hRR : ∀ D C s' m H', Inv X pins σ H' s' → Q (.ref D) H' → s'.heap.Ns C m → FpOk X pins H' C → compPost (model X.prog X.w) X.A X.xe use Qf (.ref D) C (.ok .next) s') :
    wpAny (model X.prog X.w) X.A (comprehension (lc2E elt tg1 it1 tg2 it2 scope pos) scope X.env pos' (newList []) false (eval it1 X.env) use) Qf X.xe s := by
  refine wpAny_comprehension_free (use := use) rfl O.f1 (closure_ok fun y hy e => (O.blk.free y hy e).elim (fun k => I.ok.has _ (.inl k)) fun k => I.ok.has _ (.inr k)) O.blk.kind (fun y hy e => by rw [O.blk.uniq y hy, e])
    (thn (O.i1 pins s σ H _ I h) fun xv s1 hx => thn hx fun itv s2 h2 => ?_)
  obtain ⟨it, fp, tn, J, H2, rfl, I2, T, st2, f2, q⟩ := h2
  refine wpAny_newObj_type (newEnv_comp ?_) (by show 0 ≤ sizeLine; decide)
  have hDn : H2 s2.heap.objs.size = none := I2.hok.fresh (Nat.le_refl _)
  obtain ⟨W, ⟨m0, w0⟩, turn⟩ := q _ hDn
  generalize eD : s2.heap.objs.size = D at hDn w0 turn
  -- the empty list
  obtain ⟨s3, es3, k3, I3⟩ : ∃ s3 : Shared, s3 = { s2 with heap := s2.heap.push { cls := .type "list", data := .seq ([] : List Value).toArray } } ∧ (∀ b o, s2.heap.get? b = some o → s3.heap.get? b = some o) ∧ Inv X pins σ (upd H2 D (.lst [])) s3 :=
    ⟨_, rfl, fun b o e => Heap.get?_push_of_some _ e, I2.laid (t' := s2.toks) (fun b o e => Heap.get?_push_of_some _ e) (Nat.le_of_eq eD) ⟨Nat.zero_le _, [], 0, .nil, by rw [← eD]; exact Heap.get?_push_size _ rfl⟩⟩
  have lt3 : s2.heap.objs.size < s3.heap.objs.size := by rw [es3]; show _ < (s2.heap.push _).objs.size; rw [Heap.size_push]; exact Nat.lt_succ_self _
  have f3 : ∀ b ∈ fp, FpOk X pins (upd H2 D (.lst [])) b ∧ b < s3.heap.objs.size := fun b hb => by
    obtain ⟨o, e, _⟩ := T.obj _ _ st2 b hb
    have hlt := Heap.lt_size e
    exact ⟨⟨by rw [upd_ne (by rw [← eD]; exact Nat.ne_of_lt hlt)]; exact (f2 b hb).1, (f2 b hb).2⟩, Nat.lt_trans hlt lt3⟩
  have I4 := block_start I3 O.blk O.nd f3
  have n3 : ∀ b ∈ fp, (upd H2 D (.lst [])) b = none := fun b hb => (f3 b hb).1.1
  generalize upd H2 D (.lst []) = H3 at I3 I4 w0 n3 f3
  have pg := O.g1 s3 H3 s3.heap.objs.size (cellsFrom (s3.heap.objs.size + 1) scope.names (cloFrom X.env.cells scope.names [])) fp
  have pi2 := O.i2 s3 H3 s3.heap.objs.size (cellsFrom (s3.heap.objs.size + 1) scope.names (cloFrom X.env.cells scope.names [])) fp
  have pg2 := O.g2 s3 H3 s3.heap.objs.size (cellsFrom (s3.heap.objs.size + 1) scope.names (cloFrom X.env.cells scope.names [])) fp
  have pe := O.el s3 H3 s3.heap.objs.size (cellsFrom (s3.heap.objs.size + 1) scope.names (cloFrom X.env.cells scope.names [])) fp
  have pf := O.f2 s3.heap.objs.size (cellsFrom (s3.heap.objs.size + 1) scope.names (cloFrom X.env.cells scope.names []))
  have st3 : tn 0 s3.heap := T.keep _ _ _ st2 fun b _ o e => k3 b o e
  rw [← es3]
  show codeAny _ _ (.compStart (lc2E elt tg1 it1 tg2 it2 scope pos) 0 (.ref it) (.ref D) (compEnvC scope (cellsFrom (s3.heap.objs.size + 1) scope.names (cloFrom X.env.cells scope.names [])) s3.heap.objs.size X.env)) (compPost (model X.prog X.w) X.A X.xe use Qf (.ref D) s3.heap.objs.size) { s3 with heap := pushCells (s3.heap.push { cls := .type "dict", data := .dict #[] }) scope.names }
  generalize ece : compEnvC scope (cellsFrom (s3.heap.objs.size + 1) scope.names (cloFrom X.env.cells scope.names [])) s3.heap.objs.size X.env = ce at I4 pg pi2 pg2 pe pf ⊢
  have cL : ce.locals = s3.heap.objs.size := by subst ece; rfl
  generalize es4 : ({ s3 with heap := pushCells (s3.heap.push { cls := .type "dict", data := .dict #[] }) scope.names } : Shared) = s4 at I4 ⊢
  have st4 : tn 0 s4.heap := T.keep _ _ _ st3 fun b _ o e => by rw [← es4]; exact pushCells_keeps _ _ _ _ (Heap.get?_push_of_some _ e)
  have fpB : ∀ {σ' : L2.St} {H' : Hp} {s' : Shared}, Inv (X.blk s3 H3 scope ce fp) [] σ' H' s' → (∀ b ∈ fp, H' b = none) → ∀ b ∈ fp, FpOk (X.blk s3 H3 scope ce fp) [] H' b := fun {σ' H' s'} I' hn b hb =>
    ⟨hn b hb, (I'.ok.exf b hb).1, I'.ok.exfs b hb, .inl hb, fun x c e => (I'.ok.exf b hb).2 x c e, fun p hp => absurd (show p ∈ ([] : List (Addr × Obj)) ++ [] from hp) (by simp)⟩
  have loop : codeAny (model X.prog X.w) X.A (.compLoop (lc2E elt tg1 it1 tg2 it2 scope pos) 0 (.ref it) (.ref D) ce) (compPost (model X.prog X.w) X.A X.xe use Qf (.ref D) s3.heap.objs.size) s4 := by
    refine codeAny_loop rfl (fun n s' => ∃ i H', Inv (X.blk s3 H3 scope ce fp) [] (wipe σ (own.map (·.2))) H' s' ∧ tn i s'.heap ∧ (∀ b ∈ fp, H' b = none) ∧ W i n H') ?_ m0 ⟨0, H3, I4, st4, n3, w0⟩
    rintro n s5 ⟨i, H5, I5, st5, n5, w5⟩
    show wpAny _ X.A ((compTurn (lc2E elt tg1 it1 tg2 it2 scope pos) 0 (.ref it) (.ref D) ce).onRaise (fun x => do noteFrame x ce; theTreesLotGoes x)) _ _ s5
    refine wpAny_noted ?_
    rw [turn_outer]
    refine wpAny_bind (wpAny_standAt (wpAny_bind ?_))
    rcases turn i n H5 w5 with ⟨stop, qq⟩ | ⟨go, Nx, hNx, step⟩
    · refine thnF (T.done (X.blk s3 H3 scope ce fp) rfl rfl rfl O.calm i [] s5 _ H5 (fun _ _ => False) I5 (fpB I5 n5) st5 stop) fun r s6 ⟨hr, I6⟩ => ?_
      subst hr
      have I7 : Inv X pins σ H5 s6 := I3.call' (ch := fp) I6.os I6.base I6.hok I6.bare fun b hb => ⟨(f3 b hb).1.2.2.2.1, (f3 b hb).1.2.1, (f3 b hb).1.2.2.2.2.1, (f3 b hb).1.2.2.2.2.2⟩
      have nC : H5 s3.heap.objs.size = none := by rw [← cL]; exact I6.free
      obtain ⟨m, hn, _⟩ := I6.loc
      have hn : s6.heap.Ns ce.locals m := hn
      rw [cL] at hn
      exact wpAny_pure (hRR D s3.heap.objs.size s6 m H5 I7 qq hn (I3.fpOk (Nat.le_refl _) nC))
    · refine thnF (T.item (X.blk s3 H3 scope ce fp) rfl rfl rfl O.calm i [] s5 _ H5 (fun _ _ => False) I5 (fpB I5 n5) st5 go) fun r s6 ⟨u, hr, h6⟩ => ?_
      subst hr
      refine wpAny_bind (thnF h6 fun _ s7 ⟨x, H7, I7, r7, y7, st7, n7⟩ => ?_)
      have I7' := I7.pinned (fpB I7 n7) (T.obj _ _ st7)
      refine wpAny_bind (thnF (pg _ s7 _ H7 x u _ I7' r7 (step x H7 y7)) fun _ s8 ⟨σ8, H8, I8, q8⟩ => ?_)
      refine loop_inner (Y := X.blk s3 H3 scope ce fp) O.calm rfl pi2 pg2 pe pf I8 q8 fun σ9 H9 s9 I9 ⟨hw9, nx⟩ => wpAny_pure ⟨rfl, ?_⟩
      obtain ⟨m', hm, w'⟩ := hNx H9 nx
      have pn : ∀ b ∈ fp, ∀ o, s7.heap.get? b = some o → s9.heap.get? b = some o ∧ H9 b = none := fun b hb o e =>
        let z := I9.pin (b, o) (List.mem_append_right _ (List.mem_append_right _ (mem_pinsAt hb e)))
        ⟨z.1, z.2.1⟩
      refine ⟨m', hm, i + 1, H9, (I9.unpinned (pins := [])).weak (by rw [← hw9, wipe_length]) (fun j v e => ?_), T.keep _ _ _ st7 fun b hb o e => (pn b hb o e).1, fun b hb => ?_, w'⟩
      · rw [← hw9] at e
        exact (wipe_some e).1
      · obtain ⟨o, e, _⟩ := T.obj _ _ st7 b hb
        exact (pn b hb o e).2
  exact codeAny_compStart_list loop (T.self X.A 0 _ _ _ st4 loop)
theorem pe_lc2 (O : Lc2K X elt tg1 it1 tg2 it2 scope own wi wi2 g g2 te) : PE X (lc2E elt tg1 it1 tg2 it2 scope pos) (tLc2 wi g wi2 g2 te (own.map (·.2))) := by
  intro pins s σ H Q I h
  rw [eval_ListComp]
  refine lc2_core O I h fun D C s' m H' I' q hn f => ⟨m, hn, fun h'' sb => ?_⟩
  obtain ⟨f0, f1, f2, f3, f4, f5⟩ := f
  exact ⟨.ref D, H', I'.turned (t' := s'.toks) (fun b o hb e => (sb.2 b hb).trans e) f0 f1 f3 f4 f5, rfl, q⟩
theorem ps_setLc2 {i : Nat} {y : Str} {py spos : Pos} (O : Lc2K X elt tg1 it1 tg2 it2 scope own wi wi2 g g2 te) (hy : X.N[i]? = some y) (hyl : X.env.scope.names.lookup y = some .local)
    (hsw : swapsWith (lc2E elt tg1 it1 tg2 it2 scope pos) (some (.Name y py)) spos.line X.env = pure true) : PS X (.Assign [.Name y py] (lc2E elt tg1 it1 tg2 it2 scope pos) spos) (tAsg (tLc2 wi g wi2 g2 te (own.map (·.2))) (gName i)) := by
  intro pins s σ H D I h
  rw [exec_Assign_Name_used _ _ _ _ hsw]
  refine wpAny_bind (wpAny_standAt (wpAny_bind ?_))
  show wpAny _ X.A (do let _ ← comprehension (lc2E elt tg1 it1 tg2 it2 scope pos) scope X.env (firstIterPos [⟨tg1, it1, [], 0⟩, ⟨tg2, it2, [], 0⟩] pos) (newList []) false (eval it1 X.env) (some (assign (.Name y py) X.env))) _ _ s
  have h : tLc2 wi g wi2 g2 te (own.map (·.2)) σ H (fun x H1 => gName i x σ H1 D.nx) := h
  refine wpAny_bind (thn (lc2_core (Qf := fun _ s' => SP X pins D .next s') O I h fun L C s' m H' I' q hn f => ?_) fun _ s' hq => wpAny_pure (wpAny_pure hq))
  show wpAny _ _ (assign (.Name y py) X.env (.ref L)) _ _ _
  refine wpAny_assign_Name (store_ok2 (v := V.ref L) I' O.nd hy (.inl hyl) rfl (fun s2 I2 ⟨a, sb, ha⟩ => ?_) (.inr hyl))
  obtain ⟨f0, f1, f2, f3, f4, f5⟩ := f
  have haC : C ≠ a := ha.elim (fun z => by rw [z]; exact f1) fun z e => f4 y a z e.symm
  refine ⟨m, hn.sameBut sb haC, fun h3 sb3 => ?_⟩
  exact ⟨_, H', I2.turned (t' := s2.toks) (fun b o hb e => (sb3.2 b hb).trans e) f0 f1 f3 f4 f5, q⟩
end
section
variable {X : Cx} {e elt tg tg1 it1 tg2 it2 : Expr} {pos : Pos} {wi wi2 : TI} {g g2 : TG} {te : TE} {y : Str}
theorem bi_listK (K' : PySem.W.Frag) (hl : Bx (PE X e te)) (hK : X.K = K' := by rfl) : Bx (PI X tg e (iList K' te)) := by subst hK; exact bi_list hl
theorem b_lc2 (own : List (Str × Nat)) (N : List Str) (sc : Scope) {scope : Scope} (hN : X.N.Nodup) (hi : Bx (PI X tg1 it1 wi))
    (hg : ∀ (s : Shared) (H : Hp) (C : Addr) (cl : List (Str × Addr)) (fp : List Addr), Bx (PG (X.blk s H scope (compEnvC scope cl C X.env) fp) tg1 g))
    (hi2 : ∀ (s : Shared) (H : Hp) (C : Addr) (cl : List (Str × Addr)) (fp : List Addr), Bx (PI (X.blk s H scope (compEnvC scope cl C X.env) fp) tg2 it2 wi2))
    (hg2 : ∀ (s : Shared) (H : Hp) (C : Addr) (cl : List (Str × Addr)) (fp : List Addr), Bx (PG (X.blk s H scope (compEnvC scope cl C X.env) fp) tg2 g2))
    (he : ∀ (s : Shared) (H : Hp) (C : Addr) (cl : List (Str × Addr)) (fp : List Addr), Bx (PE (X.blk s H scope (compEnvC scope cl C X.env) fp) elt te))
    (eN : X.N = N := by rfl) (eS : X.env.scope = sc := by rfl) (ok : blkC N sc scope own = true := by decide +kernel) (hc : X.calm = true := by rfl) (hs : ∀ x, foldedSetIterable it1 X.env x = pure x := by intro _; rfl)
    (hs2 : ∀ (C : Addr) (cl : List (Str × Addr)) (x : Value), foldedSetIterable it2 (compEnvC scope cl C X.env) x = pure x := by intro _ _ _; rfl) :
    Bx (PE X (.ListComp elt [⟨tg1, it1, [], 0⟩, ⟨tg2, it2, [], 0⟩] scope pos) (tLc2 wi g wi2 g2 te (own.map (·.2)))) :=
  ⟨pe_lc2 ⟨hc, hN, hi.o, by rw [eN, eS]; exact blkOk_by ok, fun s H C cl fp => (hg s H C cl fp).o, fun s H C cl fp => (hi2 s H C cl fp).o, fun s H C cl fp => (hg2 s H C cl fp).o, fun s H C cl fp => (he s H C cl fp).o, hs, hs2⟩⟩
theorem bs_setc2 (i : Nat) (own : List (Str × Nat)) (N : List Str) (sc : Scope) {py spos : Pos} {scope : Scope} (hN : X.N.Nodup) (hi : Bx (PI X tg1 it1 wi))
    (hg : ∀ (s : Shared) (H : Hp) (C : Addr) (cl : List (Str × Addr)) (fp : List Addr), Bx (PG (X.blk s H scope (compEnvC scope cl C X.env) fp) tg1 g))
    (hi2 : ∀ (s : Shared) (H : Hp) (C : Addr) (cl : List (Str × Addr)) (fp : List Addr), Bx (PI (X.blk s H scope (compEnvC scope cl C X.env) fp) tg2 it2 wi2))
    (hg2 : ∀ (s : Shared) (H : Hp) (C : Addr) (cl : List (Str × Addr)) (fp : List Addr), Bx (PG (X.blk s H scope (compEnvC scope cl C X.env) fp) tg2 g2))
    (he : ∀ (s : Shared) (H : Hp) (C : Addr) (cl : List (Str × Addr)) (fp : List Addr), Bx (PE (X.blk s H scope (compEnvC scope cl C X.env) fp) elt te))
    (eN : X.N = N := by rfl) (eS : X.env.scope = sc := by rfl) (ok : blkC N sc scope own = true := by decide +kernel) (hc : X.calm = true := by rfl) (hy : X.N[i]? = some y := by rfl) (hyl : X.env.scope.names.lookup y = some .local := by rfl)
    (hsw : swapsWith (.ListComp elt [⟨tg1, it1, [], 0⟩, ⟨tg2, it2, [], 0⟩] scope pos) (some (.Name y py)) spos.line X.env = pure true := by exact sw_true rfl rfl rfl (by decide +kernel)) (hs : ∀ x, foldedSetIterable it1 X.env x = pure x := by intro _; rfl)
    (hs2 : ∀ (C : Addr) (cl : List (Str × Addr)) (x : Value), foldedSetIterable it2 (compEnvC scope cl C X.env) x = pure x := by intro _ _ _; rfl) :
    Bx (PS X (.Assign [.Name y py] (.ListComp elt [⟨tg1, it1, [], 0⟩, ⟨tg2, it2, [], 0⟩] scope pos) spos) (tAsg (tLc2 wi g wi2 g2 te (own.map (·.2))) (gName i))) :=
  ⟨ps_setLc2 ⟨hc, hN, hi.o, by rw [eN, eS]; exact blkOk_by ok, fun s H C cl fp => (hg s H C cl fp).o, fun s H C cl fp => (hi2 s H C cl fp).o, fun s H C cl fp => (hg2 s H C cl fp).o, fun s H C cl fp => (he s H C cl fp).o, hs, hs2⟩ hy hyl hsw⟩
end
/-! ### the forms one uses -/
section
variable {K : PySem.W.Frag} {a : Addr} {xs : List V} {g g2 : TG} {wi2 : TI} {te : TE} {vs : List Nat} {σ : L2.St} {H H1 : Hp} {D : Addr} {Qd : Hp → Prop} {N : L2.St → Hp → Prop}
theorem lc2_tup (Pv : Nat → Hp → Prop) (h0 : Pv 0 (upd H1 D (.lst []))) (hl : ∀ i H, i ≤ xs.length → Pv i H → SqT K H a xs)
    (hs : ∀ i x H, xs[i]? = some x → Pv i H → g x (wipe σ vs) H (tIn2 wi2 g2 te D fun σ2 H2 => wipe σ2 vs = wipe σ vs ∧ Pv (i + 1) H2)) (hd : ∀ H, Pv xs.length H → Qd H) :
    ∃ W : Nat → Nat → Hp → Prop, (∃ m, W 0 m (upd H1 D (.lst []))) ∧ ∀ i m H, W i m H →
      ((Itt K a).stop i H ∧ Qd H) ∨ ((Itt K a).go i H ∧ ∃ Nx : Hp → Prop, (∀ H', Nx H' → ∃ m', m' < m ∧ W (i + 1) m' H') ∧ ∀ x H', (Itt K a).yld i H x H' → g x (wipe σ vs) H' (tIn2 wi2 g2 te D fun σ2 H2 => wipe σ2 vs = wipe σ vs ∧ Nx H2)) := by
  refine ⟨fun i m H => m = xs.length - i ∧ i ≤ xs.length ∧ Pv i H, ⟨xs.length, by simp, Nat.zero_le _, h0⟩, ?_⟩
  rintro i m H ⟨rfl, hi, p⟩
  have hS := hl i H hi p
  by_cases hlt : i < xs.length
  · refine .inr ⟨⟨xs, _, hS, List.getElem?_eq_getElem hlt⟩, Pv (i + 1), fun H' p' => ⟨xs.length - (i + 1), by omega, rfl, hlt, p'⟩, fun x H' y => ?_⟩
    obtain ⟨e, y⟩ := y
    subst e
    exact hs i x _ (y xs hS) p
  · have e : i = xs.length := by omega
    subst e
    exact .inl ⟨⟨xs, hS, Nat.le_refl _⟩, hd H p⟩
theorem lc2_list (Pv : Nat → Hp → Prop) (h0 : Pv 0 (upd H1 D (.lst []))) (hl : ∀ i H, i ≤ xs.length → Pv i H → SqL K H a xs)
    (hs : ∀ i x H, xs[i]? = some x → Pv i H → g x (wipe σ vs) H (tIn2 wi2 g2 te D fun σ2 H2 => wipe σ2 vs = wipe σ vs ∧ Pv (i + 1) H2)) (hd : ∀ H, Pv xs.length H → Qd H) :
    ∃ W : Nat → Nat → Hp → Prop, (∃ m, W 0 m (upd H1 D (.lst []))) ∧ ∀ i m H, W i m H →
      ((Itl K a).stop i H ∧ Qd H) ∨ ((Itl K a).go i H ∧ ∃ Nx : Hp → Prop, (∀ H', Nx H' → ∃ m', m' < m ∧ W (i + 1) m' H') ∧ ∀ x H', (Itl K a).yld i H x H' → g x (wipe σ vs) H' (tIn2 wi2 g2 te D fun σ2 H2 => wipe σ2 vs = wipe σ vs ∧ Nx H2)) := by
  refine ⟨fun i m H => m = xs.length - i ∧ i ≤ xs.length ∧ Pv i H, ⟨xs.length, by simp, Nat.zero_le _, h0⟩, ?_⟩
  rintro i m H ⟨rfl, hi, p⟩
  have hS := hl i H hi p
  by_cases hlt : i < xs.length
  · refine .inr ⟨⟨xs, _, hS, List.getElem?_eq_getElem hlt⟩, Pv (i + 1), fun H' p' => ⟨xs.length - (i + 1), by omega, rfl, hlt, p'⟩, fun x H' y => ?_⟩
    obtain ⟨e, y⟩ := y
    subst e
    exact hs i x _ (y xs hS) p
  · have e : i = xs.length := by omega
    subst e
    exact .inl ⟨⟨xs, hS, Nat.le_refl _⟩, hd H p⟩
theorem in_list (Pv : Nat → L2.St → Hp → Prop) (h0 : Pv 0 σ H) (hl : ∀ i σ H, i ≤ xs.length → Pv i σ H → SqL K H a xs)
    (hs : ∀ i x σ H, xs[i]? = some x → Pv i σ H → g x σ H fun σ2 H2 => te σ2 H2 fun y H3 => ∃ acc, H3 D = some (.lst acc) ∧ acc.length < sizeLine ∧ Pv (i + 1) σ2 (upd H3 D (.lst (acc ++ [y])))) (hd : ∀ σ H, Pv xs.length σ H → N σ H) :
    ∃ W : Nat → Nat → L2.St → Hp → Prop, (∃ m, W 0 m σ H) ∧ ∀ i m σ H, W i m σ H →
      ((Itl K a).stop i H ∧ N σ H) ∨ ((Itl K a).go i H ∧ ∃ Nx : L2.St → Hp → Prop, (∀ σ' H', Nx σ' H' → ∃ m', m' < m ∧ W (i + 1) m' σ' H') ∧ ∀ x H', (Itl K a).yld i H x H' → g x σ H' fun σ2 H2 => te σ2 H2 fun y H3 => ∃ acc, H3 D = some (.lst acc) ∧ acc.length < sizeLine ∧ Nx σ2 (upd H3 D (.lst (acc ++ [y])))) := by
  refine ⟨fun i m σ H => m = xs.length - i ∧ i ≤ xs.length ∧ Pv i σ H, ⟨xs.length, by simp, Nat.zero_le _, h0⟩, ?_⟩
  rintro i m σ H ⟨rfl, hi, p⟩
  have hS := hl i σ H hi p
  by_cases hlt : i < xs.length
  · refine .inr ⟨⟨xs, _, hS, List.getElem?_eq_getElem hlt⟩, Pv (i + 1), fun σ' H' p' => ⟨xs.length - (i + 1), by omega, rfl, hlt, p'⟩, fun x H' y => ?_⟩
    obtain ⟨e, y⟩ := y
    subst e
    exact hs i x σ _ (y xs hS) p
  · have e : i = xs.length := by omega
    subst e
    exact .inl ⟨⟨xs, hS, Nat.le_refl _⟩, hd σ H p⟩
end
/-! ### name = {k: v for ..} on one line, the name a local -/
section
variable {X : Cx} {kx vx tg iter : Expr} {scope : Scope} {pos : Pos} {wi : TI} {g : TG} {tk tv : TE} {y : Str}
theorem sw_dict {py : Pos} {l : Nat} {env : Env} {gs : List Comprehension} (hk : env.scope.kind = .function) (hy : env.scope.names.lookup y = some .local) (hl : (py.line == pos.line) = true)
    (ha : (scope.names.any fun (n, k) => n == y && (k == .local || k == .cell)) = false) : swapsWith (.DictComp kx vx gs scope pos) (some (.Name y py)) l env = pure true := by
  have ky : env.kindOf y = some .local := hy
  have hb : env.blockKind = .function := by unfold Env.blockKind; rw [hk]; rfl
  unfold swapsWith
  simp only [hb, ky, ha, Expr.pos, hl]
  rfl
theorem bs_setd (i : Nat) (own : List (Str × Nat)) (N : List Str) (sc : Scope) {py spos : Pos} (hN : X.N.Nodup) (hi : Bx (PI X tg iter wi))
    (hk : ∀ (s : Shared) (H : Hp) (C : Addr) (cl : List (Str × Addr)) (fp : List Addr), Bx (PE (X.blk s H scope (compEnvC scope cl C X.env) fp) kx tk))
    (hv : ∀ (s : Shared) (H : Hp) (C : Addr) (cl : List (Str × Addr)) (fp : List Addr), Bx (PE (X.blk s H scope (compEnvC scope cl C X.env) fp) vx tv))
    (hg : ∀ (s : Shared) (H : Hp) (C : Addr) (cl : List (Str × Addr)) (fp : List Addr), Bx (PG (X.blk s H scope (compEnvC scope cl C X.env) fp) tg g))
    (eN : X.N = N := by rfl) (eS : X.env.scope = sc := by rfl) (ok : blkC N sc scope own = true := by decide +kernel) (hc : X.calm = true := by rfl) (hy : X.N[i]? = some y := by rfl) (hyl : X.env.scope.names.lookup y = some .local := by rfl)
    (hsw : swapsWith (.DictComp kx vx [⟨tg, iter, [], 0⟩] scope pos) (some (.Name y py)) spos.line X.env = pure true := by exact sw_dict rfl rfl rfl (by decide +kernel)) (hs : ∀ x, foldedSetIterable iter X.env x = pure x := by intro _; rfl) :
    Bx (PS X (.Assign [.Name y py] (.DictComp kx vx [⟨tg, iter, [], 0⟩] scope pos) spos) (tAsg (tDc wi g tYes tk tv (own.map (·.2))) (gName i))) := ⟨by
  intro pins s σ H D I h
  rw [exec_Assign_Name_used _ _ _ _ hsw]
  refine wpAny_bind (wpAny_standAt (wpAny_bind ?_))
  show wpAny _ X.A (do let _ ← comprehension (.DictComp kx vx [⟨tg, iter, [], 0⟩] scope pos) scope X.env (firstIterPos [⟨tg, iter, [], 0⟩] pos) newDict false (eval iter X.env) (some (assign (.Name y py) X.env))) _ _ s
  have h : tDc wi g tYes tk tv (own.map (·.2)) σ H (fun x H1 => gName i x σ H1 D.nx) := h
  have hb : BlkOk X.N X.env.scope scope own := by rw [eN, eS]; exact blkOk_by ok
  refine wpAny_bind (thn (dc_core (Qf := fun _ s' => SP X pins D .next s') hc hN I hi.o hb (fun s H C cl fp => (hg s H C cl fp).o) (fun s H C cl fp => pts_nil) (fun s H C cl fp => (hk s H C cl fp).o) (fun s H C cl fp => (hv s H C cl fp).o) hs h fun L C s' m H' I' q hn f => ?_) fun _ s' hq => wpAny_pure (wpAny_pure hq))
  show wpAny _ _ (assign (.Name y py) X.env (.ref L)) _ _ _
  refine wpAny_assign_Name (store_ok2 (v := V.ref L) I' hN hy (.inl hyl) rfl (fun s2 I2 ⟨a, sb, ha⟩ => ?_) (.inr hyl))
  obtain ⟨f0, f1, f2, f3, f4, f5⟩ := f
  have haC : C ≠ a := ha.elim (fun z => by rw [z]; exact f1) fun z e => f4 y a z e.symm
  refine ⟨m, hn.sameBut sb haC, fun h3 sb3 => ?_⟩
  exact ⟨_, H', I2.turned (t' := s2.toks) (fun b o hb e => (sb3.2 b hb).trans e) f0 f1 f3 f4 f5, q⟩⟩
theorem bg_tupK {X : Cx} (K' : PySem.W.Frag) {es : List Expr} {pos : Pos} (n : Nat) {k : Nat} {gs : TGs} (h : Bx (PGs X es gs)) (hK : X.K = K' := by rfl) (hc : X.calm = true := by rfl) (hn : (assignEach es X.env).length = n := by rfl) (hst : (assignEach es X.env).findIdx? (·.1) = none := by rfl) : Bx (PG X (.Tuple es k pos) (gTup K' n gs)) := by
  subst hK
  exact bg_tup h hc hn hst
end
end Hs

namespace Hs
open PySem PySem.Spec PyProof.Rows L2
/-! ### hills -/
structure Hill where
  h : Int
  v : Int
  ns : List Str
def HillAt (H : Hp) (a : Addr) (x : Hill) : Prop := ∃ n, H a = some (.tup [.int x.h, .int x.v, .ref n]) ∧ H n = some (.lst (x.ns.map V.str))
def HsAt (H : Hp) (as : List Addr) (hs : List Hill) : Prop := as.length = hs.length ∧ ∀ (i : Nat) (a : Addr) (x : Hill), as[i]? = some a → hs[i]? = some x → HillAt H a x
def OkHs (hs : List Hill) : Prop := ∀ x ∈ hs, x.ns ≠ []
def flatN (hs : List Hill) : List Str := hs.flatMap (·.ns)
theorem HillAt.same {H H' : Hp} {a : Addr} {x : Hill} (h : HillAt H a x) (s : Same H H') : HillAt H' a x := by
  obtain ⟨n, h1, h2⟩ := h
  exact ⟨n, s _ _ h1, s _ _ h2⟩
theorem strs_ne_refs {ns : List Str} {as : List Addr} (h : ns ≠ []) : HO.lst (ns.map V.str) ≠ HO.lst (as.map V.ref) := by
  intro e
  injection e with e
  cases ns with
  | nil => exact h rfl
  | cons x r =>
    cases as with
    | nil => cases e
    | cons a q =>
      rw [List.map_cons, List.map_cons] at e
      injection e with e1 e2
      cases e1
/-- a list of references is changed -/
theorem HillAt.but {H H' : Hp} {a l : Addr} {x : Hill} {as : List Addr} (h : HillAt H a x) (hx : x.ns ≠ []) (hl : H l = some (.lst (as.map V.ref))) (s : But l H H') : HillAt H' a x := by
  obtain ⟨n, h1, h2⟩ := h
  exact ⟨n, s _ _ (ne_of h1 hl (by intro z; cases z)) h1, s _ _ (ne_of h2 hl (strs_ne_refs hx)) h2⟩
theorem HsAt.same {H H' : Hp} {as : List Addr} {hs : List Hill} (h : HsAt H as hs) (s : Same H H') : HsAt H' as hs := ⟨h.1, fun i a x h1 h2 => (h.2 i a x h1 h2).same s⟩
theorem HsAt.but {H H' : Hp} {l : Addr} {as bs : List Addr} {hs : List Hill} (h : HsAt H as hs) (hx : OkHs hs) (hl : H l = some (.lst (bs.map V.ref))) (s : But l H H') : HsAt H' as hs :=
  ⟨h.1, fun i a x h1 h2 => (h.2 i a x h1 h2).but (hx x (List.mem_of_getElem? h2)) hl s⟩
theorem HsAt.nil {H : Hp} : HsAt H [] [] := ⟨rfl, fun i a x h => by simp at h⟩
theorem HsAt.snoc {H : Hp} {as : List Addr} {hs : List Hill} {a : Addr} {x : Hill} (h : HsAt H as hs) (hx : HillAt H a x) : HsAt H (as ++ [a]) (hs ++ [x]) := by
  refine ⟨by rw [List.length_append, List.length_append, h.1]; rfl, fun i b y h1 h2 => ?_⟩
  by_cases hi : i < as.length
  · rw [List.getElem?_append_left hi] at h1
    rw [List.getElem?_append_left (by rw [← h.1]; exact hi)] at h2
    exact h.2 i b y h1 h2
  · rw [List.getElem?_append_right (by omega)] at h1
    rw [List.getElem?_append_right (by rw [← h.1]; omega)] at h2
    have : i - as.length = 0 := by
      have := (List.getElem?_eq_some_iff.mp h1).1
      simp at this
      omega
    rw [this] at h1
    rw [← h.1, this] at h2
    cases h1
    cases h2
    exact hx
theorem HsAt.get {H : Hp} {as : List Addr} {hs : List Hill} (h : HsAt H as hs) {i : Nat} {v : V} (hv : (as.map V.ref)[i]? = some v) : ∃ a x, v = .ref a ∧ hs[i]? = some x ∧ HillAt H a x := by
  obtain ⟨p, hp, rfl⟩ := get_map hv
  have hi := (List.getElem?_eq_some_iff.mp hp).1
  have hb : hs[i]? = some (hs[i]'(by rw [← h.1]; exact hi)) := List.getElem?_eq_getElem _
  exact ⟨p, _, rfl, hb, h.2 i p _ hp hb⟩
theorem HsAt.init {H : Hp} {as : List Addr} {hs : List Hill} (h : HsAt H as hs) : HsAt H as.dropLast hs.dropLast := by
  refine ⟨by rw [List.length_dropLast, List.length_dropLast, h.1], fun i a x h1 h2 => ?_⟩
  have l1 := (List.getElem?_eq_some_iff.mp h1).1
  have l2 := (List.getElem?_eq_some_iff.mp h2).1
  rw [List.length_dropLast] at l1 l2
  rw [List.dropLast_eq_take, List.getElem?_take_of_lt l1] at h1
  rw [List.dropLast_eq_take, List.getElem?_take_of_lt l2] at h2
  exact h.2 i a x h1 h2
def lastV (hs : List Hill) : Int := (hs.getLast?.map (·.v)).getD 0
/-- each hill over the valley ahead of it -/
def climbF (hs : List Hill) (i : Nat) (x : Hill) : Hill := ⟨x.h - lastV (hs.take i), x.v - lastV (hs.take i), x.ns⟩
def climbsF (hs : List Hill) : Nat → List Hill
  | 0 => []
  | i + 1 => climbsF hs i ++ (match hs[i]? with
    | some x => [climbF hs i x]
    | none => [])
theorem climbs_len {hs : List Hill} : ∀ {i : Nat}, i ≤ hs.length → (climbsF hs i).length = i
  | 0, _ => rfl
  | i + 1, h => by
    have : hs[i]? = some hs[i] := List.getElem?_eq_getElem (by omega)
    show (climbsF hs i ++ _).length = _
    rw [this, List.length_append, climbs_len (by omega)]
    rfl
theorem climbs_flat {hs : List Hill} : ∀ {i : Nat}, i ≤ hs.length → flatN (climbsF hs i) = flatN (hs.take i)
  | 0, _ => rfl
  | i + 1, h => by
    have e : hs[i]? = some hs[i] := List.getElem?_eq_getElem (by omega)
    show flatN (climbsF hs i ++ _) = _
    unfold flatN
    rw [List.flatMap_append, List.take_add_one, List.flatMap_append, e]
    show flatN _ ++ _ = flatN _ ++ _
    rw [climbs_flat (by omega)]
    rfl
theorem climbs_ok {hs : List Hill} (h : OkHs hs) : ∀ i, OkHs (climbsF hs i)
  | 0 => fun x hx => by cases hx
  | i + 1 => fun x hx => by
    rcases List.mem_append.mp hx with k | k
    · exact climbs_ok h i x k
    · cases e : hs[i]? with
      | none => rw [e] at k; cases k
      | some y =>
        rw [e] at k
        rw [List.mem_singleton.mp k]
        exact h y (List.mem_of_getElem? e)
/-- a make behind a row, its hills from the end -/
def addR : List Hill → Hill → List Hill
  | [], x => [x]
  | y :: r, x => if y.h ≤ x.h ∨ x.v ≤ y.v then addR r ⟨max x.h y.h, x.v, y.ns ++ x.ns⟩ else x :: y :: r
def addF (hs : List Hill) (x : Hill) : List Hill := (addR hs.reverse x).reverse
theorem addF_nil (x : Hill) : addF [] x = [x] := rfl
theorem addF_go {hs : List Hill} {x y : Hill} (h : y.h ≤ x.h ∨ x.v ≤ y.v) : addF (hs ++ [y]) x = addF hs ⟨max x.h y.h, x.v, y.ns ++ x.ns⟩ := by
  unfold addF
  rw [List.reverse_append]
  show (addR (y :: hs.reverse) x).reverse = _
  show (if y.h ≤ x.h ∨ x.v ≤ y.v then addR hs.reverse ⟨max x.h y.h, x.v, y.ns ++ x.ns⟩ else x :: y :: hs.reverse).reverse = _
  rw [if_pos h]
theorem addF_stop {hs : List Hill} {x y : Hill} (h : ¬ (y.h ≤ x.h ∨ x.v ≤ y.v)) : addF (hs ++ [y]) x = hs ++ [y] ++ [x] := by
  unfold addF
  rw [List.reverse_append]
  show (if y.h ≤ x.h ∨ x.v ≤ y.v then addR hs.reverse ⟨max x.h y.h, x.v, y.ns ++ x.ns⟩ else x :: y :: hs.reverse).reverse = _
  rw [if_neg h]
  simp
theorem addR_flat : ∀ (hs : List Hill) (x : Hill), flatN (addR hs x).reverse = flatN hs.reverse ++ x.ns
  | [], x => by show [x].flatMap (·.ns) = _; simp [flatN]
  | y :: r, x => by
    show flatN (if y.h ≤ x.h ∨ x.v ≤ y.v then addR r ⟨max x.h y.h, x.v, y.ns ++ x.ns⟩ else x :: y :: r).reverse = _
    by_cases h : y.h ≤ x.h ∨ x.v ≤ y.v
    · rw [if_pos h, addR_flat r]
      simp [flatN]
    · rw [if_neg h]
      simp [flatN]
theorem addF_flat (hs : List Hill) (x : Hill) : flatN (addF hs x) = flatN hs ++ x.ns := by
  unfold addF
  rw [addR_flat, List.reverse_reverse]
theorem addR_ok : ∀ {hs : List Hill} {x : Hill}, OkHs hs → x.ns ≠ [] → OkHs (addR hs x)
  | [], x, _, hx => fun y hy => by rw [List.mem_singleton.mp hy]; exact hx
  | y :: r, x, h, hx => by
    show OkHs (if y.h ≤ x.h ∨ x.v ≤ y.v then addR r ⟨max x.h y.h, x.v, y.ns ++ x.ns⟩ else x :: y :: r)
    have hr : OkHs r := fun z hz => h z (List.mem_cons_of_mem _ hz)
    by_cases hc : y.h ≤ x.h ∨ x.v ≤ y.v
    · rw [if_pos hc]
      exact addR_ok hr (by intro z; exact hx (List.append_eq_nil_iff.mp z).2)
    · rw [if_neg hc]
      intro z hz
      rcases List.mem_cons.mp hz with e | e
      · rw [e]; exact hx
      · exact h z e
theorem addF_ok {hs : List Hill} {x : Hill} (h : OkHs hs) (hx : x.ns ≠ []) : OkHs (addF hs x) := fun y hy => by
  unfold addF at hy
  rw [List.mem_reverse] at hy
  exact addR_ok (fun z hz => h z (List.mem_reverse.mp hz)) hx y hy
theorem flat_len {hs : List Hill} (h : OkHs hs) : hs.length ≤ (flatN hs).length := by
  induction hs with
  | nil => exact Nat.le_refl _
  | cons x r ih =>
    have h1 := ih fun y hy => h y (List.mem_cons_of_mem _ hy)
    have h2 := h x List.mem_cons_self
    show r.length + 1 ≤ (x.ns ++ flatN r).length
    rw [List.length_append]
    have : 1 ≤ x.ns.length := by
      cases e : x.ns with
      | nil => exact absurd e h2
      | cons _ _ => simp
    omega
/-- climbs done one behind the other -/
def rowS (ss : List Hill) : Nat → List Hill × Int
  | 0 => ([], 0)
  | i + 1 => match ss[i]? with
    | some x => (addF (rowS ss i).1 ⟨(rowS ss i).2 + x.h, (rowS ss i).2 + x.v, x.ns⟩, (rowS ss i).2 + x.v)
    | none => rowS ss i
def rowF (ss : List Hill) : List Hill := (rowS ss ss.length).1
theorem rowS_succ {ss : List Hill} {i : Nat} {x : Hill} (h : ss[i]? = some x) : rowS ss (i + 1) = (addF (rowS ss i).1 ⟨(rowS ss i).2 + x.h, (rowS ss i).2 + x.v, x.ns⟩, (rowS ss i).2 + x.v) := by
  show (match ss[i]? with
    | some x => (addF (rowS ss i).1 ⟨(rowS ss i).2 + x.h, (rowS ss i).2 + x.v, x.ns⟩, (rowS ss i).2 + x.v)
    | none => rowS ss i) = _
  rw [h]
theorem rowS_flat {ss : List Hill} : ∀ {i : Nat}, i ≤ ss.length → flatN (rowS ss i).1 = flatN (ss.take i)
  | 0, _ => rfl
  | i + 1, h => by
    have e : ss[i]? = some ss[i] := List.getElem?_eq_getElem (by omega)
    rw [rowS_succ e, addF_flat, rowS_flat (by omega), List.take_add_one, e]
    unfold flatN
    rw [List.flatMap_append]
    simp
theorem rowS_ok {ss : List Hill} (h : OkHs ss) : ∀ {i : Nat}, i ≤ ss.length → OkHs (rowS ss i).1
  | 0, _ => fun x hx => by cases hx
  | i + 1, hi => by
    have e : ss[i]? = some ss[i] := List.getElem?_eq_getElem (by omega)
    rw [rowS_succ e]
    exact addF_ok (rowS_ok h (by omega)) (h ss[i] (List.mem_of_getElem? e))
theorem rowF_flat (ss : List Hill) : flatN (rowF ss) = flatN ss := by
  unfold rowF
  rw [rowS_flat (Nat.le_refl _), List.take_length]
theorem rowF_ok {ss : List Hill} (h : OkHs ss) : OkHs (rowF ss) := rowS_ok h (Nat.le_refl _)
def lenL (σ : L2.St) (H : Hp) : Nat := match σ[0]? with
  | some (some (V.ref p)) => match H p with
    | some (.lst xs) => xs.length
    | _ => 0
  | _ => 0
section
variable {P : Program} {w : World} {K : PySem.W.Frag} {mg : Str → Option Value} {base : Heap}
/-! ### climbs -/
abbrev nClm : List Str := ["hills", "found", "ground", "hill", "valley", "names"]
def spClm : Sp := fun vs H Q _ => ∃ (l : Addr) (as : List Addr) (hs : List Hill), vs = [.ref l] ∧ H l = some (.lst (as.map V.ref)) ∧ HsAt H as hs ∧ OkHs hs ∧ hs.length ≤ 100 ∧
  ∀ (l' : Addr) (as' : List Addr) (H' : Hp), H l' = none → Same H H' → H' l' = some (.lst (as'.map V.ref)) → HsAt H' as' (climbsF hs hs.length) → Q (.ref l') H'
theorem sc_clm : FnScope nClm ["hills"] (defScope s_climbs) := ⟨rfl, rfl, rfl, by decide +kernel, rfl, by decide +kernel, by decide +kernel⟩
set_option maxHeartbeats 1000000 in
theorem c_clm (D : Dfn K mg "climbs" s_climbs) : Cal P w K mg base 1 "climbs" ["hills"] spClm := by
  refine D.cal (fun _ _ _ _ _ _ us hl => match us, hl with | [_], _ => rfl) fun f fd F => F.ok sc_clm (fun vs H Q E h => ?_) (fun cdv A outer s H vs Q E hr h => ?_)
  · obtain ⟨l, _, _, rfl, _⟩ := h
    rfl
  · obtain ⟨l, as, hs, rfl, hl, hA, hok, hlen, q⟩ := h
    have nd := sc_clm.nd
    refine ex_pss ((bs_c (bs_set 1 nd (b_lst ba_nil))
      (bs_c (bs_set 2 nd b_int)
      (bs_c (bs_for (bi_list (b_v 0)) (bg_tup (bgs_c (bg_n 3 nd) (bgs_c (bg_n 4 nd) (bgs_c (bg_n 5 nd) bgs_nil)))) (bs_c (bs_expr (b_append (b_v 1) (ba_c (b_tup (ba_c (b_op op_sub (b_v 3) (b_v 2)) (ba_c (b_op op_sub (b_v 4) (b_v 2)) (ba_c (b_v 5) ba_nil)))) ba_nil)))
      (bs_one (bs_set 2 nd (b_v 4)))))
      (bs_one (bs_ret (b_v 1))))))) ?_
    refine ⟨lit 0, fun fo hfo => ?_⟩
    refine ⟨_, rfl, l, rfl, ⟨_, SqL.of (Same.new hfo _ _ hl)⟩, for_list (K := K) (a := l) (xs := as.map V.ref) (fun i σ H2 => ∃ (bs : List Addr) (v3 v4 v5 : Option V), σ = [some (.ref l), some (.ref fo), some (.int (lastV (hs.take i))), v3, v4, v5] ∧ Same H H2 ∧ H2 fo = some (.lst (bs.map V.ref)) ∧ HsAt H2 bs (climbsF hs i)) ⟨[], none, none, none, rfl, Same.new hfo, upd_same, HsAt.nil⟩ ?_ ?_ ?_⟩
    · rintro i σ H2 _ ⟨_, _, _, _, _, s2, _⟩
      exact SqL.of (s2 _ _ hl)
    · rintro i v σ H2 hi ⟨bs, v3, v4, v5, rfl, s2, hf2, hB⟩
      obtain ⟨a, x, rfl, hx, n, h1, h2⟩ := hA.get hi
      have hil := (List.getElem?_eq_some_iff.mp hx).1
      have hl2 := hB.1
      rw [climbs_len (by omega)] at hl2
      refine ⟨a, _, rfl, SqT.of (s2 _ _ h1), rfl, _, _, rfl, _, _, rfl, _, _, rfl, rfl, ?_⟩
      refine ⟨_, rfl, .inl ⟨rfl, _, SqL.of hf2⟩, _, rfl, _, rfl, _, _, rfl, rfl, _, rfl, _, rfl, _, _, rfl, rfl, _, rfl, lit 3, fun p hp => ?_⟩
      have s3 : Same H2 (upd H2 p (.tup [.int (x.h - lastV (hs.take i)), .int (x.v - lastV (hs.take i)), .ref n])) := Same.new hp
      have hh : HillAt (upd H2 p (.tup [.int (x.h - lastV (hs.take i)), .int (x.v - lastV (hs.take i)), .ref n])) p (climbF hs i x) := ⟨n, upd_same, s3 _ _ (s2 _ _ h2)⟩
      generalize upd H2 p (.tup [.int (x.h - lastV (hs.take i)), .int (x.v - lastV (hs.take i)), .ref n]) = H3 at s3 hh
      refine ⟨fo, _, _, rfl, rfl, s3 _ _ hf2, by rw [List.length_map, hl2]; exact small1000 (by omega), ?_⟩
      have eg : lastV (hs.take (i + 1)) = x.v := by
        unfold lastV
        rw [List.take_add_one, hx]
        show ((hs.take i ++ [x]).getLast?.map (·.v)).getD 0 = _
        rw [List.getLast?_concat]
        rfl
      have ec : climbsF hs (i + 1) = climbsF hs i ++ [climbF hs i x] := by
        show climbsF hs i ++ _ = _
        rw [hx]
      have b4 : But fo H3 (upd H3 fo (.lst (bs.map V.ref ++ [V.ref p]))) := But.upd _ _ _
      have hok' := climbs_ok hok (i + 1)
      rw [ec] at hok'
      refine ⟨_, rfl, bs ++ [p], _, _, _, by rw [eg]; rfl, (s2.trans s3).own hfo, by rw [upd_same, List.map_append]; rfl, ?_⟩
      rw [ec]
      exact ((hB.same s3).snoc hh).but hok' (s3 _ _ hf2) b4
    · rintro σ H2 ⟨bs, v3, v4, v5, rfl, s2, hf2, hB⟩
      rw [List.length_map, hA.1] at hB
      exact ⟨_, rfl, q fo bs H2 hfo s2 hf2 hB⟩
/-! ### add_hill -/
abbrev nAdh : List Str := ["hills", "hill", "valley", "names", "last_hill", "last_valley", "last_names"]
def spAdh : Sp := fun vs H Q _ => ∃ (l n : Addr) (x : Hill) (as : List Addr) (hs : List Hill), vs = [.ref l, .int x.h, .int x.v, .ref n] ∧ H l = some (.lst (as.map V.ref)) ∧ HsAt H as hs ∧ OkHs hs ∧ H n = some (.lst (x.ns.map V.str)) ∧ x.ns ≠ [] ∧ (flatN hs ++ x.ns).length ≤ 1000 ∧
  ∀ (as' : List Addr) (H' : Hp), But l H H' → H' l = some (.lst (as'.map V.ref)) → HsAt H' as' (addF hs x) → Q .non H'
theorem sc_adh : FnScope nAdh ["hills", "hill", "valley", "names"] (defScope s_add_hill) := ⟨rfl, rfl, rfl, by decide +kernel, rfl, by decide +kernel, by decide +kernel⟩
set_option maxHeartbeats 1000000 in
theorem c_adh (B : Blt mg) (D : Dfn K mg "add_hill" s_add_hill) : Cal P w K mg base 1 "add_hill" ["hills", "hill", "valley", "names"] spAdh := by
  refine D.cal (fun _ _ _ _ _ _ us hl => match us, hl with | [_, _, _, _], _ => rfl) fun f fd F => F.ok sc_adh (fun vs H Q E h => ?_) (fun cdv A outer s H vs Q E hr h => ?_)
  · obtain ⟨l, _, _, _, _, rfl, _⟩ := h
    rfl
  · obtain ⟨l, n, x, as, hs, rfl, hl, hA, hok, hn, hx, hlen, q⟩ := h
    have nd := sc_adh.nd
    refine ex_pss ((bs_c (bs_while PassesOwn.never (bt_w (bw_and (bt_truth (b_v 0)) (bw_and1 (bt_w (bw_or (bt_cmpR op_le (b_ix ix_tup (b_ix ix_list (b_v 0) (b_neg b_int)) b_int) (b_v 1) (nomark _)) (bw_or1 (bt_cmpR op_ge (b_ix ix_tup (b_ix ix_list (b_v 0) (b_neg b_int)) b_int) (b_v 2) (nomark _)))))))) (bs_c (bs_asg (b_pop0 (b_v 0)) (bg_tup (bgs_c (bg_n 4 nd) (bgs_c (bg_n 5 nd) (bgs_c (bg_n 6 nd) bgs_nil)))))
      (bs_c (bs_set 1 nd (b_callB (call_max2 rfl) B.max (ba_c (b_v 1) (ba_c (b_v 4) ba_nil))))
      (bs_one (bs_set 3 nd (b_op op_cat (b_v 6) (b_v 3)))))))
      (bs_one (bs_expr (b_append (b_v 0) (ba_c (b_tup (ba_c (b_v 1) (ba_c (b_v 2) (ba_c (b_v 3) ba_nil)))) ba_nil)))))) ?_
    refine while_by (fun σ H2 => ∃ (bs : List Addr) (gs : List Hill) (h : Int) (ns : List Str) (m : Addr) (v4 v5 v6 : Option V), σ = [some (.ref l), some (.int h), some (.int x.v), some (.ref m), v4, v5, v6] ∧ But l H H2 ∧ H2 l = some (.lst (bs.map V.ref)) ∧ HsAt H2 bs gs ∧ OkHs gs ∧ H2 m = some (.lst (ns.map V.str)) ∧ ns ≠ [] ∧ flatN gs ++ ns = flatN hs ++ x.ns ∧ addF hs x = addF gs ⟨h, x.v, ns⟩) lenL
      ⟨as, hs, x.h, x.ns, n, none, none, none, rfl, But.refl _ _, hl, hA, hok, hn, hx, rfl, rfl⟩ ?_ ?_
    · rintro σ H2 ⟨bs, gs, h, ns, m, v4, v5, v6, rfl, b2, hl2, hB, hgo, hm2, hns, hfl, hadd⟩
      have hmu : lenL [some (.ref l), some (.int h), some (.int x.v), some (.ref m), v4, v5, v6] H2 = gs.length := by
        unfold lenL
        show (match H2 l with | some (.lst xs) => xs.length | _ => 0) = _
        rw [hl2]
        show (bs.map V.ref).length = _
        rw [List.length_map, hB.1]
      rw [hmu]
      have hgl : gs.length ≤ 1000 := by
        have h1 := flat_len hgo
        have h2 := congrArg List.length hfl
        rw [List.length_append] at h2
        omega
      have stop : addF gs ⟨h, x.v, ns⟩ = gs ++ [⟨h, x.v, ns⟩] → (tDrop (tBM K "list" rAppend (tVar 0) (tCons (tTup (tCons (tVar 1) (tCons (tVar 2) (tCons (tVar 3) tNil)))) tNil))) { nx := fun _ H' => Q .non H', rt := Q } [some (.ref l), some (.int h), some (.int x.v), some (.ref m), v4, v5, v6] H2 := fun e => by
        refine ⟨_, rfl, .inl ⟨rfl, _, SqL.of hl2⟩, _, rfl, _, rfl, _, rfl, lit 3, fun p hp => ?_⟩
        have s3 : Same H2 (upd H2 p (.tup [.int h, .int x.v, .ref m])) := Same.new hp
        have hh : HillAt (upd H2 p (.tup [.int h, .int x.v, .ref m])) p ⟨h, x.v, ns⟩ := ⟨m, upd_same, s3 _ _ hm2⟩
        generalize upd H2 p (.tup [.int h, .int x.v, .ref m]) = H3 at s3 hh
        refine ⟨l, _, _, rfl, rfl, s3 _ _ hl2, by rw [List.length_map, hB.1]; exact small1000 hgl, ?_⟩
        refine q (bs ++ [p]) _ ((b2.trans (Same.but s3)).trans (But.upd _ _ _)) (by rw [upd_same, List.map_append]; rfl) ?_
        rw [hadd, e]
        refine ((hB.same s3).snoc hh).but (fun y hy => ?_) (s3 _ _ hl2) (But.upd _ _ _)
        rcases List.mem_append.mp hy with k | k
        · exact hgo y k
        · rw [List.mem_singleton.mp k]; exact hns
      cases hbs : bs.getLast? with
      | none =>
        rw [List.getLast?_eq_none_iff] at hbs
        subst hbs
        have hg0 : gs = [] := List.eq_nil_of_length_eq_zero hB.1.symm
        refine ⟨_, rfl, false, .inl ⟨[], SqL.of hl2, rfl⟩, iteF ?_⟩
        exact stop (by rw [hg0]; rfl)
      | some a =>
        have hbl : 0 < bs.length := by
          cases bs with
          | nil => cases hbs
          | cons _ _ => simp
        have hbi : bs[gs.length - 1]? = some a := by rw [← hB.1, ← List.getLast?_eq_getElem?]; exact hbs
        obtain ⟨y, hy⟩ : ∃ y, gs[gs.length - 1]? = some y := ⟨gs[gs.length - 1]'(by have := hB.1; omega), List.getElem?_eq_getElem _⟩
        have hgy : gs.getLast? = some y := by rw [List.getLast?_eq_getElem?]; exact hy
        have hgs : gs = gs.dropLast ++ [y] := by
          have hne : gs ≠ [] := by intro e; rw [e] at hgy; cases hgy
          have := List.dropLast_concat_getLast hne
          rw [List.getLast?_eq_some_getLast hne] at hgy
          cases hgy
          exact this.symm
        obtain ⟨n', ha, hn'⟩ := hB.2 _ _ _ hbi hy
        have hat : atI (bs.map V.ref) (-1) = some (V.ref a) := at_last' (by rw [List.getLast?_map, hbs]; rfl)
        refine ⟨_, rfl, true, .inl ⟨_, SqL.of hl2, ?_⟩, iteT ?_⟩
        · cases bs with
          | nil => cases hbs
          | cons _ _ => rfl
        refine ⟨_, rfl, _, rfl, l, _, _, _, rfl, rfl, SqL.of hl2, hat, a, _, _, _, rfl, rfl, SqT.of ha, rfl, _, rfl, _, _, rfl, rfl, _, rfl, ?_⟩
        by_cases hc : y.h ≤ h ∨ x.v ≤ y.v
        rotate_left
        · rw [decide_eq_false (fun z => hc (.inl z))]
          refine iteF ?_
          refine ⟨_, rfl, _, rfl, l, _, _, _, rfl, rfl, SqL.of hl2, hat, a, _, _, _, rfl, rfl, SqT.of ha, rfl, _, rfl, _, _, rfl, rfl, _, rfl, ?_⟩
          rw [decide_eq_false (fun z => hc (.inr z))]
          refine iteF ?_
          exact stop (by rw [hgs]; exact addF_stop hc)
        refine or2 ?_ (fun hc' hF => ?_)
        rotate_left
        · have hc' := of_decide_eq_false hc'
          refine ⟨_, rfl, _, rfl, l, _, _, _, rfl, rfl, SqL.of hl2, hat, a, _, _, _, rfl, rfl, SqT.of ha, rfl, _, rfl, _, _, rfl, rfl, _, rfl, ?_⟩
          rw [decide_eq_true (hc.resolve_left hc')]
          exact hF
        refine iteT ?_
        have hlast : (bs.map V.ref)[(bs.map V.ref).length - 1]? = some (V.ref a) := by rw [List.length_map, List.getElem?_map, hB.1, hbi]; rfl
        refine ⟨_, rfl, .inl ⟨rfl, _, SqL.of hl2⟩, l, _, .ref a, rfl, rfl, hl2, hlast, ?_⟩
        have ed : (bs.map V.ref).dropLast = bs.dropLast.map V.ref := (List.map_dropLast ..).symm
        rw [ed]
        have b3 : But l H2 (upd H2 l (.lst (bs.dropLast.map V.ref))) := But.upd _ _ _
        have hl3 : (upd H2 l (.lst (bs.dropLast.map V.ref))) l = some (.lst (bs.dropLast.map V.ref)) := upd_same
        have hyn : y.ns ≠ [] := hgo y (List.mem_of_getElem? hy)
        have ha3 := b3 _ _ (ne_of ha hl2 (by intro z; cases z)) ha
        have hn3 := b3 _ _ (ne_of hn' hl2 (strs_ne_refs hyn)) hn'
        have hm3 := b3 _ _ (ne_of hm2 hl2 (strs_ne_refs hns)) hm2
        have hB3 := hB.init.but (fun z hz => hgo z ((List.dropLast_sublist gs).subset hz)) hl2 b3
        generalize upd H2 l (.lst (bs.dropLast.map V.ref)) = H3 at b3 hl3 ha3 hn3 hm3 hB3
        refine ⟨a, _, rfl, SqT.of ha3, rfl, _, _, rfl, _, _, rfl, _, _, rfl, rfl, ?_⟩
        refine ⟨_, rfl, _, rfl, _, _, rfl, ?_⟩
        have hfl2 : flatN gs = flatN gs.dropLast ++ y.ns := by
          conv => lhs; rw [hgs]
          unfold flatN
          rw [List.flatMap_append]
          simp
        have hll := congrArg List.length hfl
        rw [hfl2, List.length_append, List.length_append] at hll
        refine ⟨_, rfl, _, rfl, n', m, _, _, rfl, rfl, hn3, hm3, ?_, fun p hp => ?_⟩
        · rw [List.length_map, List.length_map]
          exact Nat.le_of_lt (small1000 (by omega))
        have em : y.ns.map V.str ++ ns.map V.str = (y.ns ++ ns).map V.str := by rw [List.map_append]
        rw [em]
        have s4 : Same H3 (upd H3 p (.lst ((y.ns ++ ns).map V.str))) := Same.new hp
        have emx : (if y.h > h then y.h else h) = max h y.h := by omega
        refine ⟨⟨bs.dropLast, gs.dropLast, max h y.h, y.ns ++ ns, p, _, _, _, by rw [← emx]; rfl, (b2.trans b3).trans (Same.but s4), s4 _ _ hl3, hB3.same s4, fun z hz => hgo z ((List.dropLast_sublist gs).subset hz), upd_same, fun z => hns (List.append_eq_nil_iff.mp z).2, ?_, ?_⟩, ?_⟩
        · rw [← hfl, hfl2, List.append_assoc]
        · rw [hadd]
          conv => lhs; rw [hgs]
          exact addF_go hc
        · unfold lenL
          show (match (upd H3 p (.lst ((y.ns ++ ns).map V.str))) l with | some (.lst xs) => xs.length | _ => 0) < _
          rw [s4 _ _ hl3]
          show (bs.dropLast.map V.ref).length < _
          rw [List.length_map, List.length_dropLast, ← hB.1]
          omega
    · rintro σ H2 Q1 Q2 hQ ⟨v1, e1, k1, t1, h⟩
      refine ⟨v1, e1, k1, t1, ?_⟩
      revert h
      cases k1 with
      | false => exact fun h => hQ _ _ h
      | true =>
        rintro ⟨v1, e1, i1, f1, l1, a1, c1, d1, g1, g2, g3, g4, a2, c2, d2, f2, k1, k2, k3, k4, v2, e2, i1', i2', j1, j2, b1, kk, h⟩
        refine ⟨v1, e1, i1, f1, l1, a1, c1, d1, g1, g2, g3, g4, a2, c2, d2, f2, k1, k2, k3, k4, v2, e2, i1', i2', j1, j2, b1, kk, ?_⟩
        revert h
        cases b1 with
        | true => exact fun h => hQ _ _ h
        | false =>
          rintro ⟨v1, e1, i1, f1, l1, a1, c1, d1, g1, g2, g3, g4, a2, c2, d2, f2, k1, k2, k3, k4, v2, e2, i1', i2', j1, j2, b1, kk, h⟩
          exact ⟨v1, e1, i1, f1, l1, a1, c1, d1, g1, g2, g3, g4, a2, c2, d2, f2, k1, k2, k3, k4, v2, e2, i1', i2', j1, j2, b1, kk, hQ _ _ h⟩
/-! ### row_of -/
abbrev nRow : List Str := ["steps", "hills", "ground", "rise", "gain", "names"]
def spRow : Sp := fun vs H Q _ => ∃ (l : Addr) (as : List Addr) (ss : List Hill), vs = [.ref l] ∧ H l = some (.lst (as.map V.ref)) ∧ HsAt H as ss ∧ OkHs ss ∧ (flatN ss).length ≤ 1000 ∧
  ∀ (l' : Addr) (as' : List Addr) (H' : Hp), H l' = none → Same H H' → H' l' = some (.lst (as'.map V.ref)) → HsAt H' as' (rowF ss) → Q (.ref l') H'
theorem sc_row : FnScope nRow ["steps"] (defScope s_row_of) := ⟨rfl, rfl, rfl, by decide +kernel, rfl, by decide +kernel, by decide +kernel⟩
set_option maxHeartbeats 1000000 in
theorem c_row (D : Dfn K mg "row_of" s_row_of) (Ca : Cal P w K mg base 1 "add_hill" ["hills", "hill", "valley", "names"] spAdh) : Cal P w K mg base 2 "row_of" ["steps"] spRow := by
  refine D.cal (fun _ _ _ _ _ _ us hl => match us, hl with | [_], _ => rfl) fun f fd F => F.ok sc_row (fun vs H Q E h => ?_) (fun cdv A outer s H vs Q E hr h => ?_)
  · obtain ⟨l, _, _, rfl, _⟩ := h
    rfl
  · obtain ⟨l, as, ss, rfl, hl, hA, hok, hlen, q⟩ := h
    have nd := sc_row.nd
    refine ex_pss ((bs_c (bs_set 1 nd (b_lst ba_nil))
      (bs_c (bs_set 2 nd b_int)
      (bs_c (bs_for (bi_list (b_v 0)) (bg_tup (bgs_c (bg_n 3 nd) (bgs_c (bg_n 4 nd) (bgs_c (bg_n 5 nd) bgs_nil)))) (bs_c (bs_expr (b_cal Ca hr (ba_c (b_v 1) (ba_c (b_op op_add (b_v 2) (b_v 3)) (ba_c (b_op op_add (b_v 2) (b_v 4)) (ba_c (b_v 5) ba_nil))))))
      (bs_one (bs_aug 2 nd (b_v 4) ip_add))))
      (bs_one (bs_ret (b_v 1))))))) ?_
    refine ⟨lit 0, fun fo hfo => ?_⟩
    refine ⟨_, rfl, l, rfl, ⟨_, SqL.of (Same.new hfo _ _ hl)⟩, for_list (K := K) (a := l) (xs := as.map V.ref) (fun i σ H2 => ∃ (bs : List Addr) (v3 v4 v5 : Option V), σ = [some (.ref l), some (.ref fo), some (.int (rowS ss i).2), v3, v4, v5] ∧ Same H H2 ∧ H2 fo = some (.lst (bs.map V.ref)) ∧ HsAt H2 bs (rowS ss i).1) ⟨[], none, none, none, rfl, Same.new hfo, upd_same, HsAt.nil⟩ ?_ ?_ ?_⟩
    · rintro i σ H2 _ ⟨_, _, _, _, _, s2, _⟩
      exact SqL.of (s2 _ _ hl)
    · rintro i v σ H2 hi ⟨bs, v3, v4, v5, rfl, s2, hf2, hB⟩
      obtain ⟨a, x, rfl, hx, n, h1, h2⟩ := hA.get hi
      have hil := (List.getElem?_eq_some_iff.mp hx).1
      have hxn := hok x (List.mem_of_getElem? hx)
      refine ⟨a, _, rfl, SqT.of (s2 _ _ h1), rfl, _, _, rfl, _, _, rfl, _, _, rfl, rfl, ?_⟩
      refine ⟨_, rfl, _, rfl, _, rfl, _, _, rfl, rfl, _, rfl, _, rfl, _, _, rfl, rfl, _, rfl, ?_⟩
      refine ⟨fo, n, ⟨(rowS ss i).2 + x.h, (rowS ss i).2 + x.v, x.ns⟩, bs, (rowS ss i).1, rfl, hf2, hB, rowS_ok hok (by omega), s2 _ _ h2, hxn, ?_, fun cs H3 b3 hf3 hB3 => ?_⟩
      · rw [rowS_flat (by omega)]
        have e : flatN (ss.take (i + 1)) = flatN (ss.take i) ++ x.ns := by
          unfold flatN
          rw [List.take_add_one, hx, List.flatMap_append]
          simp
        rw [← e]
        have e2 : flatN ss = flatN (ss.take (i + 1)) ++ flatN (ss.drop (i + 1)) := by
          unfold flatN
          rw [← List.flatMap_append, List.take_append_drop]
        have := congrArg List.length e2
        rw [List.length_append] at this
        omega
      · refine ⟨_, rfl, _, rfl, _, _, rfl, rfl, ?_⟩
        refine ⟨cs, _, _, _, by rw [rowS_succ hx]; rfl, s2.butTo b3 hfo, hf3, by rw [rowS_succ hx]; exact hB3⟩
    · rintro σ H2 ⟨bs, v3, v4, v5, rfl, s2, hf2, hB⟩
      rw [List.length_map, hA.1] at hB
      exact ⟨_, rfl, q fo bs H2 hfo s2 hf2 hB⟩
end


end Hs
namespace Hs
open PySem PySem.Spec PyProof.Rows L2
/-! ### a def that makes a lambda: its code is known -/
structure DfnL (K : PySem.W.Frag) (mg : Str → Option Value) (x : Str) (st : Stmt) (c : Addr) : Prop where
  ex : ∃ (f : Addr) (oc : Value) (od : Option Addr) (kV doc pm : Value) (an : Option Addr) (ct : Value) (osl : Array (Option Value)),
    K.lookup f = some ⟨oc, od, .func (PySem.W.fnOf x x (defArgs st) (defBody st) (defScope st) .none kV doc pm an (.ref c) ct), osl⟩ ∧ PySem.W.codeIn K (.ref c) x = true ∧ mg x = some (.ref f) ∧ PySem.W.keepIn K (.ref f) = true
theorem DfnL.cal {P : Program} {w : World} {K : PySem.W.Frag} {mg : Str → Option Value} {base : Heap} {k : Nat} {x : Str} {st : Stmt} {c : Addr} {N ps : List Str} {sp : Sp} (D : DfnL K mg x st c) (S : FnScope N ps (defScope st))
    (bnd : ∀ (kV doc pm : Value) (an : Option Addr) (cdv ct : Value) (us : List Value), us.length = ps.length → bindArgs (PySem.W.fnOf x x (defArgs st) (defBody st) (defScope st) .none kV doc pm an cdv ct) ⟨us, []⟩ = pure (ps.zip us))
    (len : ∀ vs H Q E, sp vs H Q E → vs.length = ps.length)
    (hbody : ∀ (f : Addr) (A : Around) (outer : List Env) (s : Shared) (H : Hp) (vs : List V) (Q : VK) (E : XK), Room k (A.deeper (envOfC x (defScope st) s.heap.objs.size f (.ref c))) → sp vs H Q E →
      ∃ t, PSs (cxOf CX0 P w K mg base N x (defScope st) f (.ref c) A outer s H E).nox (defBody st) t ∧ t { nx := fun _ H' => Q .non H', rt := Q } (start N vs) H) : Cal P w K mg base (k + 1) x ps sp := by
  obtain ⟨f, oc, od, kV, doc, pm, an, ct, osl, lk, hcd, m, kp⟩ := D.ex
  refine ⟨f, _, fn_of lk hcd S len fun A outer s H vs Q E hr hsp => ?_, m, kp, .all (bnd kV doc pm an (.ref c) ct)⟩
  obtain ⟨t, h, q⟩ := hbody f A outer s H vs Q E hr hsp
  exact ⟨t, h.nox, q⟩
def lamPos : Pos := match ((defBody s_best_row)[3]? : Option Stmt) with
  | some (.Assign _ (.Call _ _ [⟨_, .Lambda _ _ _ p, _⟩] _) _) => p
  | _ => ⟨0, 0, 0, 0⟩
def lamQ : Str := ("best_row" : Str) ++ ".<locals>." ++ "<lambda>"
abbrev Tab (H : Hp) (T : Addr) : Prop := TabAt H T lamPos lamQ
/-! ### rows by name -/
def RowsAt (H : Hp) (d : Addr) (m : Nat) (dom : List Str) (R : Str → List Hill) : Prop := ∃ kvs, H d = some (.dK kvs) ∧ kvs.length ≤ m ∧ ∀ y ∈ dom, ∃ l as, valV kvs (Sum.inr y : Key) = some (.ref l) ∧ H l = some (.lst (as.map V.ref)) ∧ HsAt H as (R y)
def SizesAt (H : Hp) (d : Addr) (dom : List Str) (S : Str → Int) : Prop := ∃ kvs, H d = some (.dK kvs) ∧ ∀ y ∈ dom, valV kvs (Sum.inr y : Key) = some (.int (S y))
theorem HsAt.butT {H H' : Hp} {T : Addr} {as : List Addr} {hs : List Hill} {ps : Array Value} (h : HsAt H as hs) (hT : H T = some (.tbl ps)) (s : But T H H') : HsAt H' as hs :=
  ⟨h.1, fun i a x h1 h2 => by
    obtain ⟨n, g1, g2⟩ := h.2 i a x h1 h2
    exact ⟨n, s _ _ (ne_of g1 hT (by intro z; cases z)) g1, s _ _ (ne_of g2 hT (by intro z; cases z)) g2⟩⟩
theorem RowsAt.same {H H' : Hp} {d : Addr} {m : Nat} {dom : List Str} {R : Str → List Hill} (h : RowsAt H d m dom R) (s : Same H H') : RowsAt H' d m dom R := by
  obtain ⟨kvs, h1, h2, h3⟩ := h
  refine ⟨kvs, s _ _ h1, h2, fun y hy => ?_⟩
  obtain ⟨l, as, g1, g2, g3⟩ := h3 y hy
  exact ⟨l, as, g1, s _ _ g2, g3.same s⟩
theorem RowsAt.butT {H H' : Hp} {d T : Addr} {m : Nat} {dom : List Str} {R : Str → List Hill} {ps : Array Value} (h : RowsAt H d m dom R) (hT : H T = some (.tbl ps)) (s : But T H H') : RowsAt H' d m dom R := by
  obtain ⟨kvs, h1, h2, h3⟩ := h
  refine ⟨kvs, s _ _ (ne_of h1 hT (by intro z; cases z)) h1, h2, fun y hy => ?_⟩
  obtain ⟨l, as, g1, g2, g3⟩ := h3 y hy
  exact ⟨l, as, g1, s _ _ (ne_of g2 hT (by intro z; cases z)) g2, g3.butT hT s⟩
theorem HsAt.append {H : Hp} {as bs : List Addr} {hs gs : List Hill} (h : HsAt H as hs) (h' : HsAt H bs gs) : HsAt H (as ++ bs) (hs ++ gs) := by
  refine ⟨by rw [List.length_append, List.length_append, h.1, h'.1], fun i a x h1 h2 => ?_⟩
  by_cases hi : i < as.length
  · rw [List.getElem?_append_left hi] at h1
    rw [List.getElem?_append_left (by rw [← h.1]; exact hi)] at h2
    exact h.2 i a x h1 h2
  · rw [List.getElem?_append_right (by omega)] at h1
    rw [List.getElem?_append_right (by rw [← h.1]; omega), ← h.1] at h2
    exact h'.2 _ a x h1 h2
theorem HillAt.uniq {H : Hp} {a : Addr} {x y : Hill} (h : HillAt H a x) (h' : HillAt H a y) : x = y := by
  obtain ⟨n, e1, e2⟩ := h
  obtain ⟨n', e3, e4⟩ := h'
  obtain ⟨xh, xv, xn⟩ := x
  obtain ⟨yh, yv, yn⟩ := y
  rw [e1] at e3
  cases e3
  rw [e2] at e4
  injection e4 with e4
  injection e4 with e4
  have : xn = yn := by
    have h2 : ∀ {u v : List Str}, u.map V.str = v.map V.str → u = v := fun {u} => by
      induction u with
      | nil => intro v h; cases v with
        | nil => rfl
        | cons _ _ => cases h
      | cons a r ih => intro v h; cases v with
        | nil => cases h
        | cons b q =>
          rw [List.map_cons, List.map_cons] at h
          injection h with h1 h2
          injection h1 with h1
          rw [h1, ih h2]
    exact h2 e4
  subst this
  rfl
/-- what stands at an address -/
theorem HsAt.fn {H : Hp} {as : List Addr} {hs : List Hill} (h : HsAt H as hs) : ∃ φ : Addr → Hill, ∀ (i : Nat) (a : Addr) (x : Hill), as[i]? = some a → hs[i]? = some x → φ a = x := by
  classical
  refine ⟨fun a => if h : ∃ x, HillAt H a x then h.choose else ⟨0, 0, []⟩, fun i a x h1 h2 => ?_⟩
  have hx := h.2 i a x h1 h2
  have he : ∃ x, HillAt H a x := ⟨x, hx⟩
  show (if h : ∃ x, HillAt H a x then h.choose else ⟨0, 0, []⟩) = x
  rw [dif_pos he]
  exact he.choose_spec.uniq hx
theorem HsAt.map {H : Hp} {as : List Addr} {hs : List Hill} (h : HsAt H as hs) {φ : Addr → Hill} (hφ : ∀ (i : Nat) (a : Addr) (x : Hill), as[i]? = some a → hs[i]? = some x → φ a = x) : as.map φ = hs := by
  refine List.ext_getElem? fun i => ?_
  rw [List.getElem?_map]
  cases e : as[i]? with
  | none =>
    rw [List.getElem?_eq_none_iff] at e
    rw [List.getElem?_eq_none (by rw [← h.1]; exact e)]
    rfl
  | some a =>
    have hi := (List.getElem?_eq_some_iff.mp e).1
    have hx : hs[i]? = some (hs[i]'(by rw [← h.1]; exact hi)) := List.getElem?_eq_getElem _
    rw [hx, Option.map_some, hφ i a _ e hx]
def climbsOf (R : Str → List Hill) (ys : List Str) : List Hill := ys.flatMap fun y => climbsF (R y) (R y).length
theorem climbsOf_take {R : Str → List Hill} {ys : List Str} {i : Nat} {y : Str} (h : ys[i]? = some y) : climbsOf R (ys.take (i + 1)) = climbsOf R (ys.take i) ++ climbsF (R y) (R y).length := by
  unfold climbsOf
  rw [List.take_add_one, h, List.flatMap_append]
  simp
def keyH (x : Hill) : Int := x.v - x.h
section
variable {P : Program} {w : World} {K : PySem.W.Frag} {mg : Str → Option Value} {base : Heap}
/-! ### best_row -/
abbrev nBst : List Str := ["part", "sizes", "rows", "name", "recipe", "size", "cost", "needs", "steps", "freed", "need", "step"]
def bestOf (a : Part) (S : Str → Int) (ss : List Hill) : List Hill := rowF (ss ++ [⟨a.size, a.size - (a.how.names.map S).sum, [a.name]⟩])
def spBst (T : Addr) : Sp := fun vs H Q _ => ∃ (p ds dr : Addr) (a : Part) (ws : List Str) (S : Str → Int) (m : Nat) (R : Str → List Hill), vs = [.ref p, .ref ds, .ref dr] ∧ PartAt H p a ∧ RecOk ws a.how ∧ SizesAt H ds a.how.names S ∧ RowsAt H dr m a.how.names R ∧
  (∀ y ∈ a.how.names, OkHs (R y) ∧ (R y).length ≤ 100) ∧ (flatN (climbsOf R a.how.names)).length ≤ 900 ∧ Tab H T ∧
  ∀ (r : Addr) (as : List Addr) (H' : Hp) (ss : List Hill), H r = none → But T H H' → Tab H' T → H' r = some (.lst (as.map V.ref)) → ss.Perm (climbsOf R a.how.names) → ss.Pairwise (fun x y => keyH x ≤ keyH y) → (∀ c, ss.filter (fun x => keyH x == c) = (climbsOf R a.how.names).filter (fun x => keyH x == c)) →
    HsAt H' as (bestOf a S ss) → Q (.ref r) H'
theorem sc_bst : FnScope nBst ["part", "sizes", "rows"] (defScope s_best_row) := ⟨rfl, rfl, rfl, by decide +kernel, rfl, by decide +kernel, by decide +kernel⟩
set_option maxHeartbeats 2000000 in
theorem c_bst {c T : Addr} (B : Blt mg) (D : DfnL K mg "best_row" s_best_row c) (hC : PySem.W.CodeHd base c T) (hBu : base.BuiltinsAt mg T) (Cn : Cal P w K mg base 1 "names_in" ["recipe"] spNamesIn) (Cc : Cal P w K mg base 1 "climbs" ["hills"] spClm) (Cr : Cal P w K mg base 2 "row_of" ["steps"] spRow) : Cal P w K mg base 3 "best_row" ["part", "sizes", "rows"] (spBst T) := by
  refine D.cal sc_bst (fun _ _ _ _ _ _ us hl => match us, hl with | [_, _, _], _ => rfl) (fun vs H Q E h => ?_) (fun f A outer s H vs Q E hr h => ?_)
  · obtain ⟨p, _, _, _, _, _, _, _, rfl, _⟩ := h
    rfl
  · obtain ⟨p, ds, dr, a, ws, S, m, R, rfl, ⟨r, hp, hR⟩, hO, hSz, hRw, hRk, hlen, hT, q⟩ := h
    have nd := sc_bst.nd
    have hu := hu_of hr
    refine ex_pss ((bs_c (bs_asg (b_v 0) (bg_tup (bgs_c (bg_n 3 nd) (bgs_c (bg_n 4 nd) (bgs_c (bg_n 5 nd) (bgs_c (bg_n 6 nd) bgs_nil))))))
      (bs_c (bs_set 7 nd (b_cal Cn hr (ba_c (b_v 4) ba_nil)))
      (bs_c (bs_setc2 8 [("need", 10), ("step", 11)] nBst (defScope s_best_row) nd (bi_tup (b_v 7)) (fun _ _ _ _ _ => (bg_n 10 nd)) (fun _ _ _ _ _ => (bi_listK K (b_cal Cc hr (ba_c (b_dget hu (b_v 2) (b_v 10)) ba_nil)))) (fun _ _ _ _ _ => (bg_n 11 nd)) (fun _ _ _ _ _ => (b_v 11)))
      (bs_c (bs_set 8 nd (b_sortL (T := T) (q := lamQ) (i := 1) (k := 0) hr B.sorted rfl hC hBu rfl ⟨rfl, rfl, rfl, rfl, by decide⟩ (by decide) (by decide) (by decide) (by decide) (b_v 8)))
      (bs_c (bs_set 9 nd (b_callB (cr_sum rfl) B.sum (ba_c (b_c 10 nBst (defScope s_best_row) nd (bi_tup (b_v 7)) (fun _ _ _ _ _ => bts_nil) (fun _ _ _ _ _ => (b_dget hu (b_v 1) (b_v 10))) (fun _ _ _ _ _ => (bg_n 10 nd))) ba_nil)))
      (bs_one (bs_ret (b_cal Cr hr (ba_c (b_lst (ba_star (b_v 8) (ba_c (b_tup (ba_c (b_v 5) (ba_c (b_op op_sub (b_v 5) (b_v 9)) (ba_c (b_lst (ba_c (b_v 3) ba_nil)) ba_nil)))) ba_nil))) ba_nil)))))))))) ?_
    refine ⟨_, rfl, p, _, rfl, SqT.of hp, rfl, _, _, rfl, _, _, rfl, _, _, rfl, _, _, rfl, rfl, ?_⟩
    refine ⟨_, rfl, r, a.how, ws, rfl, hR, hO, fun t H1 ht1 hS1 => ?_⟩
    have hn4 := names4 hO
    generalize hns : a.how.names = ns at ht1 hSz hRw hRk hlen hn4 q
    have hRw1 := hRw.same hS1
    obtain ⟨kr, hkr1, hkr2, hkr3⟩ := id hRw1
    -- the climbs of all needs
    refine ⟨_, rfl, t, rfl, ⟨_, SqT.of ht1⟩, fun Dc hDc => ?_⟩
    refine lc2_tup (K := K) (a := t) (xs := ns.map V.str) (fun i H2 => ∃ bs : List Addr, Same H1 H2 ∧ H2 Dc = some (.lst (bs.map V.ref)) ∧ HsAt H2 bs (climbsOf R (ns.take i))) ⟨[], Same.new hDc, upd_same, HsAt.nil⟩ ?_ ?_ ?_
    · rintro i H2 _ ⟨_, s2, _⟩
      exact SqT.of (s2 _ _ ht1)
    · rintro i v H2 hi ⟨bs, s2, hD2, hB2⟩
      obtain ⟨y, hy, rfl⟩ := get_map hi
      have hym := List.mem_of_getElem? hy
      obtain ⟨l, as, g1, g2, g3⟩ := hkr3 y hym
      have hok2 : OkHs (climbsOf R (ns.take i)) := fun x hx => by
        obtain ⟨z, hz, hxz⟩ := List.mem_flatMap.mp hx
        exact climbs_ok (hRk z (List.mem_of_mem_take hz)).1 _ x hxz
      have hbl : bs.length ≤ 900 := by
        rw [hB2.1]
        refine Nat.le_trans (flat_len hok2) (Nat.le_trans ?_ hlen)
        have e : flatN (climbsOf R ns) = flatN (climbsOf R (ns.take i)) ++ flatN (climbsOf R (ns.drop i)) := by
          unfold flatN climbsOf
          rw [← List.flatMap_append, ← List.flatMap_append, List.take_append_drop]
        rw [e, List.length_append]
        omega
      refine ⟨_, rfl, _, rfl, dr, _, rfl, dgetS (s2 _ _ hkr1) g1, l, as, R y, rfl, s2 _ _ g2, g3.same s2, (hRk y hym).1, (hRk y hym).2, fun l' as' H3 hl0 s3 hl3 hA3 => ?_⟩
      have hl'D : l' ≠ Dc := (ne_of_none hD2 hl0).symm
      have hD3 := s3 _ _ hD2
      have hal : as'.length ≤ 100 := by rw [hA3.1, climbs_len (Nat.le_refl _)]; exact (hRk y hym).2
      refine ⟨l', rfl, ⟨_, SqL.of hl3⟩, in_list (K := K) (a := l') (xs := as'.map V.ref) (fun j σ H4 => ∃ v11 : Option V, σ = [some (.ref p), some (.ref ds), some (.ref dr), some (.str a.name), some (.ref r), some (.int a.size), some (.int a.cost), some (.ref t), none, none, some (.str y), v11] ∧ H4 = upd H3 Dc (.lst ((bs ++ as'.take j).map V.ref))) ⟨none, rfl, ?_⟩ ?_ ?_ ?_⟩
      · rw [List.take_zero, List.append_nil]
        funext c
        unfold upd
        by_cases e : c = Dc
        · rw [if_pos e, e, hD3]
        · rw [if_neg e]
      · rintro j σ H4 _ ⟨_, _, rfl⟩
        exact SqL.of (by rw [upd_ne hl'D]; exact hl3)
      · rintro j v σ H4 hj ⟨v11, rfl, rfl⟩
        obtain ⟨b, hb, rfl⟩ := get_map hj
        refine ⟨_, rfl, _, upd_same, ?_, _, rfl, ?_⟩
        · rw [List.length_map, List.length_append, List.length_take]
          exact small1000 (by omega)
        · rw [upd_upd, List.take_add_one, hb, ← List.append_assoc, List.map_append (l₂ := Option.toList (some b))]
          rfl
      · rintro σ H4 ⟨v11, rfl, rfl⟩
        rw [List.length_map, List.take_length]
        refine ⟨rfl, bs ++ as', (s2.trans s3).own hDc, upd_same, ?_⟩
        rw [climbsOf_take hy]
        have hok3 : OkHs (climbsOf R (ns.take i) ++ climbsF (R y) (R y).length) := fun x hx => (List.mem_append.mp hx).elim (hok2 x) (climbs_ok (hRk y hym).1 _ x)
        have hAB : HsAt H3 (bs ++ as') (climbsOf R (ns.take i) ++ climbsF (R y) (R y).length) := (hB2.same s3).append hA3
        exact hAB.but hok3 hD3 (But.upd _ _ _)
    rintro H2 ⟨bs, s2, hD2, hB2⟩
    rw [List.length_map, List.take_length] at hB2
    refine at_seq [some (.ref p), some (.ref ds), some (.ref dr), some (.str a.name), some (.ref r), some (.int a.size), some (.int a.cost), some (.ref t), some (.ref Dc), none, none, none] ?_
    have hok2 : OkHs (climbsOf R ns) := fun x hx => by
      obtain ⟨z, hz, hxz⟩ := List.mem_flatMap.mp hx
      exact climbs_ok (hRk z hz).1 _ x hxz
    have hbl : bs.length ≤ 900 := by
      rw [hB2.1]
      exact Nat.le_trans (flat_len hok2) hlen
    have hT2 : Tab H2 T := hT.same (hS1.trans s2)
    -- sorted
    obtain ⟨φ, hφ⟩ := hB2.fn
    refine ⟨_, rfl, Dc, bs, fun b => keyH (φ b), rfl, hD2, by omega, fun b hb => ?_, hT2, fun Ds H3 os b3 hT3 hDs0 hDs hperm hpair hstab => ?_⟩
    · obtain ⟨i, hi⟩ := List.mem_iff_getElem?.mp hb
      obtain ⟨x, hx⟩ : ∃ x, (climbsOf R ns)[i]? = some x := ⟨(climbsOf R ns)[i]'(by rw [← hB2.1]; exact (List.getElem?_eq_some_iff.mp hi).1), List.getElem?_eq_getElem _⟩
      obtain ⟨n, e1, e2⟩ := hB2.2 i b x hi hx
      refine ⟨_, x.v, x.h, e1, rfl, rfl, ?_⟩
      show keyH (φ b) = _
      rw [hφ i b x hi hx]
      rfl
    refine at_seq [some (.ref p), some (.ref ds), some (.ref dr), some (.str a.name), some (.ref r), some (.int a.size), some (.int a.cost), some (.ref t), some (.ref Ds), none, none, none] ?_
    obtain ⟨ps, hP2, _⟩ := id hT2
    have eφ := hB2.map hφ
    have hO3 : HsAt H3 os (os.map φ) := by
      refine ⟨by rw [List.length_map], fun i b x h1 h2 => ?_⟩
      rw [List.getElem?_map, h1] at h2
      cases h2
      obtain ⟨j, hj⟩ := List.mem_iff_getElem?.mp (hperm.mem_iff.mp (List.mem_of_getElem? h1))
      obtain ⟨x, hx⟩ : ∃ x, (climbsOf R ns)[j]? = some x := ⟨(climbsOf R ns)[j]'(by rw [← hB2.1]; exact (List.getElem?_eq_some_iff.mp hj).1), List.getElem?_eq_getElem _⟩
      rw [hφ j b x hj hx]
      exact (hB2.butT hP2 b3).2 j b x hj hx
    have hps : (os.map φ).Perm (climbsOf R ns) := by
      have := hperm.map φ
      rwa [eφ] at this
    have hpp : (os.map φ).Pairwise (fun x y => keyH x ≤ keyH y) := List.pairwise_map.mpr hpair
    have hst : ∀ c, (os.map φ).filter (fun x => keyH x == c) = (climbsOf R ns).filter (fun x => keyH x == c) := fun c => by
      rw [← eφ, List.filter_map, List.filter_map]
      show (os.filter (fun b => keyH (φ b) == c)).map φ = (bs.filter (fun b => keyH (φ b) == c)).map φ
      rw [hstab c]
    have b03 : But T H H3 := (Same.but (hS1.trans s2)).trans b3
    have ht3 : H3 t = some (.tup (ns.map V.str)) := b3 _ _ (ne_of (s2 _ _ ht1) hP2 (by intro z; cases z)) (s2 _ _ ht1)
    obtain ⟨kz, hkz1, hkz2⟩ := hSz
    have hkz3 : H3 ds = some (.dK kz) := b3 _ _ (ne_of (s2 _ _ (hS1 _ _ hkz1)) hP2 (by intro z; cases z)) (s2 _ _ (hS1 _ _ hkz1))
    refine ⟨_, rfl, t, rfl, ⟨_, SqT.of ht3⟩, fun D4 hD4 => ?_⟩
    refine lc_tup (K := K) (a := t) (xs := ns.map V.str) (fun i H4 => H4 = upd H3 D4 (.lst (((ns.take i).map S).map V.int))) rfl ?_ ?_ ?_
    · rintro i H4 _ rfl
      exact SqT.of (Same.new hD4 _ _ ht3)
    · rintro i v H4 hi rfl
      obtain ⟨y, hy, rfl⟩ := get_map hi
      refine ⟨rfl, yes ?_⟩
      refine ⟨_, rfl, _, rfl, ds, _, rfl, dgetS (Same.new hD4 _ _ hkz3) (hkz2 y (List.mem_of_getElem? hy)), _, upd_same, ?_, ?_⟩
      · rw [List.length_map, List.length_map, List.length_take]
        exact small1000 (by omega)
      · rw [upd_upd, List.take_add_one, hy, List.map_append, List.map_append]
        rfl
    rintro H4 rfl
    rw [List.length_map, List.take_length]
    have s4 : Same H3 (upd H3 D4 (.lst ((ns.map S).map V.int))) := Same.new hD4
    have u4 : (upd H3 D4 (.lst ((ns.map S).map V.int))) D4 = some (.lst ((ns.map S).map V.int)) := upd_same
    generalize upd H3 D4 (.lst ((ns.map S).map V.int)) = H4 at s4 u4
    refine ⟨D4, ns.map S, rfl, SqL.of u4, ?_⟩
    refine at_nx [some (.ref p), some (.ref ds), some (.ref dr), some (.str a.name), some (.ref r), some (.int a.size), some (.int a.cost), some (.ref t), some (.ref Ds), some (.int (ns.map S).sum), none, none] ?_
    have hDs4 := s4 _ _ hDs
    refine ⟨_, rfl, Ds, _, rfl, .inl (SqL.of hDs4), _, rfl, _, rfl, _, rfl, _, _, rfl, rfl, _, rfl, lit 1, fun pn hpn => ⟨lit 3, fun pt hpt => ?_⟩⟩
    have s5 : Same H4 (upd H4 pn (.lst [.str a.name])) := Same.new hpn
    have u5 : (upd H4 pn (.lst [.str a.name])) pn = some (.lst (([a.name] : List Str).map V.str)) := upd_same
    have s6 : Same (upd H4 pn (.lst [.str a.name])) (upd (upd H4 pn (.lst [.str a.name])) pt (.tup [.int a.size, .int (a.size - (ns.map S).sum), .ref pn])) := Same.new hpt
    have u6 : HillAt (upd (upd H4 pn (.lst [.str a.name])) pt (.tup [.int a.size, .int (a.size - (ns.map S).sum), .ref pn])) pt ⟨a.size, a.size - (ns.map S).sum, [a.name]⟩ := ⟨pn, upd_same, s6 _ _ u5⟩
    generalize upd (upd H4 pn (.lst [.str a.name])) pt (.tup [.int a.size, .int (a.size - (ns.map S).sum), .ref pn]) = H6 at s6 u6
    have s46 := s5.trans s6
    have hosl : os.length ≤ 900 := by rw [hperm.length_eq]; exact hbl
    refine ⟨by rw [List.length_append, List.length_map]; exact Nat.le_of_lt (small1000 (by show os.length + 1 ≤ 1000; omega)), fun pl hpl => ?_⟩
    have e7 : os.map V.ref ++ [V.ref pt] = (os ++ [pt]).map V.ref := by rw [List.map_append]; rfl
    rw [e7]
    have s7 : Same H6 (upd H6 pl (.lst ((os ++ [pt]).map V.ref))) := Same.new hpl
    have u7 : (upd H6 pl (.lst ((os ++ [pt]).map V.ref))) pl = some (.lst ((os ++ [pt]).map V.ref)) := upd_same
    generalize upd H6 pl (.lst ((os ++ [pt]).map V.ref)) = H7 at s7 u7
    have hA7 : HsAt H7 (os ++ [pt]) (os.map φ ++ [⟨a.size, a.size - (ns.map S).sum, [a.name]⟩]) := ((((hO3.same s4).same s46).snoc u6).same s7)
    have hok7 : OkHs (os.map φ ++ [⟨a.size, a.size - (ns.map S).sum, [a.name]⟩]) := fun x hx => by
      rcases List.mem_append.mp hx with k | k
      · exact hok2 x (hps.mem_iff.mp k)
      · rw [List.mem_singleton.mp k]; exact List.cons_ne_nil _ _
    have hfl7 : (flatN (os.map φ ++ [⟨a.size, a.size - (ns.map S).sum, [a.name]⟩])).length ≤ 1000 := by
      have h1 : (flatN (os.map φ)).Perm (flatN (climbsOf R ns)) := hps.flatMap_right _
      have h2 := h1.length_eq
      have h3 : flatN (os.map φ ++ [⟨a.size, a.size - (ns.map S).sum, [a.name]⟩]) = flatN (os.map φ) ++ [a.name] := by
        unfold flatN
        rw [List.flatMap_append]
        simp
      rw [h3, List.length_append, h2]
      show _ + 1 ≤ 1000
      omega
    refine ⟨pl, os ++ [pt], _, rfl, u7, hA7, hok7, hfl7, fun l' as' H8 hl0 s8 hl8 hA8 => ?_⟩
    have s38 := ((s4.trans s46).trans s7).trans s8
    have hl'0 : H l' = none := by
      have h3n : H3 l' = none := ((s4.trans s46).trans s7).free hl0
      cases e : H l' with
      | none => rfl
      | some o =>
        by_cases hlT : l' = T
        · obtain ⟨ps', hP3, _⟩ := hT3
          rw [hlT, hP3] at h3n; cases h3n
        · rw [b03 _ _ hlT e] at h3n; cases h3n
    refine q l' as' H8 (os.map φ) hl'0 (b03.trans (Same.but s38)) (hT3.same s38) hl8 hps hpp hst ?_
    unfold bestOf
    rw [hns]
    exact hA8
end


end Hs
namespace Hs
open PySem PySem.Spec PyProof.Rows L2
section
variable {X : Cx} {a e : Expr} {apos cpos : Pos} {ta : TE} {t : TA}
theorem b_extend (ho : Bx (PE X a ta)) (ha : Bx (PA X [e] t)) (hbase : attributeBase a "extend" X.env (eval a X.env) = eval a X.env := by rfl)
    (hfew : ((backTo cpos (starEach [e] X.env)).all (fun x => !x.1) && (backToKw cpos (keywordEach [] X.env)).all (fun x => x.1.isSome) && decide ([e].length + ([] : List Keyword).length + (if ([] : List Keyword).isEmpty then 0 else 1) < 30)) = true := by rfl)
    (hline : (apos.endLine == cpos.line) = true := by rfl) (he : noStar e = true := by rfl) :
    Bx (PE X (.Call (.Attribute a "extend" apos) [e] [] cpos) (tBM X.K "list" rExtend ta t)) := ⟨by
  exact pe_bm PySem.F.plainAttrs_list PySem.F.slot_list_extend PySem.F.type_list_extend mt_extend ho.o ha.o hbase hfew hline (star_cons he) rfl⟩
end
/-! ### how great rows may be -/
theorem isTree_nodup {bk : Book} (hO : BookOk bk) (h : isTree bk = true) : (needsOf bk).Nodup := by
  rw [List.nodup_iff_count]
  intro z
  by_cases hz : z ∈ needsOf bk
  · obtain ⟨a, ha, hza⟩ := List.mem_flatMap.mp hz
    obtain ⟨i, hi⟩ := List.mem_iff_getElem?.mp ha
    have hh := hO.how i a hi
    obtain ⟨b, hb, rfl⟩ : ∃ b ∈ bk, b.name = z := by
      cases hw : a.how with
      | leaf n => rw [hw] at hza; cases hza
      | op wd us =>
        rw [hw] at hh hza
        have := hh.2 z hza
        obtain ⟨b, hb, e⟩ := List.mem_map.mp this
        exact ⟨b, List.mem_of_mem_take hb, e⟩
    have h2 : bk.map (fun a => (cntN bk a.name : Int)) = List.replicate (bk.length - 1) (1 : Int) ++ [0] := of_decide_eq_true h
    have h3 : (cntN bk b.name : Int) ∈ List.replicate (bk.length - 1) (1 : Int) ++ [0] := by rw [← h2]; exact List.mem_map.mpr ⟨b, hb, rfl⟩
    rcases List.mem_append.mp h3 with k | k
    · have := (List.mem_replicate.mp k).2
      show cntN bk b.name ≤ 1
      omega
    · have := List.mem_singleton.mp k
      show cntN bk b.name ≤ 1
      omega
  · rw [List.count_eq_zero.mpr hz]
    exact Nat.zero_le _
def freeN (bk : Book) (i : Nat) : List Str := ((bk.take i).map (·.name)).filter fun x => decide (x ∉ needsOf (bk.take i))
def sumW (wt : Str → Nat) (l : List Str) : Nat := (l.map wt).sum
theorem sumW_perm {wt : Str → Nat} {l l' : List Str} (h : l.Perm l') : sumW wt l = sumW wt l' := (h.map wt).sum_nat
theorem sumW_app (wt : Str → Nat) (l l' : List Str) : sumW wt (l ++ l') = sumW wt l + sumW wt l' := by unfold sumW; rw [List.map_append, List.sum_append]
theorem sumW_congr {wt wt' : Str → Nat} {l : List Str} (h : ∀ x ∈ l, wt x = wt' x) : sumW wt l = sumW wt' l := by
  unfold sumW
  rw [List.map_congr_left h]
theorem sumW_mem {wt : Str → Nat} {l : List Str} {x : Str} (h : x ∈ l) : wt x ≤ sumW wt l := by
  induction l with
  | nil => cases h
  | cons y r ih =>
    unfold sumW
    rw [List.map_cons, List.sum_cons]
    rcases List.mem_cons.mp h with e | e
    · rw [e]; omega
    · have := ih e
      unfold sumW at this
      omega
theorem names_sub {bk : Book} (hO : BookOk bk) {i : Nat} {a : Part} (ha : bk[i]? = some a) : ∀ y ∈ a.how.names, y ∈ (bk.take i).map (·.name) := fun y hy => by
  have hh := hO.how i a ha
  cases hw : a.how with
  | leaf n => rw [hw] at hy; cases hy
  | op wd us =>
    rw [hw] at hh hy
    exact hh.2 y hy
theorem needs_sub {bk : Book} (hO : BookOk bk) : ∀ (i : Nat), i ≤ bk.length → ∀ y ∈ needsOf (bk.take i), y ∈ (bk.take i).map (·.name)
  | 0, _, y, hy => by simp [needsOf] at hy
  | i + 1, h, y, hy => by
    have ha : bk[i]? = some bk[i] := List.getElem?_eq_getElem (by omega)
    rw [needsOf_take ha] at hy
    rw [List.take_add_one, ha, List.map_append]
    refine List.mem_append_left _ ?_
    rcases List.mem_append.mp hy with k | k
    · exact needs_sub hO i (by omega) y k
    · exact names_sub hO ha y k
theorem free_perm {bk : Book} (hO : BookOk bk) (hN : (needsOf bk).Nodup) {i : Nat} {a : Part} (ha : bk[i]? = some a) :
    (freeN bk i).Perm (((bk.take i).map (·.name)).filter (fun x => decide (x ∉ needsOf (bk.take (i + 1)))) ++ a.how.names) := by
  have hi := (List.getElem?_eq_some_iff.mp ha).1
  have e1 : needsOf bk = needsOf (bk.take (i + 1)) ++ needsOf (bk.drop (i + 1)) := by
    unfold needsOf
    rw [← List.flatMap_append, List.take_append_drop]
  rw [e1, needsOf_take ha] at hN
  have hN1 := (List.nodup_append.mp hN).1
  obtain ⟨hL, hns, hdis⟩ := List.nodup_append.mp hN1
  have hnd : ((bk.take i).map (·.name)).Nodup := by
    have := hO.nd
    rw [← List.take_append_drop i bk, List.map_append] at this
    exact (List.nodup_append.mp this).1
  rw [List.perm_iff_count]
  intro z
  unfold freeN
  rw [List.count_append, needsOf_take ha]
  have cf : ∀ (p : Str → Bool) (l : List Str), (l.filter p).count z = if p z = true then l.count z else 0 := fun p l => by
    by_cases hp : p z = true
    · rw [if_pos hp, List.count_filter hp]
    · rw [if_neg hp]
      exact List.count_eq_zero.mpr fun h => hp (List.mem_filter.mp h).2
  rw [cf, cf]
  by_cases hz : z ∈ a.how.names
  · have hzN : z ∈ (bk.take i).map (·.name) := names_sub hO ha z hz
    have hzL : z ∉ needsOf (bk.take i) := fun h => hdis z h z hz rfl
    rw [if_pos (decide_eq_true hzL), if_neg (by intro h; exact (of_decide_eq_true h) (List.mem_append_right _ hz))]
    have h1 : ((bk.take i).map (·.name)).count z = 1 := by
      have := List.nodup_iff_count.mp hnd z
      have := List.count_pos_iff.mpr hzN
      omega
    have h2 : a.how.names.count z = 1 := by
      have := List.nodup_iff_count.mp hns z
      have := List.count_pos_iff.mpr hz
      omega
    rw [h1, h2]
  · rw [List.count_eq_zero.mpr hz, Nat.add_zero]
    have : (decide (z ∉ needsOf (bk.take i)) = true) ↔ (decide (z ∉ needsOf (bk.take i) ++ a.how.names) = true) := by
      rw [decide_eq_true_iff, decide_eq_true_iff, List.mem_append]
      exact ⟨fun h k => k.elim h hz, fun h k => h (.inl k)⟩
    by_cases hc : decide (z ∉ needsOf (bk.take i)) = true
    · rw [if_pos hc, if_pos (this.mp hc)]
    · rw [if_neg hc, if_neg (fun h => hc (this.mpr h))]
theorem free_succ {bk : Book} (hO : BookOk bk) {i : Nat} {a : Part} (ha : bk[i]? = some a) : freeN bk (i + 1) = ((bk.take i).map (·.name)).filter (fun x => decide (x ∉ needsOf (bk.take (i + 1)))) ++ [a.name] := by
  unfold freeN
  have hi := (List.getElem?_eq_some_iff.mp ha).1
  have e : (bk.take (i + 1)).map (·.name) = (bk.take i).map (·.name) ++ [a.name] := by
    rw [List.take_add_one, ha, List.map_append]
    rfl
  rw [e, List.filter_append]
  congr 1
  have hx : a.name ∉ needsOf (bk.take (i + 1)) := fun h => by
    have hm : a.name ∈ (bk.take i).map (·.name) := by
      rw [needsOf_take ha] at h
      rcases List.mem_append.mp h with k | k
      · exact needs_sub hO i (by omega) _ k
      · exact names_sub hO ha _ k
    have hnd := hO.nd
    have : ((bk.take (i + 1)).map (·.name)).Nodup := by
      have h2 := hnd
      rw [← List.take_append_drop (i + 1) bk, List.map_append] at h2
      exact (List.nodup_append.mp h2).1
    rw [e] at this
    exact (List.nodup_append.mp this).2.2 _ hm _ (List.mem_singleton_self _) rfl
  rw [List.filter_cons, if_pos (decide_eq_true hx)]
  rfl
/-- all free rows together have as many names as there are parts -/
theorem sum_succ {bk : Book} (hO : BookOk bk) (hN : (needsOf bk).Nodup) {i : Nat} {a : Part} (ha : bk[i]? = some a) {wt wt' : Str → Nat} (hw : sumW wt (freeN bk i) = i) (h1 : ∀ y, y ≠ a.name → wt' y = wt y) (h2 : wt' a.name = sumW wt a.how.names + 1) :
    sumW wt a.how.names ≤ i ∧ sumW wt' (freeN bk (i + 1)) = i + 1 := by
  have hp := sumW_perm (wt := wt) (free_perm hO hN ha)
  rw [hw, sumW_app] at hp
  refine ⟨by omega, ?_⟩
  rw [free_succ hO ha, sumW_app]
  have hx : ∀ y ∈ ((bk.take i).map (·.name)).filter (fun x => decide (x ∉ needsOf (bk.take (i + 1)))), wt' y = wt y := fun y hy => by
    refine h1 y fun e => ?_
    have hm := (List.mem_filter.mp hy).1
    have e2 : (bk.take (i + 1)).map (·.name) = (bk.take i).map (·.name) ++ [a.name] := by
      rw [List.take_add_one, ha, List.map_append]
      rfl
    have : ((bk.take (i + 1)).map (·.name)).Nodup := by
      have h2 := hO.nd
      rw [← List.take_append_drop (i + 1) bk, List.map_append] at h2
      exact (List.nodup_append.mp h2).1
    rw [e2] at this
    exact (List.nodup_append.mp this).2.2 _ hm _ (List.mem_singleton_self _) e
  rw [sumW_congr hx]
  have : sumW wt' [a.name] = wt' a.name := by simp [sumW]
  rw [this, h2]
  omega
theorem flat_climbs {R : Str → List Hill} : ∀ ys : List Str, (flatN (climbsOf R ys)).length = sumW (fun y => (flatN (R y)).length) ys
  | [] => rfl
  | y :: r => by
    have e : flatN (climbsOf R (y :: r)) = flatN (climbsF (R y) (R y).length) ++ flatN (climbsOf R r) := by
      unfold flatN climbsOf
      rw [List.flatMap_cons, List.flatMap_append]
    rw [e, List.length_append, flat_climbs r, climbs_flat (Nat.le_refl _), List.take_length]
    simp [sumW]
theorem best_flat {a : Part} {S : Str → Int} {ss : List Hill} : flatN (bestOf a S ss) = flatN ss ++ [a.name] := by
  unfold bestOf
  rw [rowF_flat]
  unfold flatN
  rw [List.flatMap_append]
  simp
theorem HsAt.butD {H H' : Hp} {d : Addr} {as : List Addr} {hs : List Hill} {kvs : List (Key × V)} (h : HsAt H as hs) (hd : H d = some (.dK kvs)) (s : But d H H') : HsAt H' as hs :=
  ⟨h.1, fun i a x h1 h2 => by
    obtain ⟨n, g1, g2⟩ := h.2 i a x h1 h2
    exact ⟨n, s _ _ (ne_of g1 hd (by intro z; cases z)) g1, s _ _ (ne_of g2 hd (by intro z; cases z)) g2⟩⟩
theorem valS {kvs : List (Key × V)} {x y : Str} {v : V} : valV (putK kvs (Sum.inr x : Key) v) (Sum.inr y : Key) = if y = x then some v else valV kvs (Sum.inr y : Key) := by
  rw [valV_put]
  by_cases e : y = x
  · rw [if_pos (by rw [e]), if_pos e]
  · rw [if_neg (by intro z; injection z with z; exact e z), if_neg e]
theorem rows_put {H : Hp} {d r : Addr} {m : Nat} {dom : List Str} {R : Str → List Hill} {kvs : List (Key × V)} {as : List Addr} {hs : List Hill} {x : Str} (hd : H d = some (.dK kvs)) (h2 : kvs.length ≤ m)
    (h3 : ∀ y ∈ dom, ∃ l as, valV kvs (Sum.inr y : Key) = some (.ref l) ∧ H l = some (.lst (as.map V.ref)) ∧ HsAt H as (R y)) (hr : H r = some (.lst (as.map V.ref))) (hA : HsAt H as hs) (hx : x ∉ dom) :
    RowsAt (upd H d (.dK (putK kvs (Sum.inr x : Key) (.ref r)))) d (m + 1) (dom ++ [x]) (fun y => if y = x then hs else R y) := by
  have b : But d H (upd H d (.dK (putK kvs (Sum.inr x : Key) (.ref r)))) := But.upd _ _ _
  refine ⟨_, upd_same, Nat.le_trans (length_putK _ _ _) (by omega), fun y hy => ?_⟩
  rcases List.mem_append.mp hy with k | k
  · have hne : y ≠ x := fun e => hx (e ▸ k)
    obtain ⟨l, bs, g1, g2, g3⟩ := h3 y k
    refine ⟨l, bs, by rw [valS, if_neg hne]; exact g1, b _ _ (ne_of g2 hd (by intro z; cases z)) g2, ?_⟩
    show HsAt _ bs (if y = x then hs else R y)
    rw [if_neg hne]
    exact g3.butD hd b
  · have e := List.mem_singleton.mp k
    subst e
    refine ⟨r, as, by rw [valS, if_pos rfl], b _ _ (ne_of hr hd (by intro z; cases z)) hr, ?_⟩
    show HsAt _ as (if y = y then hs else R y)
    rw [if_pos rfl]
    exact hA.butD hd b
def sizeOf' (bk : Book) (y : Str) : Int := ((bk.find? fun a => decide (a.name = y)).map (·.size)).getD 0
theorem sizeOf_at {bk : Book} (hO : BookOk bk) {i : Nat} {a : Part} (ha : bk[i]? = some a) : sizeOf' bk a.name = a.size := by
  unfold sizeOf'
  have hm := List.mem_of_getElem? ha
  cases e : bk.find? (fun b => decide (b.name = a.name)) with
  | none =>
    have := List.find?_eq_none.mp e a hm
    exact absurd (decide_eq_true rfl) this
  | some b =>
    have h1 : b.name = a.name := of_decide_eq_true (List.find?_some (p := fun b : Part => decide (b.name = a.name)) e)
    have h2 := List.mem_of_find?_eq_some e
    obtain ⟨j, hj⟩ := List.mem_iff_getElem?.mp h2
    have e1 : (bk.map (·.name))[j]? = some a.name := by rw [List.getElem?_map, hj]; exact congrArg some h1
    have e2 : (bk.map (·.name))[i]? = some a.name := by rw [List.getElem?_map, ha]; rfl
    have : j = i := by
      obtain ⟨h3, e3⟩ := List.getElem?_eq_some_iff.mp e1
      obtain ⟨h4, e4⟩ := List.getElem?_eq_some_iff.mp e2
      exact (List.getElem_inj hO.nd).mp (e3.trans e4.symm)
    subst this
    rw [hj] at ha
    cases ha
    rfl
theorem mem_take_at {bk : Book} {i : Nat} {y : Str} (h : y ∈ (bk.take i).map (·.name)) : ∃ (j : Nat) (a : Part), j < i ∧ bk[j]? = some a ∧ a.name = y := by
  obtain ⟨a, ha, e⟩ := List.mem_map.mp h
  obtain ⟨j, hj⟩ := List.mem_iff_getElem?.mp ha
  have h1 := (List.getElem?_eq_some_iff.mp hj).1
  rw [List.length_take] at h1
  exact ⟨j, a, by omega, by rw [List.getElem?_take_of_lt (by omega)] at hj; exact hj, e⟩
section
variable {P : Program} {w : World} {K : PySem.W.Frag} {mg : Str → Option Value} {base : Heap}
/-! ### least_room, of trees -/
abbrev nLst : List Str := ["book", "sizes", "needs", "rows", "part", "hills", "deeds", "made", "name", "recipe", "size", "cost", "hill", "valley", "names", "need"]
theorem sc_lst : FnScope nLst ["book"] (defScope s_least_room) := ⟨rfl, rfl, rfl, by decide +kernel, rfl, by decide +kernel, by decide +kernel⟩
end


end Hs
namespace Hs
open PySem PySem.Spec PyProof.Rows L2
/-! ### sets of texts: their members, whether led, plain no more -/
section
variable {prog : Program} {w : World} {A : Around} {E : Value → Shared → Prop} {s : Shared}
end
end Hs

namespace Hs
open PySem PySem.Spec PyProof.Rows L2
section
variable {prog : Program} {w : World} {A : Around} {E : Value → Shared → Prop} {s : Shared}
end
end Hs

namespace Hs
open PySem PySem.Spec PyProof.Rows L2
section
variable {prog : Program} {w : World} {A : Around} {E : Value → Shared → Prop} {s : Shared}
end
end Hs

namespace Hs
open PySem PySem.Spec PyProof.Rows L2
/-! ### a walk over a set of texts -/
section
variable {prog : Program} {w : World} {A : Around} {E : Value → Shared → Prop} {s : Shared} {I a : Addr} {f : Value} {i ep : Nat} {es : Array (Int × Value)} {t : SetTable}
end
end Hs

namespace Hs
open PySem PySem.Spec PyProof.Rows L2
section
variable {prog : Program} {w : World} {A : Around} {s : Shared} {I a T : Addr} {f : Value} {i ep : Nat} {es : Array (Int × Value)} {t : SetTable} {P : Fin → Shared → Prop} {F : Value → Shared → Prop}
end
end Hs

namespace Hs
open PySem PySem.Spec PyProof.Rows L2
section
variable {prog : Program} {w : World} {A : Around} {E : Value → Shared → Prop} {s : Shared} {I a T : Addr} {i ep : Nat} {es : Array (Int × Value)} {t : SetTable}
end
section
variable {prog : Program} {w : World} {A : Around} {I a T : Addr} {ep : Nat} {es : Array (Int × Value)} {t : SetTable}
end
end Hs

namespace Hs
open PySem PySem.Spec PyProof.Rows L2
section
variable {prog : Program} {w : World} {A : Around} {E : Value → Shared → Prop} {s : Shared} {a : Addr} {ks : List Str}
end
end Hs

namespace Hs
open PySem PySem.Spec PyProof.Rows PyProof.Rows.G L2
section
variable {prog : Program} {w : World} {A : Around} {E : Value → Shared → Prop} {s : Shared} {a : Addr} {ks : List Str}
end
/-! ### sorted(set(xs)), xs a list of texts -/
section
variable {X : Cx} {e : Expr} {es : List Expr} {t : TA} {pos pos' p p' : Pos}
end
end Hs

namespace L2
open PySem PySem.Spec PyProof.Rows
section
variable {X : Cx}
end
end L2
namespace Hs
open PySem PySem.Spec PyProof.Rows L2
section
variable {X : Cx} {kx vx tg iter : Expr} {scope : Scope} {pos : Pos} {wi : TI} {g : TG} {tk tv : TE} {y : Str}
end
end Hs

namespace Hs
open PySem PySem.Spec PyProof.Rows L2
/-! ### {k: v for a in x for b in y} -/
section
variable {kx vx tg1 it1 tg2 it2 : Expr} {scope : Scope} {pos : Pos} {it acc : Value} {env : Env}
end
section
variable {Y : Cx} {pins : List (Addr × Obj)} {σ : L2.St} {H : Hp} {s : Shared} {kx vx tg1 it1 tg2 it2 : Expr} {scope : Scope} {pos : Pos}
end
section
variable {X : Cx} {kx vx tg1 it1 tg2 it2 : Expr} {scope : Scope} {own : List (Str × Nat)} {pos pos' : Pos} {wi wi2 : TI} {g g2 : TG} {tk tv : TE}
end
end Hs

namespace Hs
open PySem PySem.Spec PyProof.Rows L2
section
variable {X : Cx} {kx vx tg1 it1 tg2 it2 : Expr} {pos : Pos} {wi wi2 : TI} {g g2 : TG} {tk tv : TE}
end
section
variable {K : PySem.W.Frag} {a : Addr} {xs : List V} {g g2 : TG} {wi2 : TI} {tk tv : TE} {vs : List Nat} {σ : L2.St} {H H1 : Hp} {D : Addr} {Qd : Hp → Prop} {N : L2.St → Hp → Prop}
end
end Hs

namespace Hs
open PySem PySem.Spec PyProof.Rows L2
/-! ### the law's call where one of its defs makes a lambda: the table of that def's code is tracked -/
def tabs0 (K : PySem.W.Frag) (a T : Addr) (o : Obj) (xs : List V) : Hp := fun b => if b = T then some (.tbl #[]) else if b = a ∧ K.lookup a = none then some (.frz o (.lst xs)) else none
theorem callT {P : Program} {w : World} {K : PySem.W.Frag} {mg mb : Str → Option Value} {k : Nat} {fa a T : Addr} {fd : FuncData} {x : Str} {sp : Sp} {s : Shared} {vs : List Value} {ns : List Int}
    (KX : K.In s.heap) (hns : s.heap.Ns mainGlobals mg) (hb : s.heap.Ns builtinsNs mb) (hbb : ∀ x : Str, x ≠ "__name__" → mb x = bootBuiltins x) (hlim : s.heap.NoLimit) (hg : s.gens = #[])
    (ha : s.heap.get? a = some { cls := .type "list", data := .seq vs.toArray }) (hi : IntsAre vs ns) (hl : ns.length ≤ sizeLine) (hr : Room k callerA)
    (hT : s.heap.get? T = some (PySem.W.tabObj #[])) (hTK : K.lookup T = none) (hTc : isCodeTable s.heap T)
    (F : ∀ base : Heap, K.In base → base.Ns mainGlobals mg → (∀ b o, b ≠ T → b ≠ a → s.heap.get? b = some o → base.get? b = some o) → FnOk P w K mg base CX0 k fa fd [x] sp) (hbind : ∀ (s : Shared) (u : Value), BindsTo s fd ⟨[u], []⟩ [(x, u)])
    (hsp : ∀ H : Hp, H T = some (.tbl #[]) → SqL K H a (ns.map V.int) → sp [.ref a] H (fun v _ => v = .bl true) fun _ _ _ => False) :
    codeAny (model P w) callerA (.call (.ref fa) ⟨[.ref a], []⟩) (fun r s' => r = .ok (.ret (.bool true)) ∧ OldK s.heap s'.heap ∧ s'.os = s.os ∧ AllBare s'.gens) s := by
  have rv := vals_ints hi
  have lenV := hi.length
  have haT : a ≠ T := fun z => by rw [z, hT] at ha; cases ha
  obtain ⟨H, eH⟩ : ∃ H, H = tabs0 K a T { cls := .type "list", data := .seq vs.toArray } (ns.map V.int) := ⟨_, rfl⟩
  have HT : H T = some (.tbl #[]) := by rw [eH]; exact if_pos rfl
  have Hb : ∀ b u, H b = some u → (b = T ∧ u = .tbl #[]) ∨ (b = a ∧ K.lookup a = none ∧ u = .frz { cls := .type "list", data := .seq vs.toArray } (.lst (ns.map V.int))) := fun b u e => by
    rw [eH] at e
    unfold tabs0 at e
    by_cases h1 : b = T
    · rw [if_pos h1] at e
      cases e
      exact .inl ⟨h1, rfl⟩
    · rw [if_neg h1] at e
      by_cases h2 : b = a ∧ K.lookup a = none
      · rw [if_pos h2] at e
        cases e
        exact .inr ⟨h2.1, h2.2, rfl⟩
      · rw [if_neg h2] at e
        cases e
  have Hn : ∀ b, b ≠ T → b ≠ a → H b = none := fun b h1 h2 => by
    cases e : H b with
    | none => rfl
    | some u => exact ((Hb b u e).elim (fun z => h1 z.1) fun z => h2 z.1).elim
  have hSq : SqL K H a (ns.map V.int) := by
    cases hk : K.lookup a with
    | some o =>
      have e := KX a o hk
      rw [ha] at e
      cases e
      exact .inr ⟨_, vs.toArray, _, hk, rfl, rfl, rfl, by rw [List.size_toArray, lenV]; exact hl, by simpa using rv⟩
    | none =>
      refine .inl (.inr ⟨{ cls := .type "list", data := .seq vs.toArray }, ?_⟩)
      rw [eH]
      unfold tabs0
      rw [if_neg haT, if_pos ⟨rfl, hk⟩]
  have hok : HOk P w H s.heap := fun b u e => by
    rcases Hb b u e with ⟨rfl, rfl⟩ | ⟨rfl, _, rfl⟩
    · exact hT
    · exact ⟨ha, by rw [List.length_map]; exact hl, vs, _, rv, ha⟩
  have base_of : ∀ {b : Addr} {o : Obj}, s.heap.get? b = some o → H b = none → (hidT s.heap H).get? b = some o := fun e n => hidT_get e n
  have noD : ∀ {b : Addr} {o : Obj} {es : Array DictEntry} {ep : Nat}, s.heap.get? b = some o → o.data = .dict es ep → H b = none := fun {b o es ep} e d => by
    refine Hn b (fun z => ?_) fun z => ?_
    · rw [z, hT] at e; cases e; cases d
    · rw [z, ha] at e; cases e; cases d
  have nsK : ∀ {b : Addr} {m : Str → Option Value}, s.heap.Ns b m → (hidT s.heap H).Ns b m := fun {b m} ⟨o, es, ep, e, d, r⟩ => ⟨o, es, ep, base_of e (noD e d), d, r⟩
  have hKb : K.In (hidT s.heap H) := fun b o e => base_of (KX b o e) (by
    cases q : H b with
    | none => rfl
    | some u =>
      rcases Hb b u q with ⟨rfl, _⟩ | ⟨rfl, hk, _⟩
      · rw [hTK] at e; cases e
      · rw [hk] at e; cases e)
  have hM : Mod K mg (hidT s.heap H) := ⟨hKb, nsK hns, ⟨mb, nsK hb, hbb⟩, let ⟨mc, h1, h2⟩ := hlim; ⟨mc, nsK h1, h2⟩⟩
  have e0 : Env0 P w K mg (hidT s.heap H) callerA [] s H := ⟨rfl, hM, fun b o e => of_hidT e, Nat.le_of_eq (hidT_size _ _), trivial, fun b hb => absurd (show b ∈ ([] : List Addr) from hb) (by simp), hok, .of_eq hg⟩
  refine codeAny_mono ((F _ hKb (nsK hns) fun b o h1 h2 e => base_of e (Hn b h1 h2)).run callerA [] s H ⟨[.ref a], []⟩ [.ref a] [.ref a] _ _ hr e0 (hbind s (.ref a)) (.cons rfl .nil) (hsp H HT hSq)) fun r s' h => ?_
  cases r with
  | error e => exact h.elim
  | ok fl =>
    cases fl with
    | next => exact False.elim h
    | brk => exact False.elim h
    | cont => exact False.elim h
    | ret u =>
      obtain ⟨v, H', os, bare, un, hok', r', q⟩ := h
      obtain rfl : v = .bl true := q
      obtain rfl : u = Value.bool true := r'
      obtain ⟨more, hT'⟩ := un.tbls T _ HT
      have hTh : s'.heap.get? T = some (PySem.W.tabObj (#[] ++ more)) := hok' T _ hT'
      have kept : ∀ b o, b ≠ T → s.heap.get? b = some o → s'.heap.get? b = some o := fun b o hbT e => by
        cases q : H b with
        | none => exact un.keep b o e q (by intro z; exact absurd (show b ∈ ([] : List Addr) from z) (by simp)) (by simp)
        | some u =>
          rcases Hb b u q with ⟨rfl, _⟩ | ⟨rfl, _, rfl⟩
          · exact absurd rfl hbT
          · have z2 := un.frzs _ _ _ q
            obtain ⟨e1, _⟩ := hok _ _ q
            obtain ⟨e2, _⟩ := hok' _ _ z2
            rw [e] at e1
            cases e1
            exact e2
      refine ⟨rfl, ⟨fun b o e => ?_, fun b o e => ?_⟩, os, bare⟩
      · by_cases hbT : b = T
        · subst hbT
          rw [hT] at e
          cases e
          exact .inr (.inl ⟨hTc, rfl, #[], more, rfl, hTh⟩)
        · exact .inl (kept b o hbT e)
      · by_cases hbT : b = T
        · subst hbT
          exact ⟨_, hTh⟩
        · exact ⟨o, kept b o hbT e⟩
theorem walkT {l : PySem.W.OpenLaw} {n k : Nat} {q : Program} {loose : List Str} {XP : (Str → Option Value) → Heap → Prop} {YP : World → Heap → Prop} {d : DefRec} {K : Params → PySem.W.Frag} {sp : World → Sp} {x : Str} {c T : Addr}
    (hn : l.most = some n) (hn2 : n ≤ sizeLine) (hdf : d.params.defaults = []) (hr : Room k callerA)
    (hY : ∀ (w : World) (h : Heap), YP w h → (K w.params).In h ∧ h.get? T = some (PySem.W.tabObj #[])) (hTK : ∀ w : World, (K w.params).lookup T = none) (hc : ∀ w : World, PySem.W.codeHdIn (K w.params) c T = true)
    (F : ∀ (w : World) (mg : Str → Option Value) (fa : Addr) (h : Heap), (K w.params).In h → h.Ns mainGlobals mg → mg d.name = some (.ref fa) →
      ∃ fd : FuncData, (∀ (s : Shared) (u : Value), BindsTo s fd ⟨[u], []⟩ [(x, u)]) ∧
        ∀ base : Heap, (K w.params).In base → base.Ns mainGlobals mg → PySem.W.CodeHd base c T → base.BuiltinsAt mg T → FnOk l.prog w (K w.params) mg base CX0 k fa fd [x] (sp w))
    (hsp : ∀ (w : World) (H : Hp) (a : Addr) (ns : List Int), ns.length ≤ n → H T = some (.tbl #[]) → SqL (K w.params) H a (ns.map V.int) → sp w [.ref a] H (fun v _ => v = .bl true) fun _ _ _ => False) :
    PySem.W.WalkO q loose XP YP l.row.toRowW d [] (fun f vs => PySem.call f vs) := by
  refine Att.attach_call hn hdf fun w s₀ s₁ mg mb fa o pm cd doc a vs ns G Y ho hd hcd hmg hobj hints hlen hg => ?_
  obtain ⟨KX, hT⟩ := hY w _ Y
  obtain ⟨fd, hb, hF⟩ := F w mg fa _ KX G.T.g hmg
  have C := PySem.W.codeHd_of_K KX (hc w)
  have hTc : isCodeTable s₁.heap T := by
    obtain ⟨o, vs, _, _, _, _, _, _, _, e1, e2, e3, e4, _⟩ := C
    exact ⟨c, o, vs, e1, e2, e3, e4⟩
  refine callT KX G.T.g G.T.b G.T.builtins G.T.nolimit hg hobj hints (Nat.le_trans hlen hn2) hr hT (hTK w) hTc (fun base kb nb kp => hF base kb nb (PySem.W.codeHd_of_K kb (hc w)) ?_) hb fun H h1 h2 => hsp w H a ns hlen h1 h2
  obtain ⟨bm, ob, b1, b2, b3, b4, b5, b6⟩ := G.T.bmain
  have n1 : bm ≠ T := fun z => by rw [z, hT] at b3; cases b3; cases b4
  have n2 : bm ≠ a := fun z => by
    rw [z, hobj] at b3
    cases b3
    injection b4 with b4
    exact absurd b4 (by decide)
  have n3 : bm ≠ mainGlobals := fun z => by
    obtain ⟨og, es, ep, e, hdg, _⟩ := G.T.g
    rw [z, e] at b3
    cases b3
    rw [hdg] at b6
    cases b6
  exact ⟨bm, ob, b1, b2, n3, n1, kp bm ob n1 n2 b3, b4, b5, b6⟩
end Hs

namespace Hs
open PySem PySem.Spec PyProof.Rows L2
/-! ### how many keys a dict has, the keys tuples -/
section
variable {X : Cx} {kx vx tg iter : Expr} {scope : Scope} {pos : Pos} {wi : TI} {g : TG} {tk tv : TE}
end
end Hs

namespace Hs
open PySem PySem.Spec PyProof.Rows L2
/-! ### whole numbers as rows of bits -/
theorem band (a b : Nat) : Builtin.bitAnd (a : Int) (b : Int) = ((a &&& b : Nat) : Int) := by
  rw [bitAnd_pp (Int.natCast_nonneg a) (Int.natCast_nonneg b), Int.toNat_natCast, Int.toNat_natCast]
theorem bor (a b : Nat) : Builtin.bitOr (a : Int) (b : Int) = ((a ||| b : Nat) : Int) := by
  unfold Builtin.bitOr Builtin.bitAnd
  have e : ∀ c : Nat, Builtin.bitNot (Builtin.bitNot (c : Int)) = c := fun c => by unfold Builtin.bitNot; omega
  have d : ∀ c : Nat, decide (0 ≤ Builtin.bitNot (c : Int)) = false := fun c => decide_eq_false (by unfold Builtin.bitNot; omega)
  rw [d, d]
  show Builtin.bitNot (Builtin.bitNot _) = _
  rw [e, e, e, Int.toNat_natCast, Int.toNat_natCast]
theorem bshl (k : Nat) : (1 : Int) * 2 ^ ((k : Int)).toNat = ((2 ^ k : Nat) : Int) := by
  rw [Int.toNat_natCast, Int.one_mul]
  exact (Int.natCast_pow 2 k).symm
theorem bshr (m k : Nat) : (m : Int) / 2 ^ ((k : Int)).toNat = ((m / 2 ^ k : Nat) : Int) := by
  rw [Int.toNat_natCast]
  have : ((2 ^ k : Nat) : Int) = (2 : Int) ^ k := Int.natCast_pow 2 k
  rw [← this]
  exact (Int.natCast_ediv m (2 ^ k)).symm
/-- m >> k & 1 == 1 -/
theorem bit_is (m k : Nat) : decide ((Builtin.bitAnd ((m : Int) / 2 ^ ((k : Int)).toNat) 1) = 1) = m.testBit k := by
  rw [bshr]
  have e := band (m / 2 ^ k) 1
  rw [show ((1 : Nat) : Int) = 1 from rfl] at e
  rw [e, Nat.and_one_is_mod, Nat.testBit_eq_decide_div_mod_eq]
  by_cases h : m / 2 ^ k % 2 = 1
  · rw [decide_eq_true h, decide_eq_true (by omega)]
  · rw [decide_eq_false h, decide_eq_false (by omega)]
theorem bit_no (m k : Nat) : decide ((Builtin.bitAnd ((m : Int) / 2 ^ ((k : Int)).toNat) 1) = 0) = !m.testBit k := by
  rw [← bit_is]
  rw [bshr]
  have e := band (m / 2 ^ k) 1
  rw [show ((1 : Nat) : Int) = 1 from rfl] at e
  rw [e, Nat.and_one_is_mod]
  by_cases h : m / 2 ^ k % 2 = 1
  · rw [decide_eq_true (p := ((m / 2 ^ k % 2 : Nat) : Int) = 1) (by omega), decide_eq_false (by omega)]
    rfl
  · rw [decide_eq_false (p := ((m / 2 ^ k % 2 : Nat) : Int) = 1) (by omega), decide_eq_true (by omega)]
    rfl
/-- bits, the lowest first -/
def mask : List Bool → Nat
  | [] => 0
  | b :: l => b.toNat + 2 * mask l
theorem mask_bit : ∀ (l : List Bool) (k : Nat), (mask l).testBit k = (l[k]?).getD false
  | [], k => by simp [mask]
  | b :: l, 0 => by
    rw [Nat.testBit_zero]
    cases b <;> simp [mask] <;> omega
  | b :: l, k + 1 => by
    rw [Nat.testBit_succ]
    have e : mask (b :: l) / 2 = mask l := by
      show (b.toNat + 2 * mask l) / 2 = _
      cases b <;> simp <;> omega
    rw [e, mask_bit l k]
    simp
theorem mask_lt : ∀ l : List Bool, mask l < 2 ^ l.length
  | [] => by simp [mask]
  | b :: l => by
    have := mask_lt l
    rw [List.length_cons, Nat.pow_succ]
    show b.toNat + 2 * mask l < _
    cases b <;> simp <;> omega
theorem mask_snoc : ∀ (l : List Bool) (b : Bool), mask (l ++ [b]) = mask l + (if b = true then 2 ^ l.length else 0)
  | [], b => by cases b <;> simp [mask]
  | c :: l, b => by
    have e := mask_snoc l b
    show c.toNat + 2 * mask (l ++ [b]) = c.toNat + 2 * mask l + _
    rw [e, List.length_cons, Nat.pow_succ]
    cases b <;> simp <;> omega
/-- which of a row of names are among some -/
def bitsN (ns ys : List Str) : Nat := mask (ns.map fun x => decide (x ∈ ys))
theorem bitsN_lt (ns ys : List Str) : bitsN ns ys < 2 ^ ns.length := by
  have := mask_lt (ns.map fun x => decide (x ∈ ys))
  rwa [List.length_map] at this
theorem bitsN_bit (ns ys : List Str) (k : Nat) : (bitsN ns ys).testBit k = ((ns[k]?).map fun x => decide (x ∈ ys)).getD false := by
  unfold bitsN
  rw [mask_bit, List.getElem?_map]
theorem bitsN_at {ns ys : List Str} {k : Nat} {x : Str} (h : ns[k]? = some x) : (bitsN ns ys).testBit k = decide (x ∈ ys) := by
  rw [bitsN_bit, h]
  rfl
/-- the names that a row of bits tells -/
def namesB (ns : List Str) (m : Nat) : List Str := ((List.range ns.length).filter fun k => m.testBit k).filterMap fun k => ns[k]?
theorem namesB_bits (ns ys : List Str) : namesB ns (bitsN ns ys) = ns.filter fun x => decide (x ∈ ys) := by
  unfold namesB
  have key : ∀ n, n ≤ ns.length → ((List.range n).filter fun k => (bitsN ns ys).testBit k).filterMap (fun k => ns[k]?) = (ns.take n).filter fun x => decide (x ∈ ys) := by
    intro n
    induction n with
    | zero => intro _; simp
    | succ n ih =>
      intro hn
      have hx : ns[n]? = some (ns[n]'(by omega)) := List.getElem?_eq_getElem _
      generalize ns[n]'(by omega) = x at hx
      rw [List.range_succ, List.filter_append, List.filterMap_append, ih (by omega), List.take_add_one, hx, List.filter_append]
      congr 1
      show ((List.filter _ [n]).filterMap _) = List.filter _ [x]
      by_cases hc : x ∈ ys
      · rw [List.filter_cons_of_pos (by rw [bitsN_at hx, decide_eq_true hc]), List.filter_cons_of_pos (by rw [decide_eq_true hc])]
        simp [hx]
      · rw [List.filter_cons_of_neg (by rw [bitsN_at hx, decide_eq_false hc]; decide), List.filter_cons_of_neg (by rw [decide_eq_false hc]; decide)]
        simp
  have := key ns.length (Nat.le_refl _)
  rwa [List.take_length] at this
theorem bit_high {m n k : Nat} (h : m < 2 ^ n) (hk : n ≤ k) : m.testBit k = false := Nat.testBit_lt_two_pow (Nat.lt_of_lt_of_le h (Nat.pow_le_pow_right (by decide) hk))
end Hs
namespace Hs
open PySem PySem.Spec PyProof.Rows L2
theorem eqI (a b : Int) : decide (V.int a = V.int b) = decide (a = b) := by
  by_cases h : a = b
  · rw [decide_eq_true h, decide_eq_true (by rw [h])]
  · rw [decide_eq_false h, decide_eq_false (fun z => h (by injection z))]
theorem bit_isV (m k : Nat) : decide (V.int (Builtin.bitAnd ((m : Int) / 2 ^ ((k : Int)).toNat) 1) = V.int 1) = m.testBit k := by rw [eqI, bit_is]
theorem bit_noV (m k : Nat) : decide (V.int (Builtin.bitAnd ((m : Int) / 2 ^ ((k : Int)).toNat) 1) = V.int 0) = !m.testBit k := by rw [eqI, bit_no]
theorem for_keys {d : Addr} {o : Obj} {kvs : List (Key × V)} {g : TG} {tb : TS} {D : Ends} {σ : L2.St} {H : Hp} (Pv : Nat → L2.St → Hp → Prop) (h0 : Pv 0 σ H) (hl : ∀ i σ H, Pv i σ H → H d = some (.frz o (.dK kvs)))
    (hs : ∀ i k v σ H, kvs[i]? = some (k, v) → Pv i σ H → g (kV k) σ H fun σ2 H2 => tb { D with nx := Pv (i + 1), ct := Pv (i + 1), bk := D.nx } σ2 H2) (hd : ∀ σ H, Pv kvs.length σ H → D.nx σ H) :
    ∃ W : Nat → Nat → L2.St → Hp → Prop, (∃ m, W 0 m σ H) ∧ ∀ i m σ H, W i m σ H →
      ((Itk d o kvs).stop i H ∧ D.nx σ H) ∨ ((Itk d o kvs).go i H ∧ ∃ N : L2.St → Hp → Prop, (∀ σ' H', N σ' H' → ∃ m', m' < m ∧ W (i + 1) m' σ' H') ∧ ∀ x H', (Itk d o kvs).yld i H x H' → g x σ H' fun σ2 H2 => tb { D with nx := N, ct := N, bk := D.nx } σ2 H2) := by
  refine ⟨fun i m σ H => m = kvs.length - i ∧ i ≤ kvs.length ∧ Pv i σ H, ⟨kvs.length, by simp, Nat.zero_le _, h0⟩, ?_⟩
  rintro i m σ H ⟨rfl, hi, p⟩
  by_cases hlt : i < kvs.length
  · refine .inr ⟨⟨hl i σ H p, hlt⟩, Pv (i + 1), fun σ' H' p' => ⟨kvs.length - (i + 1), by omega, rfl, hlt, p'⟩, fun x H' y => ?_⟩
    obtain ⟨e, k, v, hk, hx⟩ := y
    subst e hx
    exact hs i k v σ _ hk p
  · have e : i = kvs.length := by omega
    subst e
    exact .inl ⟨⟨hl _ σ H p, Nat.le_refl _⟩, hd σ H p⟩
end Hs

namespace Hs
open PySem PySem.Spec PyProof.Rows L2
theorem kvP_take : ∀ {bk : Book} {ps : List Addr} {i : Nat} {a : Part} {p : Addr}, bk[i]? = some a → ps[i]? = some p → kvP (bk.take (i + 1)) (ps.take (i + 1)) = kvP (bk.take i) (ps.take i) ++ [((Sum.inr a.name : Key), V.ref p)]
  | [], _, _, _, _, h, _ => by simp at h
  | _ :: _, [], _, _, _, _, h => by simp at h
  | b :: bk, q :: ps, 0, a, p, h1, h2 => by
    have e1 : b = a := Option.some.inj h1
    have e2 : q = p := Option.some.inj h2
    subst e1 e2
    show (Sum.inr b.name, V.ref q) :: kvP (bk.take 0) (ps.take 0) = [] ++ [_]
    simp [kvP]
  | b :: bk, q :: ps, i + 1, a, p, h1, h2 => by
    show (Sum.inr b.name, V.ref q) :: kvP (bk.take (i + 1)) (ps.take (i + 1)) = (Sum.inr b.name, V.ref q) :: kvP (bk.take i) (ps.take i) ++ [_]
    rw [kvP_take (bk := bk) (ps := ps) (by simpa using h1) (by simpa using h2)]
    rfl
theorem PartsAt.at {H : Hp} {ps : List Addr} {bk : Book} (h : PartsAt H ps bk) {i : Nat} {v : V} (hv : (ps.map V.ref)[i]? = some v) : ∃ p a, v = .ref p ∧ ps[i]? = some p ∧ bk[i]? = some a ∧ PartAt H p a := by
  obtain ⟨p, hp, rfl⟩ := get_map hv
  have hi := (List.getElem?_eq_some_iff.mp hp).1
  have hb : bk[i]? = some (bk[i]'(by rw [← h.1]; exact hi)) := List.getElem?_eq_getElem _
  exact ⟨p, _, rfl, hp, hb, h.2 i p _ hp hb⟩
section
variable {P : Program} {w : World} {K : PySem.W.Frag} {mg : Str → Option Value} {base : Heap}
/-! ### _law_below -/
abbrev nLBelow : List Str := ["book", "names", "found", "part"]
def spBelowT : Sp := fun vs H Q _ => ∃ (b l : Addr) (bk : Book) (xs : List Str), vs = [.ref b, .ref l] ∧ BookAt H b bk ∧ BookOk bk ∧ bk.length ≤ 24 ∧ H l = some (.lst (xs.map V.str)) ∧ xs.length ≤ 100 ∧ (∀ x ∈ xs, x ∈ bk.map (·.name)) ∧ ∀ (r : Addr) (H' : Hp), H r = none → Same H H' → H' r = some (.lst ((bOf bk xs).map V.str)) → Q (.ref r) H'
abbrev nParts : List Str := ["book", "part"]
theorem sc_parts : FnScope nParts ["book"] (defScope s_law_parts) := ⟨rfl, rfl, rfl, by decide +kernel, rfl, by decide +kernel, by decide +kernel⟩
/-! ### _law_parts -/
def spPartsT : Sp := fun vs H Q _ => ∃ (b : Addr) (ps : List Addr) (bk : Book), vs = [.ref b] ∧ H b = some (.tup (ps.map V.ref)) ∧ PartsAt H ps bk ∧ BookOk bk ∧ bk.length ≤ 24 ∧ ∀ (d : Addr) (H' : Hp), H d = none → Same H H' → H' d = some (.dK (kvP bk ps)) → Q (.ref d) H'
set_option maxHeartbeats 1200000 in
theorem c_partsT (B : Blt mg) (D : Dfn K mg "_law_parts" s_law_parts) : Cal P w K mg base 1 "_law_parts" ["book"] spPartsT := by
  refine D.cal (fun _ _ _ _ _ _ us hl => match us, hl with | [_], _ => rfl) fun f fd F => F.ok sc_parts (fun vs H Q E h => ?_) (fun cdv A outer s H vs Q E hr h => ?_)
  · obtain ⟨b, ps, bk, rfl, _⟩ := h
    rfl
  · obtain ⟨b, ps, bk, rfl, hb, hP, hO, hl, q⟩ := h
    have nd := sc_parts.nd
    refine ⟨_, (bs_one (bs_ret (b_callTy (call_dictP rfl) B.dict (ba_c (b_c 1 nParts (defScope s_law_parts) nd (bi_tup (b_v 0)) (fun _ _ _ _ _ => bts_nil) (fun _ _ _ _ _ => (b_tup (ba_c (b_ix (r := rIxT K) ix_tup (b_v 1) b_int) (ba_c (b_v 1) ba_nil)))) (fun _ _ _ _ _ => (bg_n 1 nd))) ba_nil)))).o, ?_⟩
    refine ⟨_, rfl, b, rfl, ⟨_, SqT.of hb⟩, fun Dn hDn => ?_⟩
    refine lc_tup (K := K) (a := b) (xs := ps.map V.ref) (fun i H4 => ∃ qs : List Addr, Same H H4 ∧ H4 Dn = some (.lst (qs.map V.ref)) ∧ qs.length = i ∧ Paired (fun (q : Addr) (kv : Key × V) => H4 q = some (.tup [kV kv.1, kv.2])) qs (kvP (bk.take i) (ps.take i))) ⟨[], Same.new hDn, upd_same, rfl, by simp [kvP]; exact .nil⟩ ?_ ?_ ?_
    · rintro i H4 _ ⟨_, hS, _⟩
      exact SqT.of (hS _ _ hb)
    · rintro i v H4 hi ⟨qs, hS, hD4, hql, hQ⟩
      obtain ⟨p, a, rfl, hp0, ha, r, hp, hr2⟩ := hP.at hi
      refine ⟨rfl, yes ?_⟩
      refine ⟨_, rfl, p, _, _, _, rfl, rfl, SqT.of (hS _ _ hp), rfl, _, rfl, lit 2, fun m hm => ?_⟩
      have hil := (List.getElem?_eq_some_iff.mp ha).1
      have hS5 : Same H4 (upd H4 m (.tup [.str a.name, .ref p])) := Same.new hm
      refine ⟨_, hS5 _ _ hD4, by rw [List.length_map]; exact small1000 (by omega), qs ++ [m], (hS.trans hS5).own hDn, by rw [upd_same, List.map_append]; rfl, by rw [List.length_append, hql]; rfl, ?_⟩
      rw [kvP_take ha hp0]
      have hT : Tups H4 (upd (upd H4 m (.tup [.str a.name, .ref p])) Dn (.lst (qs.map V.ref ++ [V.ref m]))) := fun c ys e => by
        have e1 := hS5 _ _ e
        rw [upd_ne (ne_of e1 (hS5 _ _ hD4) (by intro z; cases z))]
        exact e1
      refine paired_snoc ?_ (Paired.mapP hQ fun c kv e => hT _ _ e)
      have hmD : m ≠ Dn := fun z => by
        subst z
        rw [hm] at hD4
        cases hD4
      show (upd (upd H4 m (.tup [.str a.name, .ref p])) Dn (.lst (qs.map V.ref ++ [V.ref m]))) m = _
      rw [upd_ne hmD]
      exact upd_same
    rintro H4 ⟨qs, hS, hD4, hql, hQ⟩
    have e1 : bk.take (ps.map V.ref).length = bk := by rw [List.length_map, hP.1, List.take_length]
    have e2 : ps.take (ps.map V.ref).length = ps := by rw [List.length_map, List.take_length]
    rw [e1, e2] at hQ
    refine ⟨Dn, qs, kvP bk ps, rfl, SqL.of hD4, Paired.mapP hQ fun c kv e => SqT.of e, fun d hd => ?_⟩
    refine q d _ (hS.free hd) (hS.trans (Same.new hd)) ?_
    rw [upd_same, mergeK_P hO.nd]
/-! ### _law_wishes -/
end



end Hs
namespace Hs
open PySem PySem.Spec PyProof.Rows L2
theorem snocRec {α : Type} {P : List α → Prop} (h0 : P []) (h1 : ∀ l x, P l → P (l ++ [x])) (l : List α) : P l := by
  have h : ∀ l : List α, P l.reverse := by
    intro l
    induction l with
    | nil => exact h0
    | cons x l ih => rw [List.reverse_cons]; exact h1 _ _ ih
  have := h l.reverse
  rwa [List.reverse_reverse] at this
/-! ### what rows cost: the loads at the makes of names, one behind the other, each make dropping what it needs -/
def IsMax (l : List Int) (p : Int) : Prop := p ∈ l ∧ ∀ q ∈ l, q ≤ p
theorem IsMax.app {l m : List Int} {p q : Int} (h : IsMax l p) (h' : IsMax m q) : IsMax (l ++ m) (max p q) := by
  refine ⟨?_, fun x hx => ?_⟩
  · by_cases c : p ≤ q
    · rw [Int.max_eq_right c]
      exact List.mem_append_right _ h'.1
    · rw [Int.max_eq_left (by omega)]
      exact List.mem_append_left _ h.1
  · rcases List.mem_append.mp hx with k | k
    · have := h.2 x k
      omega
    · have := h'.2 x k
      omega
theorem IsMax.uniq {l : List Int} {p q : Int} (h : IsMax l p) (h' : IsMax l q) : p = q := by
  have a := h.2 q h'.1
  have b := h'.2 p h.1
  omega
section
variable {sz : Str → Int} {nm : Str → List Str}
def dlt (sz : Str → Int) (nm : Str → List Str) (x : Str) : Int := sz x - ((nm x).map sz).sum
def endD (sz : Str → Int) (nm : Str → List Str) (xs : List Str) : Int := (xs.map (dlt sz nm)).sum
theorem endD_app (xs ys : List Str) : endD sz nm (xs ++ ys) = endD sz nm xs + endD sz nm ys := by
  unfold endD
  rw [List.map_append, List.sum_append]
def pks (sz : Str → Int) (nm : Str → List Str) : Int → List Str → List Int
  | _, [] => []
  | g, x :: r => (g + sz x) :: pks sz nm (g + dlt sz nm x) r
theorem pks_app : ∀ (xs ys : List Str) (g : Int), pks sz nm g (xs ++ ys) = pks sz nm g xs ++ pks sz nm (g + endD sz nm xs) ys
  | [], ys, g => by
    show pks sz nm g ys = pks sz nm (g + 0) ys
    rw [Int.add_zero]
  | x :: r, ys, g => by
    show (g + sz x) :: pks sz nm (g + dlt sz nm x) (r ++ ys) = (g + sz x) :: (pks sz nm (g + dlt sz nm x) r ++ pks sz nm (g + (dlt sz nm x + endD sz nm r)) ys)
    rw [pks_app r ys, Int.add_assoc]
theorem pks_up : ∀ (xs : List Str) (g d : Int), pks sz nm (g + d) xs = (pks sz nm g xs).map (· + d)
  | [], _, _ => rfl
  | x :: r, g, d => by
    show (g + d + sz x) :: pks sz nm (g + d + dlt sz nm x) r = (g + sz x + d) :: (pks sz nm (g + dlt sz nm x) r).map (· + d)
    rw [← pks_up r, show g + d + dlt sz nm x = g + dlt sz nm x + d by omega, show g + d + sz x = g + sz x + d by omega]
theorem IsMax.up {xs : List Str} {g p : Int} (d : Int) (h : IsMax (pks sz nm g xs) p) : IsMax (pks sz nm (g + d) xs) (p + d) := by
  rw [pks_up]
  refine ⟨List.mem_map.mpr ⟨p, h.1, rfl⟩, fun q hq => ?_⟩
  obtain ⟨r, hr, rfl⟩ := List.mem_map.mp hq
  have := h.2 r hr
  show r + d ≤ p + d
  omega
/-- a hill over the ground g -/
def AbsAt (sz : Str → Int) (nm : Str → List Str) (g : Int) (x : Hill) : Prop := x.v = g + endD sz nm x.ns ∧ IsMax (pks sz nm g x.ns) x.h
def Rep (sz : Str → Int) (nm : Str → List Str) : Int → List Hill → Prop
  | _, [] => True
  | g, x :: r => AbsAt sz nm g x ∧ Rep sz nm x.v r
def lastG (g : Int) (hs : List Hill) : Int := (hs.getLast?.map (·.v)).getD g
theorem lastG_cons (g : Int) (x : Hill) (r : List Hill) : lastG g (x :: r) = lastG x.v r := by
  unfold lastG
  cases r with
  | nil => rfl
  | cons y r =>
    rw [List.getLast?_cons_cons]
    cases e : (y :: r).getLast? with
    | none => exact absurd (List.getLast?_eq_none_iff.mp e) (List.cons_ne_nil _ _)
    | some z => rfl
theorem lastG_snoc (g : Int) (hs : List Hill) (x : Hill) : lastG g (hs ++ [x]) = x.v := by
  unfold lastG
  rw [List.getLast?_append]
  rfl
theorem lastV_is (hs : List Hill) : lastV hs = lastG 0 hs := rfl
theorem rep_snoc : ∀ (hs : List Hill) (g : Int) (x : Hill), Rep sz nm g (hs ++ [x]) ↔ Rep sz nm g hs ∧ AbsAt sz nm (lastG g hs) x
  | [], g, x => by
    show AbsAt sz nm g x ∧ True ↔ True ∧ AbsAt sz nm g x
    exact ⟨fun h => ⟨trivial, h.1⟩, fun h => ⟨h.2, trivial⟩⟩
  | y :: r, g, x => by
    show AbsAt sz nm g y ∧ Rep sz nm y.v (r ++ [x]) ↔ (AbsAt sz nm g y ∧ Rep sz nm y.v r) ∧ _
    rw [rep_snoc r, lastG_cons, and_assoc]
theorem AbsAt.join {g : Int} {x y : Hill} (h : AbsAt sz nm g y) (h' : AbsAt sz nm y.v x) : AbsAt sz nm g ⟨max x.h y.h, x.v, y.ns ++ x.ns⟩ := by
  refine ⟨?_, ?_⟩
  · show x.v = g + endD sz nm (y.ns ++ x.ns)
    rw [endD_app, h'.1, h.1]
    omega
  · show IsMax (pks sz nm g (y.ns ++ x.ns)) (max x.h y.h)
    rw [pks_app, ← h.1, Int.max_comm]
    exact h.2.app h'.2
theorem rep_addF {hs : List Hill} : ∀ {x : Hill}, Rep sz nm 0 hs → AbsAt sz nm (lastG 0 hs) x → Rep sz nm 0 (addF hs x) ∧ lastG 0 (addF hs x) = x.v := by
  induction hs using snocRec with
  | h0 => intro x _ h; rw [addF_nil]; exact ⟨⟨h, trivial⟩, rfl⟩
  | h1 hs y ih =>
    intro x hr h
    obtain ⟨h1, h2⟩ := (rep_snoc hs 0 y).mp hr
    rw [lastG_snoc] at h
    by_cases c : y.h ≤ x.h ∨ x.v ≤ y.v
    · rw [addF_go c]
      exact ih h1 (h2.join h)
    · rw [addF_stop c]
      refine ⟨(rep_snoc _ 0 x).mpr ⟨hr, ?_⟩, lastG_snoc _ _ _⟩
      rw [lastG_snoc]
      exact h
/-- each hill lower than the one before it, each valley higher -/
def Canon (hs : List Hill) : Prop := hs.Pairwise fun a b => b.h < a.h ∧ a.v < b.v
theorem canon_addF {hs : List Hill} : ∀ {x : Hill}, Canon hs → Canon (addF hs x) := by
  induction hs using snocRec with
  | h0 => intro x _; rw [addF_nil]; exact List.pairwise_singleton _ _
  | h1 hs y ih =>
    intro x hc
    obtain ⟨h1, _, h2⟩ := List.pairwise_append.mp hc
    by_cases c : y.h ≤ x.h ∨ x.v ≤ y.v
    · rw [addF_go c]
      exact ih h1
    · rw [addF_stop c]
      refine List.pairwise_append.mpr ⟨hc, List.pairwise_singleton _ _, fun a ha b hb => ?_⟩
      rw [List.mem_singleton.mp hb]
      rcases List.mem_append.mp ha with k | k
      · have := h2 a k y (List.mem_singleton.mpr rfl)
        omega
      · rw [List.mem_singleton.mp k]
        omega
/-- a climb: over the ground nought -/
def StepOk (sz : Str → Int) (nm : Str → List Str) (x : Hill) : Prop := AbsAt sz nm 0 x
theorem StepOk.at {x : Hill} (h : StepOk sz nm x) (g : Int) : AbsAt sz nm g ⟨g + x.h, g + x.v, x.ns⟩ := by
  refine ⟨?_, ?_⟩
  · show g + x.v = g + endD sz nm x.ns
    rw [h.1, Int.zero_add]
  · have := h.2.up g
    show IsMax (pks sz nm g x.ns) (g + x.h)
    rw [Int.zero_add, Int.add_comm x.h] at this
    exact this
theorem rowS_rep {ss : List Hill} (h : ∀ x ∈ ss, StepOk sz nm x) : ∀ {i : Nat}, i ≤ ss.length → Rep sz nm 0 (rowS ss i).1 ∧ Canon (rowS ss i).1 ∧ lastG 0 (rowS ss i).1 = (rowS ss i).2 ∧ (rowS ss i).2 = ((ss.take i).map (·.v)).sum
  | 0, _ => ⟨trivial, List.Pairwise.nil, rfl, rfl⟩
  | i + 1, hi => by
    have e : ss[i]? = some ss[i] := List.getElem?_eq_getElem (by omega)
    obtain ⟨h1, h2, h3, h4⟩ := rowS_rep h (i := i) (by omega)
    rw [rowS_succ e]
    obtain ⟨r1, r2⟩ := rep_addF h1 (by rw [h3]; exact (h _ (List.mem_of_getElem? e)).at _)
    refine ⟨r1, canon_addF h2, r2, ?_⟩
    show (rowS ss i).2 + _ = _
    rw [List.take_add_one, e, h4, List.map_append, List.sum_append]
    simp
theorem rowF_rep {ss : List Hill} (h : ∀ x ∈ ss, StepOk sz nm x) : Rep sz nm 0 (rowF ss) ∧ Canon (rowF ss) ∧ lastV (rowF ss) = (ss.map (·.v)).sum := by
  obtain ⟨h1, h2, h3, h4⟩ := rowS_rep h (Nat.le_refl _)
  rw [List.take_length] at h4
  exact ⟨h1, h2, by rw [lastV_is]; exact h3.trans h4⟩
/-- the greatest of a row's hills is what its makes come to -/
theorem rep_peak : ∀ {hs : List Hill} {g : Int}, Rep sz nm g hs → endD sz nm (flatN hs) = lastG g hs - g ∧ (hs ≠ [] → ∃ p, IsMax (hs.map (·.h)) p ∧ IsMax (pks sz nm g (flatN hs)) p)
  | [], g, _ => ⟨by show (0 : Int) = g - g; omega, fun h => absurd rfl h⟩
  | x :: r, g, h => by
    obtain ⟨e, hp⟩ := rep_peak h.2
    have hf : flatN (x :: r) = x.ns ++ flatN r := rfl
    rw [hf, endD_app, lastG_cons, e]
    refine ⟨by have := h.1.1; omega, fun _ => ?_⟩
    rw [pks_app, ← h.1.1]
    cases r with
    | nil =>
      refine ⟨x.h, ⟨List.mem_singleton.mpr rfl, fun q hq => by rw [List.mem_singleton.mp hq]; exact Int.le_refl _⟩, ?_⟩
      show IsMax (_ ++ []) _
      rw [List.append_nil]
      exact h.1.2
    | cons y r =>
      obtain ⟨p, h1, h2⟩ := hp (List.cons_ne_nil _ _)
      exact ⟨max x.h p, IsMax.app (l := [x.h]) ⟨List.mem_singleton.mpr rfl, fun q hq => by rw [List.mem_singleton.mp hq]; exact Int.le_refl _⟩ h1, h.1.2.app h2⟩
theorem climbs_get {hs : List Hill} : ∀ {n : Nat} {x : Hill}, n ≤ hs.length → x ∈ climbsF hs n → ∃ i y, i < n ∧ hs[i]? = some y ∧ x = climbF hs i y
  | 0, _, _, h => by cases h
  | n + 1, x, hn, h => by
    have e : hs[n]? = some hs[n] := List.getElem?_eq_getElem (by omega)
    rcases List.mem_append.mp h with k | k
    · obtain ⟨i, y, h1, h2, h3⟩ := climbs_get (by omega) k
      exact ⟨i, y, by omega, h2, h3⟩
    · rw [e] at k
      exact ⟨n, _, by omega, e, List.mem_singleton.mp k⟩
theorem rep_take {g : Int} {hs : List Hill} (h : Rep sz nm g hs) (i : Nat) : Rep sz nm g (hs.take i) := by
  have hd : ∀ (a b : List Hill) (g : Int), Rep sz nm g (a ++ b) → Rep sz nm g a := by
    intro a
    induction a with
    | nil => intro _ _ _; trivial
    | cons x r ih => intro b g h; exact ⟨h.1, ih _ _ h.2⟩
  exact hd _ (hs.drop i) g (by rw [List.take_append_drop]; exact h)
theorem climbs_step {hs : List Hill} (h : Rep sz nm 0 hs) : ∀ x ∈ climbsF hs hs.length, StepOk sz nm x := fun x hx => by
  obtain ⟨i, y, h1, h2, rfl⟩ := climbs_get (Nat.le_refl _) hx
  have := rep_take h (i + 1)
  rw [List.take_add_one, h2] at this
  have ha := ((rep_snoc (hs.take i) 0 y).mp this).2
  rw [← lastV_is] at ha
  refine ⟨?_, ?_⟩
  · show y.v - _ = 0 + endD sz nm y.ns
    have := ha.1
    omega
  · have := ha.2.up (- lastV (hs.take i))
    show IsMax (pks sz nm 0 y.ns) (y.h - lastV (hs.take i))
    rw [show lastV (hs.take i) + - lastV (hs.take i) = 0 by omega] at this
    exact this
/-- the climbs of a row fall less and less -/
theorem climbs_keys {hs : List Hill} (h : Canon hs) : ∀ {n : Nat}, n ≤ hs.length → (climbsF hs n).Pairwise fun a b => keyH a < keyH b
  | 0, _ => List.Pairwise.nil
  | n + 1, hn => by
    have e : hs[n]? = some hs[n] := List.getElem?_eq_getElem (by omega)
    show (climbsF hs n ++ _).Pairwise _
    rw [e]
    refine List.pairwise_append.mpr ⟨climbs_keys h (by omega), List.pairwise_singleton _ _, fun a ha b hb => ?_⟩
    rw [List.mem_singleton.mp hb]
    obtain ⟨i, y, h1, h2, rfl⟩ := climbs_get (by omega) ha
    have hi : i < hs.length := by omega
    have hp := List.pairwise_iff_getElem.mp h i n hi (by omega) h1
    have hy : hs[i] = y := by rw [List.getElem?_eq_getElem hi] at h2; exact Option.some.inj h2
    rw [hy] at hp
    show y.v - _ - (y.h - _) < hs[n].v - _ - (hs[n].h - _)
    omega
theorem climbs_sum {hs : List Hill} : ∀ {n : Nat}, n ≤ hs.length → ((climbsF hs n).map (·.v)).sum = lastV (hs.take n)
  | 0, _ => rfl
  | n + 1, hn => by
    have e : hs[n]? = some hs[n] := List.getElem?_eq_getElem (by omega)
    show ((climbsF hs n ++ _).map (·.v)).sum = _
    rw [e, List.map_append, List.sum_append, climbs_sum (by omega), List.take_add_one, e]
    rw [lastV_is (hs.take n ++ _)]
    show _ + (hs[n].v - lastV (hs.take n) + 0) = lastG 0 (hs.take n ++ [hs[n]])
    rw [lastG_snoc]
    omega
end
/-! ### sorted by a key, the order of the like kept -/
/-- what rises strictly and lies in a sorted list lies there in its order -/
theorem sub_sorted {α : Type} {k : α → Int} : ∀ {l m : List α}, l.Pairwise (fun x y => k x < k y) → m.Pairwise (fun x y => k x ≤ k y) → (∀ x ∈ l, x ∈ m) → l.Sublist m
  | [], m, _, _, _ => List.nil_sublist m
  | x :: l, m, hl, hm, h => by
    obtain ⟨l1, l2⟩ := List.pairwise_cons.mp hl
    obtain ⟨A, B, rfl⟩ := List.append_of_mem (h x List.mem_cons_self)
    obtain ⟨_, mB, mAB⟩ := List.pairwise_append.mp hm
    obtain ⟨_, mB'⟩ := List.pairwise_cons.mp mB
    refine List.Sublist.trans (List.Sublist.cons₂ x (sub_sorted l2 mB' fun y hy => ?_)) (List.sublist_append_right A (x :: B))
    have hlt := l1 y hy
    rcases List.mem_append.mp (h y (List.mem_cons_of_mem _ hy)) with k1 | k1
    · have := mAB y k1 x List.mem_cons_self
      omega
    · rcases List.mem_cons.mp k1 with e | e
      · subst e; omega
      · exact e

end Hs
namespace Hs
open PySem PySem.Spec PyProof.Rows L2
/-! ### hills and valleys as pairs -/
/-! ### the steepest way told from the front -/
/-! ### rows merged, the greatest fall first -/
end Hs
namespace Hs
open PySem PySem.Spec PyProof.Rows L2
def nmOf (bk : Book) (x : Str) : List Str := match partOf bk x with
  | some a => a.how.names
  | none => []
/-! ### deeds in the heap -/
def DsAt (H : Hp) (as : List Addr) (ds : List (Str × Str)) : Prop := as.length = ds.length ∧ ∀ (i : Nat) (a : Addr) (d : Str × Str), as[i]? = some a → ds[i]? = some d → H a = some (.tup [.str d.1, .str d.2])
theorem DsAt.tups {H H' : Hp} {as : List Addr} {ds : List (Str × Str)} (h : DsAt H as ds) (t : Tups H H') : DsAt H' as ds := ⟨h.1, fun i a d h1 h2 => t _ _ (h.2 i a d h1 h2)⟩
theorem DsAt.nil {H : Hp} : DsAt H [] [] := ⟨rfl, fun i a d h1 _ => by simp at h1⟩
theorem DsAt.app {H : Hp} {as bs : List Addr} {ds es : List (Str × Str)} (h : DsAt H as ds) (h' : DsAt H bs es) : DsAt H (as ++ bs) (ds ++ es) := by
  refine ⟨by rw [List.length_append, List.length_append, h.1, h'.1], fun i a d h1 h2 => ?_⟩
  by_cases hi : i < as.length
  · rw [List.getElem?_append_left hi] at h1
    rw [List.getElem?_append_left (by rw [← h.1]; exact hi)] at h2
    exact h.2 i a d h1 h2
  · rw [List.getElem?_append_right (by omega)] at h1
    rw [List.getElem?_append_right (by rw [← h.1]; omega), ← h.1] at h2
    exact h'.2 _ a d h1 h2
theorem DsAt.one {H : Hp} {p : Addr} {d : Str × Str} (h : H p = some (.tup [.str d.1, .str d.2])) : DsAt H [p] [d] := ⟨rfl, fun i a e h1 h2 => by
  cases i with
  | zero => cases h1; cases h2; exact h
  | succ i => simp at h1⟩
def deedsOf (bk : Book) (xs : List Str) : List (Str × Str) := xs.flatMap fun x => (("make" : Str), x) :: (nmOf bk x).map fun y => (("drop" : Str), y)
theorem deedsOf_snoc (bk : Book) (xs : List Str) (x : Str) : deedsOf bk (xs ++ [x]) = deedsOf bk xs ++ ((("make" : Str), x) :: (nmOf bk x).map fun y => (("drop" : Str), y)) := by
  unfold deedsOf
  rw [List.flatMap_append]
  simp
/-! ### the rows of a tree's parts -/
structure RowsOf (bk : Book) (R : Str → List Hill) (i : Nat) : Prop where
  rel : ∀ (j : Nat) (a : Part), j < i → bk[j]? = some a → ∃ ss : List Hill, ss.Perm (climbsOf R a.how.names) ∧ ss.Pairwise (fun x y => keyH x ≤ keyH y) ∧ (∀ c, ss.filter (fun x => keyH x == c) = (climbsOf R a.how.names).filter (fun x => keyH x == c)) ∧ R a.name = bestOf a (sizeOf' bk) ss
  all : ((freeN bk i).flatMap fun y => flatN (R y)).Perm ((bk.take i).map (·.name))
theorem climbsOf_congr {R R' : Str → List Hill} {ys : List Str} (h : ∀ y ∈ ys, R' y = R y) : climbsOf R' ys = climbsOf R ys := by
  unfold climbsOf
  induction ys with
  | nil => rfl
  | cons y r ih =>
    rw [List.flatMap_cons, List.flatMap_cons, h y List.mem_cons_self, ih fun z hz => h z (List.mem_cons_of_mem _ hz)]
theorem flat_climbsOf (R : Str → List Hill) : ∀ ys : List Str, flatN (climbsOf R ys) = ys.flatMap fun y => flatN (R y)
  | [] => rfl
  | y :: ys => by
    have e : climbsOf R (y :: ys) = climbsF (R y) (R y).length ++ climbsOf R ys := rfl
    rw [e, List.flatMap_cons, ← flat_climbsOf R ys]
    unfold flatN
    rw [List.flatMap_append]
    show flatN (climbsF (R y) (R y).length) ++ _ = flatN (R y) ++ _
    rw [climbs_flat (Nat.le_refl _), List.take_length]
theorem RowsOf.succ {bk : Book} {R : Str → List Hill} {i : Nat} (h : RowsOf bk R i) (hO : BookOk bk) (hN : (needsOf bk).Nodup) {a : Part} (ha : bk[i]? = some a) {ss : List Hill} (h1 : ss.Perm (climbsOf R a.how.names)) (h2 : ss.Pairwise (fun x y => keyH x ≤ keyH y)) (h3 : ∀ c, ss.filter (fun x => keyH x == c) = (climbsOf R a.how.names).filter (fun x => keyH x == c)) :
    RowsOf bk (fun y => if y = a.name then bestOf a (sizeOf' bk) ss else R y) (i + 1) := by
  have hnew : a.name ∉ (bk.take i).map (·.name) := name_new hO ha
  have hns : ∀ y ∈ a.how.names, y ≠ a.name := fun y hy e => hnew (e ▸ names_sub hO ha y hy)
  have ec : climbsOf (fun y => if y = a.name then bestOf a (sizeOf' bk) ss else R y) a.how.names = climbsOf R a.how.names := climbsOf_congr fun y hy => if_neg (hns y hy)
  refine ⟨fun j b hj hb => ?_, ?_⟩
  · by_cases e : j = i
    · subst e
      rw [ha] at hb
      cases hb
      rw [ec]
      exact ⟨ss, h1, h2, h3, if_pos rfl⟩
    · obtain ⟨s', g1, g2, g3, g4⟩ := h.rel j b (by omega) hb
      have hjb : b.name ≠ a.name := fun z => hnew (List.mem_map.mpr ⟨b, List.mem_of_getElem? (i := j) (by rw [List.getElem?_take_of_lt (by omega)]; exact hb), z⟩)
      have ec2 : climbsOf (fun y => if y = a.name then bestOf a (sizeOf' bk) ss else R y) b.how.names = climbsOf R b.how.names := climbsOf_congr fun y hy => if_neg fun z => by
        obtain ⟨c, hc, e2⟩ := List.mem_map.mp (names_sub hO hb y hy)
        refine hnew (List.mem_map.mpr ⟨c, ?_, e2.trans z⟩)
        obtain ⟨k, hk⟩ := List.getElem?_of_mem hc
        have hkl : k < j := by
          have := (List.getElem?_eq_some_iff.mp hk).1
          rw [List.length_take] at this
          omega
        rw [List.getElem?_take_of_lt hkl] at hk
        exact List.mem_of_getElem? (i := k) (by rw [List.getElem?_take_of_lt (by omega)]; exact hk)
      rw [ec2]
      exact ⟨s', g1, g2, g3, (if_neg hjb).trans g4⟩
  · have hp := free_perm hO hN ha
    have e1 : (bk.take (i + 1)).map (·.name) = (bk.take i).map (·.name) ++ [a.name] := by
      rw [List.take_add_one, ha, List.map_append]
      rfl
    rw [free_succ hO ha, e1, List.flatMap_append]
    have hL : ∀ l : List Str, (∀ y ∈ l, y ≠ a.name) → (l.flatMap fun y => flatN (if y = a.name then bestOf a (sizeOf' bk) ss else R y)) = l.flatMap fun y => flatN (R y) := by
      intro l
      induction l with
      | nil => intro _; rfl
      | cons y l ih =>
        intro hl
        rw [List.flatMap_cons, List.flatMap_cons, if_neg (hl y List.mem_cons_self), ih fun z hz => hl z (List.mem_cons_of_mem _ hz)]
    rw [hL _ fun y hy e => hnew (e ▸ (List.mem_filter.mp hy).1)]
    have e2 : ([a.name].flatMap fun y => flatN (if y = a.name then bestOf a (sizeOf' bk) ss else R y)) = flatN ss ++ [a.name] := by
      simp [best_flat]
    rw [e2, ← List.append_assoc]
    refine List.Perm.append_right _ (List.Perm.trans ?_ h.all)
    have hq : (flatN ss).Perm (a.how.names.flatMap fun y => flatN (R y)) := by
      rw [← flat_climbsOf]
      exact h1.flatMap_right _
    refine List.Perm.trans (List.Perm.append_left _ hq) ?_
    rw [← List.flatMap_append]
    exact (hp.flatMap_right _).symm
section
variable {P : Program} {w : World} {K : PySem.W.Frag} {mg : Str → Option Value} {base : Heap}
def spLstX (T : Addr) : Sp := fun vs H Q _ => ∃ (b : Addr) (bk : Book), vs = [.ref b] ∧ BookAt H b bk ∧ BookOk bk ∧ 1 ≤ bk.length ∧ bk.length ≤ 24 ∧ isTree bk = true ∧ Tab H T ∧ ∀ (p ld : Addr) (das : List Addr) (R : Str → List Hill) (z : Part) (m : Int) (H' : Hp), But T H H' → Tab H' T → RowsOf bk R bk.length → bk.getLast? = some z → IsMax ((R z.name).map (·.h)) m → H' p = some (.tup [.int m, .ref ld]) → H' ld = some (.lst (das.map V.ref)) → DsAt H' das (deedsOf bk (flatN (R z.name))) → Q (.ref p) H'
set_option maxHeartbeats 6000000 in
theorem c_lstX {T : Addr} (B : Blt mg) (D : Dfn K mg "least_room" s_least_room) (Ci : Cal P w K mg base 2 "is_tree" ["book"] spIsT) (Cn : Cal P w K mg base 1 "names_in" ["recipe"] spNamesIn) (Cb : Cal P w K mg base 3 "best_row" ["part", "sizes", "rows"] (spBst T)) : Cal P w K mg base 4 "least_room" ["book"] (spLstX T) := by
  refine D.cal (fun _ _ _ _ _ _ us hl => match us, hl with | [_], _ => rfl) fun f fd F => F.ok sc_lst (fun vs H Q E h => ?_) (fun cdv A outer s H vs Q E hr h => ?_)
  · obtain ⟨b, _, rfl, _⟩ := h
    rfl
  · obtain ⟨b, bk, rfl, hBk, hO, h1, h24, hTr, hTab, q⟩ := h
    have nd := sc_lst.nd
    have hu := hu_of hr
    refine ex_pss ((bs_c (bs_if (bt_not (bt_val (b_cal Ci hr (ba_c (b_v 0) ba_nil)))) (bs_one bs_never) bs_nil)
      (bs_c (bs_setd 1 [("name", 8), ("recipe", 9), ("size", 10), ("cost", 11)] nLst (defScope s_least_room) nd (bi_tup (b_v 0)) (fun _ _ _ _ _ => (b_v 8)) (fun _ _ _ _ _ => (b_v 10)) (fun _ _ _ _ _ => (bg_tupK K 4 (bgs_c (bg_n 8 nd) (bgs_c (bg_n 9 nd) (bgs_c (bg_n 10 nd) (bgs_c (bg_n 11 nd) bgs_nil)))))))
      (bs_c (bs_setd 2 [("name", 8), ("recipe", 9), ("size", 10), ("cost", 11)] nLst (defScope s_least_room) nd (bi_tup (b_v 0)) (fun _ _ _ _ _ => (b_v 8)) (fun _ _ _ _ _ => (b_cal Cn hr (ba_c (b_v 9) ba_nil))) (fun _ _ _ _ _ => (bg_tupK K 4 (bgs_c (bg_n 8 nd) (bgs_c (bg_n 9 nd) (bgs_c (bg_n 10 nd) (bgs_c (bg_n 11 nd) bgs_nil)))))))
      (bs_c (bs_set 3 nd b_dnewK)
      (bs_c (bs_for (bi_tup (b_v 0)) (bg_n 4 nd) (bs_one (bs_dput hu (b_v 3) (b_ix ix_tup (b_v 4) b_int) (b_cal Cb hr (ba_c (b_v 4) (ba_c (b_v 1) (ba_c (b_v 3) ba_nil)))))))
      (bs_c (bs_set 5 nd (b_dget hu (b_v 3) (b_ix ix_tup (b_ix ix_tup (b_v 0) (b_neg b_int)) b_int)))
      (bs_c (bs_set 6 nd (b_lst ba_nil))
      (bs_c (bs_for (bi_list (b_lc2 [("hill", 12), ("valley", 13), ("names", 14), ("name", 8)] nLst (defScope s_least_room) nd (bi_list (b_v 5)) (fun _ _ _ _ _ => (bg_tupK K 3 (bgs_c (bg_n 12 nd) (bgs_c (bg_n 13 nd) (bgs_c (bg_n 14 nd) bgs_nil))))) (fun _ _ _ _ _ => (bi_listK K (b_v 14))) (fun _ _ _ _ _ => (bg_n 8 nd)) (fun _ _ _ _ _ => (b_v 8)))) (bg_n 7 nd) (bs_c (bs_expr (b_append (b_v 6) (ba_c (b_tup (ba_c b_str (ba_c (b_v 7) ba_nil))) ba_nil)))
      (bs_one (bs_expr (b_extend (b_v 6) (ba_c (b_c 15 nLst (defScope s_least_room) nd (bi_tup (b_dget hu (b_v 2) (b_v 7))) (fun _ _ _ _ _ => bts_nil) (fun _ _ _ _ _ => (b_tup (ba_c b_str (ba_c (b_v 15) ba_nil)))) (fun _ _ _ _ _ => (bg_n 15 nd))) ba_nil))))))
      (bs_one (bs_ret (b_tup (ba_c (b_callB (cr_max rfl) B.max (ba_c (b_lc [("hill", 12), ("valley", 13), ("names", 14)] nLst (defScope s_least_room) nd (bi_list (b_v 5)) (fun _ _ _ _ _ => bts_nil) (fun _ _ _ _ _ => (b_v 12)) (fun _ _ _ _ _ => (bg_tupK K 3 (bgs_c (bg_n 12 nd) (bgs_c (bg_n 13 nd) (bgs_c (bg_n 14 nd) bgs_nil)))))) ba_nil)) (ba_c (b_v 6) ba_nil)))))))))))))) ?_
    refine ⟨_, rfl, b, bk, rfl, hBk, hO, h1, h24, fun H1 hS1 => ⟨_, rfl, ?_⟩⟩
    rw [hTr]
    refine iteF ?_
    obtain ⟨ps, hb, hP⟩ := hBk.tups hS1.tups
    have hpl := hP.1
    have hT1 : Tab H1 T := hTab.same hS1
    -- the sizes
    refine ⟨_, rfl, b, rfl, ⟨_, SqT.of hb⟩, fun ds hds => ?_⟩
    refine dc_tup (K := K) (a := b) (xs := ps.map V.ref) (fun i H2 => Same H1 H2 ∧ ∃ kvs, H2 ds = some (.dK kvs) ∧ kvs.length ≤ i ∧ ∀ j a, j < i → bk[j]? = some a → valV kvs (Sum.inr a.name : Key) = some (.int a.size)) ⟨Same.new hds, [], upd_same, Nat.le_refl _, fun j a hj => by omega⟩ ?_ ?_ ?_
    · rintro i H2 _ ⟨s2, _⟩
      exact SqT.of (s2 _ _ hb)
    · rintro i v H2 hi ⟨s2, kvs, hk1, hk2, hk3⟩
      obtain ⟨p, a, rfl, ha, r, hp, hR⟩ := hP.get hi
      refine ⟨p, _, rfl, SqT.of (s2 _ _ hp), rfl, _, _, rfl, _, _, rfl, _, _, rfl, _, _, rfl, rfl, rfl, yes ?_⟩
      refine ⟨_, rfl, _, rfl, _, ⟨kvs, Sum.inr a.name, hk1, rfl, small1000 (by have := (List.getElem?_eq_some_iff.mp ha).1; omega), rfl⟩, s2.own hds, _, upd_same, Nat.le_trans (length_putK _ _ _) (by omega), fun j c hj hc => ?_⟩
      rw [valS]
      by_cases e : c.name = a.name
      · rw [if_pos e]
        have : j = i := by
          have e1 : (bk.map (·.name))[j]? = some a.name := by rw [List.getElem?_map, hc]; exact congrArg some e
          have e2 : (bk.map (·.name))[i]? = some a.name := by rw [List.getElem?_map, ha]; rfl
          obtain ⟨h3, e3⟩ := List.getElem?_eq_some_iff.mp e1
          obtain ⟨h4, e4⟩ := List.getElem?_eq_some_iff.mp e2
          exact (List.getElem_inj hO.nd).mp (e3.trans e4.symm)
        subst this
        rw [ha] at hc
        cases hc
        rfl
      · rw [if_neg e]
        have hne : j ≠ i := fun z => by subst z; rw [ha] at hc; cases hc; exact e rfl
        exact hk3 j c (by omega) hc
    rintro H2 ⟨s2, kz, hkz1, _, hkz3⟩
    rw [List.length_map, hpl] at hkz3
    refine at_seq [some (.ref b), some (.ref ds), none, none, none, none, none, none, none, none, none, none, none, none, none, none] ?_
    have hb2 := s2 _ _ hb
    have hP2 := hP.tups s2.tups
    -- the needs
    refine ⟨_, rfl, b, rfl, ⟨_, SqT.of hb2⟩, fun dn hdn => ?_⟩
    refine dc_tup (K := K) (a := b) (xs := ps.map V.ref) (fun i H3 => Same H2 H3 ∧ ∃ kvs, H3 dn = some (.dK kvs) ∧ kvs.length ≤ i ∧ ∀ j a, j < i → bk[j]? = some a → ∃ q, valV kvs (Sum.inr a.name : Key) = some (.ref q) ∧ H3 q = some (.tup (a.how.names.map V.str))) ⟨Same.new hdn, [], upd_same, Nat.le_refl _, fun j a hj => by omega⟩ ?_ ?_ ?_
    · rintro i H3 _ ⟨s3, _⟩
      exact SqT.of (s3 _ _ hb2)
    · rintro i v H3 hi ⟨s3, kvs, hk1, hk2, hk3⟩
      obtain ⟨p, a, rfl, ha, r, hp, hR⟩ := hP2.get hi
      refine ⟨p, _, rfl, SqT.of (s3 _ _ hp), rfl, _, _, rfl, _, _, rfl, _, _, rfl, _, _, rfl, rfl, rfl, yes ?_⟩
      refine ⟨_, rfl, _, rfl, r, a.how, _, rfl, hR.tups s3.tups, hO.how i a ha, fun q4 H4 hq4 s4 => ?_⟩
      have b5 : ∀ {c : Addr} {xs : List V}, H4 c = some (.tup xs) → (upd H4 dn (.dK (putK kvs (Sum.inr a.name : Key) (.ref q4)))) c = some (.tup xs) := fun {c xs} e => by
        rw [upd_ne (ne_of e (s4 _ _ hk1) (by intro z; cases z))]
        exact e
      refine ⟨_, ⟨kvs, Sum.inr a.name, s4 _ _ hk1, rfl, small1000 (by have := (List.getElem?_eq_some_iff.mp ha).1; omega), rfl⟩, (s3.trans s4).own hdn, _, upd_same, Nat.le_trans (length_putK _ _ _) (by omega), fun j c hj hc => ?_⟩
      rw [valS]
      by_cases e : c.name = a.name
      · rw [if_pos e]
        have : j = i := by
          have e1 : (bk.map (·.name))[j]? = some a.name := by rw [List.getElem?_map, hc]; exact congrArg some e
          have e2 : (bk.map (·.name))[i]? = some a.name := by rw [List.getElem?_map, ha]; rfl
          obtain ⟨h3, e3⟩ := List.getElem?_eq_some_iff.mp e1
          obtain ⟨h4, e4⟩ := List.getElem?_eq_some_iff.mp e2
          exact (List.getElem_inj hO.nd).mp (e3.trans e4.symm)
        subst this
        rw [ha] at hc
        cases hc
        exact ⟨q4, rfl, b5 hq4⟩
      · rw [if_neg e]
        have hne : j ≠ i := fun z => by subst z; rw [ha] at hc; cases hc; exact e rfl
        obtain ⟨q5, g1, g2⟩ := hk3 j c (by omega) hc
        exact ⟨q5, g1, b5 (s4 _ _ g2)⟩
    rintro H3 ⟨s3, kn, hkn1, _, hkn3⟩
    rw [List.length_map, hpl] at hkn3
    refine at_seq [some (.ref b), some (.ref ds), some (.ref dn), none, none, none, none, none, none, none, none, none, none, none, none, none] ?_
    -- the rows
    refine fun dr hdr => ?_
    refine at_seq [some (.ref b), some (.ref ds), some (.ref dn), some (.ref dr), none, none, none, none, none, none, none, none, none, none, none, none] ?_
    have s4 : Same H3 (upd H3 dr (.dK [])) := Same.new hdr
    have u4 : (upd H3 dr (.dK [])) dr = some (.dK []) := upd_same
    have hdrT : dr ≠ T := by
      obtain ⟨tp, hP0, _⟩ := hT1
      exact (ne_of_none (s3 _ _ (s2 _ _ hP0)) hdr).symm
    have hT4 : Tab (upd H3 dr (.dK [])) T := ((hT1.same s2).same s3).same s4
    generalize upd H3 dr (.dK []) = H4 at s4 u4 hT4
    have s14 : Same H1 H4 := (s2.trans s3).trans s4
    have hN := isTree_nodup hO hTr
    have hdr1 : H1 dr = none := (s2.trans s3).free hdr
    refine ⟨_, rfl, b, rfl, ⟨_, SqT.of (s14 _ _ hb)⟩, for_tup (K := K) (a := b) (xs := ps.map V.ref) (fun i σ H5 => ∃ (v4 : Option V) (R : Str → List Hill), σ = [some (.ref b), some (.ref ds), some (.ref dn), some (.ref dr), v4, none, none, none, none, none, none, none, none, none, none, none] ∧ (∀ c o, c ≠ T → c ≠ dr → H4 c = some o → H5 c = some o) ∧ Tab H5 T ∧ RowsAt H5 dr i ((bk.take i).map (·.name)) R ∧ (∀ y ∈ (bk.take i).map (·.name), OkHs (R y)) ∧ (∀ y ∈ (bk.take i).map (·.name), R y ≠ [] ∧ ∀ z ∈ flatN (R y), z ∈ bk.map (·.name)) ∧ sumW (fun y => (flatN (R y)).length) (freeN bk i) = i ∧ RowsOf bk R i)
      ⟨none, fun _ => [], rfl, fun c o _ _ e => e, hT4, ⟨[], u4, Nat.le_refl _, fun y hy => by simp at hy⟩, fun y hy => by simp at hy, fun y hy => by simp at hy, rfl, ⟨fun j a hj => by omega, List.Perm.refl _⟩⟩ ?_ ?_ ?_⟩
    · rintro i σ H5 _ ⟨_, _, _, k5, _⟩
      have hb4 := s14 _ _ hb
      obtain ⟨tp, hP0, _⟩ := hT4
      exact SqT.of (k5 _ _ (ne_of hb4 hP0 (by intro z; cases z)) (ne_of hb4 u4 (by intro z; cases z)) hb4)
    · rintro i v σ H5 hi ⟨v4, R, rfl, k5, hT5, hRw, hRo, hRn, hsum, hRel⟩
      obtain ⟨p, a, rfl, ha, hpt⟩ := hP.get hi
      have hil := (List.getElem?_eq_some_iff.mp ha).1
      have k5t : Tups H4 H5 := fun c xs e => by
        obtain ⟨tp, hP0, _⟩ := hT4
        exact k5 _ _ (ne_of e hP0 (by intro z; cases z)) (ne_of e u4 (by intro z; cases z)) e
      have hpt5 := (hpt.tups s14.tups).tups k5t
      have hns := names_sub hO ha
      have hds4 := s4 _ _ (s3 _ _ hkz1)
      have hds5 : H5 ds = some (.dK kz) := by
        obtain ⟨tp, hP0, _⟩ := hT4
        refine k5 _ _ (ne_of hds4 hP0 (by intro z; cases z)) ?_ hds4
        exact ne_of_none (s3 _ _ hkz1) hdr
      have hsz : SizesAt H5 ds a.how.names (sizeOf' bk) := ⟨kz, hds5, fun y hy => by
        obtain ⟨j, c, hj, hc, rfl⟩ := mem_take_at (hns y hy)
        rw [sizeOf_at hO hc]
        exact hkz3 j c (by omega) hc⟩
      obtain ⟨kr, hkr1, hkr2, hkr3⟩ := id hRw
      have hRw' : RowsAt H5 dr i a.how.names R := ⟨kr, hkr1, hkr2, fun y hy => hkr3 y (hns y hy)⟩
      have hsum2 := sum_succ hO hN ha (wt := fun y => (flatN (R y)).length) (wt' := fun y => if y = a.name then sumW (fun y => (flatN (R y)).length) a.how.names + 1 else (flatN (R y)).length) hsum (fun y hy => if_neg hy) (if_pos rfl)
      have hfl := flat_climbs (R := R) a.how.names
      refine ⟨_, rfl, _, rfl, _, rfl, p, ds, dr, a, _, sizeOf' bk, i, R, rfl, hpt5, hO.how i a ha, hsz, hRw', fun y hy => ⟨hRo y (hns y hy), ?_⟩, by rw [hfl]; omega, hT5, fun r as H6 ss hr0 b6 hT6 hr6 hper hpw hst hA6 => ?_⟩
      · refine Nat.le_trans (flat_len (hRo y (hns y hy))) ?_
        have := sumW_mem (wt := fun y => (flatN (R y)).length) hy
        have this : (flatN (R y)).length ≤ sumW (fun y => (flatN (R y)).length) a.how.names := this
        omega
      have hss : flatN (bestOf a (sizeOf' bk) ss) = flatN ss ++ [a.name] := best_flat
      have hsf : (flatN ss).Perm (flatN (climbsOf R a.how.names)) := hper.flatMap_right _
      obtain ⟨tp5, hP5, _⟩ := id hT5
      have hRw6 := hRw.butT hP5 b6
      obtain ⟨kr6, hkr61, hkr62, hkr63⟩ := id hRw6
      obtain ⟨rc, hp6, _⟩ := hpt5.tups (fun c xs e => b6 _ _ (ne_of e hP5 (by intro z; cases z)) e)
      obtain ⟨tp6, hP6, _⟩ := id hT6
      have hTd : T ≠ dr := hdrT.symm
      have b7 : But dr H6 (upd H6 dr (.dK (putK kr6 (Sum.inr a.name : Key) (.ref r)))) := But.upd _ _ _
      refine ⟨_, rfl, _, rfl, p, _, _, _, rfl, rfl, SqT.of hp6, rfl, dr, _, rfl, DPut.k (k := Sum.inr a.name) hkr61 (small1000 (by omega)), ?_⟩
      refine ⟨_, fun y => if y = a.name then bestOf a (sizeOf' bk) ss else R y, rfl, fun c o h1 h2 e => b7 _ _ h2 (b6 _ _ h1 (k5 _ _ h1 h2 e)), ?_, ?_, ?_, ?_, ?_, hRel.succ hO hN ha hper hpw hst⟩
      · exact hT6.but b7 hTd (fun c hc z => by rw [z, hkr61] at hc; cases hc)
      · rw [List.take_add_one, ha, List.map_append]
        exact rows_put hkr61 hkr62 hkr63 hr6 hA6 (name_new hO ha)
      · intro y hy
        rw [List.take_add_one, ha, List.map_append] at hy
        show OkHs (if y = a.name then bestOf a (sizeOf' bk) ss else R y)
        by_cases e : y = a.name
        · rw [if_pos e]
          refine rowF_ok fun x hx => ?_
          rcases List.mem_append.mp hx with k | k
          · obtain ⟨z, hz, hxz⟩ := List.mem_flatMap.mp (hper.mem_iff.mp k)
            exact climbs_ok (hRo z (hns z hz)) _ x hxz
          · rw [List.mem_singleton.mp k]; exact List.cons_ne_nil _ _
        · rw [if_neg e]
          rcases List.mem_append.mp hy with k | k
          · exact hRo y k
          · exact absurd (List.mem_singleton.mp k) e
      · intro y hy
        rw [List.take_add_one, ha, List.map_append] at hy
        show (if y = a.name then bestOf a (sizeOf' bk) ss else R y) ≠ [] ∧ ∀ z ∈ flatN (if y = a.name then bestOf a (sizeOf' bk) ss else R y), z ∈ bk.map (·.name)
        by_cases e : y = a.name
        · rw [if_pos e]
          refine ⟨fun z => ?_, fun z hz => ?_⟩
          · have := hss
            rw [z] at this
            exact List.cons_ne_nil _ _ (List.append_eq_nil_iff.mp this.symm).2
          · rw [hss] at hz
            rcases List.mem_append.mp hz with k | k
            · have k := hsf.mem_iff.mp k
              obtain ⟨x, hx, hzx⟩ := List.mem_flatMap.mp k
              obtain ⟨u, hu', hxu⟩ := List.mem_flatMap.mp hx
              have : z ∈ flatN (climbsF (R u) (R u).length) := List.mem_flatMap.mpr ⟨x, hxu, hzx⟩
              rw [climbs_flat (Nat.le_refl _), List.take_length] at this
              exact (hRn u (hns u hu')).2 z this
            · rw [List.mem_singleton.mp k]
              exact List.mem_map.mpr ⟨a, List.mem_of_getElem? ha, rfl⟩
        · rw [if_neg e]
          rcases List.mem_append.mp hy with k | k
          · exact hRn y k
          · exact absurd (List.mem_singleton.mp k) e
      · refine Eq.trans (sumW_congr fun y _ => ?_) hsum2.2
        show (flatN (if y = a.name then bestOf a (sizeOf' bk) ss else R y)).length = if y = a.name then _ else _
        by_cases e : y = a.name
        · rw [if_pos e, if_pos e, hss, List.length_append, hsf.length_eq, hfl]
          rfl
        · rw [if_neg e, if_neg e]
    rintro σ H5 ⟨v4, R, rfl, k5, hT5, hRw, hRo, hRn, hsum, hRel⟩
    rw [List.length_map, hpl] at hRw hRo hRn hsum hRel
    rw [List.take_length] at hRw hRo hRn
    -- the last one's row
    have k5t : Tups H4 H5 := fun c xs e => by
      obtain ⟨tp, hP0, _⟩ := hT4
      exact k5 _ _ (ne_of e hP0 (by intro z; cases z)) (ne_of e u4 (by intro z; cases z)) e
    have hb5 := k5t _ _ (s14 _ _ hb)
    have hP5 := (hP.tups s14.tups).tups k5t
    obtain ⟨z, hz⟩ : ∃ z, bk.getLast? = some z := by
      cases e : bk.getLast? with
      | some z => exact ⟨z, rfl⟩
      | none => rw [List.getLast?_eq_none_iff] at e; rw [e] at h1; simp at h1
    have hzi : bk[bk.length - 1]? = some z := by rw [← List.getLast?_eq_getElem?]; exact hz
    obtain ⟨pz, hpz⟩ : ∃ pz, ps.getLast? = some pz := by
      cases e : ps.getLast? with
      | some z => exact ⟨z, rfl⟩
      | none => rw [List.getLast?_eq_none_iff] at e; rw [e] at hpl; simp at hpl; omega
    have hpzi : ps[bk.length - 1]? = some pz := by rw [← hpl, ← List.getLast?_eq_getElem?]; exact hpz
    obtain ⟨rz, hpz5, _⟩ := hP5.2 _ _ _ hpzi hzi
    have hzm : z.name ∈ bk.map (·.name) := List.mem_map.mpr ⟨z, List.mem_of_getElem? hzi, rfl⟩
    obtain ⟨kr, hkr1, hkr2, hkr3⟩ := id hRw
    obtain ⟨lh, ah, g1, g2, g3⟩ := hkr3 z.name hzm
    have hcz : cntN bk z.name = 0 := by
      have := hTr
      rw [isTree_last hz, Bool.and_eq_true] at this
      exact of_decide_eq_true this.1
    have hzf : z.name ∈ freeN bk bk.length := by
      unfold freeN
      rw [List.take_length]
      exact List.mem_filter.mpr ⟨hzm, decide_eq_true (List.count_eq_zero.mp hcz)⟩
    have hwz : (flatN (R z.name)).length ≤ 24 := by
      have := sumW_mem (wt := fun y => (flatN (R y)).length) hzf
      have this : (flatN (R z.name)).length ≤ sumW (fun y => (flatN (R y)).length) (freeN bk bk.length) := this
      omega
    have hzo := hRo z.name hzm
    have hzn := hRn z.name hzm
    obtain ⟨hs, hhs⟩ : ∃ hs, R z.name = hs := ⟨_, rfl⟩
    rw [hhs] at g3 hwz hzo hzn
    have hhl : hs.length ≤ 24 := Nat.le_trans (flat_len hzo) hwz
    refine ⟨_, rfl, _, rfl, _, rfl, b, _, _, _, rfl, rfl, SqT.of hb5, at_last' (by rw [List.getLast?_map, hpz]; rfl), pz, _, _, _, rfl, rfl, SqT.of hpz5, rfl, dr, _, rfl, dgetS hkr1 g1, ?_⟩
    refine at_seq [some (.ref b), some (.ref ds), some (.ref dn), some (.ref dr), v4, some (.ref lh), none, none, none, none, none, none, none, none, none, none] ?_
    refine ⟨lit 0, fun ld hld => ?_⟩
    refine at_seq [some (.ref b), some (.ref ds), some (.ref dn), some (.ref dr), v4, some (.ref lh), some (.ref ld), none, none, none, none, none, none, none, none, none] ?_
    have s6 : Same H5 (upd H5 ld (.lst [])) := Same.new hld
    have u6 : (upd H5 ld (.lst [])) ld = some (.lst []) := upd_same
    have hldT : ld ≠ T := by
      obtain ⟨tp, hP0, _⟩ := hT5
      exact (ne_of_none hP0 hld).symm
    have hT6 := hT5.same s6
    generalize upd H5 ld (.lst []) = H6 at s6 u6 hT6
    have g26 := s6 _ _ g2
    have g36 := g3.same s6
    -- the names in their order
    refine ⟨_, rfl, lh, rfl, ⟨_, SqL.of g26⟩, fun Dn hDn => ?_⟩
    refine lc2_list (K := K) (a := lh) (xs := ah.map V.ref) (fun i H7 => H7 = upd H6 Dn (.lst ((flatN (hs.take i)).map V.str))) rfl ?_ ?_ ?_
    · rintro i H7 _ rfl
      exact SqL.of (Same.new hDn _ _ g26)
    · rintro i v H7 hi rfl
      obtain ⟨a, x, rfl, hx, n, e1, e2⟩ := g36.get hi
      have hnD : n ≠ Dn := ne_of_none e2 hDn
      have efl : flatN (hs.take (i + 1)) = flatN (hs.take i) ++ x.ns := by
        unfold flatN
        rw [List.take_add_one, hx, List.flatMap_append]
        simp
      have elen : (flatN (hs.take i)).length + x.ns.length ≤ 24 := by
        have e0 : flatN hs = flatN (hs.take (i + 1)) ++ flatN (hs.drop (i + 1)) := by
          unfold flatN
          rw [← List.flatMap_append, List.take_append_drop]
        have := congrArg List.length e0
        rw [List.length_append, efl, List.length_append] at this
        omega
      refine ⟨a, _, rfl, SqT.of (Same.new hDn _ _ e1), rfl, _, _, rfl, _, _, rfl, _, _, rfl, rfl, ?_⟩
      refine ⟨_, rfl, n, rfl, ⟨_, SqL.of (Same.new hDn _ _ e2)⟩, in_list (K := K) (a := n) (xs := x.ns.map V.str) (fun j σ H8 => ∃ v8 : Option V, σ = [some (.ref b), some (.ref ds), some (.ref dn), some (.ref dr), v4, some (.ref lh), some (.ref ld), none, v8, none, none, none, some (.int x.h), some (.int x.v), some (.ref n), none] ∧ H8 = upd H6 Dn (.lst ((flatN (hs.take i) ++ x.ns.take j).map V.str))) ⟨none, rfl, by rw [List.take_zero, List.append_nil]⟩ ?_ ?_ ?_⟩
      · rintro j σ H8 _ ⟨_, _, rfl⟩
        exact SqL.of (by rw [upd_ne hnD]; exact e2)
      · rintro j v σ H8 hj ⟨v8, rfl, rfl⟩
        obtain ⟨y, hy, rfl⟩ := get_map hj
        refine ⟨_, rfl, _, upd_same, ?_, _, rfl, ?_⟩
        · rw [List.length_map, List.length_append, List.length_take]
          exact small1000 (by omega)
        · rw [upd_upd, List.take_add_one, hy, ← List.append_assoc, List.map_append (l₂ := Option.toList (some y))]
          rfl
      · rintro σ H8 ⟨v8, rfl, rfl⟩
        refine ⟨rfl, ?_⟩
        rw [List.length_map, List.take_length, efl]
    rintro H7 rfl
    rw [List.length_map, g36.1, List.take_length]
    have s7 : Same H6 (upd H6 Dn (.lst ((flatN hs).map V.str))) := Same.new hDn
    have u7 : (upd H6 Dn (.lst ((flatN hs).map V.str))) Dn = some (.lst ((flatN hs).map V.str)) := upd_same
    have hDl : ld ≠ Dn := ne_of_none u6 hDn
    have hT7 := hT6.same s7
    generalize upd H6 Dn (.lst ((flatN hs).map V.str)) = H7 at s7 u7 hT7
    have hDT : Dn ≠ T := by
      obtain ⟨tp, hP0, _⟩ := hT7
      exact ne_of u7 hP0 (by intro z; cases z)
    -- the deeds
    have hdn7 : H7 dn = some (.dK kn) := by
      have e4 := s4 _ _ hkn1
      obtain ⟨tp, hP0, _⟩ := hT4
      exact s7 _ _ (s6 _ _ (k5 _ _ (ne_of e4 hP0 (by intro z; cases z)) (ne_of_none hkn1 hdr) e4))
    have hkt : ∀ y ∈ flatN hs, ∃ q : Addr, valV kn (Sum.inr y : Key) = some (.ref q) ∧ H7 q = some (.tup ((nmOf bk y).map V.str)) ∧ (nmOf bk y).length ≤ 4 := fun y hy => by
      have := hzn.2 y hy
      rw [← List.take_length (l := bk)] at this
      obtain ⟨j, c, hj, hc, rfl⟩ := mem_take_at this
      obtain ⟨q5, e1, e2⟩ := hkn3 j c (by omega) hc
      have en : nmOf bk c.name = c.how.names := by unfold nmOf; rw [part_is hO.nd (List.mem_of_getElem? hc)]
      rw [en]
      exact ⟨q5, e1, s7 _ _ (s6 _ _ (k5t _ _ (s4 _ _ e2))), names4 (hO.how j c hc)⟩
    have b17 : But T H H7 := by
      intro c o hc e
      have e1 := s14 _ _ (hS1 _ _ e)
      refine s7 _ _ (s6 _ _ (k5 _ _ hc (fun z => ?_) e1))
      rw [z] at e
      rw [hS1 _ _ e] at hdr1
      cases hdr1
    have hld0 : H ld = none := by
      cases e : H ld with
      | none => rfl
      | some o =>
        have e1 := s14 _ _ (hS1 _ _ e)
        by_cases hq : ld = dr
        · rw [hq] at e
          rw [hS1 _ _ e] at hdr1
          cases hdr1
        · rw [k5 _ _ hldT hq e1] at hld
          cases hld
    refine ⟨Dn, rfl, ⟨_, SqL.of u7⟩, for_list (K := K) (a := Dn) (xs := (flatN hs).map V.str) (fun i σ H8 => ∃ (v7 : Option V) (das : List Addr), σ = [some (.ref b), some (.ref ds), some (.ref dn), some (.ref dr), v4, some (.ref lh), some (.ref ld), v7, none, none, none, none, none, none, none, none] ∧ But ld H7 H8 ∧ H8 ld = some (.lst (das.map V.ref)) ∧ das.length ≤ 5 * i ∧ DsAt H8 das (deedsOf bk ((flatN hs).take i))) ⟨_, [], rfl, But.refl _ _, s7 _ _ u6, Nat.le_refl _, DsAt.nil⟩ ?_ ?_ ?_⟩
    · rintro i σ H8 _ ⟨_, _, _, b8, _⟩
      exact SqL.of (b8 _ _ hDl.symm u7)
    · rintro i v σ H8 hi ⟨v7, das, rfl, b8, hl8, hx8, hd8⟩
      obtain ⟨y, hy, rfl⟩ := get_map hi
      have hi24 := (List.getElem?_eq_some_iff.mp hy).1
      obtain ⟨qy, e1, e2, hns4⟩ := hkt y (List.mem_of_getElem? hy)
      refine ⟨_, rfl, .inl ⟨rfl, _, SqL.of hl8⟩, _, rfl, lit 2, fun p9 hp9 => ?_⟩
      have s9 : Same H8 (upd H8 p9 (.tup [.str "make", .str y])) := Same.new hp9
      have u9 : (upd H8 p9 (.tup [.str "make", .str y])) p9 = some (.tup [.str "make", .str y]) := upd_same
      generalize upd H8 p9 (.tup [.str "make", .str y]) = H9 at s9 u9
      refine ⟨ld, das.map V.ref, _, rfl, rfl, s9 _ _ hl8, small1000 (by rw [List.length_map]; omega), ?_⟩
      have e10 : das.map V.ref ++ [V.ref p9] = (das ++ [p9]).map V.ref := by rw [List.map_append]; rfl
      rw [e10]
      have hl9 := s9 _ _ hl8
      have b9' : But ld H9 (upd H9 ld (.lst ((das ++ [p9]).map V.ref))) := But.upd _ _ _
      have b10 : But ld H7 (upd H9 ld (.lst ((das ++ [p9]).map V.ref))) := (b8.trans (Same.but s9)).trans b9'
      have u10 : (upd H9 ld (.lst ((das ++ [p9]).map V.ref))) ld = some (.lst ((das ++ [p9]).map V.ref)) := upd_same
      have t10 : Tups H9 (upd H9 ld (.lst ((das ++ [p9]).map V.ref))) := fun c zs e => by rw [upd_ne (ne_of e hl9 (by intro z; cases z))]; exact e
      have d10 : DsAt (upd H9 ld (.lst ((das ++ [p9]).map V.ref))) (das ++ [p9]) (deedsOf bk ((flatN hs).take i) ++ [(("make" : Str), y)]) := ((hd8.tups s9.tups).app (DsAt.one u9)).tups t10
      generalize upd H9 ld (.lst ((das ++ [p9]).map V.ref)) = H10 at b10 u10 d10
      have hldd : dn ≠ ld := (ne_of (s6 _ _ (k5 _ _ (by obtain ⟨tp, hP0, _⟩ := hT4; exact ne_of (s4 _ _ hkn1) hP0 (by intro z; cases z)) (ne_of_none hkn1 hdr) (s4 _ _ hkn1))) u6 (by intro z; cases z))
      have hqld : qy ≠ ld := ne_of e2 (s7 _ _ u6) (by intro z; cases z)
      refine ⟨_, rfl, .inl ⟨rfl, _, SqL.of u10⟩, _, rfl, _, rfl, dn, _, rfl, dgetS (b10 _ _ hldd hdn7) e1, qy, rfl, ⟨_, SqT.of (b10 _ _ hqld e2)⟩, fun D11 hD11 => ?_⟩
      refine lc_tup (K := K) (a := qy) (xs := (nmOf bk y).map V.str) (fun j H11 => ∃ zs : List Addr, Same H10 H11 ∧ H11 D11 = some (.lst (zs.map V.ref)) ∧ zs.length = j ∧ DsAt H11 zs (((nmOf bk y).take j).map fun y => (("drop" : Str), y))) ⟨[], Same.new hD11, upd_same, rfl, DsAt.nil⟩ ?_ ?_ ?_
      · rintro j H11 _ ⟨_, s11, _⟩
        exact SqT.of (s11 _ _ (b10 _ _ hqld e2))
      · rintro j v H11 hj ⟨zs, s11, u11, hzs, d11⟩
        obtain ⟨u, hu', rfl⟩ := get_map hj
        have hj4 := (List.getElem?_eq_some_iff.mp hu').1
        refine ⟨rfl, yes ?_⟩
        refine ⟨_, rfl, lit 2, fun p12 hp12 => ⟨_, Same.new hp12 _ _ u11, small1000 (by rw [List.length_map]; omega), zs ++ [p12], (s11.trans (Same.new hp12)).own hD11, by rw [upd_same, List.map_append]; rfl, by rw [List.length_append, hzs]; rfl, ?_⟩⟩
        have s12 : Same H11 (upd H11 p12 (.tup [.str "drop", .str u])) := Same.new hp12
        have u12 : (upd H11 p12 (.tup [.str "drop", .str u])) p12 = some (.tup [.str "drop", .str u]) := upd_same
        have u12d := s12 _ _ u11
        generalize upd H11 p12 (.tup [.str "drop", .str u]) = H12 at s12 u12 u12d
        have t12 : ∀ xs, Tups H12 (upd H12 D11 (.lst xs)) := fun xs c zs e => by rw [upd_ne (ne_of e u12d (by intro z; cases z))]; exact e
        rw [List.take_add_one, hu', List.map_append]
        exact ((d11.tups s12.tups).app (DsAt.one (d := ("drop", u)) u12)).tups (t12 _)
      rintro H11 ⟨zs, s11, u11, hzs, d11⟩
      rw [List.length_map] at hzs d11
      rw [List.take_length] at d11
      have hl11 := s11 _ _ u10
      have t13 : ∀ xs, Tups H11 (upd H11 ld (.lst xs)) := fun xs c zs e => by rw [upd_ne (ne_of e hl11 (by intro z; cases z))]; exact e
      refine ⟨ld, D11, _, zs.map V.ref, rfl, rfl, hl11, u11, by rw [List.length_map, List.length_map, List.length_append]; exact Nat.le_of_lt (small1000 (by show das.length + 1 + zs.length ≤ 1000; omega)), ?_⟩
      refine ⟨_, das ++ [p9] ++ zs, rfl, (b10.trans (Same.but s11)).trans (But.upd _ _ _), by rw [upd_same, ← List.map_append], ?_, ?_⟩
      · rw [List.length_append, List.length_append]
        show das.length + 1 + zs.length ≤ 5 * (i + 1)
        omega
      · rw [List.take_add_one, hy]
        show DsAt _ _ (deedsOf bk ((flatN hs).take i ++ [y]))
        rw [deedsOf_snoc, show ((("make" : Str), y) :: (nmOf bk y).map fun y => (("drop" : Str), y)) = [(("make" : Str), y)] ++ (nmOf bk y).map fun y => (("drop" : Str), y) from rfl, ← List.append_assoc]
        exact ((d10.tups s11.tups).app d11).tups (t13 _)
    rintro σ H8 ⟨v7, das, rfl, b8, hl8, _, hd8⟩
    rw [List.length_map, List.take_length] at hd8
    have hlhl : lh ≠ ld := ne_of_none g2 hld
    have g28 := b8 _ _ hlhl (s7 _ _ g26)
    have g37 := g36.same s7
    have hb8' : ∀ (i : Nat) (a : Addr) (x : Hill), ah[i]? = some a → hs[i]? = some x → ∃ n, H8 a = some (.tup [.int x.h, .int x.v, .ref n]) := fun i a x h1 h2 => by
      obtain ⟨n, e1, e2⟩ := g37.2 i a x h1 h2
      exact ⟨n, b8 _ _ (ne_of e1 (s7 _ _ u6) (by intro z; cases z)) e1⟩
    refine ⟨_, rfl, lh, rfl, ⟨_, SqL.of g28⟩, fun Dm hDm => ?_⟩
    refine lc_list (K := K) (a := lh) (xs := ah.map V.ref) (fun i H9 => H9 = upd H8 Dm (.lst (((hs.take i).map (·.h)).map V.int))) rfl ?_ ?_ ?_
    · rintro i H9 _ rfl
      exact SqL.of (Same.new hDm _ _ g28)
    · rintro i v H9 hi rfl
      obtain ⟨a, x, rfl, hx, _⟩ := g37.get hi
      obtain ⟨a', ha', e'⟩ := get_map hi
      cases e'
      obtain ⟨n, e1⟩ := hb8' i a x ha' hx
      refine ⟨a, _, rfl, SqT.of (Same.new hDm _ _ e1), rfl, _, _, rfl, _, _, rfl, _, _, rfl, rfl, rfl, yes ?_⟩
      refine ⟨_, rfl, _, upd_same, ?_, ?_⟩
      · rw [List.length_map, List.length_map, List.length_take]
        exact small1000 (by omega)
      · rw [upd_upd, List.take_add_one, hx, List.map_append, List.map_append]
        rfl
    rintro H9 rfl
    rw [List.length_map, g37.1, List.take_length]
    have s9 : Same H8 (upd H8 Dm (.lst ((hs.map (·.h)).map V.int))) := Same.new hDm
    have u9 : (upd H8 Dm (.lst ((hs.map (·.h)).map V.int))) Dm = some (.lst ((hs.map (·.h)).map V.int)) := upd_same
    generalize upd H8 Dm (.lst ((hs.map (·.h)).map V.int)) = H9 at s9 u9
    have hpos : 0 < (hs.map (·.h)).length := by
      rw [List.length_map]
      cases hs with
      | nil => exact absurd rfl hzn.1
      | cons _ _ => simp
    refine ⟨Dm, hs.map (·.h), rfl, SqL.of u9, hpos, fun m hm1 hm2 => ⟨_, rfl, lit 2, fun pr hpr => ?_⟩⟩
    have s10 : Same H9 (upd H9 pr (.tup [.int m, .ref ld])) := Same.new hpr
    have u10 : (upd H9 pr (.tup [.int m, .ref ld])) pr = some (.tup [.int m, .ref ld]) := upd_same
    have hT8 : Tab H8 T := hT7.but b8 hldT.symm (fun c hc z => by
      rw [z, s7 _ _ u6] at hc
      cases hc)
    refine q pr ld das R z m _ (fun c o hc e => ?_) ((hT8.same s9).same s10) hRel hz ?_ u10 (s10 _ _ (s9 _ _ hl8)) (by rw [hhs]; exact (hd8.tups s9.tups).tups s10.tups)
    · exact s10 _ _ (s9 _ _ (b8 _ _ (ne_of_none e hld0) (b17 _ _ hc e)))
    · rw [hhs]
      exact ⟨hm1, hm2⟩
end

end Hs
namespace Hs
open PySem PySem.Spec PyProof.Rows L2
/-! ### things of any kind -/
inductive Th where
  | non | bl (b : Bool) | int (i : Int) | str (x : Str) | lst | dct | tup (ts : List Th)
mutual
inductive ThAt (H : Hp) : V → Th → Prop
  | non : ThAt H .non .non
  | bl (b : Bool) : ThAt H (.bl b) (.bl b)
  | int (i : Int) : ThAt H (.int i) (.int i)
  | str (x : Str) (hx : x.length ≤ 100) : ThAt H (.str x) (.str x)
  | lst {a : Addr} {xs : List V} : H a = some (.lst xs) → ThAt H (.ref a) .lst
  | dct {a : Addr} {kvs : List (Key × V)} : H a = some (.dK kvs) → ThAt H (.ref a) .dct
  | tup {a : Addr} {xs : List V} {ts : List Th} (hl : xs.length ≤ 100) : H a = some (.tup xs) → ThAll H xs ts → ThAt H (.ref a) (.tup ts)
inductive ThAll (H : Hp) : List V → List Th → Prop
  | nil : ThAll H [] []
  | cons {v : V} {vs : List V} {t : Th} {ts : List Th} : ThAt H v t → ThAll H vs ts → ThAll H (v :: vs) (t :: ts)
end
/-- which kind it is -/
def kindT (T : String) : Th → Bool
  | .bl _ => T == "bool" || T == "int"
  | .int _ => T == "int"
  | .str _ => T == "str"
  | .tup _ => T == "tuple"
  | _ => false
section
variable {X : Cx}
theorem cr_isiG : CallR X (.builtin "isinstance") (fun xs H Q => ∃ x T t, xs = [x, .ty T] ∧ (T = "bool" ∨ T = "int" ∨ T = "str" ∨ T = "tuple") ∧ ThAt H x t ∧ Q (.bl (kindT T t)) H) := by
  intro pins s σ H xs us Q I r h
  obtain ⟨x, T, t, rfl, hT, ht, q⟩ := h
  obtain ⟨u1, u2, rfl, r1, r2⟩ := vals2 r
  cases r2
  have yes : ∀ {b : Bool}, kindT T t = b → EP X pins σ Q (.bool b) s := fun {b} e => ⟨.bl b, H, I, rfl, by rw [← e]; exact q⟩
  have no : ∀ {b : Bool}, kindT T t = b → EP X pins σ Q (.bool b) { s with toks := s.toks + 1 } := fun {b} e => ⟨.bl b, H, I.tok _, rfl, by rw [← e]; exact q⟩
  cases ht with
  | non =>
    cases r1
    rcases hT with rfl | rfl | rfl | rfl
    · exact IsiPair.NoneType_bool (no rfl)
    · exact IsiPair.NoneType_int (no rfl)
    · exact IsiPair.NoneType_str (no rfl)
    · exact IsiPair.NoneType_tuple (no rfl)
  | bl b =>
    cases r1
    rcases hT with rfl | rfl | rfl | rfl
    · exact IsiPair.bool_bool (yes rfl)
    · exact IsiPair.bool_int (yes rfl)
    · exact IsiPair.bool_str (no rfl)
    · exact IsiPair.bool_tuple (no rfl)
  | int i =>
    obtain ⟨t, rfl⟩ := r1
    rcases hT with rfl | rfl | rfl | rfl
    · exact IsiPair.int_bool (no rfl)
    · exact IsiPair.int_int (yes rfl)
    · exact IsiPair.int_str (no rfl)
    · exact IsiPair.int_tuple (no rfl)
  | str x hx =>
    obtain ⟨t, rfl⟩ := r1
    rcases hT with rfl | rfl | rfl | rfl
    · exact IsiPair.str_bool (no rfl)
    · exact IsiPair.str_int (no rfl)
    · exact IsiPair.str_str (yes rfl)
    · exact IsiPair.str_tuple (no rfl)
  | lst e =>
    cases r1
    obtain ⟨_, its, n, _, ho⟩ := I.hok _ _ e
    rcases hT with rfl | rfl | rfl | rfl
    · exact IsiPair.list_bool ho rfl (no rfl)
    · exact IsiPair.list_int ho rfl (no rfl)
    · exact IsiPair.list_str ho rfl (no rfl)
    · exact IsiPair.list_tuple ho rfl (no rfl)
  | dct e =>
    cases r1
    obtain ⟨_, _, _, _, o, _, _, ho, ex, _⟩ := dk_of I.hok e
    rcases hT with rfl | rfl | rfl | rfl
    · exact IsiPair.dict_bool ho ex.1 (no rfl)
    · exact IsiPair.dict_int ho ex.1 (no rfl)
    · exact IsiPair.dict_str ho ex.1 (no rfl)
    · exact IsiPair.dict_tuple ho ex.1 (no rfl)
  | @tup a ys ts _ e _ =>
    cases r1
    obtain ⟨_, its, _, o, ho, hc, n, hd⟩ := (show ObjOk X.prog X.w H s.heap a (.tup ys) from I.hok a _ e)
    rcases hT with rfl | rfl | rfl | rfl
    · exact IsiPair.tuple_bool ho hc (no rfl)
    · exact IsiPair.tuple_int ho hc (no rfl)
    · exact IsiPair.tuple_str ho hc (no rfl)
    · exact IsiPair.tuple_tuple ho hc (yes rfl)
end
/-! ### a thing and a text -/
section
variable {A : Around} {s : Shared}
end
section
variable {X : Cx}
end
end Hs

namespace Hs
open PySem PySem.Spec PyProof.Rows L2
theorem lt_line {n : Nat} (h : n ≤ 100000) : n < sizeLine := by
  rw [sizeLine_eq]
  omega
/-! ### dicts whose keys are data (tuples of tuples of texts): looking up, asking, storing -/
section
variable {X : Cx} {pins : List (Addr × Obj)} {σ : L2.St} {H : Hp} {s : Shared}
end
section
variable {X : Cx} {a b e i o : Expr} {ta tb te td ty tv : TE} {pos pos' : Pos}
end
end Hs

namespace Hs
open PySem PySem.Spec PyProof.Rows L2
theorem take_snoc {α : Type} {l : List α} {i : Nat} {a : α} (h : l[i]? = some a) : l.take (i + 1) = l.take i ++ [a] := by
  rw [List.take_add_one, h]
  rfl
theorem parts_get {H : Hp} {ps : List Addr} {bk : Book} (h : PartsAt H ps bk) {x : Str} (hx : x ∈ bk.map (·.name)) : ∃ p a, valV (kvP bk ps) (Sum.inr x : Key) = some (.ref p) ∧ partOf bk x = some a ∧ PartAt H p a ∧ ∃ i : Nat, bk[i]? = some a := by
  obtain ⟨i, a, p, h1, h2, h3, h4, h5⟩ := kvP_val h.1 hx
  exact ⟨p, a, h5, h4, h.2 i p a h2 h1, i, h1⟩
theorem below_closed {bk : Book} (h : BookOk bk) {xs : List Str} {x y : Str} (hx : x ∈ bOf bk xs) (hy : y ∈ nmOf bk x) : y ∈ bOf bk xs := by
  obtain ⟨hb, ha⟩ := List.mem_filter.mp hx
  have ha := of_decide_eq_true ha
  obtain ⟨a, ham, rfl⟩ := List.mem_map.mp hb
  obtain ⟨i, hi⟩ := List.getElem?_of_mem ham
  have e : nmOf bk a.name = a.how.names := by unfold nmOf; rw [part_is h.nd ham]
  rw [e] at hy
  have hyb : y ∈ bk.map (·.name) := by
    have hr := h.how i a hi
    cases eh : a.how with
    | leaf n => rw [eh] at hy; simp [Rec.names] at hy
    | op wd us =>
      rw [eh] at hy hr
      have := hr.2 y hy
      obtain ⟨c, hc, e⟩ := List.mem_map.mp this
      exact List.mem_map.mpr ⟨c, List.mem_of_mem_take hc, e⟩
  exact List.mem_filter.mpr ⟨hyb, decide_eq_true (bAcc_needs h hi ha hy)⟩
theorem below_asked {bk : Book} {xs : List Str} {x : Str} (hb : x ∈ bk.map (·.name)) (h : x ∈ xs) : x ∈ bOf bk xs := List.mem_filter.mpr ⟨hb, decide_eq_true (bAcc_asked h)⟩
theorem perm_sum {a b : List Int} (h : a.Perm b) : a.sum = b.sum := by
  induction h with
  | nil => rfl
  | cons x _ ih => rw [List.sum_cons, List.sum_cons, ih]
  | swap x y l => rw [List.sum_cons, List.sum_cons, List.sum_cons, List.sum_cons]; omega
  | trans _ _ h1 h2 => exact h1.trans h2
theorem load_perm {bk : Book} {a b : List Str} (ha : a.Nodup) (hb : b.Nodup) (h : ∀ x, x ∈ a ↔ x ∈ b) : loadS bk a = loadS bk b := by
  have hp : a.Perm b := (List.perm_ext_iff_of_nodup ha hb).mpr h
  unfold loadS
  exact perm_sum (hp.map _)
theorem word_make : WordOk "make" := ⟨by decide +kernel, by decide +kernel, by decide +kernel⟩
theorem word_drop : WordOk "drop" := ⟨by decide +kernel, by decide +kernel, by decide +kernel⟩
/-! ### deeds that can be done -/
def spOk (bk : Book) (room : Int) : List Str → List (Str × Str) → Prop
  | _, [] => True
  | h, d :: r => d.2 ∈ bk.map (·.name) ∧ ((d.1 = "drop" ∧ d.2 ∈ h ∧ spOk bk room (h.erase d.2) r) ∨ (d.1 = "make" ∧ d.2 ∉ h ∧ (∀ y ∈ nmOf bk d.2, y ∈ h ++ [d.2]) ∧ loadS bk (h ++ [d.2]) ≤ room ∧ spOk bk room (h ++ [d.2]) r))
def mkOf (ds : List (Str × Str)) : List Str := (ds.filter fun (d : Str × Str) => decide (d.1 = ("make" : Str))).map (·.2)
theorem mkOf_app (a b : List (Str × Str)) : mkOf (a ++ b) = mkOf a ++ mkOf b := by
  unfold mkOf
  rw [List.filter_append, List.map_append]
theorem mkOf_len (ds : List (Str × Str)) : (mkOf ds).length ≤ ds.length := by
  unfold mkOf
  rw [List.length_map]
  exact List.length_filter_le _ _
theorem first_at {h : List Str} {n : Str} (hn : n ∈ h) : ∃ j : Nat, h[j]? = some n ∧ (∀ (i : Nat) (z : Str), i < j → h[i]? = some z → z ≠ n) ∧ h.eraseIdx j = h.erase n := by
  induction h with
  | nil => cases hn
  | cons x h ih =>
    by_cases e : x = n
    · subst e
      exact ⟨0, rfl, fun i z hi => absurd hi (Nat.not_lt_zero i), by simp⟩
    · have hm : n ∈ h := by
        rcases List.mem_cons.mp hn with g | g
        · exact absurd g.symm e
        · exact g
      obtain ⟨j, h1, h2, h3⟩ := ih hm
      refine ⟨j + 1, by simpa using h1, fun i z hi hz => ?_, ?_⟩
      · cases i with
        | zero =>
          have : x = z := Option.some.inj hz
          rw [← this]
          exact e
        | succ i => exact h2 i z (by omega) (by simpa using hz)
      · rw [List.erase_cons_tail (by simpa using e), List.eraseIdx_cons_succ, h3]
theorem spOk_sub {bk : Book} {room : Int} : ∀ {ds : List (Str × Str)} {h : List Str}, spOk bk room h ds → ∀ y ∈ mkOf ds, y ∈ bk.map (·.name)
  | [], _, _ => by simp [mkOf]
  | d :: ds, h, hok => by
    obtain ⟨hn, hc⟩ := hok
    have rest : ∀ y ∈ mkOf ds, y ∈ bk.map (·.name) := by
      rcases hc with ⟨_, _, hr⟩ | ⟨_, _, _, _, hr⟩ <;> exact spOk_sub hr
    intro y hy
    unfold mkOf at hy
    by_cases c : d.1 = ("make" : Str)
    · rw [List.filter_cons_of_pos (by simpa using c), List.map_cons] at hy
      rcases List.mem_cons.mp hy with e | hy
      · rw [e]; exact hn
      · exact rest y hy
    · rw [List.filter_cons_of_neg (by simpa using c)] at hy
      exact rest y hy
section
variable {P : Program} {w : World} {K : PySem.W.Frag} {mg : Str → Option Value} {base : Heap}
/-! ### _law_spent -/
abbrev nSpent : List Str := ["book", "room", "deeds", "parts", "held", "made", "deed", "name"]
def spSpent : Sp := fun vs H Q _ => ∃ (b dl : Addr) (as : List Addr) (bk : Book) (ds : List (Str × Str)) (room : Int), vs = [.ref b, .int room, .ref dl] ∧ BookAt H b bk ∧ BookOk bk ∧ bk.length ≤ 24 ∧ H dl = some (.lst (as.map V.ref)) ∧ DsAt H as ds ∧ as.length ≤ 2000 ∧ (∃ r0 : Int, spOk bk r0 [] ds) ∧ (∀ d ∈ ds, WordOk d.1 ∧ WordOk d.2) ∧
  (spOk bk room [] ds → ∀ (r ml : Addr) (c : Int) (H' : Hp), Same H H' → H' r = some (.tup [.ref ml, .int c]) → H' ml = some (.lst ((mkOf ds).map V.str)) → c = ((mkOf ds).map (csOf bk)).sum → Q (.ref r) H') ∧ (¬ spOk bk room [] ds → ∀ H', Same H H' → Q .non H')
theorem sc_spent : FnScope nSpent ["book", "room", "deeds"] (defScope s_law_spent) := ⟨rfl, rfl, rfl, by decide +kernel, rfl, by decide +kernel, by decide +kernel⟩
set_option maxHeartbeats 2400000 in
theorem c_spent (B : Blt mg) (D : Dfn K mg "_law_spent" s_law_spent) (Cp : Cal P w K mg base 1 "_law_parts" ["book"] spPartsT) (Cn : Cal P w K mg base 1 "_law_needs" ["part"] spNeeds) : Cal P w K mg base 2 "_law_spent" ["book", "room", "deeds"] spSpent := by
  refine D.cal (fun _ _ _ _ _ _ us hl => match us, hl with | [_, _, _], _ => rfl) fun f fd F => F.ok sc_spent (fun vs H Q E h => ?_) (fun cdv A outer s H vs Q E hr h => ?_)
  · obtain ⟨b, l, _, _, _, _, rfl, _⟩ := h
    rfl
  · obtain ⟨b, dl, as, bk, ds, room, rfl, hb, hO, hbl, hdl, hDs, hal, ⟨rg, hok⟩, hwd, q, qn⟩ := h
    have nd := sc_spent.nd
    have hu := hu_of hr
    refine ex_pss ((bs_c (bs_set 3 nd (b_cal Cp hr (ba_c (b_v 0) ba_nil)))
      (bs_c (bs_set 4 nd (b_lst ba_nil))
      (bs_c (bs_set 5 nd (b_lst ba_nil))
      (bs_c (bs_if (bt_not (bt_val (b_callB cr_isi B.isinstance (ba_c (b_v 2) (ba_c (b_ty (T := "list") B.list) ba_nil))))) (bs_one (bs_ret b_non)) bs_nil)
      (bs_c (bs_for (bi_list (b_v 2)) (bg_n 6 nd) (bs_c (bs_if (bt_w (bw_or (bt_not (bt_val (b_callB cr_isiG B.isinstance (ba_c (b_v 6) (ba_c (b_ty (T := "tuple") B.tuple) ba_nil))))) (bw_or (bt_cmpR op_ne (b_callB call_len_seq B.len (ba_c (b_v 6) ba_nil)) b_int (nomark _)) (bw_or1 (bt_dnotin hu (b_ix ix_tup (b_v 6) b_int) (b_v 3)))))) (bs_one (bs_ret b_non)) bs_nil)
      (bs_one (bs_if (bt_w (bw_and (bt_cmpR op_eq (b_ix ix_tup (b_v 6) b_int) b_str (nomark _)) (bw_and1 (bt_cmpR op_in_seq (b_ix ix_tup (b_v 6) b_int) (b_v 4) (by rfl))))) (bs_one (bs_expr (b_remove (b_v 4) (ba_c (b_ix ix_tup (b_v 6) b_int) ba_nil)))) (bs_one (bs_if (bt_w (bw_and (bt_cmpR op_eq (b_ix ix_tup (b_v 6) b_int) b_str (nomark _)) (bw_and1 (bt_cmpR op_notIn_seq (b_ix ix_tup (b_v 6) b_int) (b_v 4) (by rfl))))) (bs_c (bs_expr (b_append (b_v 4) (ba_c (b_ix ix_tup (b_v 6) b_int) ba_nil)))
      (bs_c (bs_expr (b_append (b_v 5) (ba_c (b_ix ix_tup (b_v 6) b_int) ba_nil)))
      (bs_c (bs_if (bt_not (bt_val (b_callB (cr_all rfl) B.all (ba_c (b_c 7 nSpent (defScope s_law_spent) nd (bi_list (b_cal Cn hr (ba_c (b_dget hu (b_v 3) (b_ix ix_tup (b_v 6) b_int)) ba_nil))) (fun _ _ _ _ _ => bts_nil) (fun _ _ _ _ _ => (b_cmpR (r := rIn K false) op_in_seq (b_v 7) (b_v 4) (by rfl))) (fun _ _ _ _ _ => (bg_n 7 nd))) ba_nil)))) (bs_one (bs_ret b_non)) bs_nil)
      (bs_one (bs_if (bt_cmpR op_gt (b_callB (cr_sum rfl) B.sum (ba_c (b_c 7 nSpent (defScope s_law_spent) nd (bi_list (b_v 4)) (fun _ _ _ _ _ => bts_nil) (fun _ _ _ _ _ => (b_ix (r := rIxT K) ix_tup (b_dget hu (b_v 3) (b_v 7)) b_int)) (fun _ _ _ _ _ => (bg_n 7 nd))) ba_nil)) (b_v 1) (nomark _)) (bs_one (bs_ret b_non)) bs_nil))))) (bs_one (bs_ret b_non))))))))
      (bs_one (bs_ret (b_tup (ba_c (b_v 5) (ba_c (b_callB (cr_sum rfl) B.sum (ba_c (b_c 7 nSpent (defScope s_law_spent) nd (bi_list (b_v 5)) (fun _ _ _ _ _ => bts_nil) (fun _ _ _ _ _ => (b_ix (r := rIxT K) ix_tup (b_dget hu (b_v 3) (b_v 7)) b_int)) (fun _ _ _ _ _ => (bg_n 7 nd))) ba_nil)) ba_nil))))))))))) ?_
    obtain ⟨ps, hb0, hP⟩ := id hb
    refine ⟨_, rfl, b, ps, bk, rfl, hb0, hP, hO, hbl, fun pd H1 hpd0 hS1 hpd => ?_⟩
    refine at_seq [some (.ref b), some (.int room), some (.ref dl), some (.ref pd), none, none, none, none] ?_
    refine ⟨lit 0, fun hl hhl => ?_⟩
    have s2 : Same H1 (upd H1 hl (.lst [])) := Same.new hhl
    have hh2 : (upd H1 hl (.lst [])) hl = some (.lst (([] : List Str).map V.str)) := upd_same
    have fhl : H hl = none := hS1.free hhl
    refine at_seq [some (.ref b), some (.int room), some (.ref dl), some (.ref pd), some (.ref hl), none, none, none] ?_
    refine ⟨lit 0, fun ml hml => ?_⟩
    have s3 : Same (upd H1 hl (.lst [])) (upd (upd H1 hl (.lst [])) ml (.lst [])) := Same.new hml
    have hm3 : (upd (upd H1 hl (.lst [])) ml (.lst [])) ml = some (.lst (([] : List Str).map V.str)) := upd_same
    have hh3 := s3 _ _ hh2
    have fml : H ml = none := hS1.free (s2.free hml)
    have hne : hl ≠ ml := ne_of_none hh2 hml
    have hS3 := hS1.trans (s2.trans s3)
    have hpd3 := (s2.trans s3) _ _ hpd
    have hP3 := hP.tups hS3.tups
    have npd1 : pd ≠ hl := ne_of_none hpd hhl
    have npd2 : pd ≠ ml := ne_of_none (s2 _ _ hpd) hml
    generalize upd (upd H1 hl (.lst [])) ml (.lst []) = H3 at hm3 hh3 hS3 hpd3 hP3
    refine at_seq [some (.ref b), some (.int room), some (.ref dl), some (.ref pd), some (.ref hl), some (.ref ml), none, none] ?_
    have hdl3 := hS3 _ _ hdl
    refine ⟨_, rfl, _, _, _, rfl, (show isiV "list" H3 (.ref dl) = some true by unfold isiV; simp [hdl3]), _, rfl, ?_⟩
    refine iteF ?_
    have keep : ∀ {H4 : Hp}, (∀ c o, c ≠ hl → c ≠ ml → H3 c = some o → H4 c = some o) → Tups H3 H4 := fun {H4} hk c ys e => hk _ _ (ne_of e hh3 (by intro z; cases z)) (ne_of e hm3 (by intro z; cases z)) e
    refine ⟨_, rfl, dl, rfl, ⟨_, SqL.of hdl3⟩, for_list (K := K) (a := dl) (xs := as.map V.ref) (fun i σ H4 => ∃ (hs : List Str) (v6 : Option V), σ = [some (.ref b), some (.int room), some (.ref dl), some (.ref pd), some (.ref hl), some (.ref ml), v6, none] ∧ (∀ c o, c ≠ hl → c ≠ ml → H3 c = some o → H4 c = some o) ∧ H4 hl = some (.lst (hs.map V.str)) ∧ H4 ml = some (.lst ((mkOf (ds.take i)).map V.str)) ∧ spOk bk rg hs (ds.drop i) ∧ (∀ y ∈ hs, y ∈ bk.map fun a : Part => a.name) ∧ hs.length ≤ i ∧ (spOk bk room [] ds ↔ spOk bk room hs (ds.drop i))) ⟨[], none, rfl, fun _ _ _ _ e => e, hh3, hm3, hok, (fun y hy => by simp at hy), Nat.le_refl _, Iff.rfl⟩ ?_ ?_ ?_⟩
    · rintro i σ H4 _ ⟨hs, v6, rfl, hk, _⟩
      exact SqL.of (hk _ _ (ne_of_none hdl fhl) (ne_of_none hdl fml) hdl3)
    · rintro i v σ H4 hi ⟨hs, v6, rfl, hk, hh4, hm4, hok4, hsb, hsl, hlk⟩
      obtain ⟨a, ha, rfl⟩ := get_map hi
      have hil := (List.getElem?_eq_some_iff.mp ha).1
      have hd : ds[i]? = some (ds[i]'(by rw [← hDs.1]; exact hil)) := List.getElem?_eq_getElem _
      have hta := keep hk _ _ (hS3 _ _ (hDs.2 i a _ ha hd))
      have hdrop : ds.drop i = (ds[i]'(by rw [← hDs.1]; exact hil)) :: ds.drop (i + 1) := List.drop_eq_getElem_cons _
      have hwdd := hwd _ (List.mem_of_getElem? hd)
      rw [hdrop] at hok4 hlk
      generalize ds[i]'(by rw [← hDs.1]; exact hil) = dd at hd hta hok4 hwdd hlk
      obtain ⟨wd, n⟩ := dd
      obtain ⟨hnb, hcase⟩ := hok4
      have hnb : n ∈ bk.map (·.name) := hnb
      have hP4 := hP3.tups (keep hk)
      have hpd4 := hk _ _ npd1 npd2 hpd3
      obtain ⟨pp, pa, hv, hpa, hpp, kk, hkk⟩ := parts_get hP4 hnb
      refine at_nx [some (.ref b), some (.int room), some (.ref dl), some (.ref pd), some (.ref hl), some (.ref ml), some (.ref a), none] ?_
      have hth : ThAt H4 (.ref a) (.tup [.str wd, .str n]) := .tup (by simp) hta (.cons (.str _ (by have := hwdd.1.2.1; omega)) (.cons (.str _ (by have := hwdd.2.2.1; omega)) .nil))
      refine ⟨_, rfl, _, _, _, rfl, .inr (.inr (.inr rfl)), hth, _, rfl, ?_⟩
      refine iteF ?_
      refine ⟨_, rfl, a, _, rfl, .inr (SqT.of hta), rfl, _, rfl, ?_⟩
      refine iteF ?_
      refine ⟨_, rfl, a, _, _, _, rfl, rfl, SqT.of hta, rfl, _, rfl, pd, _, rfl, DGet.k (k := Sum.inr n) hpd4, _, rfl, ?_⟩
      rw [hv]
      refine iteF ?_
      have emk : mkOf (ds.take (i + 1)) = mkOf (ds.take i) ++ (if wd = "make" then [n] else []) := by
        rw [take_snoc hd, mkOf_app]
        congr 1
        unfold mkOf
        by_cases c : wd = "make"
        · rw [List.filter_cons_of_pos (by simpa using c), if_pos c]
          rfl
        · rw [List.filter_cons_of_neg (by simpa using c), if_neg c]
          rfl
      refine ⟨_, rfl, a, _, _, _, rfl, rfl, SqT.of hta, rfl, rfl, _, rfl, ?_⟩
      rcases hcase with ⟨e, hin, hnext⟩ | ⟨e, hout, hneeds, hload, hnext⟩
      · -- a drop
        have e : wd = "drop" := e
        subst e
        rw [decide_eq_true rfl]
        refine iteT ?_
        refine ⟨_, rfl, a, _, _, _, rfl, rfl, SqT.of hta, rfl, _, rfl, hl, _, rfl, .inl (SqL.of hh4), rfl, flat_strs hs, _, rfl, ?_⟩
        rw [inV_strs, decide_eq_true hin]
        refine iteT ?_
        obtain ⟨j, hj1, hj2, hj3⟩ := first_at hin
        refine ⟨_, rfl, .inl ⟨rfl, _, SqL.of hh4⟩, _, rfl, a, _, _, _, rfl, rfl, SqT.of hta, rfl, hl, hs, n, j, rfl, rfl, hh4, hj1, hj2, ?_⟩
        rw [hj3]
        refine ⟨hs.erase n, _, rfl, fun c o n1 n2 e => by rw [upd_ne n1]; exact hk c o n1 n2 e, upd_same, ?_, hnext, fun y hy => hsb y (List.mem_of_mem_erase hy), (by have := List.length_erase_le (a := n) (l := hs); omega), hlk.trans ⟨fun h => ?_, fun h => ⟨hnb, .inl ⟨rfl, hin, h⟩⟩⟩⟩
        rotate_left
        · obtain ⟨_, h | h⟩ := h
          · exact h.2.2
          · exact absurd h.1 (show ¬ (("drop" : Str) = "make") by decide +kernel)
        rw [upd_ne hne.symm, emk, if_neg (by decide +kernel), List.append_nil]
        exact hm4
      · -- a make
        have e : wd = "make" := e
        subst e
        rw [decide_eq_false (fun z => by injection z with z; exact absurd z (show ¬ (("make" : Str) = "drop") by decide +kernel))]
        refine iteF (iteF ?_)
        refine ⟨_, rfl, a, _, _, _, rfl, rfl, SqT.of hta, rfl, rfl, _, rfl, ?_⟩
        rw [decide_eq_true rfl]
        refine iteT ?_
        refine ⟨_, rfl, a, _, _, _, rfl, rfl, SqT.of hta, rfl, _, rfl, hl, _, rfl, .inl (SqL.of hh4), rfl, flat_strs hs, _, rfl, ?_⟩
        rw [inV_strs, decide_eq_false hout]
        refine iteT ?_
        have hh5 : (upd H4 hl (.lst (hs.map V.str ++ [V.str n]))) hl = some (.lst ((hs ++ [n]).map V.str)) := by rw [upd_same, List.map_append]; rfl
        refine ⟨_, rfl, .inl ⟨rfl, _, SqL.of hh4⟩, _, rfl, a, _, _, _, rfl, rfl, SqT.of hta, rfl, hl, _, _, rfl, rfl, hh4, by rw [List.length_map]; exact lt_line (by omega), ?_⟩
        have hm5 : (upd H4 hl (.lst (hs.map V.str ++ [V.str n]))) ml = some (.lst ((mkOf (ds.take i)).map V.str)) := by rw [upd_ne hne.symm]; exact hm4
        have hta5 : (upd H4 hl (.lst (hs.map V.str ++ [V.str n]))) a = some (.tup [.str "make", .str n]) := by rw [upd_ne (ne_of hta hh4 (by intro z; cases z))]; exact hta
        have hk5 : ∀ c o, c ≠ hl → c ≠ ml → H3 c = some o → (upd H4 hl (.lst (hs.map V.str ++ [V.str n]))) c = some o := fun c o n1 n2 e => by rw [upd_ne n1]; exact hk c o n1 n2 e
        generalize upd H4 hl (.lst (hs.map V.str ++ [V.str n])) = H5 at hh5 hm5 hta5 hk5
        have hml5 := mkOf_len (ds.take i)
        rw [List.length_take] at hml5
        refine ⟨_, rfl, .inl ⟨rfl, _, SqL.of hm5⟩, _, rfl, a, _, _, _, rfl, rfl, SqT.of hta5, rfl, ml, _, _, rfl, rfl, hm5, by rw [List.length_map]; exact lt_line (by omega), ?_⟩
        have hm6 : (upd H5 ml (.lst ((mkOf (ds.take i)).map V.str ++ [V.str n]))) ml = some (.lst ((mkOf (ds.take (i + 1))).map V.str)) := by
          rw [upd_same, emk, if_pos rfl, List.map_append]
          rfl
        have hh6 : (upd H5 ml (.lst ((mkOf (ds.take i)).map V.str ++ [V.str n]))) hl = some (.lst ((hs ++ [n]).map V.str)) := by rw [upd_ne hne]; exact hh5
        have hta6 : (upd H5 ml (.lst ((mkOf (ds.take i)).map V.str ++ [V.str n]))) a = some (.tup [.str "make", .str n]) := by rw [upd_ne (ne_of hta5 hm5 (by intro z; cases z))]; exact hta5
        have hk6 : ∀ c o, c ≠ hl → c ≠ ml → H3 c = some o → (upd H5 ml (.lst ((mkOf (ds.take i)).map V.str ++ [V.str n]))) c = some o := fun c o n1 n2 e => by rw [upd_ne n2]; exact hk5 c o n1 n2 e
        generalize upd H5 ml (.lst ((mkOf (ds.take i)).map V.str ++ [V.str n])) = H6 at hm6 hh6 hta6 hk6
        have hpd6 := hk6 _ _ npd1 npd2 hpd3
        have hP6 := hP3.tups (keep hk6)
        obtain ⟨pp6, pa6, hv6, hpa6, hpp6, k6, hk66⟩ := parts_get hP6 hnb
        -- what it needs
        have hnm : nmOf bk n = pa6.how.names := by unfold nmOf; rw [hpa6]
        refine ⟨_, rfl, _, rfl, a, _, _, _, rfl, rfl, SqT.of hta6, rfl, pd, V.ref pp6, rfl, ?_, pp6, pa6, _, rfl, hpp6, hO.how k6 pa6 hk66, fun l H7 hl0 hS7 hl7 => ⟨l, rfl, ⟨_, SqL.of hl7⟩, fun J hJ => ?_⟩⟩
        · rw [← hv6]
          exact DGet.k (k := Sum.inr n) hpd6
        have sJ : ∀ {o : HO}, Same H7 (upd H7 J o) := Same.new hJ
        have hh7 := hS7 _ _ hh6
        have hnl4 := names4 (hO.how k6 pa6 hk66)
        refine lc_list (K := K) (a := l) (xs := pa6.how.names.map V.str) (fun k H8 => H8 = upd H7 J (.lst (((pa6.how.names.take k).map fun u => decide (u ∈ hs ++ [n])).map V.bl))) rfl ?_ ?_ ?_
        · rintro k H8 _ rfl
          exact SqL.of (sJ _ _ hl7)
        · rintro k v H8 hk8 rfl
          obtain ⟨u, hu1, rfl⟩ := get_map hk8
          have hkl := (List.getElem?_eq_some_iff.mp hu1).1
          refine ⟨rfl, yes ?_⟩
          refine ⟨_, rfl, _, rfl, hl, _, rfl, .inl (SqL.of (sJ _ _ hh7)), rfl, flat_strs _, _, upd_same, ?_, ?_⟩
          · rw [List.length_map, List.length_map, List.length_take]
            exact lt_line (by omega)
          · rw [upd_upd, inV_strs, take_snoc hu1, List.map_append, List.map_append]
            rfl
        rintro H8 rfl
        rw [List.length_map, List.take_length]
        refine ⟨J, _, rfl, SqL.of upd_same, _, rfl, ?_⟩
        have hall : ((pa6.how.names.map fun u => decide (u ∈ hs ++ [n])).all id) = true := by
          rw [List.all_map, List.all_eq_true]
          intro u hu
          exact decide_eq_true (hneeds u (by rw [hnm]; exact hu))
        rw [hall]
        refine iteF ?_
        have hh8 := sJ (o := .lst ((pa6.how.names.map fun u => decide (u ∈ hs ++ [n])).map V.bl)) _ _ hh7
        have hm8 := sJ (o := .lst ((pa6.how.names.map fun u => decide (u ∈ hs ++ [n])).map V.bl)) _ _ (hS7 _ _ hm6)
        have hk8 : ∀ c o, c ≠ hl → c ≠ ml → H3 c = some o → (upd H7 J (.lst ((pa6.how.names.map fun u => decide (u ∈ hs ++ [n])).map V.bl))) c = some o := fun c o n1 n2 e => sJ _ _ (hS7 _ _ (hk6 c o n1 n2 e))
        generalize upd H7 J (.lst ((pa6.how.names.map fun u => decide (u ∈ hs ++ [n])).map V.bl)) = H8 at hh8 hm8 hk8
        have hpd8 := hk8 _ _ npd1 npd2 hpd3
        have hP8 := hP3.tups (keep hk8)
        -- how much lies there
        refine ⟨_, rfl, hl, rfl, ⟨_, SqL.of hh8⟩, fun G hG => ?_⟩
        have sG : ∀ {o : HO}, Same H8 (upd H8 G o) := Same.new hG
        have hsb' : ∀ y ∈ hs ++ [n], y ∈ bk.map (·.name) := fun y hy => by
          rcases List.mem_append.mp hy with g | g
          · exact hsb y g
          · rw [List.mem_singleton.mp g]; exact hnb
        refine lc_list (K := K) (a := hl) (xs := (hs ++ [n]).map V.str) (fun k H9 => H9 = upd H8 G (.lst ((((hs ++ [n]).take k).map (szOf bk)).map V.int))) rfl ?_ ?_ ?_
        · rintro k H9 _ rfl
          exact SqL.of (sG _ _ hh8)
        · rintro k v H9 hk9 rfl
          obtain ⟨u, hu1, rfl⟩ := get_map hk9
          have hkl := (List.getElem?_eq_some_iff.mp hu1).1
          rw [List.length_append, List.length_singleton] at hkl
          obtain ⟨p9, a9, hv9, hpa9, ⟨r9, hp9, _⟩, _⟩ := parts_get hP8 (hsb' u (List.mem_of_getElem? hu1))
          refine ⟨rfl, yes ?_⟩
          refine ⟨_, rfl, _, rfl, pd, V.ref p9, rfl, ?_, p9, _, _, _, rfl, rfl, SqT.of (sG _ _ hp9), rfl, _, upd_same, ?_, ?_⟩
          · rw [← hv9]
            exact DGet.k (k := Sum.inr u) (sG _ _ hpd8)
          · rw [List.length_map, List.length_map, List.length_take]
            exact lt_line (by omega)
          · rw [upd_upd, take_snoc hu1, List.map_append, List.map_append]
            show _ = upd H8 G (.lst (_ ++ [V.int (szOf bk u)]))
            rw [show szOf bk u = a9.size by unfold szOf; rw [hpa9]; rfl]
        rintro H9 rfl
        rw [List.length_map, List.take_length]
        refine ⟨G, _, rfl, SqL.of upd_same, _, rfl, _, _, rfl, rfl, _, rfl, ?_⟩
        have hS9 : ∀ {o : HO}, Same H (upd H8 G o) := fun {o} c u e => sG _ _ (hk8 _ _ (ne_of_none e fhl) (ne_of_none e fml) (hS3 _ _ e))
        by_cases hload2 : ((hs ++ [n]).map (szOf bk)).sum ≤ room
        case neg =>
          rw [decide_eq_true (by omega)]
          refine iteT (qn (fun h => ?_) _ hS9)
          obtain ⟨_, h | h⟩ := hlk.mp h
          · exact absurd h.1 (show ¬ (("make" : Str) = "drop") by decide +kernel)
          · exact hload2 h.2.2.2.1
        rw [decide_eq_false (by omega)]
        refine iteF ⟨hs ++ [n], some (.ref a), rfl, fun c o n1 n2 e => sG _ _ (hk8 c o n1 n2 e), sG _ _ hh8, sG _ _ hm8, hnext, hsb', (by rw [List.length_append]; simp; omega), hlk.trans ⟨fun h => ?_, fun h => ⟨hnb, .inr ⟨rfl, hout, hneeds, hload2, h⟩⟩⟩⟩
        obtain ⟨_, h | h⟩ := h
        · exact absurd h.1 (show ¬ (("make" : Str) = "drop") by decide +kernel)
        · exact h.2.2.2.2
    · rintro σ H4 ⟨hs, v6, rfl, hk, hh4, hm4, _, _, _, hlk⟩
      rw [List.length_map, hDs.1, List.take_length] at hm4
      rw [List.length_map, hDs.1, List.drop_length] at hlk
      have hgood : spOk bk room [] ds := hlk.mpr trivial
      have hpd4 := hk _ _ npd1 npd2 hpd3
      have hP4 := hP3.tups (keep hk)
      have hS4 : Same H H4 := fun c o e => hk _ _ (ne_of_none e fhl) (ne_of_none e fml) (hS3 _ _ e)
      have hmb : ∀ y ∈ mkOf ds, y ∈ bk.map (·.name) := spOk_sub hok
      have hml := mkOf_len ds
      have hal' := hDs.1
      refine ⟨_, rfl, _, rfl, ml, rfl, ⟨_, SqL.of hm4⟩, fun G hG => ?_⟩
      have sG : ∀ {o : HO}, Same H4 (upd H4 G o) := Same.new hG
      refine lc_list (K := K) (a := ml) (xs := (mkOf ds).map V.str) (fun k H9 => H9 = upd H4 G (.lst ((((mkOf ds).take k).map (csOf bk)).map V.int))) rfl ?_ ?_ ?_
      · rintro k H9 _ rfl
        exact SqL.of (sG _ _ hm4)
      · rintro k v H9 hk9 rfl
        obtain ⟨u, hu1, rfl⟩ := get_map hk9
        have hkl := (List.getElem?_eq_some_iff.mp hu1).1
        obtain ⟨p9, a9, hv9, hpa9, ⟨r9, hp9, _⟩, _⟩ := parts_get hP4 (hmb u (List.mem_of_getElem? hu1))
        refine ⟨rfl, yes ?_⟩
        refine ⟨_, rfl, _, rfl, pd, V.ref p9, rfl, ?_, p9, _, _, _, rfl, rfl, SqT.of (sG _ _ hp9), rfl, _, upd_same, ?_, ?_⟩
        · rw [← hv9]
          exact DGet.k (k := Sum.inr u) (sG _ _ hpd4)
        · rw [List.length_map, List.length_map, List.length_take]
          exact lt_line (by omega)
        · rw [upd_upd, take_snoc hu1, List.map_append, List.map_append]
          show _ = upd H4 G (.lst (_ ++ [V.int (csOf bk u)]))
          rw [show csOf bk u = a9.cost by unfold csOf; rw [hpa9]; rfl]
      rintro H9 rfl
      rw [List.length_map, List.take_length]
      refine ⟨G, _, rfl, SqL.of upd_same, lit 2, fun r hr => ?_⟩
      have s5 : Same (upd H4 G (.lst (((mkOf ds).map (csOf bk)).map V.int))) (upd (upd H4 G (.lst (((mkOf ds).map (csOf bk)).map V.int))) r (.tup [.ref ml, .int ((mkOf ds).map (csOf bk)).sum])) := Same.new hr
      exact q hgood r ml _ _ ((hS4.trans sG).trans s5) upd_same (s5 _ _ (sG _ _ hm4)) rfl
end



end Hs
namespace Hs
open PySem PySem.Spec PyProof.Rows L2
/-! ### what a tree's rows are -/
/-- two names in a row: the one stands ahead of the other -/
def NB (nm : Str → List Str) (xs : List Str) : Prop := ∀ x ∈ xs, ∀ z ∈ nm x, [z, x].Sublist xs
theorem sub_flat {hs gs : List Hill} (h : hs.Sublist gs) : (flatN hs).Sublist (flatN gs) := by
  induction h with
  | slnil => exact List.Sublist.refl _
  | cons a _ ih =>
    show (flatN _).Sublist (a.ns ++ flatN _)
    exact ih.trans (List.sublist_append_right _ _)
  | cons_cons a _ ih =>
    show (a.ns ++ flatN _).Sublist (a.ns ++ flatN _)
    exact List.Sublist.append (List.Sublist.refl _) ih
structure RowOk (bk : Book) (R : Str → List Hill) (a : Part) : Prop where
  rep : Rep (szOf bk) (nmOf bk) 0 (R a.name)
  can : Canon (R a.name)
  last : lastV (R a.name) = szOf bk a.name
  nb : NB (nmOf bk) (flatN (R a.name))
  own : a.name ∈ flatN (R a.name)
theorem nm_is {bk : Book} (hO : BookOk bk) {a : Part} (ha : a ∈ bk) : nmOf bk a.name = a.how.names := by
  unfold nmOf
  rw [part_is hO.nd ha]
theorem sz_is {bk : Book} (hO : BookOk bk) {a : Part} (ha : a ∈ bk) : szOf bk a.name = a.size := by
  unfold szOf
  rw [part_is hO.nd ha]
  rfl
theorem sum_perm {l m : List Int} (h : l.Perm m) : l.sum = m.sum := by
  induction h with
  | nil => rfl
  | cons x _ ih => rw [List.sum_cons, List.sum_cons, ih]
  | swap x y l => rw [List.sum_cons, List.sum_cons, List.sum_cons, List.sum_cons]; omega
  | trans _ _ h1 h2 => exact h1.trans h2
theorem climbsOf_sum {R : Str → List Hill} {f : Str → Int} : ∀ ys : List Str, (∀ y ∈ ys, lastV (R y) = f y) → ((climbsOf R ys).map (·.v)).sum = (ys.map f).sum
  | [], _ => rfl
  | y :: ys, h => by
    show ((climbsF (R y) (R y).length ++ climbsOf R ys).map (·.v)).sum = _
    rw [List.map_append, List.sum_append, climbs_sum (Nat.le_refl _), List.take_length, h y List.mem_cons_self, climbsOf_sum ys fun z hz => h z (List.mem_cons_of_mem _ hz)]
    rfl
theorem row_ok {bk : Book} (hO : BookOk bk) {R : Str → List Hill} {n : Nat} (hR : RowsOf bk R n) : ∀ (j : Nat), ∀ a, j < n → bk[j]? = some a → RowOk bk R a := by
  intro j
  induction j using Nat.strongRecOn with
  | ind j ih =>
    intro a hj ha
    obtain ⟨ss, h1, h2, h3, h4⟩ := hR.rel j a hj ha
    have ham := List.mem_of_getElem? ha
    have need : ∀ y ∈ a.how.names, ∃ b ∈ bk, b.name = y ∧ RowOk bk R b := fun y hy => by
      obtain ⟨b, hb, e⟩ := List.mem_map.mp (names_sub hO ha y hy)
      obtain ⟨k, hk⟩ := List.getElem?_of_mem hb
      have hkl : k < j := by
        have := (List.getElem?_eq_some_iff.mp hk).1
        rw [List.length_take] at this
        omega
      rw [List.getElem?_take_of_lt hkl] at hk
      exact ⟨b, List.mem_of_getElem? hk, e, ih k hkl b (by omega) hk⟩
    have hstep : ∀ x ∈ ss ++ [(⟨a.size, a.size - (a.how.names.map (sizeOf' bk)).sum, [a.name]⟩ : Hill)], StepOk (szOf bk) (nmOf bk) x := fun x hx => by
      rcases List.mem_append.mp hx with k | k
      · obtain ⟨y, hy, hxy⟩ := List.mem_flatMap.mp (h1.mem_iff.mp k)
        obtain ⟨b, _, e, hb⟩ := need y hy
        rw [← e] at hxy
        exact climbs_step hb.rep x hxy
      · rw [List.mem_singleton.mp k]
        have e1 : (nmOf bk a.name).map (szOf bk) = a.how.names.map (sizeOf' bk) := by rw [nm_is hO ham]; rfl
        refine ⟨?_, ?_⟩
        · show a.size - _ = 0 + (szOf bk a.name - ((nmOf bk a.name).map (szOf bk)).sum + 0)
          rw [e1, sz_is hO ham]
          omega
        · show IsMax [0 + szOf bk a.name] a.size
          rw [sz_is hO ham, Int.zero_add]
          exact ⟨List.mem_singleton.mpr rfl, fun q hq => by rw [List.mem_singleton.mp hq]; exact Int.le_refl _⟩
    obtain ⟨r1, r2, r3⟩ := rowF_rep hstep
    have hfl : flatN (R a.name) = flatN ss ++ [a.name] := by rw [h4]; exact best_flat
    have hsub : ∀ b ∈ bk, b.name ∈ a.how.names → RowOk bk R b → (flatN (R b.name)).Sublist (flatN ss) := fun b _ hb hk => by
      have e : flatN (climbsF (R b.name) (R b.name).length) = flatN (R b.name) := by rw [climbs_flat (Nat.le_refl _), List.take_length]
      rw [← e]
      refine sub_flat (sub_sorted (climbs_keys hk.can (Nat.le_refl _)) h2 fun x hx => h1.mem_iff.mpr (List.mem_flatMap.mpr ⟨_, hb, hx⟩))
    refine ⟨by rw [h4]; exact r1, by rw [h4]; exact r2, ?_, ?_, by rw [hfl]; exact List.mem_append_right _ (List.mem_singleton.mpr rfl)⟩
    · rw [h4]
      show lastV (rowF _) = _
      rw [r3, List.map_append, List.sum_append, sum_perm (h1.map (·.v)), climbsOf_sum (f := sizeOf' bk) _ fun y hy => ?_, sz_is hO ham]
      · show _ + (a.size - _ + 0) = a.size
        omega
      · obtain ⟨b, _, e, hb⟩ := need y hy
        rw [← e]
        exact hb.last
    · rw [hfl]
      intro x hx z hz
      rcases List.mem_append.mp hx with k | k
      · obtain ⟨c, hc, hxc⟩ := List.mem_flatMap.mp k
        obtain ⟨y, hy, hcy⟩ := List.mem_flatMap.mp (h1.mem_iff.mp hc)
        obtain ⟨b, hb, e, hk⟩ := need y hy
        rw [← e] at hcy
        have hxb : x ∈ flatN (R b.name) := by
          have e2 : flatN (climbsF (R b.name) (R b.name).length) = flatN (R b.name) := by rw [climbs_flat (Nat.le_refl _), List.take_length]
          rw [← e2]
          exact List.mem_flatMap.mpr ⟨c, hcy, hxc⟩
        exact ((hk.nb x hxb z hz).trans (hsub b hb (e ▸ hy) hk)).trans (List.sublist_append_left _ _)
      · rw [List.mem_singleton.mp k] at hz ⊢
        rw [nm_is hO ham] at hz
        obtain ⟨b, hb, e, hk⟩ := need z hz
        have hzs : z ∈ flatN ss := (hsub b hb (e ▸ hz) hk).subset (e ▸ hk.own)
        show ([z] ++ [a.name]).Sublist _
        exact List.Sublist.append (List.singleton_sublist.mpr hzs) (List.Sublist.refl _)
theorem free_last {bk : Book} (hO : BookOk bk) (hT : isTree bk = true) {z : Part} (hz : bk.getLast? = some z) : freeN bk bk.length = [z.name] := by
  have e : bk = bk.dropLast ++ [z] := by
    obtain ⟨ys, e⟩ := List.getLast?_eq_some_iff.mp hz
    rw [e, List.dropLast_concat]
  rw [isTree_last hz, Bool.and_eq_true] at hT
  obtain ⟨t1, t2⟩ := hT
  have t1 := of_decide_eq_true t1
  unfold freeN
  rw [List.take_length]
  have hm : bk.map (·.name) = bk.dropLast.map (·.name) ++ [z.name] := by
    conv => lhs; rw [e]
    rw [List.map_append]
    rfl
  rw [hm, List.filter_append]
  have h1 : (bk.dropLast.map (·.name)).filter (fun x => decide (x ∉ needsOf bk)) = [] := by
    rw [List.filter_eq_nil_iff]
    intro x hx
    obtain ⟨a, ha, rfl⟩ := List.mem_map.mp hx
    have := of_decide_eq_true (List.all_eq_true.mp t2 a ha)
    have hp : a.name ∈ needsOf bk := List.count_pos_iff.mp (show 0 < (needsOf bk).count a.name by unfold cntN at this; omega)
    simp [hp]
  have h2 : [z.name].filter (fun x => decide (x ∉ needsOf bk)) = [z.name] := by
    have : z.name ∉ needsOf bk := List.count_eq_zero.mp t1
    simp [this]
  rw [h1, h2]
  rfl
/-- all names, each once, each behind what it needs -/
theorem last_row {bk : Book} (hO : BookOk bk) (hT : isTree bk = true) {z : Part} (hz : bk.getLast? = some z) {R : Str → List Hill} (hR : RowsOf bk R bk.length) : (flatN (R z.name)).Perm (bk.map (·.name)) ∧ RowOk bk R z := by
  have h := hR.all
  rw [free_last hO hT hz, List.take_length] at h
  have hzi : bk[bk.length - 1]? = some z := by rw [← List.getLast?_eq_getElem?]; exact hz
  have hl := (List.getElem?_eq_some_iff.mp hzi).1
  refine ⟨?_, row_ok hO hR _ z (by omega) hzi⟩
  simpa using h

end Hs
namespace Hs
open PySem PySem.Spec PyProof.Rows L2
/-! ### the deeds of a tree's row, done -/
theorem before_of {P r : List Str} {x y : Str} (hn : (P ++ x :: r).Nodup) (h : [y, x].Sublist (P ++ x :: r)) : y ∈ P := by
  obtain ⟨_, hx, hd⟩ := List.nodup_append.mp hn
  obtain ⟨hxr, _⟩ := List.nodup_cons.mp hx
  obtain ⟨l1, l2, e, h1, h2⟩ := List.sublist_append_iff.mp h
  cases l1 with
  | nil =>
    rw [List.nil_append] at e
    subst e
    exfalso
    cases h2 with
    | cons _ h => exact hxr (h.subset (List.mem_cons_of_mem _ (List.mem_singleton.mpr rfl)))
    | cons_cons _ h => exact hxr (h.subset (List.mem_singleton.mpr rfl))
  | cons a l1 =>
    rw [List.cons_append] at e
    injection e with e1 e2
    rw [e1]
    exact h1.subset List.mem_cons_self
theorem load_cons {bk : Book} {h : List Str} {y : Str} (hy : y ∈ h) : loadS bk h = szOf bk y + loadS bk (h.erase y) := by
  have hp := (List.perm_cons_erase hy).map (szOf bk)
  unfold loadS
  rw [perm_sum hp]
  rfl
theorem erase_all {bk : Book} : ∀ (l h : List Str), h.Nodup → l.Nodup → (∀ y ∈ l, y ∈ h) → (l.foldl List.erase h).Nodup ∧ (∀ y, y ∈ l.foldl List.erase h ↔ y ∈ h ∧ y ∉ l) ∧ loadS bk (l.foldl List.erase h) = loadS bk h - (l.map (szOf bk)).sum
  | [], h, hn, _, _ => ⟨hn, fun y => by simp, by show loadS bk h = loadS bk h - 0; omega⟩
  | x :: l, h, hn, hl, hs => by
    obtain ⟨hx, hl'⟩ := List.nodup_cons.mp hl
    have hxh := hs x List.mem_cons_self
    obtain ⟨g1, g2, g3⟩ := erase_all (bk := bk) l (h.erase x) (hn.erase x) hl' fun y hy => (List.mem_erase_of_ne (fun z : y = x => hx (by rw [← z]; exact hy))).mpr (hs y (List.mem_cons_of_mem _ hy))
    refine ⟨g1, fun y => ?_, ?_⟩
    · show y ∈ l.foldl List.erase (h.erase x) ↔ _
      rw [g2, hn.mem_erase_iff, List.mem_cons]
      constructor
      · rintro ⟨⟨a, b⟩, c⟩
        exact ⟨b, fun z => z.elim a c⟩
      · rintro ⟨a, b⟩
        exact ⟨⟨fun z => b (.inl z), a⟩, fun z => b (.inr z)⟩
    · show loadS bk (l.foldl List.erase (h.erase x)) = loadS bk h - (szOf bk x + (l.map (szOf bk)).sum)
      rw [g3, load_cons hxh]
      omega
theorem spOk_drops {bk : Book} {room : Int} {rest : List (Str × Str)} : ∀ (l h : List Str), l.Nodup → (∀ y ∈ l, y ∈ h) → (∀ y ∈ l, y ∈ bk.map (·.name)) → (spOk bk room h ((l.map fun y => (("drop" : Str), y)) ++ rest) ↔ spOk bk room (l.foldl List.erase h) rest)
  | [], _, _, _, _ => Iff.rfl
  | x :: l, h, hl, hs, hb => by
    obtain ⟨hx, hl'⟩ := List.nodup_cons.mp hl
    have ih := spOk_drops (bk := bk) (room := room) (rest := rest) l (h.erase x) hl' (fun y hy => (List.mem_erase_of_ne (fun z : y = x => hx (by rw [← z]; exact hy))).mpr (hs y (List.mem_cons_of_mem _ hy))) fun y hy => hb y (List.mem_cons_of_mem _ hy)
    show spOk bk room h ((("drop" : Str), x) :: ((l.map fun y => (("drop" : Str), y)) ++ rest)) ↔ spOk bk room (l.foldl List.erase (h.erase x)) rest
    rw [← ih]
    constructor
    · rintro ⟨_, h | h⟩
      · exact h.2.2
      · exact absurd h.1 (show ¬ (("drop" : Str) = "make") by decide +kernel)
    · exact fun k => ⟨hb x List.mem_cons_self, .inl ⟨rfl, hs x List.mem_cons_self, k⟩⟩
structure TreeSeq (bk : Book) (xs : List Str) : Prop where
  nd : xs.Nodup
  sub : ∀ x ∈ xs, x ∈ bk.map (·.name)
  nb : NB (nmOf bk) xs
  par : ∀ x ∈ xs, ∀ x' ∈ xs, ∀ y, y ∈ nmOf bk x → y ∈ nmOf bk x' → x = x'
  nnd : ∀ x ∈ xs, (nmOf bk x).Nodup
structure HeldOk (bk : Book) (P h : List Str) : Prop where
  nd : h.Nodup
  mem : ∀ y, y ∈ h ↔ y ∈ P ∧ ∀ z ∈ P, y ∉ nmOf bk z
theorem deeds_iff {bk : Book} {xs : List Str} (T : TreeSeq bk xs) {room : Int} : ∀ (r P h : List Str), xs = P ++ r → HeldOk bk P h → (spOk bk room h (deedsOf bk r) ↔ ∀ q ∈ pks (szOf bk) (nmOf bk) (loadS bk h) r, q ≤ room)
  | [], _, _, _, _ => ⟨fun _ q hq => (by cases hq), fun _ => trivial⟩
  | x :: r, P, h, e, hH => by
    have hn := T.nd
    rw [e] at hn
    obtain ⟨hP, hxr, hdis⟩ := List.nodup_append.mp hn
    obtain ⟨hx, _⟩ := List.nodup_cons.mp hxr
    have hxP : x ∉ P := fun k => hdis x k x List.mem_cons_self rfl
    have hxm : x ∈ xs := by rw [e]; exact List.mem_append_right _ List.mem_cons_self
    have hPm : ∀ z ∈ P, z ∈ xs := fun z hz => by rw [e]; exact List.mem_append_left _ hz
    have hxh : x ∉ h := fun k => hxP ((hH.mem x).mp k).1
    have hneed : ∀ y ∈ nmOf bk x, y ∈ h := fun y hy => by
      refine (hH.mem y).mpr ⟨before_of hn (e ▸ T.nb x hxm y hy), fun z hz k => ?_⟩
      exact hxP (T.par x hxm z (hPm z hz) y hy k ▸ hz)
    have hxx : x ∉ nmOf bk x := fun k => hxP (before_of hn (e ▸ T.nb x hxm x k))
    have hxz : ∀ z ∈ P, x ∉ nmOf bk z := fun z hz k => by
      have h1 := T.nb z (hPm z hz) x k
      obtain ⟨A, B, rfl⟩ := List.append_of_mem hz
      have e2 : xs = A ++ z :: (B ++ x :: r) := by rw [e]; simp
      have hn2 := T.nd
      rw [e2] at hn2 h1
      exact hxP (List.mem_append_left _ (before_of hn2 h1))
    have hl1 : loadS bk (h ++ [x]) = loadS bk h + szOf bk x := by
      unfold loadS
      rw [List.map_append, List.sum_append]
      simp
    have hn1 : (h ++ [x]).Nodup := List.nodup_append.mpr ⟨hH.nd, by simp, fun a ha b hb z => hxh (by rw [List.mem_singleton.mp hb] at z; exact z ▸ ha)⟩
    obtain ⟨g1, g2, g3⟩ := erase_all (bk := bk) (nmOf bk x) (h ++ [x]) hn1 (T.nnd x hxm) fun y hy => List.mem_append_left _ (hneed y hy)
    have hH2 : HeldOk bk (P ++ [x]) ((nmOf bk x).foldl List.erase (h ++ [x])) := by
      refine ⟨g1, fun y => ?_⟩
      rw [g2, List.mem_append, List.mem_singleton, List.mem_append, List.mem_singleton, hH.mem]
      constructor
      · rintro ⟨k | k, k2⟩
        · refine ⟨.inl k.1, fun z hz => ?_⟩
          rcases List.mem_append.mp hz with j | j
          · exact k.2 z j
          · rw [List.mem_singleton.mp j]; exact k2
        · subst k
          refine ⟨.inr rfl, fun z hz => ?_⟩
          rcases List.mem_append.mp hz with j | j
          · exact hxz z j
          · rw [List.mem_singleton.mp j]; exact hxx
      · rintro ⟨k, k2⟩
        refine ⟨?_, k2 x (List.mem_append_right _ (List.mem_singleton.mpr rfl))⟩
        rcases k with k | k
        · exact .inl ⟨k, fun z hz => k2 z (List.mem_append_left _ hz)⟩
        · exact .inr k
    have ih := deeds_iff T (room := room) r (P ++ [x]) ((nmOf bk x).foldl List.erase (h ++ [x])) (by rw [e]; simp) hH2
    have hd := spOk_drops (bk := bk) (room := room) (rest := deedsOf bk r) (nmOf bk x) (h ++ [x]) (T.nnd x hxm) (fun y hy => List.mem_append_left _ (hneed y hy)) fun y hy => T.sub y (hPm y ((hH.mem y).mp (hneed y hy)).1)
    have eg : loadS bk ((nmOf bk x).foldl List.erase (h ++ [x])) = loadS bk h + dlt (szOf bk) (nmOf bk) x := by
      rw [g3, hl1]
      unfold dlt
      omega
    rw [eg] at ih
    have e3 : deedsOf bk (x :: r) = (("make" : Str), x) :: (((nmOf bk x).map fun y => (("drop" : Str), y)) ++ deedsOf bk r) := rfl
    rw [e3]
    show spOk bk room h ((("make" : Str), x) :: _) ↔ ∀ q ∈ (loadS bk h + szOf bk x) :: pks (szOf bk) (nmOf bk) (loadS bk h + dlt (szOf bk) (nmOf bk) x) r, q ≤ room
    rw [List.forall_mem_cons, ← ih, ← hd, ← hl1]
    constructor
    · rintro ⟨_, k | k⟩
      · exact absurd k.1 (show ¬ (("make" : Str) = "drop") by decide +kernel)
      · exact ⟨k.2.2.2.1, k.2.2.2.2⟩
    · exact fun k => ⟨T.sub x hxm, .inr ⟨rfl, hxh, fun y hy => List.mem_append_left _ (hneed y hy), k.1, k.2⟩⟩
theorem par_uniq {y : Str} : ∀ {bk : Book}, (needsOf bk).Nodup → ∀ a ∈ bk, ∀ b ∈ bk, y ∈ a.how.names → y ∈ b.how.names → a = b
  | [], _, _, h, _, _, _, _ => by cases h
  | c :: bk, hn, a, ha, b, hb, ya, yb => by
    have hn : (c.how.names ++ needsOf bk).Nodup := hn
    obtain ⟨_, h2, h3⟩ := List.nodup_append.mp hn
    have inn : ∀ d ∈ bk, y ∈ d.how.names → y ∈ needsOf bk := fun d hd hy => List.mem_flatMap.mpr ⟨d, hd, hy⟩
    rcases List.mem_cons.mp ha with e | e <;> rcases List.mem_cons.mp hb with e' | e'
    · rw [e, e']
    · exact absurd rfl (h3 y (e ▸ ya) y (inn b e' yb))
    · exact absurd rfl (h3 y (e' ▸ yb) y (inn a e ya))
    · exact par_uniq h2 a e b e' ya yb
theorem names_nodup : ∀ {bk : Book}, (needsOf bk).Nodup → ∀ a ∈ bk, a.how.names.Nodup
  | [], _, _, h => by cases h
  | c :: bk, hn, a, ha => by
    have hn : (c.how.names ++ needsOf bk).Nodup := hn
    obtain ⟨h1, h2, _⟩ := List.nodup_append.mp hn
    rcases List.mem_cons.mp ha with e | e
    · rw [e]; exact h1
    · exact names_nodup h2 a e
theorem last_seq {bk : Book} (hO : BookOk bk) (hT : isTree bk = true) {z : Part} (hz : bk.getLast? = some z) {R : Str → List Hill} (hR : RowsOf bk R bk.length) : TreeSeq bk (flatN (R z.name)) := by
  obtain ⟨hp, hk⟩ := last_row hO hT hz hR
  have hN := isTree_nodup hO hT
  have hm : ∀ x ∈ flatN (R z.name), ∃ a ∈ bk, a.name = x := fun x hx => List.mem_map.mp (hp.mem_iff.mp hx)
  refine ⟨hp.symm.nodup hO.nd, fun x hx => hp.mem_iff.mp hx, hk.nb, fun x hx x' hx' y hy hy' => ?_, fun x hx => ?_⟩
  · obtain ⟨a, ha, rfl⟩ := hm x hx
    obtain ⟨b, hb, rfl⟩ := hm x' hx'
    rw [nm_is hO ha] at hy
    rw [nm_is hO hb] at hy'
    rw [par_uniq hN a ha b hb hy hy']
  · obtain ⟨a, ha, rfl⟩ := hm x hx
    rw [nm_is hO ha]
    exact names_nodup hN a ha
/-- the deeds can be done in a room just from the greatest hill on -/
theorem tree_deeds {bk : Book} (hO : BookOk bk) (hT : isTree bk = true) {z : Part} (hz : bk.getLast? = some z) {R : Str → List Hill} (hR : RowsOf bk R bk.length) {m : Int} (hm : IsMax ((R z.name).map (·.h)) m) (room : Int) : spOk bk room [] (deedsOf bk (flatN (R z.name))) ↔ m ≤ room := by
  have T := last_seq hO hT hz hR
  obtain ⟨_, hk⟩ := last_row hO hT hz hR
  have hne : R z.name ≠ [] := fun e => by rw [e] at hm; cases hm.1
  obtain ⟨p, h1, h2⟩ := (rep_peak hk.rep).2 hne
  have hpm := h1.uniq hm
  subst hpm
  have key := deeds_iff T (room := room) (flatN (R z.name)) [] [] rfl ⟨List.nodup_nil, fun y => ⟨fun h => absurd h List.not_mem_nil, fun h => absurd h.1 List.not_mem_nil⟩⟩
  have e0 : loadS bk [] = 0 := rfl
  rw [e0] at key
  rw [key]
  exact ⟨fun h => h p h2.1, fun h q hq => Int.le_trans (h2.2 q hq) h⟩
theorem mk_deeds (bk : Book) : ∀ xs : List Str, mkOf (deedsOf bk xs) = xs
  | [] => rfl
  | x :: r => by
    have e3 : deedsOf bk (x :: r) = (("make" : Str), x) :: (((nmOf bk x).map fun y => (("drop" : Str), y)) ++ deedsOf bk r) := rfl
    have hd : ∀ l : List Str, mkOf (l.map fun y => (("drop" : Str), y)) = [] := fun l => by
      unfold mkOf
      rw [List.filter_eq_nil_iff.mpr fun d hd => ?_]
      · rfl
      · obtain ⟨y, _, rfl⟩ := List.mem_map.mp hd
        simp only [decide_eq_true_eq]
        exact show ¬ (("drop" : Str) = "make") by decide +kernel
    have hc : ∀ l : List (Str × Str), mkOf ((("make" : Str), x) :: l) = x :: mkOf l := fun l => by
      unfold mkOf
      rw [List.filter_cons_of_pos (by simp)]
      rfl
    rw [e3, hc, mkOf_app, hd, List.nil_append, mk_deeds bk r]
theorem deeds_word {bk : Book} (hO : BookOk bk) {xs : List Str} (hx : ∀ x ∈ xs, x ∈ bk.map (·.name)) : ∀ d ∈ deedsOf bk xs, WordOk d.1 ∧ WordOk d.2 := fun d hd => by
  have hw : ∀ y ∈ bk.map (·.name), WordOk y := fun y hy => by
    obtain ⟨a, ha, rfl⟩ := List.mem_map.mp hy
    exact hO.word a ha
  obtain ⟨x, hxm, hd⟩ := List.mem_flatMap.mp hd
  have hxb := hx x hxm
  rcases List.mem_cons.mp hd with e | e
  · rw [e]; exact ⟨word_make, hw x hxb⟩
  · obtain ⟨y, hy, rfl⟩ := List.mem_map.mp e
    refine ⟨word_drop, hw y ?_⟩
    obtain ⟨a, ha, rfl⟩ := List.mem_map.mp hxb
    rw [nm_is hO ha] at hy
    obtain ⟨i, hi⟩ := List.getElem?_of_mem ha
    obtain ⟨b, hb, e⟩ := List.mem_map.mp (names_sub hO hi y hy)
    exact List.mem_map.mpr ⟨b, List.mem_of_mem_take hb, e⟩

end Hs
namespace Hs
open PySem PySem.Spec PyProof.Rows L2
/-! ### a row of climbs that another may stand for -/
def Under (p : Int) : Int → List Hill → Prop
  | _, [] => True
  | d, x :: r => d + x.h ≤ p ∧ Under p (d + x.v) r
def gainS (A : List Hill) : Int := (A.map (·.v)).sum
theorem gainS_app (A B : List Hill) : gainS (A ++ B) = gainS A + gainS B := by
  unfold gainS
  rw [List.map_append, List.sum_append]
theorem gainS_cons (x : Hill) (B : List Hill) : gainS (x :: B) = x.v + gainS B := by
  unfold gainS
  rw [List.map_cons, List.sum_cons]
theorem under_app {p : Int} : ∀ {A B : List Hill} {d : Int}, Under p d (A ++ B) ↔ Under p d A ∧ Under p (d + gainS A) B
  | [], B, d => by
    show Under p d B ↔ True ∧ Under p (d + 0) B
    rw [Int.add_zero, true_and]
  | x :: A, B, d => by
    show (d + x.h ≤ p ∧ Under p (d + x.v) (A ++ B)) ↔ (d + x.h ≤ p ∧ Under p (d + x.v) A) ∧ _
    rw [under_app (A := A), gainS_cons, and_assoc, show d + x.v + gainS A = d + (x.v + gainS A) by omega]
theorem under_le {p q : Int} : ∀ {A : List Hill} {d e : Int}, Under p d A → p - d ≤ q - e → Under q e A
  | [], _, _, _, _ => trivial
  | _ :: _, _, _, ⟨h1, h2⟩, h => ⟨by omega, under_le h2 (by omega)⟩
/-- the row A is at no time above what B comes to: behind each climb of B the row A is no higher -/
inductive SimP : Int → List Hill → List Hill → Int → Prop
  | nil (d : Int) : SimP d [] [] d
  | step {d d' : Int} {A1 A2 : List Hill} {b : Hill} {B : List Hill} : Under b.h d A1 → d + gainS A1 - b.v ≤ 0 → SimP (d + gainS A1 - b.v) A2 B d' → SimP d (A1 ++ A2) (b :: B) d'
theorem SimP.gain {d d' : Int} {A B : List Hill} (h : SimP d A B d') : d' = d + gainS A - gainS B := by
  induction h with
  | nil d => show d = d + 0 - 0; omega
  | step _ _ _ ih => rw [ih, gainS_app, gainS_cons]; omega
theorem SimP.le {d d' : Int} {A B : List Hill} (h : SimP d A B d') (hd : d ≤ 0) : d' ≤ 0 := by
  induction h with
  | nil d => exact hd
  | step _ h1 _ ih => exact ih h1
theorem SimP.under {d d' : Int} {A B : List Hill} (h : SimP d A B d') : ∀ {e p : Int}, Under p e B → Under p (d + e) A := by
  induction h with
  | nil d => intro _ _ _; trivial
  | step h1 _ _ ih =>
    intro e p h
    obtain ⟨g1, g2⟩ := h
    refine under_app.mpr ⟨under_le h1 (by omega), ?_⟩
    have := ih g2
    refine under_le this (by omega)
theorem SimP.app {d d1 d' : Int} {A B A' B' : List Hill} (h : SimP d A B d1) (h' : SimP d1 A' B' d') : SimP d (A ++ A') (B ++ B') d' := by
  induction h with
  | nil d => exact h'
  | step h1 h2 _ ih =>
    rw [List.append_assoc]
    exact SimP.step h1 h2 (ih h')
theorem SimP.split {d d' : Int} {A : List Hill} : ∀ {B B' : List Hill}, SimP d A (B ++ B') d' → ∃ A1 A2 d1, A = A1 ++ A2 ∧ SimP d A1 B d1 ∧ SimP d1 A2 B' d'
  | [], B', h => ⟨[], A, d, rfl, SimP.nil d, h⟩
  | b :: B, B', h => by
    rw [List.cons_append] at h
    generalize e : b :: (B ++ B') = L at h
    cases h with
    | nil => cases e
    | @step _ _ A1 A2 _ _ h1 h2 h3 =>
      injection e with e1 e2
      subst e1; subst e2
      obtain ⟨C1, C2, d1, rfl, g1, g2⟩ := SimP.split h3
      exact ⟨A1 ++ C1, C2, d1, by rw [List.append_assoc], SimP.step h1 h2 g1, g2⟩
theorem SimP.refl : ∀ (A : List Hill) {d : Int}, d ≤ 0 → SimP d A A d
  | [], d, _ => SimP.nil d
  | x :: A, d, h => by
    have e : d + gainS [x] - x.v = d := by show d + (x.v + 0) - x.v = d; omega
    have := SimP.step (A1 := [x]) (A2 := A) (b := x) (B := A) (d := d) (d' := d) ⟨by omega, trivial⟩ (by rw [e]; exact h) (by rw [e]; exact SimP.refl A h)
    exact this
theorem SimP.trans {e e' : Int} {B C : List Hill} (h' : SimP e B C e') : ∀ {d d' : Int} {A : List Hill}, SimP d A B d' → d ≤ 0 → e ≤ 0 → SimP (d + e) A C (d' + e') := by
  induction h' with
  | nil e =>
    intro d d' A h hd he
    cases h with
    | nil => exact SimP.nil _
  | @step e e' B1 B2 c C h1 h2 h3 ih =>
    intro d d' A h hd he
    obtain ⟨A1, A2, d1, rfl, g1, g2⟩ := SimP.split h
    have hg := g1.gain
    have hle := g1.le hd
    have := ih g2 hle h2
    refine SimP.step (g1.under h1) (by omega) ?_
    rw [show d + e + gainS A1 - c.v = d1 + (e + gainS B1 - c.v) by omega]
    exact this
def Sim (A B : List Hill) : Prop := SimP 0 A B 0
theorem Sim.refl (A : List Hill) : Sim A A := SimP.refl A (Int.le_refl 0)
theorem Sim.trans {A B C : List Hill} (h : Sim A B) (h' : Sim B C) : Sim A C := by
  have := SimP.trans h' h (Int.le_refl 0) (Int.le_refl 0)
  exact this
theorem Sim.app {A B A' B' : List Hill} (h : Sim A B) (h' : Sim A' B') : Sim (A ++ A') (B ++ B') := SimP.app h h'
theorem Sim.cons {A B : List Hill} (x : Hill) (h : Sim A B) : Sim (x :: A) (x :: B) := Sim.app (Sim.refl [x]) h
theorem Sim.under {A B : List Hill} (h : Sim A B) {p : Int} (hu : Under p 0 B) : Under p 0 A := by
  have := SimP.under h hu
  exact this
/-! ### sorted by what they fall: as good as any order -/
theorem sim_swap {x y : Hill} (h0 : 0 ≤ x.v) (hk : keyH y ≤ keyH x) : Sim [y, x] [x, y] := by
  unfold keyH at hk
  have e : (0 : Int) + gainS [] - x.v = - x.v := by show (0 : Int) + 0 - x.v = _; omega
  refine SimP.step (A1 := []) (A2 := [y, x]) trivial (by rw [e]; omega) ?_
  rw [e]
  have e2 : - x.v + gainS [y, x] - y.v = 0 := by rw [gainS_cons, gainS_cons]; show - x.v + (y.v + (x.v + 0)) - y.v = 0; omega
  refine SimP.step (A1 := [y, x]) (A2 := []) ⟨by omega, by omega, trivial⟩ (by rw [e2]; exact Int.le_refl _) ?_
  rw [e2]
  exact SimP.nil 0
theorem sim_front {s : Hill} : ∀ {P Q : List Hill}, (∀ x ∈ P, 0 ≤ x.v ∧ keyH s ≤ keyH x) → Sim (s :: (P ++ Q)) (P ++ s :: Q)
  | [], Q, _ => Sim.refl _
  | p :: P, Q, h => by
    obtain ⟨h1, h2⟩ := h p List.mem_cons_self
    have a : Sim (s :: p :: (P ++ Q)) (p :: s :: (P ++ Q)) := Sim.app (A := [s, p]) (B := [p, s]) (sim_swap h1 h2) (Sim.refl (P ++ Q))
    exact a.trans (Sim.cons p (sim_front fun x hx => h x (List.mem_cons_of_mem _ hx)))
theorem sim_sort : ∀ {ss W : List Hill}, ss.Pairwise (fun x y => keyH x ≤ keyH y) → (∀ x ∈ ss, 0 ≤ x.v) → W.Perm ss → Sim ss W
  | [], W, _, _, hp => by
    rw [List.perm_nil.mp hp]
    exact Sim.refl _
  | s :: ss, W, hs, h0, hp => by
    obtain ⟨P, Q, rfl⟩ := List.append_of_mem (hp.mem_iff.mpr (List.mem_cons_self (a := s) (l := ss)))
    have hp2 : (P ++ Q).Perm ss := (List.perm_cons s).mp (List.perm_middle.symm.trans hp)
    obtain ⟨s1, s2⟩ := List.pairwise_cons.mp hs
    have ih := sim_sort s2 (fun x hx => h0 x (List.mem_cons_of_mem _ hx)) hp2
    refine (Sim.cons s ih).trans (sim_front fun x hx => ?_)
    have hx2 : x ∈ ss := hp2.mem_iff.mp (List.mem_append_left _ hx)
    exact ⟨h0 x (List.mem_cons_of_mem _ hx2), s1 x hx2⟩
/-! ### rows put together -/
theorem climbs_snoc {hs : List Hill} {x : Hill} : climbsF (hs ++ [x]) (hs ++ [x]).length = climbsF hs hs.length ++ [climbF hs hs.length x] := by
  have key : ∀ i, i ≤ hs.length → climbsF (hs ++ [x]) i = climbsF hs i := by
    intro i
    induction i with
    | zero => intro _; rfl
    | succ i ih =>
      intro hi
      show climbsF (hs ++ [x]) i ++ _ = climbsF hs i ++ _
      rw [ih (by omega), List.getElem?_append_left (by omega), List.getElem?_eq_getElem (show i < hs.length by omega)]
      show _ ++ [climbF (hs ++ [x]) i _] = _ ++ [climbF hs i _]
      unfold climbF
      rw [List.take_append_of_le_length (by omega)]
  rw [List.length_append, List.length_singleton]
  show climbsF (hs ++ [x]) hs.length ++ _ = _
  rw [key _ (Nat.le_refl _), List.getElem?_append_right (Nat.le_refl _), Nat.sub_self]
  show _ ++ [climbF (hs ++ [x]) hs.length x] = _
  unfold climbF
  rw [List.take_append_of_le_length (Nat.le_refl _)]
def cl (hs : List Hill) : List Hill := climbsF hs hs.length
theorem cl_snoc (hs : List Hill) (x : Hill) : cl (hs ++ [x]) = cl hs ++ [⟨x.h - lastV hs, x.v - lastV hs, x.ns⟩] := by
  unfold cl
  rw [climbs_snoc]
  unfold climbF
  rw [List.take_length]
def NN (hs : List Hill) : Prop := ∀ x ∈ hs, 0 ≤ x.v
theorem last_lt {hs : List Hill} {y : Hill} (hc : Canon (hs ++ [y])) (h0 : NN (hs ++ [y])) : lastV hs ≤ y.v := by
  unfold lastV
  cases e : hs.getLast? with
  | none => exact h0 y (List.mem_append_right _ (List.mem_singleton.mpr rfl))
  | some z =>
    obtain ⟨_, _, h⟩ := List.pairwise_append.mp hc
    have := (h z (List.mem_of_getLast? e) y (List.mem_singleton.mpr rfl)).2
    show z.v ≤ y.v
    omega
theorem sim_add {hs : List Hill} : ∀ {x : Hill}, Canon hs → NN hs → 0 ≤ x.v → Sim (cl (addF hs x)) (cl (hs ++ [x])) ∧ NN (addF hs x) := by
  induction hs using snocRec with
  | h0 =>
    intro x _ _ hx
    rw [addF_nil]
    exact ⟨Sim.refl _, fun y hy => by rw [List.mem_singleton.mp hy]; exact hx⟩
  | h1 hs y ih =>
    intro x hc h0 hx
    by_cases c : y.h ≤ x.h ∨ x.v ≤ y.v
    · rw [addF_go c]
      have hl := last_lt hc h0
      obtain ⟨g1, g2⟩ := ih (x := ⟨max x.h y.h, x.v, y.ns ++ x.ns⟩) (List.pairwise_append.mp hc).1 (fun z hz => h0 z (List.mem_append_left _ hz)) hx
      refine ⟨g1.trans ?_, g2⟩
      rw [cl_snoc, cl_snoc, cl_snoc, List.append_assoc]
      refine Sim.app (Sim.refl _) ?_
      have elv : lastV (hs ++ [y]) = y.v := lastG_snoc 0 hs y
      rw [elv]
      show SimP 0 [_] ([_] ++ [_]) 0
      by_cases c1 : y.h ≤ x.h
      · have e : (0 : Int) + gainS [] - (y.v - lastV hs) = - (y.v - lastV hs) := by show (0 : Int) + 0 - _ = _; omega
        refine SimP.step (b := ⟨y.h - lastV hs, y.v - lastV hs, y.ns⟩) (A1 := []) trivial ?_ ?_
        · show (0 : Int) + gainS [] - (y.v - lastV hs) ≤ 0
          rw [e]
          omega
        · show SimP ((0 : Int) + gainS [] - (y.v - lastV hs)) _ _ 0
          rw [e]
          have hm : max x.h y.h = x.h := Int.max_eq_left c1
          have e2 : - (y.v - lastV hs) + gainS [⟨max x.h y.h - lastV hs, x.v - lastV hs, y.ns ++ x.ns⟩] - (x.v - y.v) = 0 := by
            unfold gainS
            show - (y.v - lastV hs) + (x.v - lastV hs + 0) - (x.v - y.v) = 0
            omega
          refine SimP.step (b := ⟨x.h - y.v, x.v - y.v, x.ns⟩) (A1 := [_]) (A2 := []) (B := []) ⟨?_, trivial⟩ (Int.le_of_eq e2) ?_
          · show - (y.v - lastV hs) + (max x.h y.h - lastV hs) ≤ x.h - y.v
            rw [hm]
            omega
          · show SimP (- (y.v - lastV hs) + gainS _ - (x.v - y.v)) [] [] 0
            rw [e2]
            exact SimP.nil 0
      · have c2 : x.v ≤ y.v := c.resolve_left c1
        have hm : max x.h y.h = y.h := Int.max_eq_right (by omega)
        have e : (0 : Int) + gainS [⟨max x.h y.h - lastV hs, x.v - lastV hs, y.ns ++ x.ns⟩] - (y.v - lastV hs) = x.v - y.v := by
          unfold gainS
          show (0 : Int) + (x.v - lastV hs + 0) - (y.v - lastV hs) = _
          omega
        refine SimP.step (b := ⟨y.h - lastV hs, y.v - lastV hs, y.ns⟩) (A1 := [_]) (A2 := []) ⟨?_, trivial⟩ ?_ ?_
        · show (0 : Int) + (max x.h y.h - lastV hs) ≤ y.h - lastV hs
          rw [hm]
          omega
        · show (0 : Int) + gainS _ - (y.v - lastV hs) ≤ 0
          rw [e]
          omega
        · show SimP ((0 : Int) + gainS _ - (y.v - lastV hs)) _ _ 0
          rw [e]
          have e2 : (x.v - y.v) + gainS [] - (x.v - y.v) = 0 := by show (x.v - y.v) + 0 - (x.v - y.v) = 0; omega
          refine SimP.step (b := ⟨x.h - y.v, x.v - y.v, x.ns⟩) (A1 := []) (A2 := []) (B := []) trivial (Int.le_of_eq e2) ?_
          show SimP ((x.v - y.v) + gainS [] - (x.v - y.v)) [] [] 0
          rw [e2]
          exact SimP.nil 0
    · rw [addF_stop c]
      exact ⟨Sim.refl _, fun z hz => (List.mem_append.mp hz).elim (h0 z) fun k => by rw [List.mem_singleton.mp k]; exact hx⟩
theorem canon_rowS {ss : List Hill} : ∀ {i : Nat}, i ≤ ss.length → Canon (rowS ss i).1
  | 0, _ => List.Pairwise.nil
  | i + 1, hi => by
    have e : ss[i]? = some ss[i] := List.getElem?_eq_getElem (by omega)
    rw [rowS_succ e]
    exact canon_addF (canon_rowS (by omega))
theorem lastV_addF {hs : List Hill} : ∀ {x : Hill}, lastV (addF hs x) = x.v := by
  induction hs using snocRec with
  | h0 => intro x; rw [addF_nil]; rfl
  | h1 hs y ih =>
    intro x
    by_cases c : y.h ≤ x.h ∨ x.v ≤ y.v
    · rw [addF_go c, ih]
    · rw [addF_stop c]
      exact lastG_snoc 0 _ x
theorem rowS_last {ss : List Hill} : ∀ {i : Nat}, i ≤ ss.length → lastV (rowS ss i).1 = (rowS ss i).2 ∧ (rowS ss i).2 = gainS (ss.take i)
  | 0, _ => ⟨rfl, rfl⟩
  | i + 1, hi => by
    have e : ss[i]? = some ss[i] := List.getElem?_eq_getElem (by omega)
    obtain ⟨_, h2⟩ := rowS_last (ss := ss) (i := i) (by omega)
    rw [rowS_succ e]
    refine ⟨lastV_addF, ?_⟩
    show (rowS ss i).2 + _ = _
    rw [List.take_add_one, e, h2, gainS_app]
    show gainS (ss.take i) + ss[i].v = gainS (ss.take i) + (ss[i].v + 0)
    omega
theorem sim_rowS {ss : List Hill} (h0 : ∀ i, i ≤ ss.length → 0 ≤ gainS (ss.take i)) : ∀ {i : Nat}, i ≤ ss.length → Sim (cl (rowS ss i).1) (ss.take i) ∧ NN (rowS ss i).1
  | 0, _ => ⟨Sim.refl [], fun x hx => by cases hx⟩
  | i + 1, hi => by
    have e : ss[i]? = some ss[i] := List.getElem?_eq_getElem (by omega)
    obtain ⟨h1, h2⟩ := sim_rowS h0 (i := i) (by omega)
    obtain ⟨e1, e2⟩ := rowS_last (ss := ss) (i := i) (by omega)
    obtain ⟨e3, e4⟩ := rowS_last (ss := ss) (i := i + 1) hi
    have hn := h0 (i + 1) hi
    rw [← e4] at hn
    rw [rowS_succ e] at hn ⊢
    obtain ⟨g1, g2⟩ := sim_add (x := ⟨(rowS ss i).2 + ss[i].h, (rowS ss i).2 + ss[i].v, ss[i].ns⟩) (canon_rowS (i := i) (by omega)) h2 hn
    refine ⟨g1.trans ?_, g2⟩
    rw [cl_snoc, e1, List.take_add_one, e]
    refine Sim.app h1 ?_
    show Sim [⟨(rowS ss i).2 + ss[i].h - (rowS ss i).2, (rowS ss i).2 + ss[i].v - (rowS ss i).2, ss[i].ns⟩] [ss[i]]
    rw [show (rowS ss i).2 + ss[i].h - (rowS ss i).2 = ss[i].h by omega, show (rowS ss i).2 + ss[i].v - (rowS ss i).2 = ss[i].v by omega]
    exact Sim.refl _
theorem sim_rowF {ss : List Hill} (h0 : ∀ i, i ≤ ss.length → 0 ≤ gainS (ss.take i)) : Sim (cl (rowF ss)) ss ∧ NN (rowF ss) := by
  have := sim_rowS h0 (Nat.le_refl _)
  rw [List.take_length] at this
  exact this
/-! ### two rows in one another -/
inductive Inter {α : Type} : List α → List α → List α → Prop
  | nil : Inter [] [] []
  | left {X Y L : List α} (x : α) : Inter X Y L → Inter (x :: X) Y (x :: L)
  | right {X Y L : List α} (y : α) : Inter X Y L → Inter X (y :: Y) (y :: L)
theorem Inter.symm {α : Type} {X Y L : List α} (h : Inter X Y L) : Inter Y X L := by
  induction h with
  | nil => exact .nil
  | left x _ ih => exact .right x ih
  | right y _ ih => exact .left y ih
theorem Inter.perm {α : Type} {X Y L : List α} (h : Inter X Y L) : L.Perm (X ++ Y) := by
  induction h with
  | nil => exact List.Perm.refl _
  | left x _ ih => exact ih.cons x
  | right y _ ih => exact (ih.cons y).trans List.perm_middle.symm
theorem Inter.pre {α : Type} {X Y L : List α} (h : Inter X Y L) : ∀ A : List α, Inter (A ++ X) Y (A ++ L)
  | [] => h
  | x :: A => .left x (Inter.pre h A)
theorem Inter.map {α β : Type} (f : α → β) {X Y L : List α} (h : Inter X Y L) : Inter (X.map f) (Y.map f) (L.map f) := by
  induction h with
  | nil => exact .nil
  | left x _ ih => exact .left (f x) ih
  | right y _ ih => exact .right (f y) ih
theorem inter_filter {α : Type} (p : α → Bool) : ∀ L : List α, Inter (L.filter p) (L.filter fun x => !p x) L
  | [] => .nil
  | x :: L => by
    by_cases h : p x = true
    · rw [List.filter_cons_of_pos h, List.filter_cons_of_neg (by simp [h])]
      exact .left x (inter_filter p L)
    · rw [List.filter_cons_of_neg h, List.filter_cons_of_pos (by simpa using h)]
      exact .right x (inter_filter p L)
theorem sim_inter {X Y L : List Hill} (h : Inter X Y L) : ∀ {d d' : Int} {A : List Hill}, SimP d A X d' → d ≤ 0 → ∃ W, Inter A Y W ∧ SimP d W L d' := by
  induction h with
  | nil =>
    intro d d' A h _
    cases h with
    | nil => exact ⟨[], .nil, .nil _⟩
  | @left X Y L x hi ih =>
    intro d d' A h hd
    generalize e : x :: X = X' at h
    cases h with
    | nil => cases e
    | @step _ _ A1 A2 b B h1 h2 h3 =>
      injection e with e1 e2
      subst e1; subst e2
      obtain ⟨W, w1, w2⟩ := ih h3 h2
      exact ⟨A1 ++ W, w1.pre A1, SimP.step h1 h2 w2⟩
  | @right X Y L y hi ih =>
    intro d d' A h hd
    obtain ⟨W, w1, w2⟩ := ih h hd
    refine ⟨y :: W, .right y w1, ?_⟩
    have e : d + gainS [y] - y.v = d := by show d + (y.v + 0) - y.v = d; omega
    exact SimP.step (A1 := [y]) (A2 := W) ⟨by omega, trivial⟩ (by rw [e]; exact hd) (by rw [e]; exact w2)
theorem sim_two {X Y L A B : List Hill} (h : Inter X Y L) (hA : Sim A X) (hB : Sim B Y) : ∃ W, W.Perm (A ++ B) ∧ Sim W L := by
  obtain ⟨W1, w1, w2⟩ := sim_inter h hA (Int.le_refl 0)
  obtain ⟨W2, v1, v2⟩ := sim_inter w1.symm hB (Int.le_refl 0)
  exact ⟨W2, v1.symm.perm, Sim.trans v2 w2⟩
end Hs
namespace Hs
open PySem PySem.Spec PyProof.Rows L2
/-! ### no order of a tree's makes is better than its row -/
def sgl (bk : Book) (x : Str) : Hill := ⟨szOf bk x, dlt (szOf bk) (nmOf bk) x, [x]⟩
theorem under_pks {bk : Book} {p : Int} : ∀ (S : List Str) {d : Int}, Under p d (S.map (sgl bk)) ↔ ∀ q ∈ pks (szOf bk) (nmOf bk) d S, q ≤ p
  | [], _ => ⟨fun _ q hq => by (cases hq), fun _ => trivial⟩
  | x :: S, d => by
    show (d + szOf bk x ≤ p ∧ Under p (d + dlt (szOf bk) (nmOf bk) x) (S.map (sgl bk))) ↔ ∀ q ∈ (d + szOf bk x) :: pks (szOf bk) (nmOf bk) (d + dlt (szOf bk) (nmOf bk) x) S, q ≤ p
    rw [List.forall_mem_cons, under_pks S]
theorem under_cl {p : Int} (hs : List Hill) : Under p 0 (cl hs) ↔ ∀ x ∈ hs, x.h ≤ p := by
  induction hs using snocRec with
  | h0 => exact ⟨fun _ x hx => by (cases hx), fun _ => trivial⟩
  | h1 hs y ih =>
    have hg : gainS (cl hs) = lastV hs := by
      unfold gainS cl
      rw [climbs_sum (Nat.le_refl _), List.take_length]
    rw [cl_snoc, under_app, ih, hg]
    show (_ ∧ (0 + lastV hs + (y.h - lastV hs) ≤ p ∧ True)) ↔ _
    constructor
    · rintro ⟨h1, h2, _⟩ x hx
      rcases List.mem_append.mp hx with k | k
      · exact h1 x k
      · rw [List.mem_singleton.mp k]
        omega
    · intro h
      refine ⟨fun x hx => h x (List.mem_append_left _ hx), ?_, trivial⟩
      have := h y (List.mem_append_right _ (List.mem_singleton.mpr rfl))
      omega
theorem flat_perm {l m : List Hill} (h : l.Perm m) : (flatN l).Perm (flatN m) := by
  induction h with
  | nil => exact List.Perm.refl _
  | cons x _ ih => exact List.Perm.append (List.Perm.refl x.ns) ih
  | swap x y l =>
    show (y.ns ++ (x.ns ++ flatN l)).Perm (x.ns ++ (y.ns ++ flatN l))
    rw [← List.append_assoc, ← List.append_assoc]
    exact List.Perm.append List.perm_append_comm (List.Perm.refl _)
  | trans _ _ h1 h2 => exact h1.trans h2
theorem flat_of (R : Str → List Hill) : ∀ ys : List Str, flatN (climbsOf R ys) = ys.flatMap fun y => flatN (R y)
  | [] => rfl
  | y :: ys => by
    have e : climbsOf R (y :: ys) = climbsF (R y) (R y).length ++ climbsOf R ys := rfl
    unfold flatN at *
    rw [e, List.flatMap_append, List.flatMap_cons]
    have h1 := climbs_flat (hs := R y) (Nat.le_refl _)
    rw [List.take_length] at h1
    unfold flatN at h1
    rw [h1]
    congr 1
    exact flat_of R ys
theorem NB.filter {nm : Str → List Str} {S : List Str} {p : Str → Bool} (h : NB nm S) (hp : ∀ x ∈ S, p x = true → ∀ z ∈ nm x, p z = true) : NB nm (S.filter p) := by
  intro x hx z hz
  obtain ⟨h1, h2⟩ := List.mem_filter.mp hx
  have := (h x h1 z hz).filter p
  rw [List.filter_cons_of_pos (hp x h1 h2 z hz), List.filter_cons_of_pos h2] at this
  exact this
theorem NB.snoc {nm : Str → List Str} {S : List Str} {x : Str} (h : NB nm S) (hx : ∀ z ∈ nm x, z ∈ S) : NB nm (S ++ [x]) := by
  intro y hy z hz
  rcases List.mem_append.mp hy with k | k
  · exact (h y k z hz).trans (List.sublist_append_left _ _)
  · rw [List.mem_singleton.mp k] at hz ⊢
    show ([z] ++ [x]).Sublist _
    exact List.Sublist.append (List.singleton_sublist.mpr (hx z hz)) (List.Sublist.refl _)
theorem NB.init {nm : Str → List Str} {S : List Str} {x : Str} (h : NB nm (S ++ [x])) (hn : (S ++ [x]).Nodup) : NB nm S := by
  intro y hy z hz
  have := h y (List.mem_append_left _ hy) z hz
  obtain ⟨l1, l2, e, g1, g2⟩ := List.sublist_append_iff.mp this
  cases l2 with
  | nil => rw [List.append_nil] at e; rw [e]; exact g1
  | cons a l2 =>
    exfalso
    obtain ⟨_, _, hd⟩ := List.nodup_append.mp hn
    have hl := (List.Sublist.length_le g2)
    have ha : a = x := List.mem_singleton.mp (g2.subset List.mem_cons_self)
    have h2 : l2 = [] := by
      cases l2 with
      | nil => rfl
      | cons b l => simp at hl
    subst h2
    subst ha
    have : y = a := by
      have e1 := congrArg List.getLast? e
      rw [List.getLast?_append] at e1
      exact Option.some.inj e1
    exact hd y hy a (List.mem_singleton.mpr rfl) this
/-- all of a row hangs from its name -/
theorem reach {bk : Book} (hO : BookOk bk) {R : Str → List Hill} {n : Nat} (hR : RowsOf bk R n) {C : Str → Prop} (hC : ∀ x ∈ bk.map (·.name), C x → ∀ y ∈ nmOf bk x, C y) : ∀ (j : Nat), ∀ a, j < n → bk[j]? = some a → C a.name → ∀ x ∈ flatN (R a.name), C x := by
  intro j
  induction j using Nat.strongRecOn with
  | ind j ih =>
    intro a hj ha hc x hx
    obtain ⟨ss, h1, h2, h3, h4⟩ := hR.rel j a hj ha
    have ham := List.mem_of_getElem? ha
    have hfl : flatN (R a.name) = flatN ss ++ [a.name] := by rw [h4]; exact best_flat
    rw [hfl] at hx
    rcases List.mem_append.mp hx with k | k
    · rw [(flat_perm h1).mem_iff, flat_of] at k
      obtain ⟨y, hy, hxy⟩ := List.mem_flatMap.mp k
      obtain ⟨b, hb, e⟩ := List.mem_map.mp (names_sub hO ha y hy)
      obtain ⟨k, hk⟩ := List.getElem?_of_mem hb
      have hkl : k < j := by
        have := (List.getElem?_eq_some_iff.mp hk).1
        rw [List.length_take] at this
        omega
      rw [List.getElem?_take_of_lt hkl] at hk
      have hcy : C b.name := hC a.name (List.mem_map.mpr ⟨a, ham, rfl⟩) hc b.name (by rw [nm_is hO ham, e]; exact hy)
      exact ih k hkl b (by omega) hk hcy x (by rw [e]; exact hxy)
    · rw [List.mem_singleton.mp k]
      exact hc
theorem two_lists {p : Str → Bool} {S X Y : List Str} (h : S.Perm (X ++ Y)) (hX : ∀ x ∈ X, p x = true) (hY : ∀ y ∈ Y, p y = false) : (S.filter p).Perm X ∧ (S.filter fun x => !p x).Perm Y := by
  have a1 : X.filter p = X := List.filter_eq_self.mpr hX
  have a2 : Y.filter p = [] := List.filter_eq_nil_iff.mpr fun y hy => by rw [hY y hy]; decide
  have a3 : X.filter (fun x => !p x) = [] := List.filter_eq_nil_iff.mpr fun y hy => by rw [hX y hy]; decide
  have a4 : Y.filter (fun x => !p x) = Y := List.filter_eq_self.mpr fun y hy => by rw [hY y hy]; rfl
  constructor
  · have := h.filter p
    rw [List.filter_append, a1, a2, List.append_nil] at this
    exact this
  · have := h.filter fun x => !p x
    rw [List.filter_append, a3, a4, List.nil_append] at this
    exact this
theorem sim_kids {bk : Book} {R : Str → List Hill} : ∀ (ys : List Str), (∀ y ∈ ys, NB (nmOf bk) (flatN (R y)) ∧ ∀ S : List Str, S.Nodup → S.Perm (flatN (R y)) → NB (nmOf bk) S → Sim (cl (R y)) (S.map (sgl bk))) → ∀ S : List Str, S.Nodup → S.Perm (ys.flatMap fun y => flatN (R y)) → NB (nmOf bk) S → ∃ W, W.Perm (climbsOf R ys) ∧ Sim W (S.map (sgl bk))
  | [], _, S, _, hp, _ => by
    rw [List.perm_nil.mp hp]
    exact ⟨[], List.Perm.refl _, Sim.refl _⟩
  | y :: ys, h, S, hn, hp, hb => by
    rw [List.flatMap_cons] at hp
    obtain ⟨hy, hSy⟩ := h y List.mem_cons_self
    have hn2 := hp.nodup_iff.mp hn
    obtain ⟨n1, n2, n3⟩ := List.nodup_append.mp hn2
    obtain ⟨p1, p2⟩ := two_lists (p := fun x => decide (x ∈ flatN (R y))) hp (fun x hx => decide_eq_true hx) (fun x hx => decide_eq_false fun k => n3 x k x hx rfl)
    have b1 : NB (nmOf bk) (S.filter fun x => decide (x ∈ flatN (R y))) := hb.filter fun x _ hx z hz => decide_eq_true ((hy x (of_decide_eq_true hx) z hz).subset List.mem_cons_self)
    have b2 : NB (nmOf bk) (S.filter fun x => !decide (x ∈ flatN (R y))) := hb.filter fun x hxS hx z hz => by
      have hxr : x ∈ ys.flatMap fun y => flatN (R y) := p2.mem_iff.mp (List.mem_filter.mpr ⟨hxS, hx⟩)
      obtain ⟨u, hu, hxu⟩ := List.mem_flatMap.mp hxr
      have hzu := ((h u (List.mem_cons_of_mem _ hu)).1 x hxu z hz).subset List.mem_cons_self
      rw [decide_eq_false fun k => n3 z k z (List.mem_flatMap.mpr ⟨u, hu, hzu⟩) rfl]
      rfl
    obtain ⟨W', w1, w2⟩ := sim_kids ys (fun u hu => h u (List.mem_cons_of_mem _ hu)) _ (hn.filter _) p2 b2
    obtain ⟨W, v1, v2⟩ := sim_two ((inter_filter (fun x => decide (x ∈ flatN (R y))) S).map (sgl bk)) (hSy _ (hn.filter _) p1 b1) w2
    exact ⟨W, v1.trans (List.Perm.append (List.Perm.refl _) w1), v2⟩
theorem nn_climbs {hs : List Hill} (hc : Canon hs) (h0 : NN hs) : ∀ x ∈ cl hs, 0 ≤ x.v := by
  induction hs using snocRec with
  | h0 => intro x hx; cases hx
  | h1 hs y ih =>
    intro x hx
    rw [cl_snoc] at hx
    rcases List.mem_append.mp hx with k | k
    · exact ih (List.pairwise_append.mp hc).1 (fun z hz => h0 z (List.mem_append_left _ hz)) x k
    · rw [List.mem_singleton.mp k]
      have := last_lt hc h0
      show 0 ≤ y.v - lastV hs
      omega
theorem gain_nn : ∀ (ss : List Hill), (∀ x ∈ ss, 0 ≤ x.v) → 0 ≤ gainS ss
  | [], _ => Int.le_refl 0
  | x :: ss, h => by
    rw [gainS_cons]
    have h1 := h x List.mem_cons_self
    have h2 := gain_nn ss fun y hy => h y (List.mem_cons_of_mem _ hy)
    omega
theorem sim_tree {bk : Book} (hO : BookOk bk) {R : Str → List Hill} {n : Nat} (hR : RowsOf bk R n) : ∀ (j : Nat), ∀ a, j < n → bk[j]? = some a → NN (R a.name) ∧ ∀ S : List Str, S.Nodup → S.Perm (flatN (R a.name)) → NB (nmOf bk) S → Sim (cl (R a.name)) (S.map (sgl bk)) := by
  intro j
  induction j using Nat.strongRecOn with
  | ind j ih =>
    intro a hj ha
    obtain ⟨ss, h1, h2, h3, h4⟩ := hR.rel j a hj ha
    have ham := List.mem_of_getElem? ha
    have hra := row_ok hO hR j a hj ha
    have need : ∀ y ∈ a.how.names, RowOk bk R ⟨y, (partOf bk y).elim (.leaf 0) (·.how), 0, 0⟩ ∧ NN (R y) ∧ ∀ S : List Str, S.Nodup → S.Perm (flatN (R y)) → NB (nmOf bk) S → Sim (cl (R y)) (S.map (sgl bk)) := fun y hy => by
      obtain ⟨b, hb, e⟩ := List.mem_map.mp (names_sub hO ha y hy)
      obtain ⟨k, hk⟩ := List.getElem?_of_mem hb
      have hkl : k < j := by
        have := (List.getElem?_eq_some_iff.mp hk).1
        rw [List.length_take] at this
        omega
      rw [List.getElem?_take_of_lt hkl] at hk
      subst e
      have r := row_ok hO hR k b (by omega) hk
      exact ⟨⟨r.rep, r.can, r.last, r.nb, r.own⟩, ih k hkl b (by omega) hk⟩
    have hv : ∀ x ∈ ss, 0 ≤ x.v := fun x hx => by
      obtain ⟨y, hy, hxy⟩ := List.mem_flatMap.mp (h1.mem_iff.mp hx)
      obtain ⟨r, r2, _⟩ := need y hy
      exact nn_climbs r.can r2 x hxy
    have hlast : (⟨a.size, a.size - (a.how.names.map (sizeOf' bk)).sum, [a.name]⟩ : Hill) = sgl bk a.name := by
      have e1 : (nmOf bk a.name).map (szOf bk) = a.how.names.map (sizeOf' bk) := by rw [nm_is hO ham]; rfl
      unfold sgl dlt
      rw [e1, sz_is hO ham]
    have hss : gainS ss = (a.how.names.map (sizeOf' bk)).sum := by
      unfold gainS
      rw [sum_perm (h1.map (·.v)), climbsOf_sum (f := sizeOf' bk) _ fun y hy => (need y hy).1.last]
    have hsz : 0 ≤ a.size := by
      have := hO.size a ham
      omega
    have hpre : ∀ i, i ≤ (ss ++ [(⟨a.size, a.size - (a.how.names.map (sizeOf' bk)).sum, [a.name]⟩ : Hill)]).length → 0 ≤ gainS ((ss ++ [(⟨a.size, a.size - (a.how.names.map (sizeOf' bk)).sum, [a.name]⟩ : Hill)]).take i) := fun i hi => by
      rw [List.length_append, List.length_singleton] at hi
      by_cases c : i ≤ ss.length
      · rw [List.take_append_of_le_length c]
        exact gain_nn _ fun x hx => hv x (List.mem_of_mem_take hx)
      · rw [List.take_of_length_le (by rw [List.length_append, List.length_singleton]; omega), gainS_app, hss]
        show 0 ≤ _ + (a.size - _ + 0)
        omega
    obtain ⟨s1, s2⟩ := sim_rowF hpre
    have hRa : R a.name = rowF (ss ++ [(⟨a.size, a.size - (a.how.names.map (sizeOf' bk)).sum, [a.name]⟩ : Hill)]) := h4
    refine ⟨by rw [hRa]; exact s2, fun S hn hp hb => ?_⟩
    have hfl : flatN (R a.name) = flatN ss ++ [a.name] := by rw [h4]; exact best_flat
    rw [hRa]
    refine s1.trans ?_
    rw [hlast]
    -- the last of S is the name itself
    obtain ⟨S0, l, rfl⟩ : ∃ S0 l, S = S0 ++ [l] := by
      have hne : S ≠ [] := fun e => by
        have := hp.length_eq
        rw [hfl, e, List.length_append] at this
        simp at this
      exact ⟨S.dropLast, S.getLast hne, (List.dropLast_concat_getLast hne).symm⟩
    have hl : l = a.name := by
      refine Classical.byContradiction fun hne => ?_
      have hlm : l ∈ flatN (R a.name) := hp.mem_iff.mp (List.mem_append_right _ (List.mem_singleton.mpr rfl))
      obtain ⟨_, _, hd⟩ := List.nodup_append.mp hn
      have hpar := reach hO hR (C := fun x => x ∈ flatN (R a.name) ∧ (x = a.name ∨ ∃ w ∈ flatN (R a.name), x ∈ nmOf bk w)) (fun x _ hx y hy => ⟨(hra.nb x hx.1 y hy).subset List.mem_cons_self, .inr ⟨x, hx.1, hy⟩⟩) j a hj ha ⟨hra.own, .inl rfl⟩ l hlm
      rcases hpar.2 with e | ⟨w, hw, hlw⟩
      · exact hne e
      · obtain ⟨l1, l2, e, g1, g2⟩ := List.sublist_append_iff.mp (hb w (hp.mem_iff.mpr hw) l hlw)
        cases l1 with
        | nil =>
          rw [List.nil_append] at e
          rw [← e] at g2
          have := g2.length_le
          simp at this
        | cons c l1 =>
          rw [List.cons_append] at e
          injection e with e1 e2
          exact hd l (e1 ▸ g1.subset List.mem_cons_self) l (List.mem_singleton.mpr rfl) rfl
    subst hl
    rw [hfl] at hp
    have hp0 : S0.Perm (a.how.names.flatMap fun y => flatN (R y)) := by
      have := (List.perm_append_right_iff [a.name]).mp hp
      rw [← flat_of]
      exact this.trans (flat_perm h1)
    obtain ⟨n0, _, _⟩ := List.nodup_append.mp hn
    obtain ⟨W, w1, w2⟩ := sim_kids a.how.names (fun y hy => ⟨(need y hy).1.nb, (need y hy).2.2⟩) S0 n0 hp0 (hb.init hn)
    rw [List.map_append]
    refine Sim.app ?_ (Sim.refl [sgl bk a.name])
    exact (sim_sort h2 hv (w1.trans h1.symm)).trans w2
end Hs
namespace Hs
open PySem PySem.Spec PyProof.Rows L2
theorem filt_lt {bk : Book} {p : Str → Bool} {i : Nat} (hl : bk.length ≤ 24) : (List.map V.str (((bk.map (·.name)).take i).filter p)).length < sizeLine := by
  rw [List.length_map]
  have h1 : (((bk.map (·.name)).take i).filter p).length ≤ ((bk.map (·.name)).take i).length := List.length_filter_le _ _
  rw [List.length_take, List.length_map] at h1
  exact small1000 (by omega)
theorem nm_get {bk : Book} {i : Nat} {a : Part} (h : bk[i]? = some a) : (bk.map (·.name))[i]? = some a.name := by rw [List.getElem?_map, h]; rfl
section
variable {P : Program} {w : World} {K : PySem.W.Frag} {mg : Str → Option Value} {base : Heap}
/-! ### _law_below -/
theorem sc_lbelow : FnScope nLBelow ["book", "names"] (defScope s_law_below) := ⟨rfl, rfl, rfl, by decide +kernel, rfl, by decide +kernel, by decide +kernel⟩
set_option maxHeartbeats 1200000 in
theorem c_lbelow (B : Blt mg) (D : Dfn K mg "_law_below" s_law_below) (Cn : Cal P w K mg base 1 "_law_needs" ["part"] spNeeds) : Cal P w K mg base 2 "_law_below" ["book", "names"] spBelowT := by
  refine D.cal (fun _ _ _ _ _ _ us hl => match us, hl with | [_, _], _ => rfl) fun f fd F => F.ok sc_lbelow (fun vs H Q E h => ?_) (fun cdv A outer s H vs Q E hr h => ?_)
  · obtain ⟨a, _, _, _, rfl, _⟩ := h
    rfl
  · obtain ⟨b, l, bk, xs, rfl, ⟨ps, hb, hP⟩, hO, hl, hL, hxl, hxs, q⟩ := h
    have nd := sc_lbelow.nd
    refine ⟨_, (bs_c (bs_set 2 nd (b_callTy call_list_of B.list (ba_c (b_v 1) ba_nil)))
      (bs_c (bs_for (bi_tup (b_step (b_v 0) (b_neg b_int))) (bg_n 3 nd) (bs_one (bs_if (bt_cmpR op_in_seq (b_ix ix_tup (b_v 3) b_int) (b_v 2) (by rfl)) (bs_one (bs_set 2 nd (b_op op_cat (b_v 2) (b_cal Cn hr (ba_c (b_v 3) ba_nil))))) bs_nil)))
      (bs_one (bs_ret (b_c 3 nLBelow (defScope s_law_below) nd (bi_tup (b_v 0)) (fun _ _ _ _ _ => (bts_one (bt_cmpR (r := rIn K false) op_in_seq (b_ix (r := rIxT K) ix_tup (b_v 3) b_int) (b_v 2) (by rfl)))) (fun _ _ _ _ _ => (b_ix (r := rIxT K) ix_tup (b_v 3) b_int)) (fun _ _ _ _ _ => (bg_n 3 nd))))))).o, ?_⟩
    refine ⟨_, rfl, l, _, rfl, .inl (SqL.of hL), fun f1 hf1 => ?_⟩
    have hS1 : Same H (upd H f1 (.lst (xs.map V.str))) := Same.new hf1
    refine ⟨_, rfl, _, rfl, b, _, rfl, SqT.of (hS1 _ _ hb), .inr ⟨rfl, fun rv hrv => ?_⟩⟩
    have hS2 : Same H (upd (upd H f1 (.lst (xs.map V.str))) rv (.tup (ps.map V.ref).reverse)) := hS1.trans (Same.new hrv)
    have hfr : (upd (upd H f1 (.lst (xs.map V.str))) rv (.tup (ps.map V.ref).reverse)) f1 = some (.lst (xs.map V.str)) := by rw [upd_ne (ne_of_none upd_same hrv)]; exact upd_same
    have hrv2 : (upd (upd H f1 (.lst (xs.map V.str))) rv (.tup (ps.map V.ref).reverse)) rv = some (.tup (ps.map V.ref).reverse) := upd_same
    generalize upd (upd H f1 (.lst (xs.map V.str))) rv (.tup (ps.map V.ref).reverse) = H1 at hS2 hfr hrv2
    refine ⟨rv, rfl, ⟨_, SqT.of hrv2⟩, for_tup (K := K) (a := rv) (xs := (ps.map V.ref).reverse) (fun i σ H2 => ∃ (fa : Addr) (v3 : Option V), σ = [some (.ref b), some (.ref l), some (.ref fa), v3] ∧ Same H1 H2 ∧ H2 fa = some (.lst (((bk.reverse.take i).foldl bStep xs).map V.str))) ?_ ?_ ?_ ?_⟩
    · exact ⟨f1, none, rfl, Same.refl _, hfr⟩
    · rintro i σ H2 _ ⟨_, _, rfl, hs, _⟩
      exact SqT.of (hs _ _ hrv2)
    · rintro i v σ H2 hi ⟨fa, v3, rfl, hs, hfa⟩
      have hil : i < (ps.map V.ref).length := by
        have := (List.getElem?_eq_some_iff.mp hi).1
        rw [List.length_reverse] at this
        exact this
      rw [List.getElem?_reverse hil] at hi
      obtain ⟨p, a, rfl, ha, hPt⟩ := hP.get hi
      rw [List.length_map, hP.1] at ha hil
      have har := rev_get hil ha
      have hPt2 := hPt.tups (hS2.trans hs).tups
      obtain ⟨r, hp, hr2⟩ := id hPt2
      have hlen := bAcc_len bk hO xs i (by omega)
      refine ⟨_, rfl, p, _, _, _, rfl, rfl, SqT.of hp, rfl, _, rfl, fa, _, rfl, .inl (SqL.of hfa), rfl, flat_strs _, _, rfl, ?_⟩
      rw [if_neg (show ¬ (false = true) by decide), inV_strs]
      refine ite2 (fun hc => ?_) (fun hc => ?_)
      · have hc := of_decide_eq_true hc
        refine ⟨_, rfl, _, rfl, p, a, _, rfl, hPt2, hO.how _ a ha, fun l2 H3 hl2 hS3 hl3 => ?_⟩
        refine ⟨fa, l2, _, _, rfl, rfl, hS3 _ _ hfa, hl3, ?_, fun f2 hf2 => ?_⟩
        · rw [List.length_map, List.length_map]
          have := names4 (hO.how _ a ha)
          exact small100 (by omega)
        · refine ⟨f2, _, rfl, (hs.trans hS3).trans (Same.new hf2), ?_⟩
          rw [upd_same, foldl_take _ _ har, bStep_pos hc, List.map_append]
      · refine ⟨fa, _, rfl, hs, ?_⟩
        rw [foldl_take _ _ har, bStep_neg (fun z => hc (decide_eq_true z))]
        exact hfa
    · rintro σ H2 ⟨fa, v3, rfl, hs, hfa⟩
      rw [List.length_reverse, List.length_map, hP.1, ← List.length_reverse, List.take_length] at hfa
      have hS3 := hS2.trans hs
      have hb2 := hS3 _ _ hb
      refine ⟨_, rfl, b, rfl, ⟨_, SqT.of hb2⟩, fun D hD => ?_⟩
      have hfD : fa ≠ D := ne_of_none hfa hD
      refine lc_tup (K := K) (a := b) (xs := ps.map V.ref) (fun i H4 => H4 = upd H2 D (.lst ((((bk.map (·.name)).take i).filter fun y => decide (y ∈ bAcc bk xs)).map V.str))) rfl ?_ ?_ ?_
      · rintro i H4 _ rfl
        exact SqT.of (by rw [upd_ne (ne_of_none hb2 hD)]; exact hb2)
      · rintro i v H4 hi rfl
        obtain ⟨p, a, rfl, ha, hPt⟩ := hP.get hi
        obtain ⟨r, hp, _⟩ := hPt.tups hS3.tups
        have hp4 : ∀ o, (upd H2 D o) p = some (.tup [.str a.name, .ref r, .int a.size, .int a.cost]) := fun o => by rw [upd_ne (ne_of_none hp hD)]; exact hp
        refine ⟨rfl, _, rfl, p, _, _, _, rfl, rfl, SqT.of (hp4 _), rfl, _, rfl, fa, _, rfl, .inl (SqL.of (by rw [upd_ne hfD]; exact hfa)), rfl, flat_strs _, _, rfl, ?_⟩
        rw [if_neg (show ¬ (false = true) by decide), inV_strs]
        refine ite2 (fun hc => ?_) (fun hc => ?_)
        · refine ⟨_, rfl, p, _, _, _, rfl, rfl, SqT.of (hp4 _), rfl, _, upd_same, filt_lt hl, ?_⟩
          show upd (upd H2 D _) D _ = _
          have hc : decide (a.name ∈ bAcc bk xs) = true := hc
          rw [upd_upd, filt_take _ (nm_get ha), if_pos hc, List.map_append]
          rfl
        · show upd H2 D _ = _
          have hc : ¬ decide (a.name ∈ bAcc bk xs) = true := hc
          rw [filt_take _ (nm_get ha), if_neg hc, List.append_nil]
      · rintro H4 rfl
        rw [List.length_map, hP.1, ← List.length_map (f := fun a : Part => a.name) (as := bk), List.take_length]
        exact q D _ (hS3.free hD) (hS3.trans (Same.new hD)) upd_same
end
end Hs
namespace Hs
open PySem PySem.Spec PyProof.Rows L2
def StrsAt (H : Hp) (a : Addr) (xs : List Str) : Prop := H a = some (.lst (xs.map V.str)) ∨ H a = some (.tup (xs.map V.str))
def ordOf (ns ys : List Str) : List Str := ns.filter fun x => decide (x ∈ ys)
structure NsOk (bk : Book) (ns : List Str) : Prop where
  le : ns.length ≤ 24
  nd : ns.Nodup
  word : ∀ x ∈ ns, WordOk x
  sub : ∀ x ∈ ns, x ∈ bk.map (·.name)
theorem bitsN_take {ns ys : List Str} {k : Nat} {x : Str} (h : ns[k]? = some x) : bitsN (ns.take (k + 1)) ys = bitsN (ns.take k) ys + (if x ∈ ys then 2 ^ k else 0) := by
  have hk := (List.getElem?_eq_some_iff.mp h).1
  unfold bitsN
  rw [take_snoc h, List.map_append]
  show mask (_ ++ [decide (x ∈ ys)]) = _
  rw [mask_snoc, List.length_map, List.length_take, Nat.min_eq_left (Nat.le_of_lt hk)]
  by_cases c : x ∈ ys
  · rw [decide_eq_true c, if_pos rfl, if_pos c]
  · rw [decide_eq_false c, if_neg (by decide), if_neg c]
theorem powsN_take {ns ys : List Str} {n : Nat} (hn : n ≤ ns.length) : (((List.range n).filter fun k => (bitsN ns ys).testBit k).map fun k => ((2 ^ k : Nat) : Int)).sum = (bitsN (ns.take n) ys : Int) := by
  induction n with
  | zero => rfl
  | succ n ih =>
    have hx : ns[n]? = some (ns[n]'(by omega)) := List.getElem?_eq_getElem _
    generalize ns[n]'(by omega) = x at hx
    rw [List.range_succ, List.filter_append, List.map_append, List.sum_append, ih (by omega), bitsN_take hx]
    by_cases c : x ∈ ys
    · rw [List.filter_cons_of_pos (by rw [bitsN_at hx, decide_eq_true c]), if_pos c]
      simp
    · rw [List.filter_cons_of_neg (by rw [bitsN_at hx, decide_eq_false c]; decide), if_neg c]
      simp
section
variable {P : Program} {w : World} {K : PySem.W.Frag} {mg : Str → Option Value} {base : Heap}
/-! ### _law_bits -/
abbrev nBits : List Str := ["names", "some", "k"]
def spBits : Sp := fun vs H Q _ => ∃ (a l : Addr) (ns ys : List Str), vs = [.ref a, .ref l] ∧ H a = some (.lst (ns.map V.str)) ∧ ns.length ≤ 24 ∧ StrsAt H l ys ∧ ∀ H', Same H H' → Q (.int (bitsN ns ys : Nat)) H'
theorem sc_bits : FnScope nBits ["names", "some"] (defScope s_law_bits) := ⟨rfl, rfl, rfl, by decide +kernel, rfl, by decide +kernel, by decide +kernel⟩
set_option maxHeartbeats 1200000 in
theorem c_bits (B : Blt mg) (D : Dfn K mg "_law_bits" s_law_bits) : Cal P w K mg base 1 "_law_bits" ["names", "some"] spBits := by
  refine D.cal (fun _ _ _ _ _ _ us hl => match us, hl with | [_, _], _ => rfl) fun f fd F => F.ok sc_bits (fun vs H Q E h => ?_) (fun cdv A outer s H vs Q E hr h => ?_)
  · obtain ⟨a, l, _, _, rfl, _⟩ := h
    rfl
  · obtain ⟨a, l, ns, ys, rfl, ha, hn, hl, q⟩ := h
    have nd := sc_bits.nd
    have hu := hu_of hr
    refine ⟨_, (bs_one (bs_ret (b_callB (cr_sum rfl) B.sum (ba_c (b_c 2 nBits (defScope s_law_bits) nd (bi_range1 B.range (ba_c (b_callB call_len_seq B.len (ba_c (b_v 0) ba_nil)) ba_nil)) (fun _ _ _ _ _ => (bts_one (bt_cmpR (r := rIn K false) op_in_seq (b_ix (r := rIxL K) ix_list (b_v 0) (b_v 2)) (b_v 1) (by rfl)))) (fun _ _ _ _ _ => (b_op op_shl b_int (b_v 2))) (fun _ _ _ _ _ => (bg_n 2 nd))) ba_nil)))).o, ?_⟩
    have h62 : ns.length < 2 ^ 62 := Nat.lt_of_le_of_lt hn (by decide)
    refine ⟨_, rfl, a, _, rfl, .inl (SqL.of ha), _, rfl, by omega, by rw [List.length_map]; exact_mod_cast h62, fun D hD => ?_⟩
    have sD : ∀ {o : HO}, Same H (upd H D o) := Same.new hD
    refine lc_range (fun i H2 => H2 = upd H D (.lst ((((List.range i).filter fun k => (bitsN ns ys).testBit k).map fun k => ((2 ^ k : Nat) : Int)).map V.int))) rfl ?_ ?_
    · rintro i H2 hi rfl
      rw [Int.zero_add]
      have hi' : i < ns.length := by rw [List.length_map] at hi; exact hi
      have hx : ns[i]? = some (ns[i]'hi') := List.getElem?_eq_getElem _
      generalize ns[i]'hi' = x at hx
      refine ⟨rfl, _, rfl, _, rfl, a, ns.map V.str, (i : Int), .str x, rfl, rfl, SqL.of (sD _ _ ha), atI_nat (by rw [List.getElem?_map, hx]; rfl), _, rfl, l, _, rfl, ?_, rfl, flat_strs ys, _, rfl, ?_⟩
      · rcases hl with h | h
        · exact .inl (SqL.of (sD _ _ h))
        · exact .inr (SqT.of (sD _ _ h))
      rw [inV_strs, List.range_succ, List.filter_append]
      by_cases c : x ∈ ys
      · rw [decide_eq_true c, List.filter_cons_of_pos (by rw [bitsN_at hx, decide_eq_true c])]
        refine iteT ⟨_, rfl, _, _, rfl, rfl, ⟨by omega, by omega, by decide⟩, _, upd_same, ?_, ?_⟩
        · rw [List.length_map, List.length_map]
          have h1 : ((List.range i).filter fun k => (bitsN ns ys).testBit k).length ≤ (List.range i).length := List.length_filter_le _ _
          rw [List.length_range] at h1
          exact small1000 (by omega)
        · show upd _ D (.lst (_ ++ [V.int ((1 : Int) * 2 ^ ((i : Int)).toNat)])) = _
          rw [bshl, upd_upd, List.map_append, List.map_append]
          rfl
      · rw [decide_eq_false c, List.filter_cons_of_neg (by rw [bitsN_at hx, decide_eq_false c]; decide), List.filter_nil, List.append_nil]
        exact iteF rfl
    · rintro H2 rfl
      have e : (((ns.map V.str).length : Int)).toNat = ns.length := by rw [List.length_map]; rfl
      rw [e]
      refine ⟨D, _, rfl, SqL.of upd_same, ?_⟩
      rw [powsN_take (Nat.le_refl _), List.take_length]
      exact q _ (Same.new hD)
end
end Hs
namespace Hs
open PySem PySem.Spec PyProof.Rows L2
theorem ord_le {ns ys : List Str} : (ordOf ns ys).length ≤ ns.length := List.length_filter_le _ _
/-! ### the world -/
def needN (bk : Book) (ns : List Str) (x : Str) : Nat := bitsN ns (nmOf bk x)
def wlF (a1 a2 a3 a4 a5 a6 : Addr) : List (Key × V) := [(Sum.inr "names", .ref a1), (Sum.inr "wishes", .ref a2), (Sum.inr "sizes", .ref a3), (Sum.inr "costs", .ref a4), (Sum.inr "needs", .ref a5), (Sum.inr "told", .ref a6)]
structure WlAt (H : Hp) (w : Addr) (bk : Book) (ns ws : List Str) : Prop where
  ex : ∃ a1 a2 a3 a4 a5 a6, H w = some (.dK (wlF a1 a2 a3 a4 a5 a6)) ∧ H a1 = some (.lst (ns.map V.str)) ∧ H a2 = some (.lst (ws.map V.str)) ∧ H a3 = some (.lst ((ns.map (szOf bk)).map V.int)) ∧ H a4 = some (.lst ((ns.map (csOf bk)).map V.int)) ∧ H a5 = some (.lst ((ns.map fun x => ((needN bk ns x : Nat) : Int)).map V.int)) ∧ H a6 = some (.lst ((ns.map fun x => ((bitsN ws [x] : Nat) : Int)).map V.int))
theorem wk0 (u v : V) : mergeK [] [((Sum.inr "names" : Key), u), (Sum.inr "wishes", v)] = [((Sum.inr "names" : Key), u), (Sum.inr "wishes", v)] := rfl
theorem wk3 (u v t : V) : putK [((Sum.inr "names" : Key), u), (Sum.inr "wishes", v)] (Sum.inr "sizes") t = [((Sum.inr "names" : Key), u), (Sum.inr "wishes", v), (Sum.inr "sizes", t)] := rfl
theorem wk4 (u v t r : V) : putK [((Sum.inr "names" : Key), u), (Sum.inr "wishes", v), (Sum.inr "sizes", t)] (Sum.inr "costs") r = [((Sum.inr "names" : Key), u), (Sum.inr "wishes", v), (Sum.inr "sizes", t), (Sum.inr "costs", r)] := rfl
theorem wk5 (u v t r q : V) : putK [((Sum.inr "names" : Key), u), (Sum.inr "wishes", v), (Sum.inr "sizes", t), (Sum.inr "costs", r)] (Sum.inr "needs") q = [((Sum.inr "names" : Key), u), (Sum.inr "wishes", v), (Sum.inr "sizes", t), (Sum.inr "costs", r), (Sum.inr "needs", q)] := rfl
theorem wk6 (u v t r q p : V) : putK [((Sum.inr "names" : Key), u), (Sum.inr "wishes", v), (Sum.inr "sizes", t), (Sum.inr "costs", r), (Sum.inr "needs", q)] (Sum.inr "told") p = [((Sum.inr "names" : Key), u), (Sum.inr "wishes", v), (Sum.inr "sizes", t), (Sum.inr "costs", r), (Sum.inr "needs", q), (Sum.inr "told", p)] := rfl
section
variable {P : Program} {w : World} {K : PySem.W.Frag} {mg : Str → Option Value} {base : Heap}
abbrev nWorld : List Str := ["book", "wishes", "parts", "names", "world", "name"]
def spWorld : Sp := fun vs H Q _ => ∃ (b l : Addr) (bk : Book) (xs : List Str), vs = [.ref b, .ref l] ∧ BookAt H b bk ∧ BookOk bk ∧ bk.length ≤ 24 ∧ H l = some (.lst (xs.map V.str)) ∧ xs.length ≤ 100 ∧ (∀ x ∈ xs, x ∈ bk.map (·.name)) ∧ ∀ (r : Addr) (H' : Hp), Same H H' → WlAt H' r bk (bOf bk xs) (ordOf (bOf bk xs) xs) → (∀ {t : Addr} {o : HO} {H2 : Hp}, H t = some o → But t H' H2 → WlAt H2 r bk (bOf bk xs) (ordOf (bOf bk xs) xs)) → Q (.ref r) H'
theorem sc_world : FnScope nWorld ["book", "wishes"] (defScope s_law_world) := ⟨rfl, rfl, rfl, by decide +kernel, rfl, by decide +kernel, by decide +kernel⟩
set_option maxHeartbeats 4000000 in
theorem c_world (B : Blt mg) (D : Dfn K mg "_law_world" s_law_world) (Cp : Cal P w K mg base 1 "_law_parts" ["book"] spPartsT) (Cb : Cal P w K mg base 2 "_law_below" ["book", "names"] spBelowT) (Cn : Cal P w K mg base 1 "_law_needs" ["part"] spNeeds) (Ci : Cal P w K mg base 1 "_law_bits" ["names", "some"] spBits) : Cal P w K mg base 3 "_law_world" ["book", "wishes"] spWorld := by
  refine D.cal (fun _ _ _ _ _ _ us hl => match us, hl with | [_, _], _ => rfl) fun f fd F => F.ok sc_world (fun vs H Q E h => ?_) (fun cdv A outer s H vs Q E hr h => ?_)
  · obtain ⟨b, l, _, _, rfl, _⟩ := h
    rfl
  · obtain ⟨b, l, bk, xs, rfl, hb, hO, hbl, hl, hxl, hxs, q⟩ := h
    have nd := sc_world.nd
    have hu := hu_of hr
    refine ⟨_, (bs_c (bs_set 2 nd (b_cal Cp hr (ba_c (b_v 0) ba_nil)))
      (bs_c (bs_set 3 nd (b_cal Cb hr (ba_c (b_v 0) (ba_c (b_v 1) ba_nil))))
      (bs_c (bs_set 4 nd (b_disp (bp_c b_str (b_v 3) (bp_c b_str (b_c 5 nWorld (defScope s_law_world) nd (bi_list (b_v 3)) (fun _ _ _ _ _ => (bts_one (bt_cmpR (r := rIn K false) op_in_seq (b_v 5) (b_v 1) (by rfl)))) (fun _ _ _ _ _ => (b_v 5)) (fun _ _ _ _ _ => (bg_n 5 nd))) bp_nil))))
      (bs_c (bs_dput hu (b_v 4) b_str (b_c 5 nWorld (defScope s_law_world) nd (bi_list (b_v 3)) (fun _ _ _ _ _ => bts_nil) (fun _ _ _ _ _ => (b_ix (r := rIxT K) ix_tup (b_dget hu (b_v 2) (b_v 5)) b_int)) (fun _ _ _ _ _ => (bg_n 5 nd))))
      (bs_c (bs_dput hu (b_v 4) b_str (b_c 5 nWorld (defScope s_law_world) nd (bi_list (b_v 3)) (fun _ _ _ _ _ => bts_nil) (fun _ _ _ _ _ => (b_ix (r := rIxT K) ix_tup (b_dget hu (b_v 2) (b_v 5)) b_int)) (fun _ _ _ _ _ => (bg_n 5 nd))))
      (bs_c (bs_dput hu (b_v 4) b_str (b_c 5 nWorld (defScope s_law_world) nd (bi_list (b_v 3)) (fun _ _ _ _ _ => bts_nil) (fun _ _ _ _ _ => (b_cal Ci hr (ba_c (b_v 3) (ba_c (b_cal Cn hr (ba_c (b_dget hu (b_v 2) (b_v 5)) ba_nil)) ba_nil)))) (fun _ _ _ _ _ => (bg_n 5 nd))))
      (bs_c (bs_dput hu (b_v 4) b_str (b_c 5 nWorld (defScope s_law_world) nd (bi_list (b_v 3)) (fun _ _ _ _ _ => bts_nil) (fun _ _ _ _ _ => (b_cal Ci hr (ba_c (b_dget hu (b_v 4) b_str) (ba_c (b_lst (ba_c (b_v 5) ba_nil)) ba_nil)))) (fun _ _ _ _ _ => (bg_n 5 nd))))
      (bs_one (bs_ret (b_v 4)))))))))).o, ?_⟩
    obtain ⟨ps, hb0, hP⟩ := id hb
    refine ⟨_, rfl, b, ps, bk, rfl, hb0, hP, hO, hbl, fun d H1 hd1 hS1 hd => ?_⟩
    refine at_seq [some (.ref b), some (.ref l), some (.ref d), none, none, none] ?_
    refine ⟨_, rfl, _, rfl, b, l, bk, xs, rfl, hb.tups hS1.tups, hO, hbl, hS1 _ _ hl, hxl, hxs, fun a1 H2 ha1n hS2 ha1 => ?_⟩
    refine at_seq [some (.ref b), some (.ref l), some (.ref d), some (.ref a1), none, none] ?_
    have hS12 := hS1.trans hS2
    have hd2 := hS2 _ _ hd
    have hS02 := hS12
    have fa1 : H a1 = none := hS1.free ha1n
    have hnl : (bOf bk xs).length ≤ 24 := Nat.le_trans (List.length_filter_le _ _) (by rw [List.length_map]; exact hbl)
    have hnb : ∀ y ∈ bOf bk xs, y ∈ bk.map (·.name) := fun y hy => (List.mem_filter.mp hy).1
    generalize bOf bk xs = ns at hnl hnb ha1 q
    have hl2 := hS12 _ _ hl
    -- names, wishes
    refine fun dw hdw => ⟨_, rfl, _, rfl, a1, rfl, ⟨ns.map V.str, SqL.of (Same.new hdw _ _ ha1)⟩, fun L hL => ?_⟩
    have sW : Same H2 (upd H2 dw (.dK [])) := Same.new hdw
    have hdw3 : (upd H2 dw (.dK [])) dw = some (.dK []) := upd_same
    generalize upd H2 dw (.dK []) = H3 at sW hdw3 hL
    have ha3 := sW _ _ ha1
    have sL : ∀ {o : HO}, Same H3 (upd H3 L o) := Same.new hL
    refine lc_list (K := K) (a := a1) (xs := ns.map V.str) (fun i H4 => H4 = upd H3 L (.lst ((ordOf (ns.take i) xs).map V.str))) rfl ?_ ?_ ?_
    · rintro i H4 _ rfl
      exact SqL.of (sL _ _ ha3)
    · rintro i v H4 hi rfl
      obtain ⟨x, hx, rfl⟩ := get_map hi
      refine ⟨rfl, _, rfl, _, rfl, l, _, rfl, .inl (SqL.of (sL _ _ (sW _ _ hl2))), rfl, flat_strs xs, _, rfl, ?_⟩
      rw [inV_strs]
      by_cases hc : x ∈ xs
      · rw [decide_eq_true hc]
        refine iteT ⟨_, rfl, _, upd_same, ?_, ?_⟩
        · rw [List.length_map]
          have h1 : (ordOf (ns.take i) xs).length ≤ (ns.take i).length := List.length_filter_le _ _
          rw [List.length_take] at h1
          exact small1000 (by omega)
        · rw [upd_upd]
          unfold ordOf
          rw [filt_take _ hx, if_pos (decide_eq_true hc), List.map_append]
          rfl
      · rw [decide_eq_false hc]
        refine iteF ?_
        show upd H3 L _ = upd H3 L _
        unfold ordOf
        rw [filt_take _ hx, if_neg (by simpa using hc), List.append_nil]
    rintro H4 rfl
    rw [List.length_map, List.take_length]
    have hL4 : (upd H3 L (.lst ((ordOf ns xs).map V.str))) L = some (.lst ((ordOf ns xs).map V.str)) := upd_same
    have hdw4 := sL (o := .lst ((ordOf ns xs).map V.str)) _ _ hdw3
    have sL40 := sL (o := .lst ((ordOf ns xs).map V.str))
    generalize upd H3 L (.lst ((ordOf ns xs).map V.str)) = H4 at hL4 hdw4 sL40
    refine ⟨hdw4, [(Sum.inr "names", .ref a1), (Sum.inr "wishes", .ref L)], rfl, Nat.le_of_ble_eq_true rfl, ?_⟩
    rw [wk0]
    refine at_seq [some (.ref b), some (.ref l), some (.ref d), some (.ref a1), some (.ref dw), none] ?_
    have hS4 : Same H (upd H4 dw (.dK [((Sum.inr "names" : Key), .ref a1), (Sum.inr "wishes", .ref L)])) := (hS12.trans (sW.trans sL40)).own (hS12.free hdw)
    have hB4 : But dw H4 (upd H4 dw (.dK [((Sum.inr "names" : Key), .ref a1), (Sum.inr "wishes", .ref L)])) := But.upd _ _ _
    have hw5 : (upd H4 dw (.dK [((Sum.inr "names" : Key), .ref a1), (Sum.inr "wishes", .ref L)])) dw = some (.dK [((Sum.inr "names" : Key), .ref a1), (Sum.inr "wishes", .ref L)]) := upd_same
    have hn5 : (upd H4 dw (.dK [((Sum.inr "names" : Key), .ref a1), (Sum.inr "wishes", .ref L)])) a1 = some (.lst (ns.map V.str)) := by rw [upd_ne (ne_of_none ha1 hdw)]; exact sL40 _ _ (sW _ _ ha1)
    have hd5 : (upd H4 dw (.dK [((Sum.inr "names" : Key), .ref a1), (Sum.inr "wishes", .ref L)])) d = some (.dK (kvP bk ps)) := by rw [upd_ne (ne_of_none hd2 hdw)]; exact sL40 _ _ (sW _ _ hd2)
    have hLd : L ≠ dw := (ne_of_none hdw3 hL).symm
    have hL5 : (upd H4 dw (.dK [((Sum.inr "names" : Key), .ref a1), (Sum.inr "wishes", .ref L)])) L = some (.lst ((ordOf ns xs).map V.str)) := by rw [upd_ne hLd]; exact hL4
    have hS5 := hS4
    generalize upd H4 dw (.dK [((Sum.inr "names" : Key), .ref a1), (Sum.inr "wishes", .ref L)]) = H5 at hS5 hw5 hn5 hd5 hL5
    -- sizes
    refine ⟨_, rfl, a1, rfl, ⟨ns.map V.str, SqL.of hn5⟩, fun L3 hL3 => ?_⟩
    have sL3 : ∀ {o : HO}, Same H5 (upd H5 L3 o) := Same.new hL3
    refine lc_list (K := K) (a := a1) (xs := ns.map V.str) (fun i H6 => H6 = upd H5 L3 (.lst (((ns.take i).map (szOf bk)).map V.int))) rfl ?_ ?_ ?_
    · rintro i H6 _ rfl
      exact SqL.of (sL3 _ _ hn5)
    · rintro i v H6 hi rfl
      obtain ⟨x, hx, rfl⟩ := get_map hi
      have hil := (List.getElem?_eq_some_iff.mp hx).1
      obtain ⟨p, a, hv, hpa, ⟨r0, hp, hr2⟩, _⟩ := parts_get (hP.tups hS5.tups) (hnb x (List.mem_of_getElem? hx))
      refine ⟨rfl, yes ?_⟩
      refine ⟨_, rfl, _, rfl, d, V.ref p, rfl, ?_, p, _, _, _, rfl, rfl, SqT.of (sL3 _ _ hp), rfl, _, upd_same, ?_, ?_⟩
      · rw [← hv]
        exact DGet.k (k := Sum.inr x) (sL3 _ _ hd5)
      · rw [List.length_map, List.length_map, List.length_take]
        exact small1000 (by omega)
      · rw [upd_upd, take_snoc hx, List.map_append, List.map_append]
        show _ = upd H5 L3 (.lst (_ ++ [V.int (szOf bk x)]))
        rw [show szOf bk x = a.size by unfold szOf; rw [hpa]; rfl]
    rintro H6 rfl
    rw [List.length_map, List.take_length]
    refine ⟨_, rfl, dw, _, rfl, DPut.k (k := Sum.inr "sizes") (sL3 _ _ hw5) (by show _ < sizeLine; exact small1000 (Nat.le_of_ble_eq_true rfl)), ?_⟩
    rw [wk3]
    have hne3 : L3 ≠ dw := (ne_of_none hw5 hL3).symm
    have hw7 : (upd (upd H5 L3 (.lst ((ns.map (szOf bk)).map V.int))) dw (.dK [((Sum.inr "names" : Key), .ref a1), (Sum.inr "wishes", .ref L), (Sum.inr "sizes", .ref L3)])) dw = some (.dK [((Sum.inr "names" : Key), .ref a1), (Sum.inr "wishes", .ref L), (Sum.inr "sizes", .ref L3)]) := upd_same
    have hn7 : (upd (upd H5 L3 (.lst ((ns.map (szOf bk)).map V.int))) dw (.dK [((Sum.inr "names" : Key), .ref a1), (Sum.inr "wishes", .ref L), (Sum.inr "sizes", .ref L3)])) a1 = some (.lst (ns.map V.str)) := by rw [upd_ne (ne_of_none ha1 hdw)]; exact sL3 _ _ hn5
    have hd7 : (upd (upd H5 L3 (.lst ((ns.map (szOf bk)).map V.int))) dw (.dK [((Sum.inr "names" : Key), .ref a1), (Sum.inr "wishes", .ref L), (Sum.inr "sizes", .ref L3)])) d = some (.dK (kvP bk ps)) := by rw [upd_ne (ne_of_none hd2 hdw)]; exact sL3 _ _ hd5
    have hS7 : Same H (upd (upd H5 L3 (.lst ((ns.map (szOf bk)).map V.int))) dw (.dK [((Sum.inr "names" : Key), .ref a1), (Sum.inr "wishes", .ref L), (Sum.inr "sizes", .ref L3)])) := (hS5.trans sL3).own (hS12.free hdw)
    have hL7 : (upd (upd H5 L3 (.lst ((ns.map (szOf bk)).map V.int))) dw (.dK [((Sum.inr "names" : Key), .ref a1), (Sum.inr "wishes", .ref L), (Sum.inr "sizes", .ref L3)])) L = some (.lst ((ordOf ns xs).map V.str)) := by rw [upd_ne hLd]; exact sL3 _ _ hL5
    have hL37 : (upd (upd H5 L3 (.lst ((ns.map (szOf bk)).map V.int))) dw (.dK [((Sum.inr "names" : Key), .ref a1), (Sum.inr "wishes", .ref L), (Sum.inr "sizes", .ref L3)])) L3 = some (.lst ((ns.map (szOf bk)).map V.int)) := by rw [upd_ne hne3]; exact upd_same
    generalize upd (upd H5 L3 (.lst ((ns.map (szOf bk)).map V.int))) dw (.dK [((Sum.inr "names" : Key), .ref a1), (Sum.inr "wishes", .ref L), (Sum.inr "sizes", .ref L3)]) = H7 at hS7 hw7 hn7 hd7 hL7 hL37
    -- costs
    refine ⟨_, rfl, a1, rfl, ⟨ns.map V.str, SqL.of hn7⟩, fun L4 hL4 => ?_⟩
    have sL4 : ∀ {o : HO}, Same H7 (upd H7 L4 o) := Same.new hL4
    refine lc_list (K := K) (a := a1) (xs := ns.map V.str) (fun i H6 => H6 = upd H7 L4 (.lst (((ns.take i).map (csOf bk)).map V.int))) rfl ?_ ?_ ?_
    · rintro i H6 _ rfl
      exact SqL.of (sL4 _ _ hn7)
    · rintro i v H6 hi rfl
      obtain ⟨x, hx, rfl⟩ := get_map hi
      have hil := (List.getElem?_eq_some_iff.mp hx).1
      obtain ⟨p, a, hv, hpa, ⟨r0, hp, hr2⟩, _⟩ := parts_get (hP.tups hS7.tups) (hnb x (List.mem_of_getElem? hx))
      refine ⟨rfl, yes ?_⟩
      refine ⟨_, rfl, _, rfl, d, V.ref p, rfl, ?_, p, _, _, _, rfl, rfl, SqT.of (sL4 _ _ hp), rfl, _, upd_same, ?_, ?_⟩
      · rw [← hv]
        exact DGet.k (k := Sum.inr x) (sL4 _ _ hd7)
      · rw [List.length_map, List.length_map, List.length_take]
        exact small1000 (by omega)
      · rw [upd_upd, take_snoc hx, List.map_append, List.map_append]
        show _ = upd H7 L4 (.lst (_ ++ [V.int (csOf bk x)]))
        rw [show csOf bk x = a.cost by unfold csOf; rw [hpa]; rfl]
    rintro H6 rfl
    rw [List.length_map, List.take_length]
    refine ⟨_, rfl, dw, _, rfl, DPut.k (k := Sum.inr "costs") (sL4 _ _ hw7) (by show _ < sizeLine; exact small1000 (Nat.le_of_ble_eq_true rfl)), ?_⟩
    rw [wk4]
    have hne4 : L4 ≠ dw := (ne_of_none hw7 hL4).symm
    have hw8 : (upd (upd H7 L4 (.lst ((ns.map (csOf bk)).map V.int))) dw (.dK [((Sum.inr "names" : Key), .ref a1), (Sum.inr "wishes", .ref L), (Sum.inr "sizes", .ref L3), (Sum.inr "costs", .ref L4)])) dw = some (.dK [((Sum.inr "names" : Key), .ref a1), (Sum.inr "wishes", .ref L), (Sum.inr "sizes", .ref L3), (Sum.inr "costs", .ref L4)]) := upd_same
    have hn8 : (upd (upd H7 L4 (.lst ((ns.map (csOf bk)).map V.int))) dw (.dK [((Sum.inr "names" : Key), .ref a1), (Sum.inr "wishes", .ref L), (Sum.inr "sizes", .ref L3), (Sum.inr "costs", .ref L4)])) a1 = some (.lst (ns.map V.str)) := by rw [upd_ne (ne_of_none ha1 hdw)]; exact sL4 _ _ hn7
    have hd8 : (upd (upd H7 L4 (.lst ((ns.map (csOf bk)).map V.int))) dw (.dK [((Sum.inr "names" : Key), .ref a1), (Sum.inr "wishes", .ref L), (Sum.inr "sizes", .ref L3), (Sum.inr "costs", .ref L4)])) d = some (.dK (kvP bk ps)) := by rw [upd_ne (ne_of_none hd2 hdw)]; exact sL4 _ _ hd7
    have hS8 : Same H (upd (upd H7 L4 (.lst ((ns.map (csOf bk)).map V.int))) dw (.dK [((Sum.inr "names" : Key), .ref a1), (Sum.inr "wishes", .ref L), (Sum.inr "sizes", .ref L3), (Sum.inr "costs", .ref L4)])) := (hS7.trans sL4).own (hS12.free hdw)
    have hL8 : (upd (upd H7 L4 (.lst ((ns.map (csOf bk)).map V.int))) dw (.dK [((Sum.inr "names" : Key), .ref a1), (Sum.inr "wishes", .ref L), (Sum.inr "sizes", .ref L3), (Sum.inr "costs", .ref L4)])) L = some (.lst ((ordOf ns xs).map V.str)) := by rw [upd_ne hLd]; exact sL4 _ _ hL7
    have hL38 : (upd (upd H7 L4 (.lst ((ns.map (csOf bk)).map V.int))) dw (.dK [((Sum.inr "names" : Key), .ref a1), (Sum.inr "wishes", .ref L), (Sum.inr "sizes", .ref L3), (Sum.inr "costs", .ref L4)])) L3 = some (.lst ((ns.map (szOf bk)).map V.int)) := by rw [upd_ne hne3]; exact sL4 _ _ hL37
    have hL48 : (upd (upd H7 L4 (.lst ((ns.map (csOf bk)).map V.int))) dw (.dK [((Sum.inr "names" : Key), .ref a1), (Sum.inr "wishes", .ref L), (Sum.inr "sizes", .ref L3), (Sum.inr "costs", .ref L4)])) L4 = some (.lst ((ns.map (csOf bk)).map V.int)) := by rw [upd_ne hne4]; exact upd_same
    generalize upd (upd H7 L4 (.lst ((ns.map (csOf bk)).map V.int))) dw (.dK [((Sum.inr "names" : Key), .ref a1), (Sum.inr "wishes", .ref L), (Sum.inr "sizes", .ref L3), (Sum.inr "costs", .ref L4)]) = H8 at hS8 hw8 hn8 hd8 hL8 hL38 hL48
    -- needs
    refine ⟨_, rfl, a1, rfl, ⟨ns.map V.str, SqL.of hn8⟩, fun L5 hL5 => ?_⟩
    have sL5 : ∀ {o : HO}, Same H8 (upd H8 L5 o) := Same.new hL5
    refine lc_list (K := K) (a := a1) (xs := ns.map V.str) (fun i H6 => Same H8 H6 ∧ H6 L5 = some (.lst (((ns.take i).map fun x => ((needN bk ns x : Nat) : Int)).map V.int))) ⟨sL5, upd_same⟩ ?_ ?_ ?_
    · rintro i H6 _ ⟨hs6, _⟩
      exact SqL.of (hs6 _ _ hn8)
    · rintro i v H6 hi ⟨hs6, hl6⟩
      obtain ⟨x, hx, rfl⟩ := get_map hi
      have hil := (List.getElem?_eq_some_iff.mp hx).1
      have hS6 := hS8.trans hs6
      obtain ⟨p, a, hv, hpa, hp, k, hk⟩ := parts_get (hP.tups hS6.tups) (hnb x (List.mem_of_getElem? hx))
      refine ⟨rfl, yes ?_⟩
      refine ⟨_, rfl, _, rfl, _, rfl, d, V.ref p, rfl, ?_, p, a, _, rfl, hp, hO.how k a hk, fun l2 H9 hl2 hS9 hl29 => ?_⟩
      · rw [← hv]
        exact DGet.k (k := Sum.inr x) (hs6 _ _ hd8)
      refine ⟨a1, l2, ns, _, rfl, hS9 _ _ (hs6 _ _ hn8), hnl, .inl hl29, fun H10 hS10 => ?_⟩
      refine ⟨_, hS10 _ _ (hS9 _ _ hl6), ?_, ((hs6.trans hS9).trans hS10).own hL5, ?_⟩
      · rw [List.length_map, List.length_map, List.length_take]
        exact small1000 (by omega)
      · rw [upd_same, take_snoc hx, List.map_append, List.map_append]
        show _ = some (HO.lst (_ ++ [V.int ((needN bk ns x : Nat) : Int)]))
        rw [show needN bk ns x = bitsN ns a.how.names by unfold needN nmOf; rw [hpa]]
    rintro H6 ⟨hs6, hl6⟩
    rw [List.length_map, List.take_length] at hl6
    refine ⟨_, rfl, dw, _, rfl, DPut.k (k := Sum.inr "needs") (hs6 _ _ hw8) (by show _ < sizeLine; exact small1000 (Nat.le_of_ble_eq_true rfl)), ?_⟩
    rw [wk5]
    have hne5 : L5 ≠ dw := (ne_of_none hw8 hL5).symm
    have hw11 : (upd (H6) dw (.dK [((Sum.inr "names" : Key), .ref a1), (Sum.inr "wishes", .ref L), (Sum.inr "sizes", .ref L3), (Sum.inr "costs", .ref L4), (Sum.inr "needs", .ref L5)])) dw = some (.dK [((Sum.inr "names" : Key), .ref a1), (Sum.inr "wishes", .ref L), (Sum.inr "sizes", .ref L3), (Sum.inr "costs", .ref L4), (Sum.inr "needs", .ref L5)]) := upd_same
    have hn11 : (upd (H6) dw (.dK [((Sum.inr "names" : Key), .ref a1), (Sum.inr "wishes", .ref L), (Sum.inr "sizes", .ref L3), (Sum.inr "costs", .ref L4), (Sum.inr "needs", .ref L5)])) a1 = some (.lst (ns.map V.str)) := by rw [upd_ne (ne_of_none ha1 hdw)]; exact hs6 _ _ hn8
    have hd11 : (upd (H6) dw (.dK [((Sum.inr "names" : Key), .ref a1), (Sum.inr "wishes", .ref L), (Sum.inr "sizes", .ref L3), (Sum.inr "costs", .ref L4), (Sum.inr "needs", .ref L5)])) d = some (.dK (kvP bk ps)) := by rw [upd_ne (ne_of_none hd2 hdw)]; exact hs6 _ _ hd8
    have hS11 : Same H (upd (H6) dw (.dK [((Sum.inr "names" : Key), .ref a1), (Sum.inr "wishes", .ref L), (Sum.inr "sizes", .ref L3), (Sum.inr "costs", .ref L4), (Sum.inr "needs", .ref L5)])) := (hS8.trans hs6).own (hS12.free hdw)
    have hL11 : (upd (H6) dw (.dK [((Sum.inr "names" : Key), .ref a1), (Sum.inr "wishes", .ref L), (Sum.inr "sizes", .ref L3), (Sum.inr "costs", .ref L4), (Sum.inr "needs", .ref L5)])) L = some (.lst ((ordOf ns xs).map V.str)) := by rw [upd_ne hLd]; exact hs6 _ _ hL8
    have hL311 : (upd (H6) dw (.dK [((Sum.inr "names" : Key), .ref a1), (Sum.inr "wishes", .ref L), (Sum.inr "sizes", .ref L3), (Sum.inr "costs", .ref L4), (Sum.inr "needs", .ref L5)])) L3 = some (.lst ((ns.map (szOf bk)).map V.int)) := by rw [upd_ne hne3]; exact hs6 _ _ hL38
    have hL411 : (upd (H6) dw (.dK [((Sum.inr "names" : Key), .ref a1), (Sum.inr "wishes", .ref L), (Sum.inr "sizes", .ref L3), (Sum.inr "costs", .ref L4), (Sum.inr "needs", .ref L5)])) L4 = some (.lst ((ns.map (csOf bk)).map V.int)) := by rw [upd_ne hne4]; exact hs6 _ _ hL48
    have hL511 : (upd (H6) dw (.dK [((Sum.inr "names" : Key), .ref a1), (Sum.inr "wishes", .ref L), (Sum.inr "sizes", .ref L3), (Sum.inr "costs", .ref L4), (Sum.inr "needs", .ref L5)])) L5 = some (.lst ((ns.map fun x => ((needN bk ns x : Nat) : Int)).map V.int)) := by rw [upd_ne hne5]; exact hl6
    generalize upd (H6) dw (.dK [((Sum.inr "names" : Key), .ref a1), (Sum.inr "wishes", .ref L), (Sum.inr "sizes", .ref L3), (Sum.inr "costs", .ref L4), (Sum.inr "needs", .ref L5)]) = H11 at hS11 hw11 hn11 hd11 hL11 hL311 hL411 hL511
    -- told
    refine ⟨_, rfl, a1, rfl, ⟨ns.map V.str, SqL.of hn11⟩, fun L6 hL6 => ?_⟩
    have sL6 : ∀ {o : HO}, Same H11 (upd H11 L6 o) := Same.new hL6
    refine lc_list (K := K) (a := a1) (xs := ns.map V.str) (fun i H6 => Same H11 H6 ∧ H6 L6 = some (.lst (((ns.take i).map fun x => ((bitsN (ordOf ns xs) [x] : Nat) : Int)).map V.int))) ⟨sL6, upd_same⟩ ?_ ?_ ?_
    · rintro i H6 _ ⟨hs6, _⟩
      exact SqL.of (hs6 _ _ hn11)
    · rintro i v H6 hi ⟨hs6, hl6⟩
      obtain ⟨x, hx, rfl⟩ := get_map hi
      have hil := (List.getElem?_eq_some_iff.mp hx).1
      refine ⟨rfl, yes ?_⟩
      refine ⟨_, rfl, dw, V.ref L, rfl, ?_, _, rfl, lit 1, fun l2 hl2 => ?_⟩
      · exact DGet.k (k := Sum.inr "wishes") (hs6 _ _ hw11)
      have s2 : ∀ {o : HO}, Same H6 (upd H6 l2 o) := Same.new hl2
      refine ⟨L, l2, ordOf ns xs, [x], rfl, s2 _ _ (hs6 _ _ hL11), Nat.le_trans ord_le hnl, .inl upd_same, fun H10 hS10 => ?_⟩
      refine ⟨_, hS10 _ _ (s2 _ _ hl6), ?_, ((hs6.trans s2).trans hS10).own hL6, ?_⟩
      · rw [List.length_map, List.length_map, List.length_take]
        exact small1000 (by omega)
      · rw [upd_same, take_snoc hx, List.map_append, List.map_append]
        rfl
    rintro H6b ⟨hs6b, hl6b⟩
    rw [List.length_map, List.take_length] at hl6b
    refine ⟨_, rfl, dw, _, rfl, DPut.k (k := Sum.inr "told") (hs6b _ _ hw11) (by show _ < sizeLine; exact small1000 (Nat.le_of_ble_eq_true rfl)), ?_⟩
    rw [wk6]
    have hne6 : L6 ≠ dw := (ne_of_none hw11 hL6).symm
    have hw12 : (upd (H6b) dw (.dK [((Sum.inr "names" : Key), .ref a1), (Sum.inr "wishes", .ref L), (Sum.inr "sizes", .ref L3), (Sum.inr "costs", .ref L4), (Sum.inr "needs", .ref L5), (Sum.inr "told", .ref L6)])) dw = some (.dK [((Sum.inr "names" : Key), .ref a1), (Sum.inr "wishes", .ref L), (Sum.inr "sizes", .ref L3), (Sum.inr "costs", .ref L4), (Sum.inr "needs", .ref L5), (Sum.inr "told", .ref L6)]) := upd_same
    have hn12 : (upd (H6b) dw (.dK [((Sum.inr "names" : Key), .ref a1), (Sum.inr "wishes", .ref L), (Sum.inr "sizes", .ref L3), (Sum.inr "costs", .ref L4), (Sum.inr "needs", .ref L5), (Sum.inr "told", .ref L6)])) a1 = some (.lst (ns.map V.str)) := by rw [upd_ne (ne_of_none ha1 hdw)]; exact hs6b _ _ hn11
    have hd12 : (upd (H6b) dw (.dK [((Sum.inr "names" : Key), .ref a1), (Sum.inr "wishes", .ref L), (Sum.inr "sizes", .ref L3), (Sum.inr "costs", .ref L4), (Sum.inr "needs", .ref L5), (Sum.inr "told", .ref L6)])) d = some (.dK (kvP bk ps)) := by rw [upd_ne (ne_of_none hd2 hdw)]; exact hs6b _ _ hd11
    have hS12 : Same H (upd (H6b) dw (.dK [((Sum.inr "names" : Key), .ref a1), (Sum.inr "wishes", .ref L), (Sum.inr "sizes", .ref L3), (Sum.inr "costs", .ref L4), (Sum.inr "needs", .ref L5), (Sum.inr "told", .ref L6)])) := (hS11.trans hs6b).own (hS12.free hdw)
    have hL12 : (upd (H6b) dw (.dK [((Sum.inr "names" : Key), .ref a1), (Sum.inr "wishes", .ref L), (Sum.inr "sizes", .ref L3), (Sum.inr "costs", .ref L4), (Sum.inr "needs", .ref L5), (Sum.inr "told", .ref L6)])) L = some (.lst ((ordOf ns xs).map V.str)) := by rw [upd_ne hLd]; exact hs6b _ _ hL11
    have hL312 : (upd (H6b) dw (.dK [((Sum.inr "names" : Key), .ref a1), (Sum.inr "wishes", .ref L), (Sum.inr "sizes", .ref L3), (Sum.inr "costs", .ref L4), (Sum.inr "needs", .ref L5), (Sum.inr "told", .ref L6)])) L3 = some (.lst ((ns.map (szOf bk)).map V.int)) := by rw [upd_ne hne3]; exact hs6b _ _ hL311
    have hL412 : (upd (H6b) dw (.dK [((Sum.inr "names" : Key), .ref a1), (Sum.inr "wishes", .ref L), (Sum.inr "sizes", .ref L3), (Sum.inr "costs", .ref L4), (Sum.inr "needs", .ref L5), (Sum.inr "told", .ref L6)])) L4 = some (.lst ((ns.map (csOf bk)).map V.int)) := by rw [upd_ne hne4]; exact hs6b _ _ hL411
    have hL512 : (upd (H6b) dw (.dK [((Sum.inr "names" : Key), .ref a1), (Sum.inr "wishes", .ref L), (Sum.inr "sizes", .ref L3), (Sum.inr "costs", .ref L4), (Sum.inr "needs", .ref L5), (Sum.inr "told", .ref L6)])) L5 = some (.lst ((ns.map fun x => ((needN bk ns x : Nat) : Int)).map V.int)) := by rw [upd_ne hne5]; exact hs6b _ _ hL511
    refine ⟨_, rfl, ?_⟩
    have hl12 : (upd (H6b) dw (.dK [((Sum.inr "names" : Key), .ref a1), (Sum.inr "wishes", .ref L), (Sum.inr "sizes", .ref L3), (Sum.inr "costs", .ref L4), (Sum.inr "needs", .ref L5), (Sum.inr "told", .ref L6)])) L6 = some (.lst ((ns.map fun x => ((bitsN (ordOf ns xs) [x] : Nat) : Int)).map V.int)) := by
      rw [upd_ne hne6]
      exact hl6b
    have f0 : H dw = none := hS02.free hdw
    have f2 : H L = none := (hS02.trans sW).free hL
    have f3 : H L3 = none := hS5.free hL3
    have f4 : H L4 = none := hS7.free hL4
    have f5 : H L5 = none := hS8.free hL5
    have f6 : H L6 = none := hS11.free hL6
    refine q dw _ hS12 ⟨a1, L, L3, L4, L5, L6, hw12, hn12, hL12, hL312, hL412, hL512, hl12⟩ fun {t o H2'} ht b => ?_
    have ne : ∀ {c : Addr}, H c = none → c ≠ t := fun {c} hc => (ne_of_none ht hc).symm
    exact ⟨a1, L, L3, L4, L5, L6, b _ _ (ne f0) hw12, b _ _ (ne fa1) hn12, b _ _ (ne f2) hL12, b _ _ (ne f3) hL312, b _ _ (ne f4) hL412, b _ _ (ne f5) hL512, b _ _ (ne f6) hl12⟩
end
end Hs
namespace Hs
open PySem PySem.Spec PyProof.Rows L2
/-! ### what can come, by bits -/
def nk (ns : List Str) (k : Nat) : Str := (ns[k]?).getD ""
theorem nk_at {ns : List Str} {k : Nat} {x : Str} (h : ns[k]? = some x) : nk ns k = x := by unfold nk; rw [h]; rfl
def wantTo (bk : Book) (ns : List Str) (m i : Nat) : Nat := (List.range i).foldl (fun a k => if m.testBit k = true then a else a ||| needN bk ns (nk ns k)) 0
theorem wantTo_succ (bk : Book) (ns : List Str) (m i : Nat) : wantTo bk ns m (i + 1) = if m.testBit i = true then wantTo bk ns m i else wantTo bk ns m i ||| needN bk ns (nk ns i) := by
  unfold wantTo
  rw [List.range_succ, List.foldl_append]
  rfl
def wantN (bk : Book) (ns : List Str) (m : Nat) : Nat := wantTo bk ns m ns.length
def canM (bk : Book) (ns : List Str) (m k : Nat) : Bool := !m.testBit k && decide (needN bk ns (nk ns k) &&& m = needN bk ns (nk ns k))
def onTo (bk : Book) (ns : List Str) (m : Nat) (ld : Int) (i : Nat) : List (Int × Nat) := ((List.range i).filter (canM bk ns m)).map fun k => (ld + szOf bk (nk ns k), m ||| 2 ^ k)
theorem onTo_succ (bk : Book) (ns : List Str) (m : Nat) (ld : Int) (i : Nat) : onTo bk ns m ld (i + 1) = onTo bk ns m ld i ++ (if canM bk ns m i = true then [(ld + szOf bk (nk ns i), m ||| 2 ^ i)] else []) := by
  unfold onTo
  rw [List.range_succ, List.filter_append, List.map_append]
  congr 1
  by_cases c : canM bk ns m i = true
  · rw [List.filter_cons_of_pos c, if_pos c]
    rfl
  · rw [List.filter_cons_of_neg c, if_neg c]
    rfl
theorem onTo_len (bk : Book) (ns : List Str) (m : Nat) (ld : Int) (i : Nat) : (onTo bk ns m ld i).length ≤ i := by
  unfold onTo
  rw [List.length_map]
  have := List.length_filter_le (canM bk ns m) (List.range i)
  rwa [List.length_range] at this
def ldN (bk : Book) (ns : List Str) (m : Nat) : Int := loadS bk (namesB ns (m &&& wantN bk ns m))
def onL (bk : Book) (ns : List Str) (m : Nat) : List (Int × Nat) := onTo bk ns m (ldN bk ns m) ns.length
def PairsAt (H : Hp) (as : List Addr) (ps : List (Int × Nat)) : Prop := as.length = ps.length ∧ ∀ (i : Nat) (a : Addr) (p : Int × Nat), as[i]? = some a → ps[i]? = some p → H a = some (.tup [.int p.1, .int (p.2 : Nat)])
theorem PairsAt.mono {H H' : Hp} {as : List Addr} {ps : List (Int × Nat)} (h : PairsAt H as ps) (s : ∀ b ys, H b = some (.tup ys) → H' b = some (.tup ys)) : PairsAt H' as ps := ⟨h.1, fun i a p h1 h2 => s _ _ (h.2 i a p h1 h2)⟩
theorem PairsAt.same {H H' : Hp} {as : List Addr} {ps : List (Int × Nat)} (h : PairsAt H as ps) (s : Same H H') : PairsAt H' as ps := h.mono fun b ys e => s _ _ e
theorem PairsAt.snoc {H : Hp} {as : List Addr} {ps : List (Int × Nat)} {a : Addr} {p : Int × Nat} (h : PairsAt H as ps) (hp : H a = some (.tup [.int p.1, .int (p.2 : Nat)])) : PairsAt H (as ++ [a]) (ps ++ [p]) := by
  refine ⟨by rw [List.length_append, List.length_append, h.1]; rfl, fun i b q h1 h2 => ?_⟩
  by_cases hi : i < as.length
  · rw [List.getElem?_append_left hi] at h1
    rw [List.getElem?_append_left (by rw [← h.1]; exact hi)] at h2
    exact h.2 i b q h1 h2
  · rw [List.getElem?_append_right (by omega)] at h1
    rw [List.getElem?_append_right (by rw [← h.1]; omega)] at h2
    have : i - as.length = 0 := by
      have := (List.getElem?_eq_some_iff.mp h1).1
      simp at this
      omega
    rw [this] at h1
    rw [← h.1, this] at h2
    cases h1
    cases h2
    exact hp
theorem PairsAt.at {H : Hp} {as : List Addr} {ps : List (Int × Nat)} (h : PairsAt H as ps) {i : Nat} {v : V} (hi : (as.map V.ref)[i]? = some v) : ∃ a p, v = .ref a ∧ as[i]? = some a ∧ ps[i]? = some p ∧ H a = some (.tup [.int p.1, .int (p.2 : Nat)]) := by
  obtain ⟨a, ha, rfl⟩ := get_map hi
  have hl := (List.getElem?_eq_some_iff.mp ha).1
  have hm : ps[i]? = some (ps[i]'(by rw [← h.1]; exact hl)) := List.getElem?_eq_getElem _
  exact ⟨a, _, rfl, ha, hm, h.2 i a _ ha hm⟩
theorem namesB_take {ns : List Str} {m n : Nat} (hn : n ≤ ns.length) : ∀ (f : Str → Int), (((List.range n).filter fun k => m.testBit k).map fun k => f (nk ns k)) = (((List.range n).filter fun k => m.testBit k).filterMap fun k => ns[k]?).map f := by
  intro f
  induction n with
  | zero => rfl
  | succ n ih =>
    have hx : ns[n]? = some (ns[n]'(by omega)) := List.getElem?_eq_getElem _
    generalize ns[n]'(by omega) = x at hx
    rw [List.range_succ, List.filter_append, List.map_append, List.filterMap_append, List.map_append, ih (by omega)]
    congr 1
    by_cases c : m.testBit n = true
    · rw [List.filter_cons_of_pos c]
      simp [hx, nk_at hx]
    · rw [List.filter_cons_of_neg c]
      rfl
section
variable {P : Program} {w : World} {K : PySem.W.Frag} {mg : Str → Option Value} {base : Heap}
/-! ### _law_load -/
abbrev nLLoad : List Str := ["world", "bits", "sizes", "k"]
def spLLoad : Sp := fun vs H Q _ => ∃ (wd : Addr) (bk : Book) (ns ws : List Str) (m : Nat), vs = [.ref wd, .int m] ∧ WlAt H wd bk ns ws ∧ ns.length ≤ 24 ∧ ∀ H', Same H H' → Q (.int (loadS bk (namesB ns m))) H'
theorem sc_lload : FnScope nLLoad ["world", "bits"] (defScope s_law_load) := ⟨rfl, rfl, rfl, by decide +kernel, rfl, by decide +kernel, by decide +kernel⟩
set_option maxHeartbeats 1200000 in
theorem c_lload (B : Blt mg) (D : Dfn K mg "_law_load" s_law_load) : Cal P w K mg base 1 "_law_load" ["world", "bits"] spLLoad := by
  refine D.cal (fun _ _ _ _ _ _ us hl => match us, hl with | [_, _], _ => rfl) fun f fd F => F.ok sc_lload (fun vs H Q E h => ?_) (fun cdv A outer s H vs Q E hr h => ?_)
  · obtain ⟨a, _, _, _, _, rfl, _⟩ := h
    rfl
  · obtain ⟨wd, bk, ns, ws, m, rfl, hW, hn, q⟩ := h
    have nd := sc_lload.nd
    have hu := hu_of hr
    refine ⟨_, (bs_c (bs_set 2 nd (b_dget hu (b_v 0) b_str))
      (bs_one (bs_ret (b_callB (cr_sum rfl) B.sum (ba_c (b_c 3 nLLoad (defScope s_law_load) nd (bi_range1 B.range (ba_c (b_callB call_len_seq B.len (ba_c (b_v 2) ba_nil)) ba_nil)) (fun _ _ _ _ _ => (bts_one (bt_cmpR op_eq (b_op op_and (b_op op_shr (b_v 1) (b_v 3)) b_int) b_int (nomark _)))) (fun _ _ _ _ _ => (b_ix (r := rIxL K) ix_list (b_v 2) (b_v 3))) (fun _ _ _ _ _ => (bg_n 3 nd))) ba_nil))))).o, ?_⟩
    obtain ⟨a1, a2, a3, a4, a5, a6, h0, h1, h2, h3, h4, h5, h6⟩ := hW.ex
    refine ⟨_, rfl, wd, V.ref a3, rfl, DGet.k (k := Sum.inr "sizes") h0, ?_⟩
    refine at_nx [some (.ref wd), some (.int m), some (.ref a3), none] ?_
    have h62 : ns.length < 2 ^ 62 := Nat.lt_of_le_of_lt hn (by decide)
    refine ⟨_, rfl, a3, _, rfl, .inl (SqL.of h3), _, rfl, by omega, by rw [List.length_map, List.length_map]; exact_mod_cast h62, fun D hD => ?_⟩
    have sD : ∀ {o : HO}, Same H (upd H D o) := Same.new hD
    refine lc_range (fun i H2 => H2 = upd H D (.lst ((((List.range i).filter fun k => m.testBit k).map fun k => szOf bk (nk ns k)).map V.int))) rfl ?_ ?_
    · rintro i H2 hi rfl
      rw [Int.zero_add]
      have hi' : i < ns.length := by rw [List.length_map, List.length_map] at hi; exact hi
      have hx : ns[i]? = some (ns[i]'hi') := List.getElem?_eq_getElem _
      generalize ns[i]'hi' = x at hx
      refine ⟨rfl, _, rfl, _, rfl, _, _, rfl, rfl, Int.natCast_nonneg i, _, _, rfl, rfl, rfl, _, rfl, ?_⟩
      rw [bit_isV, List.range_succ, List.filter_append, List.map_append]
      by_cases c : m.testBit i = true
      · rw [c, List.filter_cons_of_pos (by rw [c])]
        refine iteT ⟨_, rfl, _, rfl, a3, _, (i : Int), .int (szOf bk x), rfl, rfl, SqL.of (sD _ _ h3), atI_nat (by rw [List.getElem?_map, List.getElem?_map, hx]; rfl), _, upd_same, ?_, ?_⟩
        · rw [List.length_map, List.length_map]
          have h1 : ((List.range i).filter fun k => m.testBit k).length ≤ (List.range i).length := List.length_filter_le _ _
          rw [List.length_range] at h1
          exact small1000 (by omega)
        · rw [upd_upd, List.map_append]
          show _ = upd H D (.lst (_ ++ [V.int (szOf bk (nk ns i))]))
          rw [nk_at hx]
      · rw [List.filter_cons_of_neg (by simpa using c)]
        rw [show m.testBit i = false by simpa using c]
        refine iteF ?_
        simp
    · rintro H2 rfl
      have e : ((((ns.map (szOf bk)).map V.int).length : Int)).toNat = ns.length := by rw [List.length_map, List.length_map]; rfl
      rw [e]
      refine ⟨D, _, rfl, SqL.of upd_same, ?_⟩
      rw [namesB_take (Nat.le_refl _)]
      exact q _ (Same.new hD)
end
end Hs
namespace Hs
open PySem PySem.Spec PyProof.Rows L2
section
variable {P : Program} {w : World} {K : PySem.W.Frag} {mg : Str → Option Value} {base : Heap}
/-! ### _law_once_on -/
abbrev nOn : List Str := ["world", "made", "wanted", "k", "load", "found"]
def spOn : Sp := fun vs H Q _ => ∃ (wd : Addr) (bk : Book) (ns ws : List Str) (m : Nat), vs = [.ref wd, .int m] ∧ WlAt H wd bk ns ws ∧ ns.length ≤ 24 ∧ ∀ (l : Addr) (as : List Addr) (H' : Hp), H l = none → Same H H' → H' l = some (.lst (as.map V.ref)) → PairsAt H' as (onL bk ns m) → Q (.ref l) H'
theorem sc_on : FnScope nOn ["world", "made"] (defScope s_law_once_on) := ⟨rfl, rfl, rfl, by decide +kernel, rfl, by decide +kernel, by decide +kernel⟩
set_option maxHeartbeats 2200000 in
theorem c_on (B : Blt mg) (D : Dfn K mg "_law_once_on" s_law_once_on) (Cl : Cal P w K mg base 1 "_law_load" ["world", "bits"] spLLoad) : Cal P w K mg base 2 "_law_once_on" ["world", "made"] spOn := by
  refine D.cal (fun _ _ _ _ _ _ us hl => match us, hl with | [_, _], _ => rfl) fun f fd F => F.ok sc_on (fun vs H Q E h => ?_) (fun cdv A outer s H vs Q E hr h => ?_)
  · obtain ⟨a, _, _, _, _, rfl, _⟩ := h
    rfl
  · obtain ⟨wd, bk, ns, ws, m, rfl, hW, hn, q⟩ := h
    have nd := sc_on.nd
    have hu := hu_of hr
    refine ⟨_, (bs_c (bs_set 2 nd b_int)
      (bs_c (bs_for (bi_range1 B.range (ba_c (b_callB call_len_seq B.len (ba_c (b_dget hu (b_v 0) b_str) ba_nil)) ba_nil)) (bg_n 3 nd) (bs_one (bs_if (bt_cmpR op_eq (b_op op_and (b_op op_shr (b_v 1) (b_v 3)) b_int) b_int (nomark _)) (bs_one (bs_set 2 nd (b_op op_or (b_v 2) (b_ix ix_list (b_dget hu (b_v 0) b_str) (b_v 3))))) bs_nil)))
      (bs_c (bs_set 4 nd (b_cal Cl hr (ba_c (b_v 0) (ba_c (b_op op_and (b_v 1) (b_v 2)) ba_nil))))
      (bs_c (bs_set 5 nd (b_lst ba_nil))
      (bs_c (bs_for (bi_range1 B.range (ba_c (b_callB call_len_seq B.len (ba_c (b_dget hu (b_v 0) b_str) ba_nil)) ba_nil)) (bg_n 3 nd) (bs_one (bs_if (bt_w (bw_and (bt_cmpR op_eq (b_op op_and (b_op op_shr (b_v 1) (b_v 3)) b_int) b_int (nomark _)) (bw_and1 (bt_cmpR op_eq (b_op op_and (b_ix ix_list (b_dget hu (b_v 0) b_str) (b_v 3)) (b_v 1)) (b_ix ix_list (b_dget hu (b_v 0) b_str) (b_v 3)) (nomark _))))) (bs_one (bs_expr (b_append (b_v 5) (ba_c (b_tup (ba_c (b_op op_add (b_v 4) (b_ix ix_list (b_dget hu (b_v 0) b_str) (b_v 3))) (ba_c (b_op op_or (b_v 1) (b_op op_shl b_int (b_v 3))) ba_nil))) ba_nil)))) bs_nil)))
      (bs_one (bs_ret (b_v 5)))))))).o, ?_⟩
    obtain ⟨a1, a2, a3, a4, a5, a6, h0, h1, h2, h3, h4, h5, h6⟩ := id hW.ex
    have h62 : ns.length < 2 ^ 62 := Nat.lt_of_le_of_lt hn (by decide)
    have elen : (((ns.map V.str).length : Int)).toNat = ns.length := by rw [List.length_map]; rfl
    refine at_seq [some (.ref wd), some (.int m), some (.int 0), none, none, none] ?_
    refine ⟨_, rfl, wd, V.ref a1, rfl, DGet.k (k := Sum.inr "names") h0, a1, _, rfl, .inl (SqL.of h1), _, rfl, by omega, by rw [List.length_map]; exact_mod_cast h62, for_range (lo := 0) (n := (((ns.map V.str).length : Int)).toNat) (fun i σ H2 => ∃ v3 : Option V, σ = [some (.ref wd), some (.int m), some (.int (wantTo bk ns m i : Nat)), v3, none, none] ∧ H2 = H) ⟨none, rfl, rfl⟩ ?_ ?_⟩
    · rintro i σ H2 hi ⟨v3, rfl, rfl⟩
      rw [Int.zero_add]
      rw [elen] at hi
      have hx : ns[i]? = some (ns[i]'hi) := List.getElem?_eq_getElem _
      generalize ns[i]'hi = x at hx
      refine at_nx [some (.ref wd), some (.int m), some (.int (wantTo bk ns m i : Nat)), some (.int (i : Int)), none, none] ?_
      refine ⟨_, rfl, _, rfl, _, _, rfl, rfl, Int.natCast_nonneg i, _, _, rfl, rfl, rfl, _, rfl, ?_⟩
      rw [bit_noV]
      by_cases c : m.testBit i = true
      · rw [c]
        refine iteF ⟨some (.int (i : Int)), ?_, rfl⟩
        rw [wantTo_succ, if_pos c]
      · rw [show m.testBit i = false by simpa using c]
        refine iteT ?_
        refine ⟨_, rfl, _, rfl, wd, V.ref a5, rfl, DGet.k (k := Sum.inr "needs") h0, _, rfl, a5, _, (i : Int), .int (needN bk ns x : Nat), rfl, rfl, SqL.of h5, atI_nat (by rw [List.getElem?_map, List.getElem?_map, hx]; rfl), _, _, rfl, rfl, ?_⟩
        refine at_nx [some (.ref wd), some (.int m), some (.int (wantTo bk ns m (i + 1) : Nat)), some (.int (i : Int)), none, none] ⟨some (.int (i : Int)), rfl, rfl⟩ ?_
        show [_, _, some (V.int (Builtin.bitOr ((wantTo bk ns m i : Nat) : Int) ((needN bk ns x : Nat) : Int))), _, _, _] = _
        rw [bor, wantTo_succ, if_neg c, nk_at hx]
    · rintro σ H2 ⟨v3, rfl, rfl⟩
      rw [elen]
      refine ⟨_, rfl, _, rfl, _, rfl, _, _, rfl, rfl, ?_⟩
      refine ⟨wd, bk, ns, ws, m &&& wantTo bk ns m ns.length, ?_, hW, hn, fun H3 hS3 => ?_⟩
      · show [_, V.int (Builtin.bitAnd (m : Int) ((wantTo bk ns m ns.length : Nat) : Int))] = _
        rw [band]
      refine at_seq [some (.ref wd), some (.int m), some (.int (wantTo bk ns m ns.length : Nat)), v3, some (.int (ldN bk ns m)), none] ?_
      refine ⟨lit 0, fun L hL => ?_⟩
      refine at_seq [some (.ref wd), some (.int m), some (.int (wantTo bk ns m ns.length : Nat)), v3, some (.int (ldN bk ns m)), some (.ref L)] ?_
      have hS4 : Same H2 (upd H3 L (.lst [])) := hS3.trans (Same.new hL)
      have hL4 : (upd H3 L (.lst [])) L = some (.lst []) := upd_same
      have hL2 : H2 L = none := hS3.free hL
      generalize upd H3 L (.lst []) = H4 at hS4 hL4
      refine ⟨_, rfl, wd, V.ref a1, rfl, DGet.k (k := Sum.inr "names") (hS4 _ _ h0), a1, _, rfl, .inl (SqL.of (hS4 _ _ h1)), _, rfl, by omega, by rw [List.length_map]; exact_mod_cast h62, for_range (lo := 0) (n := (((ns.map V.str).length : Int)).toNat) (fun i σ H5 => ∃ (v3 : Option V) (as : List Addr), σ = [some (.ref wd), some (.int m), some (.int (wantTo bk ns m ns.length : Nat)), v3, some (.int (ldN bk ns m)), some (.ref L)] ∧ Same H2 H5 ∧ H5 L = some (.lst (as.map V.ref)) ∧ PairsAt H5 as (onTo bk ns m (ldN bk ns m) i)) ⟨v3, [], rfl, hS4, hL4, rfl, fun i a p h => by simp at h⟩ ?_ ?_⟩
      · rintro i σ H5 hi ⟨v3, as, rfl, hS5, hL5, hA5⟩
        rw [Int.zero_add]
        rw [elen] at hi
        have hx : ns[i]? = some (ns[i]'hi) := List.getElem?_eq_getElem _
        generalize ns[i]'hi = x at hx
        refine at_nx [some (.ref wd), some (.int m), some (.int (wantTo bk ns m ns.length : Nat)), some (.int (i : Int)), some (.int (ldN bk ns m)), some (.ref L)] ?_
        have al := onTo_len bk ns m (ldN bk ns m) i
        have es := onTo_succ bk ns m (ldN bk ns m) i
        refine ⟨_, rfl, _, rfl, _, _, rfl, rfl, Int.natCast_nonneg i, _, _, rfl, rfl, rfl, _, rfl, ?_⟩
        rw [bit_noV]
        by_cases c : m.testBit i = true
        · rw [c]
          have : canM bk ns m i = false := by unfold canM; rw [c]; rfl
          rw [if_neg (by rw [this]; decide), List.append_nil] at es
          refine iteF (iteF ⟨_, as, rfl, hS5, hL5, ?_⟩)
          rw [es]
          exact hA5
        rw [show m.testBit i = false by simpa using c]
        refine iteT ?_
        have hat : atI ((ns.map fun x => ((needN bk ns x : Nat) : Int)).map V.int) (i : Int) = some (.int (needN bk ns x : Nat)) := atI_nat (by rw [List.getElem?_map, List.getElem?_map, hx]; rfl)
        refine ⟨_, rfl, wd, V.ref a5, rfl, DGet.k (k := Sum.inr "needs") (hS5 _ _ h0), _, rfl, a5, _, (i : Int), _, rfl, rfl, SqL.of (hS5 _ _ h5), hat, _, rfl, _, _, rfl, rfl, _, rfl, wd, V.ref a5, rfl, DGet.k (k := Sum.inr "needs") (hS5 _ _ h0), _, rfl, a5, _, (i : Int), _, rfl, rfl, SqL.of (hS5 _ _ h5), hat, rfl, _, rfl, ?_⟩
        show (if decide (V.int (Builtin.bitAnd ((needN bk ns x : Nat) : Int) (m : Int)) = V.int ((needN bk ns x : Nat) : Int)) = true then _ else _)
        rw [band, eqI]
        have ec : canM bk ns m i = decide (((needN bk ns x &&& m : Nat) : Int) = ((needN bk ns x : Nat) : Int)) := by
          unfold canM
          rw [show m.testBit i = false by simpa using c, nk_at hx]
          show decide _ = decide _
          by_cases e : needN bk ns x &&& m = needN bk ns x
          · rw [decide_eq_true e, decide_eq_true (by rw [e])]
          · rw [decide_eq_false e, decide_eq_false (by omega)]
        rw [← ec]
        cases hc : canM bk ns m i with
        | false =>
          rw [if_neg (by rw [hc]; decide), List.append_nil] at es
          refine iteF ⟨_, as, rfl, hS5, hL5, ?_⟩
          rw [es]
          exact hA5
        | true =>
          rw [if_pos hc] at es
          refine iteT ?_
          refine ⟨_, rfl, .inl ⟨rfl, _, SqL.of hL5⟩, _, rfl, _, rfl, wd, V.ref a3, rfl, DGet.k (k := Sum.inr "sizes") (hS5 _ _ h0), _, rfl, a3, _, (i : Int), .int (szOf bk x), rfl, rfl, SqL.of (hS5 _ _ h3), atI_nat (by rw [List.getElem?_map, List.getElem?_map, hx]; rfl), _, _, rfl, rfl, _, rfl, _, rfl, _, _, rfl, rfl, ⟨by omega, by omega, by decide⟩, _, _, rfl, rfl, lit 2, fun p hp => ?_⟩
          have ev : V.int (Builtin.bitOr (m : Int) ((1 : Int) * 2 ^ ((i : Int)).toNat)) = V.int ((m ||| 2 ^ i : Nat) : Int) := by rw [bshl, bor]
          have hp' : (upd H5 p (.tup [V.int (ldN bk ns m + szOf bk x), V.int (Builtin.bitOr (m : Int) ((1 : Int) * 2 ^ ((i : Int)).toNat))])) p = some (.tup [V.int (ldN bk ns m + szOf bk x), V.int ((m ||| 2 ^ i : Nat) : Int)]) := by rw [ev]; exact upd_same
          have hS6 : Same H5 (upd H5 p (.tup [V.int (ldN bk ns m + szOf bk x), V.int (Builtin.bitOr (m : Int) ((1 : Int) * 2 ^ ((i : Int)).toNat))])) := Same.new hp
          show ∃ _, _
          refine ⟨L, _, _, rfl, rfl, hS6 _ _ hL5, ?_, ?_⟩
          · rw [List.length_map, hA5.1]
            exact small1000 (by omega)
          · have hL6 := hS6 _ _ hL5
            refine ⟨some (.int (i : Int)), as ++ [p], rfl, (hS5.trans hS6).own hL2, by rw [upd_same, List.map_append]; rfl, ?_⟩
            rw [es, nk_at hx]
            have tl : ∀ b ys, (upd H5 p (.tup [V.int (ldN bk ns m + szOf bk x), V.int (Builtin.bitOr (m : Int) ((1 : Int) * 2 ^ ((i : Int)).toNat))])) b = some (.tup ys) → (upd (upd H5 p (.tup [V.int (ldN bk ns m + szOf bk x), V.int (Builtin.bitOr (m : Int) ((1 : Int) * 2 ^ ((i : Int)).toNat))])) L (.lst (as.map V.ref ++ [V.ref p]))) b = some (.tup ys) := fun b ys e => by
              rw [upd_ne (ne_of e hL6 (by intro z; cases z))]
              exact e
            exact PairsAt.snoc ((hA5.same hS6).mono tl) (tl _ _ hp')
      · rintro σ H5 ⟨v3, as, rfl, hS5, hL5, hA5⟩
        rw [elen] at hA5
        exact ⟨_, rfl, q L as H5 hL2 hS5 hL5 hA5⟩
end
end Hs
namespace Hs
open PySem PySem.Spec PyProof.Rows L2
/-! ### d.values(), and the greatest of them -/
def VwX (d a : Addr) : Heap → Prop := fun h => h.get? a = some { cls := .type "dict_values", data := .fields #[.ref d] }
def tValsV (td : TE) : TE := fun σ H Q => td σ H fun x H1 => ∃ d kvs, x = .ref d ∧ H1 d = some (.dK kvs) ∧ ∀ r, H1 r = none → Q (.ref r) (upd H1 r (.ext (VwX d r)))
section
variable {X : Cx} {e : Expr} {apos cpos : Pos} {td : TE}
theorem b_valsV (he : Bx (PE X e td)) (hbase : attributeBase e "values" X.env (eval e X.env) = eval e X.env := by rfl) (hline : (apos.endLine == cpos.line) = true := by rfl) : Bx (PE X (.Call (.Attribute e "values" apos) [] [] cpos) (tValsV td)) := ⟨by
  intro pins s σ H Q I h
  refine wpAny_Call_method (T := "dict") (id := "dict.values") hbase rfl hline PySem.F.plainAttrs_dict PySem.F.slot_dict_values PySem.F.type_dict_values (thn (he.o pins s σ H _ I h) fun u s1 hx => ?_)
  obtain ⟨x, H1, I1, rx, d, kvs, ex, hd, q⟩ := hx
  subst ex
  cases rx
  obtain ⟨z, hs, vs, rel, dd⟩ := dk_of I1.hok hd
  refine ⟨dd.typeIs, dd.mapOf.noDict, ?_⟩
  have hn := I1.hok.fresh (Nat.le_refl s1.heap.objs.size)
  have I2 : Inv X pins σ (upd H1 s1.heap.objs.size (.ext (VwX d s1.heap.objs.size))) { s1 with heap := s1.heap.push { cls := .type "dict_values", data := .fields #[.ref d] } } :=
    I1.laid (t' := s1.toks) (fun b o e => Heap.get?_push_of_some _ e) (Nat.le_refl _) ⟨Heap.get?_push_size _ rfl, ⟨_, Heap.get?_push_size _ rfl⟩, fun h1 h2 k1 k2 => k2 _ k1⟩
  show wpAny _ _ (callWith cpos (.builtin "dict.values") [.ref d] [] []) _ X.xe s1
  exact method_meetsIn PySem.F.slot_dict_values PySem.F.entry_dict_values rfl (PySem.evalArgs_none ⟨rfl, dd.typeIs, PySem.F.args_dict_values_1 _, _, meets_dict_values (mixKind X.prog X.w) d hs, ⟨vs, dd⟩, ⟨.ref s1.heap.objs.size, _, I2, rfl, q _ hn⟩⟩)⟩
/-- max of the values -/
theorem cr_maxV (hc : X.calm = true) : CallR X (.builtin "max") (fun xs H Q => ∃ (r d : Addr) (kvs : List (Key × V)) (ns : List Int), xs = [.ref r] ∧ H r = some (.ext (VwX d r)) ∧ H d = some (.dK kvs) ∧ kvs.map (·.2) = ns.map V.int ∧ 0 < ns.length ∧ ∀ m, m ∈ ns → (∀ y, y ∈ ns → y ≤ m) → Q (.int m) H) := by
  intro pins s σ H xs us Q I r h
  obtain ⟨a, d, kvs, ns, rfl, hr, hd, hk, hne, q⟩ := h
  rw [Vals.ref1 r]
  obtain ⟨z, hs, vs, rel, dd⟩ := dk_of I.hok hd
  obtain ⟨hv, _, _⟩ := (show ObjOk X.prog X.w H s.heap a (.ext (VwX d a)) from I.hok a _ hr)
  obtain ⟨ep, hat⟩ := dd.dictAt
  have hl : kvs.length = vs.length := Paired.length rel
  have hnl : ns.length = vs.length := by
    have := congrArg List.length hk
    rw [List.length_map, List.length_map] at this
    omega
  have hP : ∀ i v, (∃ k, vs[i]? = some (k, v)) → ∃ t, v = Value.int (ns.getD i 0) t := by
    rintro i v ⟨k, hi⟩
    have hil := (List.getElem?_eq_some_iff.mp hi).1
    have hkv : kvs[i]? = some (kvs[i]'(by omega)) := List.getElem?_eq_getElem _
    generalize kvs[i]'(by omega) = p at hkv
    obtain ⟨pk, pv⟩ := p
    obtain ⟨u, hu, ru⟩ := kv_get rel hkv
    rw [hi] at hu
    cases hu
    have e1 : (kvs.map (·.2))[i]? = some pv := by rw [List.getElem?_map, hkv]; rfl
    rw [hk, List.getElem?_map] at e1
    cases e2 : ns[i]? with
    | none => rw [e2] at e1; cases e1
    | some n =>
      rw [e2] at e1
      cases e1
      rw [List.getD_eq_getElem?_getD, e2]
      exact ru
  obtain ⟨oI, St, hit, W, st⟩ := (PySem.W.kdl_values (prog := X.prog) (w := X.w) (r := a) (d := d) (kvs := vs) (ep := ep)).iter X.A.in1 s (I.ok.hd hc) ⟨⟨_, hv, rfl, rfl⟩, hat⟩
  refine call_max_walk (hit _ _ ?_)
  refine ⟨_, _, _, _, _, _, _, rfl, W, st, fun b hb => ?_, by omega, CmpOf.ints_gt (fun i => ns.getD i 0) hP, fun v h' tk hv' hkeep => ?_⟩
  · rw [Heap.size_push]
    simp only [List.mem_cons, List.not_mem_nil, or_false] at hb
    rcases hb with e | e
    · rw [e]; exact Nat.lt_succ_self _
    · rw [e]; exact Nat.lt_succ_of_lt hat.lt_size
  obtain ⟨t', rfl⟩ := hP _ _ hv'
  obtain ⟨h1, h2⟩ := argBest_gt (fun i => ns.getD i 0) (vs.length - 1)
  refine ⟨.int _, H, I.kept (fun b o e => hkeep b o (fun hm => absurd (Heap.lt_size e) ((List.mem_singleton.mp hm) ▸ Nat.lt_irrefl _)) (Heap.get?_push_of_some _ e)), ⟨_, rfl⟩, q _ ?_ fun y hy => ?_⟩
  · exact PySem.getD_mem (by omega)
  · obtain ⟨j, hj, rfl⟩ := mem_getD hy
    exact h2 j (by omega)
end
section
variable {X : Cx} {a e f : Expr} {apos cpos : Pos} {ta te tf : TE}
theorem b_dget2 (hu : X.A.units + 1 < cLine) (ho : Bx (PE X a ta)) (he : Bx (PE X e te)) (hf : Bx (PE X f tf)) (m : M2 X a "get" apos e f cpos := by exact ⟨rfl, rfl, rfl, rfl⟩) : Bx (PE X (.Call (.Attribute a "get" apos) [e, f] [] cpos) (tDGet2 ta te tf)) := ⟨pe_dget2 hu ho.o he.o hf.o m⟩
end
end Hs

namespace Hs
open PySem PySem.Spec PyProof.Rows L2
theorem idx_uniq {ns : List Str} (hn : ns.Nodup) {j k : Nat} {x : Str} (h : ns[j]? = some x) (h' : ns[k]? = some x) : j = k := (List.getElem?_inj (List.getElem?_eq_some_iff.mp h).1 hn).mp (by rw [h, h'])
/-! ### the layers: what is come to by so many steps, and in what room -/
theorem nodup_le {α : Type} [DecidableEq α] : ∀ {l m : List α}, l.Nodup → (∀ x ∈ l, x ∈ m) → l.length ≤ m.length
  | [], _, _, _ => Nat.zero_le _
  | x :: l, m, hn, hs => by
    rw [List.nodup_cons] at hn
    have hx := hs x List.mem_cons_self
    have := nodup_le (l := l) (m := m.erase x) hn.2 fun y hy => by
      have : y ≠ x := fun z => hn.1 (by rw [← z]; exact hy)
      exact (List.mem_erase_of_ne this).mpr (hs y (List.mem_cons_of_mem _ hy))
    rw [List.length_erase_of_mem hx] at this
    have hp := List.length_pos_of_mem hx
    rw [List.length_cons]
    omega
def RN (bk : Book) (ns : List Str) : Nat → Int → Nat → Prop
  | 0, r, m => m = 0 ∧ 0 ≤ r
  | i + 1, r, x => ∃ m w, RN bk ns i r m ∧ (w, x) ∈ onL bk ns m ∧ w ≤ r
theorem RN.mono {bk : Book} {ns : List Str} {r r' : Int} (h : r ≤ r') : ∀ {i m}, RN bk ns i r m → RN bk ns i r' m
  | 0, m, ⟨e, h0⟩ => ⟨e, by omega⟩
  | i + 1, x, ⟨m, w, h1, h2, h3⟩ => ⟨m, w, RN.mono h h1, h2, by omega⟩
theorem onL_mem {bk : Book} {ns : List Str} {m x : Nat} {w : Int} (h : (w, x) ∈ onL bk ns m) : ∃ k, k < ns.length ∧ canM bk ns m k = true ∧ w = ldN bk ns m + szOf bk (nk ns k) ∧ x = m ||| 2 ^ k := by
  unfold onL onTo at h
  obtain ⟨k, hk, e⟩ := List.mem_map.mp h
  obtain ⟨h1, h2⟩ := List.mem_filter.mp hk
  injection e with e1 e2
  exact ⟨k, List.mem_range.mp h1, h2, e1.symm, e2.symm⟩
theorem mem_onL {bk : Book} {ns : List Str} {m k : Nat} (hk : k < ns.length) (hc : canM bk ns m k = true) : (ldN bk ns m + szOf bk (nk ns k), m ||| 2 ^ k) ∈ onL bk ns m := by
  unfold onL onTo
  exact List.mem_map.mpr ⟨k, List.mem_filter.mpr ⟨List.mem_range.mpr hk, hc⟩, rfl⟩
theorem on_lt {bk : Book} {ns : List Str} {m x : Nat} {w : Int} (hm : m < 2 ^ ns.length) (h : (w, x) ∈ onL bk ns m) : x < 2 ^ ns.length := by
  obtain ⟨k, hk, _, _, rfl⟩ := onL_mem h
  exact Nat.or_lt_two_pow hm (Nat.pow_lt_pow_right (by decide) hk)
theorem RN.lt {bk : Book} {ns : List Str} {r : Int} : ∀ {i m}, RN bk ns i r m → m < 2 ^ ns.length
  | 0, m, ⟨e, _⟩ => by rw [e]; exact Nat.two_pow_pos _
  | i + 1, x, ⟨m, w, h1, h2, h3⟩ => on_lt h1.lt h2
/-- how many bits below n -/
def cntB : Nat → Nat → Nat
  | 0, _ => 0
  | n + 1, m => cntB n m + (if m.testBit n = true then 1 else 0)
theorem cnt_or_ge {m k : Nat} : ∀ {n}, n ≤ k → cntB n (m ||| 2 ^ k) = cntB n m
  | 0, _ => rfl
  | n + 1, h => by
    unfold cntB
    rw [cnt_or_ge (by omega), Nat.testBit_or, Nat.testBit_two_pow, decide_eq_false (by omega), Bool.or_false]
theorem cnt_or {m k : Nat} (hb : m.testBit k = false) : ∀ {n}, k < n → cntB n (m ||| 2 ^ k) = cntB n m + 1
  | 0, h => by omega
  | n + 1, h => by
    unfold cntB
    rw [Nat.testBit_or, Nat.testBit_two_pow]
    by_cases e : k = n
    · subst e
      rw [cnt_or_ge (Nat.le_refl _), hb]
      simp
    · rw [cnt_or hb (by omega), decide_eq_false e, Bool.or_false]
      omega
theorem cnt_le (m : Nat) : ∀ n, cntB n m ≤ n
  | 0 => Nat.le_refl _
  | n + 1 => by
    have := cnt_le m n
    unfold cntB
    split <;> omega
theorem cnt_all {m : Nat} : ∀ {n}, cntB n m = n → ∀ j, j < n → m.testBit j = true
  | 0, _, j, h => by omega
  | n + 1, e, j, h => by
    have hl := cnt_le m n
    unfold cntB at e
    by_cases c : m.testBit n = true
    · rw [if_pos c] at e
      by_cases ej : j = n
      · rw [ej]; exact c
      · exact cnt_all (n := n) (by omega) j (by omega)
    · rw [if_neg c] at e
      omega
theorem cnt_zero : ∀ n, cntB n 0 = 0
  | 0 => rfl
  | n + 1 => by
    unfold cntB
    rw [cnt_zero n, Nat.zero_testBit]
    rfl
theorem canM_bit {bk : Book} {ns : List Str} {m k : Nat} (h : canM bk ns m k = true) : m.testBit k = false := by
  unfold canM at h
  rw [Bool.and_eq_true] at h
  simpa using h.1
theorem RN.cnt {bk : Book} {ns : List Str} {r : Int} : ∀ {i m}, RN bk ns i r m → cntB ns.length m = i
  | 0, m, ⟨e, _⟩ => by rw [e]; exact cnt_zero _
  | i + 1, x, ⟨m, w, h1, h2, h3⟩ => by
    obtain ⟨k, hk, hc, _, rfl⟩ := onL_mem h2
    rw [cnt_or (canM_bit hc) hk, h1.cnt]
theorem RN.full {bk : Book} {ns : List Str} {r : Int} {m : Nat} (h : RN bk ns ns.length r m) : m = 2 ^ ns.length - 1 := by
  refine Nat.eq_of_testBit_eq fun k => ?_
  rw [Nat.testBit_two_pow_sub_one]
  by_cases hk : k < ns.length
  · rw [cnt_all h.cnt k hk, decide_eq_true hk]
  · rw [bit_high h.lt (by omega), decide_eq_false hk]
/-- what a part needs stands ahead of it -/
def NsTop (bk : Book) (ns : List Str) : Prop := ∀ (i : Nat) (x : Str), ns[i]? = some x → ∀ y ∈ nmOf bk x, y ∈ ns → y ∈ ns.take i
theorem can_next {bk : Book} {ns : List Str} (hn : ns.Nodup) (ht : NsTop bk ns) {i : Nat} (hi : i < ns.length) : canM bk ns (2 ^ i - 1) i = true := by
  unfold canM
  rw [Nat.testBit_two_pow_sub_one, decide_eq_false (by omega), Bool.not_false, Bool.true_and]
  refine decide_eq_true (Nat.eq_of_testBit_eq fun k => ?_)
  have hx : ns[i]? = some ns[i] := List.getElem?_eq_getElem hi
  rw [nk_at hx, Nat.testBit_and, Nat.testBit_two_pow_sub_one]
  unfold needN
  by_cases hk : k < ns.length
  · have hy : ns[k]? = some ns[k] := List.getElem?_eq_getElem hk
    rw [bitsN_at hy]
    by_cases c : ns[k] ∈ nmOf bk ns[i]
    · have := ht i _ hx _ c (List.getElem_mem hk)
      obtain ⟨j, hj, e⟩ := List.getElem_of_mem this
      rw [List.length_take] at hj
      have hj' : ns[j]? = some ns[k] := by
        rw [List.getElem_take] at e
        rw [← e]
        exact List.getElem?_eq_getElem _
      have := idx_uniq hn hj' hy
      rw [decide_eq_true c, decide_eq_true (by omega)]
      rfl
    · rw [decide_eq_false c]
      rfl
  · rw [bit_high (bitsN_lt ns _) (by omega)]
    rfl
theorem RN.some {bk : Book} {ns : List Str} (hn : ns.Nodup) (ht : NsTop bk ns) : ∀ i, i ≤ ns.length → ∃ r, RN bk ns i r (2 ^ i - 1)
  | 0, _ => ⟨0, rfl, Int.le_refl _⟩
  | i + 1, h => by
    obtain ⟨r, hr⟩ := RN.some hn ht i (by omega)
    have hm := mem_onL (m := 2 ^ i - 1) (show i < ns.length by omega) (can_next hn ht (by omega))
    have e : (2 ^ i - 1) ||| 2 ^ i = 2 ^ (i + 1) - 1 := by
      refine Nat.eq_of_testBit_eq fun k => ?_
      rw [Nat.testBit_or, Nat.testBit_two_pow_sub_one, Nat.testBit_two_pow, Nat.testBit_two_pow_sub_one, Bool.eq_iff_iff]
      simp
      omega
    rw [e] at hm
    exact ⟨max r (ldN bk ns (2 ^ i - 1) + szOf bk (nk ns i)), _, _, hr.mono (by omega), hm, by omega⟩
theorem bOf_top {bk : Book} (h : BookOk bk) (xs : List Str) : NsTop bk (bOf bk xs) := by
  intro i x hx y hy hyn
  unfold bOf at hx hyn ⊢
  generalize hp : (fun y => decide (y ∈ bAcc bk xs)) = p at hx hyn ⊢
  have hxm := List.mem_of_getElem? hx
  obtain ⟨hxb, hpx⟩ := List.mem_filter.mp hxm
  obtain ⟨a, ha, rfl⟩ := List.mem_map.mp hxb
  obtain ⟨j, hj⟩ := List.getElem?_of_mem ha
  have ha1 : nmOf bk a.name = a.how.names := by unfold nmOf; rw [part_is h.nd ha]
  rw [ha1] at hy
  have hyt : y ∈ (bk.take j).map (·.name) := by
    have hr := h.how j a hj
    cases e : a.how with
    | leaf n => rw [e] at hy; simp [Rec.names] at hy
    | op wd us => rw [e] at hy hr; exact hr.2 y hy
  have hjl := (List.getElem?_eq_some_iff.mp hj).1
  have split : bk.map (·.name) = (bk.take j).map (·.name) ++ a.name :: (bk.drop (j + 1)).map (·.name) := by
    have : bk = bk.take j ++ a :: bk.drop (j + 1) := by
      have e1 : bk.drop j = a :: bk.drop (j + 1) := by
        rw [List.drop_eq_getElem_cons hjl]
        congr 1
        rw [List.getElem?_eq_getElem hjl] at hj
        exact Option.some.inj hj
      rw [← e1, List.take_append_drop]
    conv => lhs; rw [this]
    rw [List.map_append, List.map_cons]
  have fs : (bk.map (·.name)).filter p = ((bk.take j).map (·.name)).filter p ++ a.name :: ((bk.drop (j + 1)).map (·.name)).filter p := by
    rw [split, List.filter_append, List.filter_cons_of_pos hpx]
  have nd : ((bk.map (·.name)).filter p).Nodup := h.nd.filter p
  have hi : i = (((bk.take j).map (·.name)).filter p).length := by
    refine idx_uniq nd hx ?_
    rw [fs, List.getElem?_append_right (Nat.le_refl _), Nat.sub_self]
    rfl
  rw [fs, hi, List.take_left']
  · exact List.mem_filter.mpr ⟨hyt, (List.mem_filter.mp hyn).2⟩
  · rfl
/-! ### dicts of bits to numbers -/
structure LyOk (n : Nat) (kvs : List (Key × V)) : Prop where
  nd : (kvs.map (·.1)).Nodup
  ks : ∀ k ∈ kvs.map (·.1), ∃ m : Nat, k = Sum.inl (m : Int) ∧ m < 2 ^ n
  vs : ∀ v ∈ kvs.map (·.2), ∃ i : Int, v = V.int i
theorem LyOk.len {n : Nat} {kvs : List (Key × V)} (h : LyOk n kvs) : kvs.length ≤ 2 ^ n := by
  have := nodup_le (m := (List.range (2 ^ n)).map fun m => (Sum.inl ((m : Nat) : Int) : Key)) h.nd fun k hk => by
    obtain ⟨m, e, hm⟩ := h.ks k hk
    exact List.mem_map.mpr ⟨m, List.mem_range.mpr hm, e.symm⟩
  rwa [List.length_map, List.length_map, List.length_range] at this
theorem putK_keys {kvs : List (Key × V)} {k : Key} {v : V} : (putK kvs k v).map (·.1) = if (valV kvs k).isSome = true then kvs.map (·.1) else kvs.map (·.1) ++ [k] := by
  by_cases a : (kvs.any fun kv => decide (kv.1 = k)) = true
  · have b := a
    rw [valV_any] at b
    rw [if_pos b]
    unfold putK
    rw [if_pos a, List.map_map]
    refine List.map_congr_left fun p hp => ?_
    show (if p.1 = k then (p.1, v) else p).1 = p.1
    split <;> rfl
  · have b := a
    rw [valV_any] at b
    rw [if_neg b]
    unfold putK
    rw [if_neg a, List.map_append]
    rfl
theorem val_key {kvs : List (Key × V)} {k : Key} : (valV kvs k).isSome = true ↔ k ∈ kvs.map (·.1) := by
  rw [← valV_any, List.any_eq_true, List.mem_map]
  constructor
  · rintro ⟨p, hp, e⟩
    exact ⟨p, hp, of_decide_eq_true e⟩
  · rintro ⟨p, hp, e⟩
    exact ⟨p, hp, decide_eq_true e⟩
theorem putK_vals {kvs : List (Key × V)} {k : Key} {v x : V} (h : x ∈ (putK kvs k v).map (·.2)) : x = v ∨ x ∈ kvs.map (·.2) := by
  obtain ⟨p, hp, rfl⟩ := List.mem_map.mp h
  unfold putK at hp
  split at hp
  · obtain ⟨q, hq, e⟩ := List.mem_map.mp hp
    split at e
    · left
      rw [← e]
    · right
      rw [← e]
      exact List.mem_map.mpr ⟨q, hq, rfl⟩
  · rcases List.mem_append.mp hp with h | h
    · exact .inr (List.mem_map.mpr ⟨p, h, rfl⟩)
    · left
      rw [List.mem_singleton.mp h]
theorem LyOk.put {n m : Nat} {kvs : List (Key × V)} (h : LyOk n kvs) (hm : m < 2 ^ n) (i : Int) : LyOk n (putK kvs (Sum.inl (m : Int)) (.int i)) := by
  refine ⟨?_, fun k hk => ?_, fun v hv => ?_⟩
  · rw [putK_keys]
    by_cases c : (valV kvs (Sum.inl (m : Int) : Key)).isSome = true
    · rw [if_pos c]
      exact h.nd
    · rw [if_neg c, List.nodup_append]
      refine ⟨h.nd, by simp, fun x hx y hy e => ?_⟩
      rw [List.mem_singleton.mp hy] at e
      rw [e] at hx
      exact c (val_key.mpr hx)
  · rw [putK_keys] at hk
    split at hk
    · exact h.ks k hk
    · rcases List.mem_append.mp hk with g | g
      · exact h.ks k g
      · exact ⟨m, List.mem_singleton.mp g, hm⟩
  · rcases putK_vals hv with e | g
    · exact ⟨i, e⟩
    · exact h.vs v g
theorem valV_mem {kvs : List (Key × V)} {k : Key} {v : V} (h : valV kvs k = some v) : v ∈ kvs.map (·.2) := by
  unfold valV at h
  obtain ⟨p, hp, e⟩ := Option.map_eq_some_iff.mp h
  exact List.mem_map.mpr ⟨p, List.mem_of_find?_eq_some hp, e⟩
theorem LyOk.val {n : Nat} {kvs : List (Key × V)} (h : LyOk n kvs) {k : Key} (hk : k ∈ kvs.map (·.1)) : ∃ i : Int, valV kvs k = some (.int i) := by
  have := val_key.mpr hk
  obtain ⟨v, hv⟩ := Option.isSome_iff_exists.mp this
  obtain ⟨i, e⟩ := h.vs v (valV_mem hv)
  exact ⟨i, by rw [hv, e]⟩
/-- what is there in a room -/
def InR (kvs : List (Key × V)) (r : Int) (m : Nat) : Prop := ∃ v, valV kvs (Sum.inl (m : Int) : Key) = some (.int v) ∧ v ≤ r
theorem InR.put {kvs : List (Key × V)} {r most g : Int} {x y : Nat} (hg : (valV kvs (Sum.inl (x : Int) : Key)).getD (.int most) = .int g) :
    InR (putK kvs (Sum.inl (x : Int)) (.int (min g most))) r y ↔ InR kvs r y ∨ (y = x ∧ most ≤ r) := by
  unfold InR
  rw [valV_put]
  by_cases e : y = x
  · subst e
    rw [if_pos rfl]
    cases hv : valV kvs (Sum.inl (y : Int) : Key) with
    | none =>
      rw [hv] at hg
      have hg : most = g := by injection hg
      constructor
      · rintro ⟨v, hv, hr⟩
        cases hv
        exact .inr ⟨rfl, by omega⟩
      · rintro (⟨v, hv, _⟩ | ⟨_, hr⟩)
        · cases hv
        · exact ⟨_, rfl, by omega⟩
    | some u =>
      rw [hv] at hg
      have hg : u = .int g := hg
      subst hg
      constructor
      · rintro ⟨v, hv, hr⟩
        cases hv
        by_cases c : g ≤ r
        · exact .inl ⟨g, rfl, c⟩
        · exact .inr ⟨rfl, by omega⟩
      · rintro (⟨v, hv, hr⟩ | ⟨_, hr⟩)
        · cases hv
          exact ⟨_, rfl, by omega⟩
        · exact ⟨_, rfl, by omega⟩
  · rw [if_neg (fun z => e (by injection z with z; omega))]
    constructor
    · exact .inl
    · rintro (h | ⟨z, _⟩)
      · exact h
      · exact absurd z e
end Hs
namespace Hs
open PySem PySem.Spec PyProof.Rows L2
/-- what was come to from the first layer's keys so far -/
def Sx (bk : Book) (ns : List Str) (kvs : List (Key × V)) (ks : List Key) (r : Int) (x : Nat) : Prop := ∃ (m : Nat) (w : Int), (Sum.inl (m : Int) : Key) ∈ ks ∧ InR kvs r m ∧ (w, x) ∈ onL bk ns m ∧ w ≤ r
theorem all_ints : ∀ {l : List V}, (∀ v ∈ l, ∃ i : Int, v = V.int i) → ∃ ns : List Int, l = ns.map V.int
  | [], _ => ⟨[], rfl⟩
  | v :: l, h => by
    obtain ⟨ns, e⟩ := all_ints fun y hy => h y (List.mem_cons_of_mem _ hy)
    obtain ⟨i, ei⟩ := h v List.mem_cons_self
    exact ⟨i :: ns, by rw [e, ei]; rfl⟩
section
variable {P : Program} {w : World} {K : PySem.W.Frag} {mg : Str → Option Value} {base : Heap}
/-! ### _law_once_least -/
abbrev nLeast : List Str := ["world", "layer", "name", "later", "made", "wants", "other", "most"]
def spOLeast : Sp := fun vs H Q _ => ∃ (wd : Addr) (bk : Book) (ns ws : List Str), vs = [.ref wd] ∧ WlAt H wd bk ns ws ∧ NsOk bk ns ∧ NsTop bk ns ∧ ns.length ≤ 11 ∧ ∀ (r0 : Int) (H' : Hp), Same H H' → (∀ r, r0 ≤ r ↔ RN bk ns ns.length r (2 ^ ns.length - 1)) → Q (.int r0) H'
theorem sc_oleast : FnScope nLeast ["world"] (defScope s_law_once_least) := ⟨rfl, rfl, rfl, by decide +kernel, rfl, by decide +kernel, by decide +kernel⟩
set_option maxHeartbeats 2200000 in
theorem c_oleast (B : Blt mg) (D : Dfn K mg "_law_once_least" s_law_once_least) (Co : Cal P w K mg base 2 "_law_once_on" ["world", "made"] spOn) : Cal P w K mg base 3 "_law_once_least" ["world"] spOLeast := by
  refine D.cal (fun _ _ _ _ _ _ us hl => match us, hl with | [_], _ => rfl) fun f fd F => F.ok sc_oleast (fun vs H Q E h => ?_) (fun cdv A outer s H vs Q E hr h => ?_)
  · obtain ⟨a, _, _, _, rfl, _⟩ := h
    rfl
  · obtain ⟨wd, bk, ns, ws, rfl, hW, hN, hT, h9, q⟩ := h
    have nd := sc_oleast.nd
    have hu := hu_of hr
    refine ⟨_, (bs_c (bs_set 1 nd (b_disp1 b_int b_int))
      (bs_c (bs_for (bi_list (b_dget hu (b_v 0) b_str)) (bg_n 2 nd) (bs_c (bs_set 3 nd b_dnewK)
      (bs_c (bs_lock (bs_for (bi_keys (b_v 1)) (bg_n 4 nd) (bs_one (bs_for (bi_list (b_cal Co hr (ba_c (b_v 0) (ba_c (b_v 4) ba_nil)))) (bg_tup (bgs_c (bg_n 5 nd) (bgs_c (bg_n 6 nd) bgs_nil))) (bs_c (bs_set 7 nd (b_callB (call_max2 rfl) B.max (ba_c (b_dget hu (b_v 1) (b_v 4)) (ba_c (b_v 5) ba_nil))))
      (bs_one (bs_dput hu (b_v 3) (b_v 6) (b_callB (call_min2 rfl) B.min (ba_c (b_dget2 hu (b_v 3) (b_v 6) (b_v 7)) (ba_c (b_v 7) ba_nil))))))))))
      (bs_one (bs_set 1 nd (b_v 3))))))
      (bs_one (bs_ret (b_callB (cr_maxV rfl) B.max (ba_c (b_valsV (b_v 1)) ba_nil)))))).o, ?_⟩
    obtain ⟨a1, a2, a3, a4, a5, a6, h0, h1, h2, h3, h4, h5, h6⟩ := id hW.ex
    have h512 : 2 ^ ns.length ≤ 2048 := Nat.le_trans (Nat.pow_le_pow_right (by decide) h9) (show 2 ^ 11 ≤ 2048 by decide)
    -- the first layer
    refine fun d hd => ⟨upd_same, [(Sum.inl 0, .int 0)], rfl, Nat.le_of_ble_eq_true rfl, ?_⟩
    rw [upd_upd]
    refine at_seq [some (.ref wd), some (.ref d), none, none, none, none, none, none] ?_
    have e0 : mergeK [] [((Sum.inl 0 : Key), V.int 0)] = [((Sum.inl 0 : Key), V.int 0)] := rfl
    rw [e0]
    have hS1 : Same H (upd H d (.dK [((Sum.inl 0 : Key), V.int 0)])) := Same.new hd
    have hd1 : (upd H d (.dK [((Sum.inl 0 : Key), V.int 0)])) d = some (.dK [((Sum.inl 0 : Key), V.int 0)]) := upd_same
    generalize upd H d (.dK [((Sum.inl 0 : Key), V.int 0)]) = H1 at hS1 hd1
    have ly0 : LyOk ns.length [((Sum.inl 0 : Key), V.int 0)] := ⟨by simp, fun k hk => ⟨0, by simpa using hk, Nat.two_pow_pos _⟩, fun v hv => ⟨0, by simpa using hv⟩⟩
    have in0 : ∀ r m, InR [((Sum.inl 0 : Key), V.int 0)] r m ↔ RN bk ns 0 r m := fun r m => by
      unfold InR RN
      by_cases e : m = 0
      · subst e
        constructor
        · rintro ⟨v, hv, hr⟩
          rw [valV_pos (by rfl)] at hv
          cases hv
          exact ⟨rfl, hr⟩
        · rintro ⟨_, hr⟩
          exact ⟨0, valV_pos (by rfl), hr⟩
      · constructor
        · rintro ⟨v, hv, _⟩
          rw [valV_neg (fun z => e (by injection z with z; omega)), valV_nil] at hv
          cases hv
        · rintro ⟨z, _⟩
          exact absurd z e
    refine ⟨_, rfl, wd, V.ref a1, rfl, DGet.k (k := Sum.inr "names") (hS1 _ _ h0), a1, rfl, ⟨_, SqL.of (hS1 _ _ h1)⟩, for_list (K := K) (a := a1) (xs := ns.map V.str) (fun i σ H2 => ∃ (dl : Addr) (kvs : List (Key × V)) (v2 v3 v4 v5 v6 v7 : Option V), σ = [some (.ref wd), some (.ref dl), v2, v3, v4, v5, v6, v7] ∧ Same H H2 ∧ H dl = none ∧ H2 dl = some (.dK kvs) ∧ LyOk ns.length kvs ∧ ∀ r m, InR kvs r m ↔ RN bk ns i r m) ⟨d, _, none, none, none, none, none, none, rfl, hS1, hd, hd1, ly0, in0⟩ ?_ ?_ ?_⟩
    · rintro i σ H2 _ ⟨_, _, _, _, _, _, _, _, rfl, hs, _⟩
      exact SqL.of (hs _ _ h1)
    · rintro i v σ H2 hi ⟨dl, kvs, v2, v3, v4, v5, v6, v7, rfl, hS2, hdl, hd2, hly, hin⟩
      obtain ⟨x, hx, rfl⟩ := get_map hi
      refine at_nx [some (.ref wd), some (.ref dl), some (.str x), v3, v4, v5, v6, v7] ?_
      -- the next one
      refine fun dn hdn => ?_
      have hS3 : Same H2 (upd H2 dn (.dK [])) := Same.new hdn
      have hdn3 : (upd H2 dn (.dK [])) dn = some (.dK []) := upd_same
      refine at_seq [some (.ref wd), some (.ref dl), some (.str x), some (.ref dn), v4, v5, v6, v7] ?_
      generalize upd H2 dn (.dK []) = H3 at hS3 hdn3
      have hdl3 := hS3 _ _ hd2
      have hdnH : H dn = none := hS2.free hdn
      have hne : dn ≠ dl := (ne_of_none hd2 hdn).symm
      refine ⟨dl, _, hdl3, trivial, fun od => ?_⟩
      have ofz : ∀ {c : Addr} {o : HO}, H c = some o → (upd H3 dl (.frz od (.dK kvs))) c = some o := fun {c o} e => by rw [upd_ne (ne_of_none e hdl)]; exact hS3 _ _ (hS2 _ _ e)
      have hd5 : (upd H3 dl (.frz od (.dK kvs))) dl = some (.frz od (.dK kvs)) := upd_same
      have hdn5 : (upd H3 dl (.frz od (.dK kvs))) dn = some (.dK []) := by rw [upd_ne hne]; exact hdn3
      generalize upd H3 dl (.frz od (.dK kvs)) = H5 at ofz hd5 hdn5
      refine ⟨_, rfl, dl, od, rfl, .inl ⟨kvs, hd5, ?_⟩⟩
      refine for_keys (d := dl) (o := od) (kvs := kvs) (fun j σ H6 => ∃ (kv : List (Key × V)) (v4 v5 v6 v7 : Option V), σ = [some (.ref wd), some (.ref dl), some (.str x), some (.ref dn), v4, v5, v6, v7] ∧ But dn H5 H6 ∧ H6 dn = some (.dK kv) ∧ LyOk ns.length kv ∧ ∀ r m, InR kv r m ↔ Sx bk ns kvs ((kvs.take j).map (·.1)) r m) ⟨[], v4, v5, v6, v7, rfl, But.refl _ _, hdn5, ⟨by simp, fun k hk => by simp at hk, fun v hv => by simp at hv⟩, fun r m => ?_⟩ ?_ ?_ ?_
      · unfold InR Sx
        simp [valV_nil]
      · rintro j σ H6 ⟨_, _, _, _, _, rfl, hb, _⟩
        exact hb _ _ hne.symm hd5
      · rintro j kk v σ H6 hj ⟨kv, v4, v5, v6, v7, rfl, hB6, hdn6, hly6, hin6⟩
        have hkm : kk ∈ kvs.map (·.1) := List.mem_map.mpr ⟨_, List.mem_of_getElem? hj, rfl⟩
        obtain ⟨m, rfl, hm⟩ := hly.ks kk hkm
        obtain ⟨vm, hvm⟩ := hly.val hkm
        refine at_nx [some (.ref wd), some (.ref dl), some (.str x), some (.ref dn), some (.int (m : Int)), v5, v6, v7] ?_
        have hW6 : WlAt H6 wd bk ns ws := ⟨a1, a2, a3, a4, a5, a6, hB6 _ _ (ne_of_none h0 hdnH) (ofz h0), hB6 _ _ (ne_of_none h1 hdnH) (ofz h1), hB6 _ _ (ne_of_none h2 hdnH) (ofz h2), hB6 _ _ (ne_of_none h3 hdnH) (ofz h3), hB6 _ _ (ne_of_none h4 hdnH) (ofz h4), hB6 _ _ (ne_of_none h5 hdnH) (ofz h5), hB6 _ _ (ne_of_none h6 hdnH) (ofz h6)⟩
        refine ⟨_, rfl, _, rfl, wd, bk, ns, ws, m, rfl, hW6, hN.le, fun L bs H7 hL hS7 hL7 hP7 => ⟨L, rfl, ⟨_, SqL.of hL7⟩, for_list (K := K) (a := L) (xs := bs.map V.ref) (fun l σ H8 => ∃ (kv : List (Key × V)) (v5 v6 v7 : Option V), σ = [some (.ref wd), some (.ref dl), some (.str x), some (.ref dn), some (.int (m : Int)), v5, v6, v7] ∧ But dn H7 H8 ∧ H8 dn = some (.dK kv) ∧ LyOk ns.length kv ∧ ∀ r y, InR kv r y ↔ Sx bk ns kvs ((kvs.take j).map (·.1)) r y ∨ ∃ w, InR kvs r m ∧ (w, y) ∈ (onL bk ns m).take l ∧ w ≤ r) ⟨kv, v5, v6, v7, rfl, But.refl _ _, hS7 _ _ hdn6, hly6, fun r y => ?_⟩ ?_ ?_ ?_⟩⟩
        · rw [hin6]
          simp
        · rintro l σ H8 _ ⟨_, _, _, _, rfl, hb, _⟩
          exact SqL.of (hb _ _ (ne_of_none hdn6 hL).symm hL7)
        · rintro l v σ H8 hl ⟨kv8, v5, v6, v7, rfl, hB8, hdn8, hly8, hin8⟩
          have hP8 : PairsAt H8 bs (onL bk ns m) := hP7.mono fun b ys e => hB8 _ _ (ne_of e (hS7 _ _ hdn6) (by intro z; cases z)) e
          obtain ⟨p, pr, rfl, hp, hpr, hpt⟩ := hP8.at hl
          obtain ⟨wn, ot⟩ := pr
          have hdl8 : H8 dl = some (.frz od (.dK kvs)) := hB8 _ _ hne.symm (hS7 _ _ (hB6 _ _ hne.symm hd5))
          have hot : ot < 2 ^ ns.length := on_lt hm (List.mem_of_getElem? hpr)
          refine ⟨p, _, rfl, SqT.of hpt, rfl, _, _, rfl, _, _, rfl, rfl, ?_⟩
          refine ⟨_, rfl, _, rfl, dl, .int vm, rfl, .inl ⟨kvs, Sum.inl (m : Int), .inr ⟨od, hdl8⟩, rfl, hvm.symm⟩, _, rfl, _, _, rfl, ?_⟩
          generalize hmo : (if wn > vm then wn else vm) = most
          have hmr : ∀ r, most ≤ r ↔ vm ≤ r ∧ wn ≤ r := fun r => by
            rw [← hmo]
            split <;> omega
          refine at_nx [some (.ref wd), some (.ref dl), some (.str x), some (.ref dn), some (.int (m : Int)), some (.int wn), some (.int (ot : Int)), some (.int most)] ?_
          have hput := hly8.put hot
          obtain ⟨g, hgd⟩ : ∃ g, (valV kv8 (Sum.inl (ot : Int) : Key)).getD (.int most) = .int g := by
            cases hv : valV kv8 (Sum.inl (ot : Int) : Key) with
            | none => exact ⟨most, rfl⟩
            | some u =>
              obtain ⟨i, rfl⟩ := hly8.vs u (valV_mem hv)
              exact ⟨i, rfl⟩
          have hkl : kv8.length < sizeLine := by rw [sizeLine_eq]; have := hly8.len; omega
          refine ⟨_, rfl, dn, rfl, .inl ⟨_, .inl hdn8⟩, _, rfl, _, rfl, _, DGet.k (k := Sum.inl (ot : Int)) hdn8, _, rfl, g, most, ?_, ?_⟩
          · rw [hgd]
          rw [ite_min]
          refine ⟨_, rfl, _, rfl, dn, _, rfl, DPut.k (k := Sum.inl (ot : Int)) hdn8 hkl, ?_⟩
          refine ⟨_, _, _, _, rfl, hB8.upd', upd_same, hput _, fun r y => ?_⟩
          rw [InR.put hgd, hin8, hmr, take_snoc hpr]
          have hvr : InR kvs r m ↔ vm ≤ r := ⟨fun ⟨v, hv, h⟩ => by rw [hvm] at hv; cases hv; exact h, fun h => ⟨vm, hvm, h⟩⟩
          rw [hvr]
          constructor
          · rintro ((h | ⟨w', b, c, e⟩) | ⟨rfl, b, e⟩)
            · exact .inl h
            · exact .inr ⟨w', b, List.mem_append_left _ c, e⟩
            · exact .inr ⟨wn, b, List.mem_append_right _ (by simp), e⟩
          · rintro (h | ⟨w', b, c, e⟩)
            · exact .inl (.inl h)
            · rcases List.mem_append.mp c with g' | g'
              · exact .inl (.inr ⟨w', b, g', e⟩)
              · have := List.mem_singleton.mp g'
                injection this with e1 e2
                subst e1 e2
                exact .inr ⟨rfl, b, e⟩
        · rintro σ H8 ⟨kv8, v5, v6, v7, rfl, hB8, hdn8, hly8, hin8⟩
          rw [List.length_map, hP7.1, List.take_length] at hin8
          refine ⟨kv8, _, v5, v6, v7, rfl, fun b o hb e => hB8 _ _ hb (hS7 _ _ (hB6 _ _ hb e)), hdn8, hly8, fun r y => ?_⟩
          rw [hin8, take_snoc hj, List.map_append]
          unfold Sx
          constructor
          · rintro (⟨m', w', a, b, c, e⟩ | ⟨w', b, c, e⟩)
            · exact ⟨m', w', List.mem_append_left _ a, b, c, e⟩
            · exact ⟨m, w', List.mem_append_right _ (by simp), b, c, e⟩
          · rintro ⟨m', w', a, b, c, e⟩
            rcases List.mem_append.mp a with g | g
            · exact .inl ⟨m', w', g, b, c, e⟩
            · have : m' = m := by
                have := List.mem_singleton.mp g
                injection this with z
                omega
              subst this
              exact .inr ⟨w', b, c, e⟩
      · rintro σ H6 ⟨kv, v4, v5, v6, v7, rfl, hB6, hdn6, hly6, hin6⟩
        rw [List.take_length] at hin6
        refine ⟨hB6 _ _ hne.symm hd5, ?_⟩
        have hS7 : Same H (upd H6 dl (.dK kvs)) := fun c o e => by
          rw [upd_ne (ne_of_none e hdl)]
          exact hB6 _ _ (ne_of_none e hdnH) (ofz e)
        refine ⟨_, rfl, ?_⟩
        refine ⟨dn, kv, _, _, _, _, _, _, rfl, hS7, hdnH, by rw [upd_ne hne]; exact hdn6, hly6, fun r y => ?_⟩
        rw [hin6]
        unfold Sx
        constructor
        · rintro ⟨m, w', _, b, c, e⟩
          exact ⟨m, w', (hin r m).mp b, c, e⟩
        · rintro ⟨m, w', b, c, e⟩
          have b' := (hin r m).mpr b
          refine ⟨m, w', ?_, b', c, e⟩
          obtain ⟨v, hv, _⟩ := b'
          exact val_key.mp (by rw [hv]; rfl)
    · rintro σ H2 ⟨dl, kvs, v2, v3, v4, v5, v6, v7, rfl, hS2, hdl, hd2, hly, hin⟩
      rw [List.length_map] at hin
      obtain ⟨vals, hvals⟩ := all_ints hly.vs
      obtain ⟨r1, hr1⟩ := RN.some hN.nd hT ns.length (Nat.le_refl _)
      obtain ⟨v1, hv1, _⟩ := (hin _ _).mpr hr1
      have hkeys : ∀ k ∈ kvs.map (·.1), k = Sum.inl (((2 ^ ns.length - 1 : Nat) : Nat) : Int) := fun k hk => by
        obtain ⟨m, rfl, hm⟩ := hly.ks k hk
        obtain ⟨v, hv⟩ := hly.val hk
        rw [((hin v m).mp ⟨v, hv, Int.le_refl _⟩).full]
      have hlen : kvs.length ≤ 1 := by
        have := nodup_le (m := [(Sum.inl (((2 ^ ns.length - 1 : Nat) : Nat) : Int) : Key)]) hly.nd fun k hk => by rw [hkeys k hk]; simp
        rwa [List.length_map] at this
      refine ⟨_, rfl, dl, kvs, rfl, hd2, fun r hr => ⟨r, dl, kvs, vals, rfl, upd_same, by rw [upd_ne (ne_of_none hd2 hr)]; exact hd2, hvals, ?_, fun mx hmx _ => ?_⟩⟩
      · have := congrArg List.length hvals
        rw [List.length_map, List.length_map] at this
        have : 0 < kvs.length := by
          have := List.length_pos_of_mem (valV_mem hv1)
          rwa [List.length_map] at this
        omega
      · refine q mx _ (hS2.trans (Same.new hr)) fun r => ?_
        rw [← hin]
        match kvs, hlen, hvals, hv1, hkeys with
        | [p], _, hvals, hv1, hkeys =>
          have hp := hkeys p.1 (by simp)
          have hv : V.int mx ∈ [p].map (·.2) := by rw [hvals]; exact List.mem_map.mpr ⟨mx, hmx, rfl⟩
          have hv : V.int mx = p.2 := by simpa using hv
          constructor
          · intro h
            exact ⟨mx, by rw [valV_pos hp, hv], h⟩
          · rintro ⟨v, e, h⟩
            rw [valV_pos hp, ← hv] at e
            cases e
            exact h
        | [], _, _, hv1, _ => rw [valV_nil] at hv1; cases hv1
        | _ :: _ :: _, hl, _, _, _ => simp at hl
end
end Hs
namespace Hs
open PySem PySem.Spec PyProof.Rows L2
theorem bitsN_congr {ns ys zs : List Str} (h : ∀ x ∈ ns, x ∈ ys ↔ x ∈ zs) : bitsN ns ys = bitsN ns zs := by
  unfold bitsN
  congr 1
  refine List.map_congr_left fun x hx => ?_
  by_cases c : x ∈ ys
  · rw [decide_eq_true c, decide_eq_true ((h x hx).mp c)]
  · rw [decide_eq_false c, decide_eq_false fun z => c ((h x hx).mpr z)]
theorem bitsN_nil (ns : List Str) : bitsN ns [] = 0 := by
  refine Nat.eq_of_testBit_eq fun k => ?_
  rw [bitsN_bit, Nat.zero_testBit]
  cases ns[k]? <;> simp
theorem bitsN_full (ns : List Str) : bitsN ns ns = 2 ^ ns.length - 1 := by
  refine Nat.eq_of_testBit_eq fun k => ?_
  rw [Nat.testBit_two_pow_sub_one]
  by_cases hk : k < ns.length
  · rw [bitsN_at (List.getElem?_eq_getElem hk), decide_eq_true (List.getElem_mem hk), decide_eq_true hk]
  · rw [bit_high (bitsN_lt ns ns) (by omega), decide_eq_false hk]
theorem or_bit {ns ms : List Str} (hn : ns.Nodup) {k : Nat} {x : Str} (h : ns[k]? = some x) : bitsN ns ms ||| 2 ^ k = bitsN ns (ms ++ [x]) := by
  refine Nat.eq_of_testBit_eq fun j => ?_
  rw [Nat.testBit_or, Nat.testBit_two_pow]
  by_cases hj : j < ns.length
  · have hy : ns[j]? = some ns[j] := List.getElem?_eq_getElem hj
    generalize ns[j] = y at hy
    rw [bitsN_at hy, bitsN_at hy]
    by_cases e : k = j
    · subst e
      rw [hy] at h
      cases h
      simp
    · have : y ≠ x := fun z => by
        subst z
        exact e (idx_uniq hn h hy)
      simp [e, this]
  · have hk := (List.getElem?_eq_some_iff.mp h).1
    rw [bit_high (bitsN_lt ns ms) (by omega), bit_high (bitsN_lt ns (ms ++ [x])) (by omega), decide_eq_false (by omega)]
    rfl
theorem wantTo_bit (bk : Book) (ns : List Str) (m j : Nat) : ∀ i, (wantTo bk ns m i).testBit j = (List.range i).any fun k => !m.testBit k && (needN bk ns (nk ns k)).testBit j
  | 0 => by simp [wantTo]
  | i + 1 => by
    rw [wantTo_succ, List.range_succ, List.any_append, ← wantTo_bit bk ns m j i]
    cases c : m.testBit i with
    | true => simp [c]
    | false => simp [c]
/-! ### the least room of a tree, by sets and by rows -/
structure TN (bk : Book) (ns : List Str) (rt : Str) : Prop where
  nd : ns.Nodup
  cl : ∀ x ∈ ns, ∀ y ∈ nmOf bk x, y ∈ ns
  nnd : ∀ x ∈ ns, (nmOf bk x).Nodup
  par : ∀ x ∈ ns, ∀ x' ∈ ns, ∀ y, y ∈ nmOf bk x → y ∈ nmOf bk x' → x = x'
  up : ∀ x ∈ ns, x ≠ rt → ∃ w ∈ ns, x ∈ nmOf bk w
  all : ∀ C : Str → Prop, (∀ x ∈ ns, C x → ∀ y ∈ nmOf bk x, C y) → C rt → ∀ x ∈ ns, C x
  nn : ∀ x ∈ ns, 0 ≤ szOf bk x
structure OrdT (bk : Book) (ns P : List Str) : Prop where
  nd : P.Nodup
  sub : ∀ x ∈ P, x ∈ ns
  nb : NB (nmOf bk) P
theorem OrdT.nil (bk : Book) (ns : List Str) : OrdT bk ns [] := ⟨List.nodup_nil, fun x h => by (cases h), fun x h => by (cases h)⟩
theorem OrdT.init {bk : Book} {ns P : List Str} {x : Str} (h : OrdT bk ns (P ++ [x])) : OrdT bk ns P := ⟨(List.nodup_append.mp h.nd).1, fun y hy => h.sub y (List.mem_append_left _ hy), h.nb.init h.nd⟩
theorem OrdT.new {bk : Book} {ns P : List Str} {x : Str} (h : OrdT bk ns (P ++ [x])) : x ∉ P ∧ ∀ y ∈ nmOf bk x, y ∈ P := by
  obtain ⟨_, _, hd⟩ := List.nodup_append.mp h.nd
  exact ⟨fun k => hd x k x (List.mem_singleton.mpr rfl) rfl, fun y hy => before_of h.nd (h.nb x (List.mem_append_right _ (List.mem_singleton.mpr rfl)) y hy)⟩
theorem OrdT.snoc {bk : Book} {ns P : List Str} {x : Str} (h : OrdT bk ns P) (hx : x ∈ ns) (hP : x ∉ P) (hy : ∀ y ∈ nmOf bk x, y ∈ P) : OrdT bk ns (P ++ [x]) := by
  refine ⟨List.nodup_append.mpr ⟨h.nd, by simp, fun a ha b hb e => hP ?_⟩, fun y k => ?_, h.nb.snoc hy⟩
  · rw [List.mem_singleton.mp hb] at e
    exact e ▸ ha
  · rcases List.mem_append.mp k with k | k
    · exact h.sub y k
    · rw [List.mem_singleton.mp k]; exact hx
theorem OrdT.down {bk : Book} {ns P : List Str} (h : OrdT bk ns P) {x y : Str} (hx : x ∈ P) (hy : y ∈ nmOf bk x) : y ∈ P := (h.nb x hx y hy).subset List.mem_cons_self
theorem held_of {bk : Book} {ns : List Str} {rt : Str} (T : TN bk ns rt) {P : List Str} : OrdT bk ns P → ∃ h, HeldOk bk P h ∧ loadS bk h = endD (szOf bk) (nmOf bk) P := by
  induction P using snocRec with
  | h0 => intro _; exact ⟨[], ⟨List.nodup_nil, fun y => ⟨fun h => absurd h List.not_mem_nil, fun h => absurd h.1 List.not_mem_nil⟩⟩, rfl⟩
  | h1 P x ih =>
    intro hO
    obtain ⟨h, hH, hl⟩ := ih hO.init
    obtain ⟨hxP, hxn⟩ := hO.new
    have hxm : x ∈ ns := hO.sub x (List.mem_append_right _ (List.mem_singleton.mpr rfl))
    have hPm : ∀ z ∈ P, z ∈ ns := fun z hz => hO.sub z (List.mem_append_left _ hz)
    have hxh : x ∉ h := fun k => hxP ((hH.mem x).mp k).1
    have hneed : ∀ y ∈ nmOf bk x, y ∈ h := fun y hy => by
      refine (hH.mem y).mpr ⟨hxn y hy, fun z hz k => ?_⟩
      exact hxP (T.par x hxm z (hPm z hz) y hy k ▸ hz)
    have hxx : x ∉ nmOf bk x := fun k => hxP (hxn x k)
    have hxz : ∀ z ∈ P, x ∉ nmOf bk z := fun z hz k => hxP (hO.init.down hz k)
    have hl1 : loadS bk (h ++ [x]) = loadS bk h + szOf bk x := by
      unfold loadS
      rw [List.map_append, List.sum_append]
      simp
    have hn1 : (h ++ [x]).Nodup := List.nodup_append.mpr ⟨hH.nd, by simp, fun a ha b hb z => hxh (by rw [List.mem_singleton.mp hb] at z; exact z ▸ ha)⟩
    obtain ⟨g1, g2, g3⟩ := erase_all (bk := bk) (nmOf bk x) (h ++ [x]) hn1 (T.nnd x hxm) fun y hy => List.mem_append_left _ (hneed y hy)
    refine ⟨(nmOf bk x).foldl List.erase (h ++ [x]), ⟨g1, fun y => ?_⟩, ?_⟩
    · rw [g2, List.mem_append, List.mem_singleton, List.mem_append, List.mem_singleton, hH.mem]
      constructor
      · rintro ⟨k | k, k2⟩
        · refine ⟨.inl k.1, fun z hz => ?_⟩
          rcases List.mem_append.mp hz with j | j
          · exact k.2 z j
          · rw [List.mem_singleton.mp j]; exact k2
        · subst k
          refine ⟨.inr rfl, fun z hz => ?_⟩
          rcases List.mem_append.mp hz with j | j
          · exact hxz z j
          · rw [List.mem_singleton.mp j]; exact hxx
      · rintro ⟨k, k2⟩
        refine ⟨?_, k2 x (List.mem_append_right _ (List.mem_singleton.mpr rfl))⟩
        rcases k with k | k
        · exact .inl ⟨k, fun z hz => k2 z (List.mem_append_left _ hz)⟩
        · exact .inr k
    · rw [g3, hl1, hl, endD_app]
      show _ = _ + (dlt (szOf bk) (nmOf bk) x + 0)
      unfold dlt
      omega
theorem want_bit {bk : Book} {ns P : List Str} {j : Nat} {y : Str} (hy : ns[j]? = some y) : (wantN bk ns (bitsN ns P)).testBit j = true ↔ ∃ w ∈ ns, w ∉ P ∧ y ∈ nmOf bk w := by
  unfold wantN
  rw [wantTo_bit, List.any_eq_true]
  constructor
  · rintro ⟨k, hk, h⟩
    have hk := List.mem_range.mp hk
    have hx : ns[k]? = some ns[k] := List.getElem?_eq_getElem hk
    rw [nk_at hx, Bool.and_eq_true, bitsN_at hx] at h
    unfold needN at h
    rw [bitsN_at hy] at h
    refine ⟨ns[k], List.getElem_mem hk, by simpa using h.1, of_decide_eq_true h.2⟩
  · rintro ⟨w, hw, h1, h2⟩
    obtain ⟨k, hk, e⟩ := List.getElem_of_mem hw
    have hx : ns[k]? = some w := by rw [← e]; exact List.getElem?_eq_getElem hk
    refine ⟨k, List.mem_range.mpr hk, ?_⟩
    unfold needN
    rw [nk_at hx, bitsN_at hx, bitsN_at hy, decide_eq_false h1, decide_eq_true h2]
    rfl
theorem ld_end {bk : Book} {ns : List Str} {rt : Str} (T : TN bk ns rt) {P : List Str} (hO : OrdT bk ns P) (hr : rt ∉ P) : ldN bk ns (bitsN ns P) = endD (szOf bk) (nmOf bk) P := by
  obtain ⟨h, hH, hl⟩ := held_of T hO
  have e : bitsN ns P &&& wantN bk ns (bitsN ns P) = bitsN ns h := by
    refine Nat.eq_of_testBit_eq fun k => ?_
    rw [Nat.testBit_and]
    by_cases hk : k < ns.length
    · have hx : ns[k]? = some ns[k] := List.getElem?_eq_getElem hk
      have hxn := List.getElem_mem hk
      generalize ns[k] = x at hx hxn
      rw [bitsN_at hx, bitsN_at hx, Bool.eq_iff_iff, Bool.and_eq_true, want_bit hx, decide_eq_true_iff, decide_eq_true_iff, hH.mem]
      constructor
      · rintro ⟨h1, w, hw, h2, h3⟩
        exact ⟨h1, fun z hz k => h2 (T.par w hw z (hO.sub z hz) x h3 k ▸ hz)⟩
      · rintro ⟨h1, h2⟩
        obtain ⟨w, hw, h3⟩ := T.up x hxn fun e => hr (e ▸ h1)
        exact ⟨h1, w, hw, fun k => h2 w k h3, h3⟩
    · rw [bit_high (bitsN_lt ns _) (by omega), bit_high (bitsN_lt ns _) (by omega)]
      rfl
  unfold ldN
  rw [e, namesB_bits, ← hl]
  refine load_perm (T.nd.filter _) hH.nd fun x => ?_
  rw [List.mem_filter]
  exact ⟨fun k => of_decide_eq_true k.2, fun k => ⟨hO.sub x ((hH.mem x).mp k).1, decide_eq_true k⟩⟩
theorem can_iff {bk : Book} {ns : List Str} {rt : Str} (T : TN bk ns rt) {P : List Str} {k : Nat} {x : Str} (hx : ns[k]? = some x) : canM bk ns (bitsN ns P) k = true ↔ x ∉ P ∧ ∀ y ∈ nmOf bk x, y ∈ P := by
  have hxn := List.mem_of_getElem? hx
  unfold canM
  rw [Bool.and_eq_true, bitsN_at hx, nk_at hx]
  refine and_congr (by simp) ?_
  rw [decide_eq_true_iff]
  unfold needN
  constructor
  · intro h y hy
    obtain ⟨j, hj⟩ := List.getElem?_of_mem (T.cl x hxn y hy)
    have := congrArg (fun m => m.testBit j) h
    simp only [Nat.testBit_and] at this
    rw [bitsN_at hj, bitsN_at hj, decide_eq_true hy, Bool.true_and] at this
    exact of_decide_eq_true this
  · intro h
    refine Nat.eq_of_testBit_eq fun j => ?_
    rw [Nat.testBit_and]
    by_cases hj : j < ns.length
    · have hy : ns[j]? = some ns[j] := List.getElem?_eq_getElem hj
      rw [bitsN_at hy, bitsN_at hy]
      by_cases c : ns[j] ∈ nmOf bk x
      · rw [decide_eq_true c, decide_eq_true (h _ c)]
        rfl
      · rw [decide_eq_false c]
        rfl
    · rw [bit_high (bitsN_lt ns _) (by omega)]
      rfl
theorem no_root {bk : Book} {ns : List Str} {rt : Str} (T : TN bk ns rt) {P : List Str} (hO : OrdT bk ns P) {x : Str} (hx : x ∈ ns) (hP : x ∉ P) : rt ∉ P := fun h => hP (T.all (· ∈ P) (fun _ _ h y hy => hO.down h hy) h x hx)
theorem rn_ord {bk : Book} {ns : List Str} {rt : Str} (T : TN bk ns rt) {r : Int} : ∀ {i : Nat} {m : Nat}, RN bk ns i r m → ∃ P, OrdT bk ns P ∧ m = bitsN ns P ∧ 0 ≤ r ∧ ∀ q ∈ pks (szOf bk) (nmOf bk) 0 P, q ≤ r
  | 0, m, ⟨e, h⟩ => ⟨[], OrdT.nil bk ns, by rw [e, bitsN_nil], h, fun q hq => by cases hq⟩
  | i + 1, x, ⟨m, w, h1, h2, h3⟩ => by
    obtain ⟨P, p1, p2, p3, p4⟩ := rn_ord T h1
    obtain ⟨k, hk, hc, hw, e⟩ := onL_mem h2
    have hx : ns[k]? = some ns[k] := List.getElem?_eq_getElem hk
    have hxn := List.getElem_mem hk
    generalize ns[k] = y at hx hxn
    rw [p2] at hc hw e
    obtain ⟨c1, c2⟩ := (can_iff T hx).mp hc
    rw [ld_end T p1 (no_root T p1 hxn c1), nk_at hx] at hw
    refine ⟨P ++ [y], p1.snoc hxn c1 c2, by rw [e, or_bit T.nd hx], p3, fun q hq => ?_⟩
    rw [pks_app] at hq
    rcases List.mem_append.mp hq with g | g
    · exact p4 q g
    · have g : q ∈ [0 + endD (szOf bk) (nmOf bk) P + szOf bk y] := g
      rw [List.mem_singleton.mp g]
      omega
theorem ord_RN {bk : Book} {ns : List Str} {rt : Str} (T : TN bk ns rt) {r : Int} (h0 : 0 ≤ r) {P : List Str} : OrdT bk ns P → (∀ q ∈ pks (szOf bk) (nmOf bk) 0 P, q ≤ r) → RN bk ns P.length r (bitsN ns P) := by
  induction P using snocRec with
  | h0 => intro _ _; exact ⟨bitsN_nil ns, h0⟩
  | h1 P x ih =>
    intro hO hq
    rw [pks_app] at hq
    have hi := hO.init
    have hr := ih hi fun q k => hq q (List.mem_append_left _ k)
    obtain ⟨c1, c2⟩ := hO.new
    have hxn : x ∈ ns := hO.sub x (List.mem_append_right _ (List.mem_singleton.mpr rfl))
    obtain ⟨k, hk, e⟩ := List.getElem_of_mem hxn
    have hx : ns[k]? = some x := by rw [← e]; exact List.getElem?_eq_getElem hk
    have hm := mem_onL hk ((can_iff T hx).mpr ⟨c1, c2⟩)
    rw [ld_end T hi (no_root T hi hxn c1), nk_at hx, or_bit T.nd hx] at hm
    rw [List.length_append, List.length_singleton]
    refine ⟨_, _, hr, hm, ?_⟩
    have := hq (0 + endD (szOf bk) (nmOf bk) P + szOf bk x) (List.mem_append_right _ (List.mem_cons_self))
    omega
theorem tree_TN {bk : Book} (hO : BookOk bk) (hT : isTree bk = true) {z : Part} (hz : bk.getLast? = some z) {R : Str → List Hill} (hR : RowsOf bk R bk.length) : TN bk (bk.map (·.name)) z.name := by
  have S := last_seq hO hT hz hR
  obtain ⟨hp, hk⟩ := last_row hO hT hz hR
  have hzi : bk[bk.length - 1]? = some z := by rw [← List.getLast?_eq_getElem?]; exact hz
  have hl := (List.getElem?_eq_some_iff.mp hzi).1
  have hm : ∀ x, x ∈ bk.map (·.name) → x ∈ flatN (R z.name) := fun x hx => hp.mem_iff.mpr hx
  have hcl : ∀ x ∈ bk.map (·.name), ∀ y ∈ nmOf bk x, y ∈ bk.map (·.name) := fun x hx y hy => hp.mem_iff.mp ((S.nb x (hm x hx) y hy).subset List.mem_cons_self)
  refine ⟨hO.nd, hcl, fun x hx => S.nnd x (hm x hx), fun x hx x' hx' => S.par x (hm x hx) x' (hm x' hx'), fun x hx hne => ?_, fun C hC hc x hx => reach hO hR hC _ z (by omega) hzi hc x (hm x hx), fun x hx => ?_⟩
  · have := reach hO hR (C := fun x => x = z.name ∨ ∃ w ∈ bk.map (·.name), x ∈ nmOf bk w) (fun x hx _ y hy => .inr ⟨x, hx, hy⟩) _ z (by omega) hzi (.inl rfl) x (hm x hx)
    exact this.resolve_left hne
  · obtain ⟨a, ha, rfl⟩ := List.mem_map.mp hx
    rw [sz_is hO ha]
    have := hO.size a ha
    omega
/-- what once needs is what the row comes to -/
theorem tree_RN {bk : Book} (hO : BookOk bk) (hT : isTree bk = true) {z : Part} (hz : bk.getLast? = some z) {R : Str → List Hill} (hR : RowsOf bk R bk.length) {m : Int} (hm : IsMax ((R z.name).map (·.h)) m) (r : Int) : RN bk (bk.map (·.name)) (bk.map (·.name)).length r (2 ^ (bk.map (·.name)).length - 1) ↔ m ≤ r := by
  have T := tree_TN hO hT hz hR
  have S := last_seq hO hT hz hR
  obtain ⟨hp, hk⟩ := last_row hO hT hz hR
  have hzi : bk[bk.length - 1]? = some z := by rw [← List.getLast?_eq_getElem?]; exact hz
  have hl := (List.getElem?_eq_some_iff.mp hzi).1
  have hne : R z.name ≠ [] := fun e => by rw [e] at hm; cases hm.1
  obtain ⟨p, h1, h2⟩ := (rep_peak hk.rep).2 hne
  have e := h1.uniq hm
  subst e
  constructor
  · intro h
    obtain ⟨P, p1, p2, p3, p4⟩ := rn_ord T h
    have hin : ∀ x, x ∈ P ↔ x ∈ bk.map (·.name) := fun x => by
      refine ⟨p1.sub x, fun hx => ?_⟩
      obtain ⟨k, hk⟩ := List.getElem?_of_mem hx
      have hb := bitsN_at (ys := P) hk
      rw [← p2, Nat.testBit_two_pow_sub_one, decide_eq_true (List.getElem?_eq_some_iff.mp hk).1] at hb
      exact of_decide_eq_true hb.symm
    have hpp : P.Perm (flatN (R z.name)) := ((List.perm_ext_iff_of_nodup p1.nd hO.nd).mpr hin).trans hp.symm
    have hs := (sim_tree hO hR _ z (by omega) hzi).2 P p1.nd hpp p1.nb
    have hu := (under_cl (p := r) (R z.name)).mp (hs.under ((under_pks P).mpr p4))
    obtain ⟨x, hx, hxe⟩ := List.mem_map.mp h1.1
    rw [← hxe]
    exact hu x hx
  · intro h
    have hq : ∀ q ∈ pks (szOf bk) (nmOf bk) 0 (flatN (R z.name)), q ≤ r := fun q hq => Int.le_trans (h2.2 q hq) h
    have h0 : 0 ≤ r := by
      cases e : flatN (R z.name) with
      | nil => have := hk.own; rw [e] at this; cases this
      | cons x xr =>
        rw [e] at hq
        have h3 := hq (0 + szOf bk x) List.mem_cons_self
        have h4 := T.nn x (hp.mem_iff.mp (by rw [e]; exact List.mem_cons_self))
        omega
    have hOr : OrdT bk (bk.map (·.name)) (flatN (R z.name)) := ⟨S.nd, fun x hx => hp.mem_iff.mp hx, S.nb⟩
    have := ord_RN T h0 hOr hq
    rw [hp.length_eq, bitsN_congr (zs := bk.map (·.name)) fun x _ => hp.mem_iff, bitsN_full] at this
    exact this
theorem bOf_all {bk : Book} (hO : BookOk bk) (hT : isTree bk = true) {z : Part} (hz : bk.getLast? = some z) {R : Str → List Hill} (hR : RowsOf bk R bk.length) : bOf bk [z.name] = bk.map (·.name) := by
  have T := tree_TN hO hT hz hR
  have hzm : z.name ∈ bk.map (·.name) := List.mem_map.mpr ⟨z, List.mem_of_getLast? hz, rfl⟩
  have := T.all (· ∈ bOf bk [z.name]) (fun x _ h y hy => below_closed hO h hy) (below_asked hzm (List.mem_singleton.mpr rfl))
  unfold bOf at this ⊢
  exact List.filter_eq_self.mpr fun x hx => (List.mem_filter.mp (this x hx)).2
end Hs
namespace Hs
open PySem PySem.Spec PyProof.Rows L2
theorem sorted_uniq {xs ys : List Str} (h1 : sortedS xs = true) (h2 : sortedS ys = true) (h : xs.Perm ys) : xs = ys := pwS_uniq h (sortedS_pw h1) (sortedS_pw h2)
section
variable {P : Program} {w : World} {K : PySem.W.Frag} {mg : Str → Option Value} {base : Heap}
/-! ### _law_fits -/
abbrev nFit : List Str := ["book", "room", "deeds", "found", "part"]
def spFit : Sp := fun vs H Q _ => ∃ (b dl : Addr) (as : List Addr) (bk : Book) (ds : List (Str × Str)) (room : Int), vs = [.ref b, .int room, .ref dl] ∧ BookAt H b bk ∧ BookOk bk ∧ bk.length ≤ 24 ∧ H dl = some (.lst (as.map V.ref)) ∧ DsAt H as ds ∧ as.length ≤ 2000 ∧ (∃ r0 : Int, spOk bk r0 [] ds) ∧ (∀ d ∈ ds, WordOk d.1 ∧ WordOk d.2) ∧ (mkOf ds).Perm (bk.map (·.name)) ∧
  ∀ (bb : Bool) (H' : Hp), Same H H' → (bb = true ↔ spOk bk room [] ds) → Q (.bl bb) H'
theorem sc_fit : FnScope nFit ["book", "room", "deeds"] (defScope s_law_fits) := ⟨rfl, rfl, rfl, by decide +kernel, rfl, by decide +kernel, by decide +kernel⟩
set_option maxHeartbeats 2000000 in
theorem c_fit (B : Blt mg) (D : Dfn K mg "_law_fits" s_law_fits) (Cs : Cal P w K mg base 2 "_law_spent" ["book", "room", "deeds"] spSpent) : Cal P w K mg base 3 "_law_fits" ["book", "room", "deeds"] spFit := by
  refine D.cal (fun _ _ _ _ _ _ us hl => match us, hl with | [_, _, _], _ => rfl) fun f fd F => F.ok sc_fit (fun vs H Q E h => ?_) (fun cdv A outer s H vs Q E hr h => ?_)
  · obtain ⟨b, dl, _, _, _, _, rfl, _⟩ := h
    rfl
  · obtain ⟨b, dl, as, bk, ds, room, rfl, hB, hO, h24, hdl, hDs, hal, hok, hwd, hpm, q⟩ := h
    have nd := sc_fit.nd
    have hu := hu_of hr
    refine ex_pss ((bs_c (bs_set 3 nd (b_cal Cs hr (ba_c (b_v 0) (ba_c (b_v 1) (ba_c (b_v 2) ba_nil)))))
      (bs_c (bs_if (bt_cmpR op_isN (b_v 3) b_non (nomark _)) (bs_one (bs_ret b_bl)) bs_nil)
      (bs_one (bs_ret (b_cmpR (op_eqD hr.units) (b_callB cr_sortedS B.sorted (ba_c (b_ix ix_tup (b_v 3) b_int) ba_nil)) (b_callB cr_sortedS B.sorted (ba_c (b_c 4 nFit (defScope s_law_fits) nd (bi_tup (b_v 0)) (fun _ _ _ _ _ => bts_nil) (fun _ _ _ _ _ => (b_ix (r := rIxT K) ix_tup (b_v 4) b_int)) (fun _ _ _ _ _ => (bg_n 4 nd))) ba_nil)) (nomark _))))))) ?_
    have hw : ∀ x ∈ bk.map (·.name), WordOk x := fun x hx => by
      obtain ⟨a, ha, rfl⟩ := List.mem_map.mp hx
      exact hO.word a ha
    refine ⟨_, rfl, _, rfl, _, rfl, b, dl, as, bk, ds, room, rfl, hB, hO, h24, hdl, hDs, hal, hok, hwd, fun hgood r ml c H1 hS1 hr1 hm1 _ => ?_, fun hbad H1 hS1 => ?_⟩
    rotate_left
    · refine at_seq [some (.ref b), some (.int room), some (.ref dl), some .non, none] ?_
      refine ⟨_, rfl, rfl, _, rfl, ?_⟩
      refine iteT (q false H1 hS1 ⟨fun h => (by cases h), fun h => absurd h hbad⟩)
    refine at_seq [some (.ref b), some (.int room), some (.ref dl), some (.ref r), none] ?_
    refine ⟨_, rfl, rfl, _, rfl, ?_⟩
    refine iteF ?_
    have hml : (mkOf ds).length ≤ 24 := by rw [hpm.length_eq, List.length_map]; exact h24
    refine ⟨_, rfl, r, _, 0, .ref ml, rfl, rfl, SqT.of hr1, rfl, ml, mkOf ds, rfl, SqL.of hm1, by omega, fun xs p hxs hxo hp => ?_⟩
    have s2 : Same H1 (upd H1 p (.lst (xs.map V.str))) := Same.new hp
    have u2 : (upd H1 p (.lst (xs.map V.str))) p = some (.lst (xs.map V.str)) := upd_same
    generalize upd H1 p (.lst (xs.map V.str)) = H2 at s2 u2
    obtain ⟨bps, hb, hP⟩ := hB.tups (hS1.trans s2).tups
    refine ⟨_, rfl, b, rfl, ⟨_, SqT.of hb⟩, fun Dn hDn => ?_⟩
    have sD : ∀ {o : HO}, Same H2 (upd H2 Dn o) := Same.new hDn
    refine lc_tup (K := K) (a := b) (xs := bps.map V.ref) (fun i H4 => H4 = upd H2 Dn (.lst (((bk.take i).map (·.name)).map V.str))) rfl ?_ ?_ ?_
    · rintro i H4 _ rfl
      exact SqT.of (sD _ _ hb)
    · rintro i v H4 hi rfl
      obtain ⟨pp, pa, rfl, ha, rr, hpp, _⟩ := hP.get hi
      refine ⟨rfl, yes ?_⟩
      refine ⟨_, rfl, pp, _, _, _, rfl, rfl, SqT.of (sD _ _ hpp), rfl, _, upd_same, ?_, ?_⟩
      · rw [List.length_map, List.length_map, List.length_take]
        exact small1000 (by omega)
      · rw [upd_upd, take_snoc ha, List.map_append, List.map_append]
        rfl
    rintro H4 rfl
    rw [List.length_map, hP.1, List.take_length]
    have s3 := sD (o := .lst ((bk.map (·.name)).map V.str))
    have u3 : (upd H2 Dn (.lst ((bk.map (·.name)).map V.str))) Dn = some (.lst ((bk.map (·.name)).map V.str)) := upd_same
    generalize upd H2 Dn (.lst ((bk.map (·.name)).map V.str)) = H3 at s3 u3
    refine ⟨Dn, bk.map (·.name), rfl, SqL.of u3, by rw [List.length_map]; omega, fun ys p4 hys hyo hp4 => ?_⟩
    have s4 : Same H3 (upd H3 p4 (.lst (ys.map V.str))) := Same.new hp4
    have exy : xs = ys := sorted_uniq hxo hyo (hxs.trans (hpm.trans hys.symm))
    subst exy
    have hwx : ∀ x ∈ xs, WordOk x := fun x hx => hw x (hys.mem_iff.mp hx)
    refine ⟨.list (xs.map PyData.str), .list (xs.map PyData.str), .lst (SqL.of ((s3.trans s4) _ _ u2)) (dpAll_strs _), .lst (SqL.of upd_same) (dpAll_strs _), shaped_strs hwx, shaped_strs hwx, ?_⟩
    have ee : PyData.eqv (.list (xs.map PyData.str)) (.list (xs.map PyData.str)) = true := by
      show PyData.eqvAll _ _ = true
      rw [eqvAll_strs]
      exact decide_eq_true rfl
    rw [ee]
    exact q true _ ((hS1.trans s2).trans (s3.trans s4)) ⟨fun _ => hgood, fun _ => rfl⟩
end

end Hs
namespace Hs
open PySem PySem.Spec PyProof.Rows L2
section
variable {X : Cx} {e : Expr} {te : TE} {pos : Pos}
theorem b_not (h : Bx (PE X e te)) : Bx (PE X (.UnaryOp .Not e pos) (tNotV te)) := ⟨pe_not h.o⟩
end
theorem seqButT {K : PySem.W.Frag} {H H' : Hp} {T a : Addr} {xs : List V} {ps : Array Value} (b : But T H H') (hT : H T = some (.tbl ps)) (h : SqL K H a xs) : SqL K H' a xs := by
  rcases h with (h | ⟨o, h⟩) | h
  · exact .inl (.inl (b _ _ (ne_of h hT (by intro z; cases z)) h))
  · exact .inl (.inr ⟨o, b _ _ (ne_of h hT (by intro z; cases z)) h⟩)
  · exact .inr h
theorem tupsButT {H H' : Hp} {T : Addr} {ps : Array Value} (b : But T H H') (hT : H T = some (.tbl ps)) : Tups H H' := fun c xs e => b _ _ (ne_of e hT (by intro z; cases z)) e
theorem bOf_ok {bk : Book} (h : BookOk bk) (hl : bk.length ≤ 24) (xs : List Str) : NsOk bk (bOf bk xs) := by
  have hs : ∀ x ∈ bOf bk xs, x ∈ bk.map (·.name) := fun x hx => (List.mem_filter.mp hx).1
  refine ⟨Nat.le_trans (List.length_filter_le _ _) (by rw [List.length_map]; exact hl), h.nd.filter _, fun x hx => ?_, hs⟩
  obtain ⟨a, ha, rfl⟩ := List.mem_map.mp (hs x hx)
  exact h.word a ha
section
variable {P : Program} {w : World} {K : PySem.W.Frag} {mg : Str → Option Value} {base : Heap}
/-! ### _law_whole -/
def spWhole : Sp := fun vs H Q _ => ∃ i : Int, vs = [.int i] ∧ Q (.bl true) H
theorem sc_whole : FnScope ["found"] ["found"] (defScope s_law_whole) := ⟨rfl, rfl, rfl, by decide +kernel, rfl, by decide +kernel, by decide +kernel⟩
theorem c_whole (B : Blt mg) (D : Dfn K mg "_law_whole" s_law_whole) : Cal P w K mg base 1 "_law_whole" ["found"] spWhole := by
  refine D.cal (fun _ _ _ _ _ _ us hl => match us, hl with | [_], _ => rfl) fun f fd F => F.ok sc_whole (fun vs H Q E h => ?_) (fun cdv A outer s H vs Q E hr h => ?_)
  · obtain ⟨i, rfl, _⟩ := h
    rfl
  · obtain ⟨i, rfl, q⟩ := h
    have nd := sc_whole.nd
    have hu := hu_of hr
    refine ex_pss ((bs_one (bs_ret (b_and (b_callB cr_isi B.isinstance (ba_c (b_v 0) (ba_c (b_ty (T := "int") B.int) ba_nil))) (b_one (b_not (b_callB cr_isi B.isinstance (ba_c (b_v 0) (ba_c (b_ty (T := "bool") B.bool) ba_nil))))))))) ?_
    refine ⟨_, rfl, _, "int", _, rfl, rfl, _, rfl, ?_⟩
    refine iteT ?_
    exact ⟨_, rfl, _, "bool", _, rfl, rfl, _, rfl, q⟩
/-! ### law -/
abbrev nLaw : List Str := ["script", "start", "book", "room", "turn", "found"]
def spLaw (K : PySem.W.Frag) (T : Addr) : Sp := fun vs H Q _ => ∃ (a : Addr) (ns : List Int), vs = [.ref a] ∧ SqL K H a (ns.map V.int) ∧ ns.length ≤ 63 ∧ Tab H T ∧ ∀ H', Q (.bl true) H'
theorem sc_law : FnScope nLaw ["script"] (defScope s_law) := ⟨rfl, rfl, rfl, by decide +kernel, rfl, by decide +kernel, by decide +kernel⟩
set_option maxHeartbeats 4000000 in
theorem c_law {f T : Addr} {fd : FuncData} (B : Blt mg) (F : Fun K "law" "law" s_law f fd) (Ctr : Cal P w K mg base 3 "_law_tree" ["script", "start", "most"] (spTree K)) (Cwo : Cal P w K mg base 3 "_law_world" ["book", "wishes"] spWorld) (Col : Cal P w K mg base 3 "_law_once_least" ["world"] spOLeast) (Cl : Cal P w K mg base 4 "least_room" ["book"] (spLstX T)) (Cw : Cal P w K mg base 1 "_law_whole" ["found"] spWhole) (Cf : Cal P w K mg base 3 "_law_fits" ["book", "room", "deeds"] spFit) :
    FnOk P w K mg base CX0 5 f fd ["script"] (spLaw K T) := by
  refine F.ok sc_law (fun vs H Q E h => ?_) (fun cdv A outer s H vs Q E hr h => ?_)
  · obtain ⟨a, _, rfl, _⟩ := h
    rfl
  · obtain ⟨a, ns, rfl, hS, hlen, hTab, q⟩ := h
    have nd := sc_law.nd
    have hu := hu_of hr
    refine ex_pss ((bs_c (bs_for (bi_range2 B.range (ba_c b_int (ba_c (b_callB (call_max2 rfl) B.max (ba_c b_int (ba_c (b_callB (call_min2 rfl) B.min (ba_c b_int (ba_c (b_callB call_len_seq B.len (ba_c (b_v 0) ba_nil)) ba_nil))) ba_nil))) ba_nil))) (bg_n 1 nd) (bs_c (bs_set 2 nd (b_cal Ctr hr (ba_c (b_v 0) (ba_c (b_v 1) (ba_c b_int ba_nil)))))
      (bs_c (bs_set 3 nd (b_cal Col hr (ba_c (b_cal Cwo hr (ba_c (b_v 2) (ba_c (b_lst (ba_c (b_ix ix_tup (b_ix ix_tup (b_v 2) (b_op op_sub (b_callB call_len_seq B.len (ba_c (b_v 2) ba_nil)) b_int)) b_int) ba_nil)) ba_nil))) ba_nil)))
      (bs_one (bs_for (bi_range1 B.range (ba_c b_int ba_nil)) (bg_n 4 nd) (bs_c (bs_set 5 nd (b_cal Cl hr (ba_c (b_v 2) ba_nil)))
      (bs_c (bs_if (bt_w (bw_or (bt_not (bt_val (b_callB cr_isiY B.isinstance (ba_c (b_v 5) (ba_c (b_ty (T := "tuple") B.tuple) ba_nil))))) (bw_or1 (bt_cmpR op_ne (b_callB call_len_seq B.len (ba_c (b_v 5) ba_nil)) b_int (nomark _))))) (bs_one (bs_ret b_bl)) bs_nil)
      (bs_c (bs_if (bt_w (bw_or (bt_not (bt_val (b_cal Cw hr (ba_c (b_ix ix_tup (b_v 5) b_int) ba_nil)))) (bw_or1 (bt_cmpR op_ne (b_ix ix_tup (b_v 5) b_int) (b_v 3) (nomark _))))) (bs_one (bs_ret b_bl)) bs_nil)
      (bs_c (bs_if (bt_not (bt_val (b_cal Cf hr (ba_c (b_v 2) (ba_c (b_v 3) (ba_c (b_ix ix_tup (b_v 5) b_int) ba_nil)))))) (bs_one (bs_ret b_bl)) bs_nil)
      (bs_one (bs_expr (b_append (b_ix ix_tup (b_v 5) b_int) (ba_c (b_tup (ba_c b_str (ba_c b_str ba_nil))) ba_nil)))))))))))))
      (bs_one (bs_ret b_bl)))) ?_
    refine ⟨_, rfl, a, _, rfl, .inl hS, _, _, rfl, _, _, rfl, 0, _, rfl, ⟨by decide, by decide, ?_, ?_⟩, ?_⟩
    · rw [List.length_map]; split <;> split <;> omega
    · rw [List.length_map]; split <;> split <;> omega
    generalize hM : (if (if (((ns.map V.int).length : Nat) : Int) < 4 then (((ns.map V.int).length : Nat) : Int) else 4) > 1 then (if (((ns.map V.int).length : Nat) : Int) < 4 then (((ns.map V.int).length : Nat) : Int) else 4) else 1) = M
    have hM5 : M ≤ 4 := by rw [← hM]; split <;> split <;> omega
    refine for_range (lo := 0) (n := (M - 0).toNat) (fun i σ H1 => ∃ v1 v2 v3 v4 v5 : Option V, σ = [some (.ref a), v1, v2, v3, v4, v5] ∧ SqL K H1 a (ns.map V.int) ∧ Tab H1 T) ⟨none, none, none, none, none, rfl, hS, hTab⟩ ?_ ?_
    · rintro i σ H1 hi ⟨v1, v2, v3, v4, v5, rfl, hS1, hT1⟩
      refine at_nx [some (.ref a), some (.int (0 + (i : Int))), v2, v3, v4, v5] ?_
      refine ⟨_, rfl, _, rfl, a, ns, _, 8, rfl, hS1, by omega, by omega, by decide, by decide, fun b bk H2 hO _ h1 h24 hTr h11 hB s2 => ?_⟩
      refine at_seq [some (.ref a), some (.int (0 + (i : Int))), some (.ref b), v3, v4, v5] ?_
      obtain ⟨z, hz⟩ : ∃ z, bk.getLast? = some z := by
        cases e : bk.getLast? with
        | some z => exact ⟨z, rfl⟩
        | none => rw [List.getLast?_eq_none_iff] at e; rw [e] at h1; simp at h1
      have hzi : bk[bk.length - 1]? = some z := by rw [← List.getLast?_eq_getElem?]; exact hz
      have hzm : z.name ∈ bk.map (·.name) := List.mem_map.mpr ⟨z, List.mem_of_getLast? hz, rfl⟩
      obtain ⟨bps, hb, hP⟩ := id hB
      obtain ⟨pz, hpz, hPz⟩ : ∃ pz, bps[bk.length - 1]? = some pz ∧ PartAt H2 pz z := by
        have hl : bk.length - 1 < bps.length := by rw [hP.1]; omega
        exact ⟨bps[bk.length - 1], List.getElem?_eq_getElem hl, hP.2 _ _ _ (List.getElem?_eq_getElem hl) hzi⟩
      obtain ⟨rz, hpz2, _⟩ := id hPz
      have hbl : (((bps.map V.ref).length : Nat) : Int) - 1 = ((bk.length - 1 : Nat) : Int) := by rw [List.length_map, hP.1]; omega
      have hat : atI (bps.map V.ref) ((((bps.map V.ref).length : Nat) : Int) - 1) = some (.ref pz) := by
        rw [hbl]
        exact atI_nat (by rw [List.getElem?_map, hpz]; rfl)
      refine ⟨_, rfl, _, rfl, _, rfl, b, _, rfl, .inr (SqT.of hb), _, _, rfl, rfl, b, _, _, .ref pz, rfl, rfl, SqT.of hb, hat, pz, _, 0, .str z.name, rfl, rfl, SqT.of hpz2, rfl, small64 (show 1 < 64 by decide), fun l hl => ?_⟩
      have sl : Same H2 (upd H2 l (.lst [V.str z.name])) := Same.new hl
      have ul : (upd H2 l (.lst [V.str z.name])) l = some (.lst [V.str z.name]) := upd_same
      generalize upd H2 l (.lst [V.str z.name]) = H3 at sl ul
      have hns : (bOf bk [z.name]).length ≤ 11 := by
        have h3 : (bOf bk [z.name]).length ≤ (bk.map (·.name)).length := List.length_filter_le _ _
        rw [List.length_map] at h3
        omega
      refine ⟨b, l, bk, [z.name], rfl, hB.tups sl.tups, hO, h24, ul, by simp, fun x hx => by rw [List.mem_singleton.mp hx]; exact hzm, fun r H4 s4 hW _ => ?_⟩
      refine ⟨r, bk, bOf bk [z.name], _, rfl, hW, bOf_ok hO h24 _, bOf_top hO _, hns, fun r0 H5 s5 hr0 => ?_⟩
      have s25 := (sl.trans s4).trans s5
      refine at_nx [some (.ref a), some (.int (0 + (i : Int))), some (.ref b), some (.int r0), v4, v5] ?_
      refine ⟨2, rfl, by decide, by decide, ?_⟩
      refine for_range (lo := 0) (n := (2 : Int).toNat) (fun i2 σ H6 => ∃ v4 v5 : Option V, σ = [some (.ref a), some (.int (0 + (i : Int))), some (.ref b), some (.int r0), v4, v5] ∧ BookAt H6 b bk ∧ SqL K H6 a (ns.map V.int) ∧ Tab H6 T) ⟨v4, v5, rfl, hB.tups s25.tups, (s2.trans s25).seq hS1, (hT1.same s2).same s25⟩ ?_ ?_
      · rintro i2 σ H6 hi2 ⟨v4, v5, rfl, hB3, hS3, hT3⟩
        refine at_nx [some (.ref a), some (.int (0 + (i : Int))), some (.ref b), some (.int r0), some (.int (0 + (i2 : Int))), v5] ?_
        refine ⟨_, rfl, b, bk, rfl, hB3, hO, h1, h24, hTr, hT3, fun p ld das R z' m H4 b4 hT4 hR hz' hm hp4 hld4 hds4 => ?_⟩
        refine at_seq [some (.ref a), some (.int (0 + (i : Int))), some (.ref b), some (.int r0), some (.int (0 + (i2 : Int))), some (.ref p)] ?_
        have ez : z' = z := by rw [hz] at hz'; exact (Option.some.inj hz').symm
        subst ez
        have em : m = r0 := by
          have hall := bOf_all hO hTr hz hR
          have h3 := (hr0 r0).mp (Int.le_refl _)
          have h4 : RN bk (bOf bk [z'.name]) (bOf bk [z'.name]).length m (2 ^ (bOf bk [z'.name]).length - 1) := by
            rw [hall]
            exact (tree_RN hO hTr hz hR hm m).mpr (Int.le_refl _)
          have h5 := (hr0 m).mpr h4
          rw [hall] at h3
          have h6 := (tree_RN hO hTr hz hR hm r0).mp h3
          omega
        subst em
        have hdo := tree_deeds hO hTr hz hR hm
        obtain ⟨hpm, hk⟩ := last_row hO hTr hz hR
        obtain ⟨tps, hTp3, _⟩ := id hT3
        have hB4 := hB3.tups (tupsButT b4 hTp3)
        have hS4 := seqButT b4 hTp3 hS3
        generalize hds : deedsOf bk (flatN (R z'.name)) = ds at hds4 hdo
        have hgood : ∃ r0 : Int, spOk bk r0 [] ds := ⟨m, (hdo _).mpr (Int.le_refl _)⟩
        have hwd : ∀ d ∈ ds, WordOk d.1 ∧ WordOk d.2 := by rw [← hds]; exact deeds_word hO fun x hx => hpm.mem_iff.mp hx
        have hmk : (mkOf ds).Perm (bk.map (·.name)) := by rw [← hds, mk_deeds]; exact hpm
        have hdl : das.length ≤ 2000 := by
          rw [hds4.1, ← hds]
          have key : ∀ xs : List Str, (∀ x ∈ xs, x ∈ bk.map (·.name)) → (deedsOf bk xs).length ≤ 5 * xs.length := by
            intro xs
            induction xs with
            | nil => intro _; exact Nat.le_refl _
            | cons x xs ih =>
              intro hx
              have h2 := ih fun y hy => hx y (List.mem_cons_of_mem _ hy)
              obtain ⟨c, hc, e⟩ := List.mem_map.mp (hx x List.mem_cons_self)
              obtain ⟨k, hk2⟩ := List.getElem?_of_mem hc
              have h3 : (nmOf bk x).length ≤ 4 := by rw [← e, nm_is hO hc]; exact names4 (hO.how k c hk2)
              have e3 : deedsOf bk (x :: xs) = (("make" : Str), x) :: (((nmOf bk x).map fun y => (("drop" : Str), y)) ++ deedsOf bk xs) := rfl
              rw [e3, List.length_cons, List.length_append, List.length_map, List.length_cons]
              omega
          have h5 := key _ fun x hx => hpm.mem_iff.mp hx
          have h6 := hpm.length_eq
          rw [List.length_map] at h6
          omega
        refine ⟨_, rfl, _, "tuple", rfl, .inl ⟨rfl, _, hp4⟩, _, rfl, ?_⟩
        refine iteF ?_
        refine ⟨_, rfl, p, _, rfl, .inr (SqT.of hp4), rfl, _, rfl, iteF ?_⟩
        refine ⟨_, rfl, p, _, 0, .int m, rfl, rfl, SqT.of hp4, rfl, m, rfl, _, rfl, iteF ?_⟩
        refine ⟨_, rfl, p, _, 0, .int m, rfl, rfl, SqT.of hp4, rfl, _, rfl, rfl, _, rfl, ?_⟩
        rw [decide_eq_true rfl]
        refine iteF ?_
        refine ⟨_, rfl, _, rfl, _, rfl, p, _, 1, .ref ld, rfl, rfl, SqT.of hp4, rfl, b, ld, das, bk, ds, m, rfl, hB4, hO, h24, hld4, hds4, hdl, hgood, hwd, hmk, fun bb H5 s5 hbb => ?_⟩
        obtain rfl : bb = true := hbb.mpr ((hdo _).mpr (Int.le_refl _))
        refine ⟨_, rfl, iteF ?_⟩
        have hp5 := s5 _ _ hp4
        have hld5 := s5 _ _ hld4
        have hB5 := hB4.tups s5.tups
        have hS5 := s5.seq hS4
        have hT5 := hT4.same s5
        refine ⟨_, rfl, p, _, 1, .ref ld, rfl, rfl, SqT.of hp5, rfl, .inl ⟨rfl, _, SqL.of hld5⟩, lit 2, fun t ht => ?_⟩
        have st : Same H5 (upd H5 t (.tup [V.str "drop", V.str "zz"])) := Same.new ht
        have hld6 := st _ _ hld5
        have hB6 := hB5.tups st.tups
        have hS6 := st.seq hS5
        have hT6 := hT5.same st
        generalize upd H5 t (.tup [V.str "drop", V.str "zz"]) = H6' at hld6 hB6 hS6 hT6
        refine ⟨ld, _, _, rfl, rfl, hld6, by rw [List.length_map]; exact Nat.lt_of_le_of_lt hdl (by rw [sizeLine_eq]; decide), ?_⟩
        have hne : das ≠ [] := fun e => by
          have h3 := hmk.length_eq
          have h4 := mkOf_len ds
          rw [List.length_map] at h3
          rw [← hds4.1, e, List.length_nil] at h4
          omega
        have hSl : ∀ {o : HO}, SqL K (upd H6' ld o) a (ns.map V.int) := fun {o} => by
          rcases hS6 with (h | ⟨u, h⟩) | h
          · refine .inl (.inl ?_)
            rw [upd_ne (ne_of h hld6 fun e => ?_)]
            · exact h
            · cases hdas : das with
              | nil => exact hne hdas
              | cons c r =>
                rw [hdas] at e
                injection e with e
                cases ns with
                | nil => cases e
                | cons n ns => cases e
          · refine .inl (.inr ⟨u, ?_⟩)
            rw [upd_ne (ne_of h hld6 (by intro z; cases z))]
            exact h
          · exact .inr h
        exact ⟨_, _, rfl, hB6.tups (tups_lst hld6), hSl, hT6.but (But.upd _ _ _) (ne_of hT6.choose_spec.1 hld6 (by intro z; cases z)) fun c hc z => by rw [z, hld6] at hc; cases hc⟩
      · rintro σ H6 ⟨v4, v5, rfl, hB3, hS3, hT3⟩
        exact ⟨_, _, _, _, _, rfl, hS3, hT3⟩
    · rintro σ H2 ⟨v1, v2, v3, v4, v5, rfl, _, _⟩
      exact q _
end
end Hs
namespace Hs
open PySem PySem.Spec PyProof.Rows L2
section
theorem all_ok {l : PySem.W.OpenLaw} {w : World} {K : PySem.W.Frag} {h : Heap} {mg : Str → Option Value} {fa fL c T : Addr}  (X : K.In h) (G : h.Ns mainGlobals mg) (hfa : mg "law" = some (.ref fa))
    {f0 : Addr} {od0 an0 : Option Addr} {sl0 : Array (Option Value)} {oc0 kV0 dc0 pm0 cd0 ct0 : Value}
    {f1 : Addr} {od1 an1 : Option Addr} {sl1 : Array (Option Value)} {oc1 kV1 dc1 pm1 cd1 ct1 : Value}
    {f2 : Addr} {od2 an2 : Option Addr} {sl2 : Array (Option Value)} {oc2 kV2 dc2 pm2 cd2 ct2 : Value}
    {f3 : Addr} {od3 an3 : Option Addr} {sl3 : Array (Option Value)} {oc3 kV3 dc3 pm3 cd3 ct3 : Value}
    {f4 : Addr} {od4 an4 : Option Addr} {sl4 : Array (Option Value)} {oc4 kV4 dc4 pm4 cd4 ct4 : Value}
    {f5 : Addr} {od5 an5 : Option Addr} {sl5 : Array (Option Value)} {oc5 kV5 dc5 pm5 ct5 : Value}
    {f6 : Addr} {od6 an6 : Option Addr} {sl6 : Array (Option Value)} {oc6 kV6 dc6 pm6 cd6 ct6 : Value}
    {f7 : Addr} {od7 an7 : Option Addr} {sl7 : Array (Option Value)} {oc7 kV7 dc7 pm7 cd7 ct7 : Value}
    {f8 : Addr} {od8 an8 : Option Addr} {sl8 : Array (Option Value)} {oc8 kV8 dc8 pm8 cd8 ct8 : Value}
    {f9 : Addr} {od9 an9 : Option Addr} {sl9 : Array (Option Value)} {oc9 kV9 dc9 pm9 cd9 ct9 : Value}
    {f10 : Addr} {od10 an10 : Option Addr} {sl10 : Array (Option Value)} {oc10 kV10 dc10 pm10 cd10 ct10 : Value}
    {f11 : Addr} {od11 an11 : Option Addr} {sl11 : Array (Option Value)} {oc11 kV11 dc11 pm11 cd11 ct11 : Value}
    {f12 : Addr} {od12 an12 : Option Addr} {sl12 : Array (Option Value)} {oc12 kV12 dc12 pm12 cd12 ct12 : Value}
    {f13 : Addr} {od13 an13 : Option Addr} {sl13 : Array (Option Value)} {oc13 kV13 dc13 pm13 cd13 ct13 : Value}
    {f14 : Addr} {od14 an14 : Option Addr} {sl14 : Array (Option Value)} {oc14 kV14 dc14 pm14 cd14 ct14 : Value}
    {f15 : Addr} {od15 an15 : Option Addr} {sl15 : Array (Option Value)} {oc15 kV15 dc15 pm15 cd15 ct15 : Value}
    {f16 : Addr} {od16 an16 : Option Addr} {sl16 : Array (Option Value)} {oc16 kV16 dc16 pm16 cd16 ct16 : Value}
    {f17 : Addr} {od17 an17 : Option Addr} {sl17 : Array (Option Value)} {oc17 kV17 dc17 pm17 cd17 ct17 : Value}
    {f18 : Addr} {od18 an18 : Option Addr} {sl18 : Array (Option Value)} {oc18 kV18 dc18 pm18 cd18 ct18 : Value}
    {f19 : Addr} {od19 an19 : Option Addr} {sl19 : Array (Option Value)} {oc19 kV19 dc19 pm19 cd19 ct19 : Value}
    {f20 : Addr} {od20 an20 : Option Addr} {sl20 : Array (Option Value)} {oc20 kV20 dc20 pm20 cd20 ct20 : Value}
    {f21 : Addr} {od21 an21 : Option Addr} {sl21 : Array (Option Value)} {oc21 kV21 dc21 pm21 cd21 ct21 : Value}
    {f22 : Addr} {od22 an22 : Option Addr} {sl22 : Array (Option Value)} {oc22 kV22 dc22 pm22 cd22 ct22 : Value}
    {f23 : Addr} {od23 an23 : Option Addr} {sl23 : Array (Option Value)} {oc23 kV23 dc23 pm23 cd23 ct23 : Value}
    {odL anL : Option Addr} {slL : Array (Option Value)} {ocL kVL dcL pmL cdL ctL : Value}
    (a0 : PySem.W.nsIn K mainGlobals "names_in" = some (some (.ref f0))) (l0 : K.lookup f0 = some ⟨oc0, od0, .func (PySem.W.fnOf "names_in" "names_in" (defArgs s_names_in) (defBody s_names_in) (defScope s_names_in) .none kV0 dc0 pm0 an0 cd0 ct0), sl0⟩) (c0 : PySem.W.codeIn K cd0 "names_in" = true) (k0 : PySem.W.keepIn K (.ref f0) = true)
    (a1 : PySem.W.nsIn K mainGlobals "is_tree" = some (some (.ref f1))) (l1 : K.lookup f1 = some ⟨oc1, od1, .func (PySem.W.fnOf "is_tree" "is_tree" (defArgs s_is_tree) (defBody s_is_tree) (defScope s_is_tree) .none kV1 dc1 pm1 an1 cd1 ct1), sl1⟩) (c1 : PySem.W.codeIn K cd1 "is_tree" = true) (k1 : PySem.W.keepIn K (.ref f1) = true)
    (a2 : PySem.W.nsIn K mainGlobals "climbs" = some (some (.ref f2))) (l2 : K.lookup f2 = some ⟨oc2, od2, .func (PySem.W.fnOf "climbs" "climbs" (defArgs s_climbs) (defBody s_climbs) (defScope s_climbs) .none kV2 dc2 pm2 an2 cd2 ct2), sl2⟩) (c2 : PySem.W.codeIn K cd2 "climbs" = true) (k2 : PySem.W.keepIn K (.ref f2) = true)
    (a3 : PySem.W.nsIn K mainGlobals "add_hill" = some (some (.ref f3))) (l3 : K.lookup f3 = some ⟨oc3, od3, .func (PySem.W.fnOf "add_hill" "add_hill" (defArgs s_add_hill) (defBody s_add_hill) (defScope s_add_hill) .none kV3 dc3 pm3 an3 cd3 ct3), sl3⟩) (c3 : PySem.W.codeIn K cd3 "add_hill" = true) (k3 : PySem.W.keepIn K (.ref f3) = true)
    (a4 : PySem.W.nsIn K mainGlobals "row_of" = some (some (.ref f4))) (l4 : K.lookup f4 = some ⟨oc4, od4, .func (PySem.W.fnOf "row_of" "row_of" (defArgs s_row_of) (defBody s_row_of) (defScope s_row_of) .none kV4 dc4 pm4 an4 cd4 ct4), sl4⟩) (c4 : PySem.W.codeIn K cd4 "row_of" = true) (k4 : PySem.W.keepIn K (.ref f4) = true)
    (a5 : PySem.W.nsIn K mainGlobals "best_row" = some (some (.ref f5))) (l5 : K.lookup f5 = some ⟨oc5, od5, .func (PySem.W.fnOf "best_row" "best_row" (defArgs s_best_row) (defBody s_best_row) (defScope s_best_row) .none kV5 dc5 pm5 an5 (.ref c) ct5), sl5⟩) (c5 : PySem.W.codeIn K (.ref c) "best_row" = true) (k5 : PySem.W.keepIn K (.ref f5) = true)
    (a6 : PySem.W.nsIn K mainGlobals "least_room" = some (some (.ref f6))) (l6 : K.lookup f6 = some ⟨oc6, od6, .func (PySem.W.fnOf "least_room" "least_room" (defArgs s_least_room) (defBody s_least_room) (defScope s_least_room) .none kV6 dc6 pm6 an6 cd6 ct6), sl6⟩) (c6 : PySem.W.codeIn K cd6 "least_room" = true) (k6 : PySem.W.keepIn K (.ref f6) = true)
    (a7 : PySem.W.nsIn K mainGlobals "_law_cell_at" = some (some (.ref f7))) (l7 : K.lookup f7 = some ⟨oc7, od7, .func (PySem.W.fnOf "_law_cell_at" "_law_cell_at" (defArgs s_law_cell_at) (defBody s_law_cell_at) (defScope s_law_cell_at) .none kV7 dc7 pm7 an7 cd7 ct7), sl7⟩) (c7 : PySem.W.codeIn K cd7 "_law_cell_at" = true) (k7 : PySem.W.keepIn K (.ref f7) = true)
    (a8 : PySem.W.nsIn K mainGlobals "_law_tape" = some (some (.ref f8))) (l8 : K.lookup f8 = some ⟨oc8, od8, .func (PySem.W.fnOf "_law_tape" "_law_tape" (defArgs s_law_tape) (defBody s_law_tape) (defScope s_law_tape) .none kV8 dc8 pm8 an8 cd8 ct8), sl8⟩) (c8 : PySem.W.codeIn K cd8 "_law_tape" = true) (k8 : PySem.W.keepIn K (.ref f8) = true)
    (a9 : PySem.W.nsIn K mainGlobals "_law_digit" = some (some (.ref f9))) (l9 : K.lookup f9 = some ⟨oc9, od9, .func (PySem.W.fnOf "_law_digit" "_law_digit" (defArgs s_law_digit) (defBody s_law_digit) (defScope s_law_digit) .none kV9 dc9 pm9 an9 cd9 ct9), sl9⟩) (c9 : PySem.W.codeIn K cd9 "_law_digit" = true) (k9 : PySem.W.keepIn K (.ref f9) = true)
    (a10 : PySem.W.nsIn K mainGlobals "_law_words" = some (some (.ref f10))) (l10 : K.lookup f10 = some ⟨oc10, od10, .func (PySem.W.fnOf "_law_words" "_law_words" (defArgs s_law_words) (defBody s_law_words) (defScope s_law_words) .none kV10 dc10 pm10 an10 cd10 ct10), sl10⟩) (c10 : PySem.W.codeIn K cd10 "_law_words" = true) (k10 : PySem.W.keepIn K (.ref f10) = true)
    (a11 : PySem.W.nsIn K mainGlobals "_law_number" = some (some (.ref f11))) (l11 : K.lookup f11 = some ⟨oc11, od11, .func (PySem.W.fnOf "_law_number" "_law_number" (defArgs s_law_number) (defBody s_law_number) (defScope s_law_number) .none kV11 dc11 pm11 an11 cd11 ct11), sl11⟩) (c11 : PySem.W.codeIn K cd11 "_law_number" = true) (k11 : PySem.W.keepIn K (.ref f11) = true)
    (a12 : PySem.W.nsIn K mainGlobals "_law_tree" = some (some (.ref f12))) (l12 : K.lookup f12 = some ⟨oc12, od12, .func (PySem.W.fnOf "_law_tree" "_law_tree" (defArgs s_law_tree) (defBody s_law_tree) (defScope s_law_tree) .none kV12 dc12 pm12 an12 cd12 ct12), sl12⟩) (c12 : PySem.W.codeIn K cd12 "_law_tree" = true) (k12 : PySem.W.keepIn K (.ref f12) = true)
    (a13 : PySem.W.nsIn K mainGlobals "_law_needs" = some (some (.ref f13))) (l13 : K.lookup f13 = some ⟨oc13, od13, .func (PySem.W.fnOf "_law_needs" "_law_needs" (defArgs s_law_needs) (defBody s_law_needs) (defScope s_law_needs) .none kV13 dc13 pm13 an13 cd13 ct13), sl13⟩) (c13 : PySem.W.codeIn K cd13 "_law_needs" = true) (k13 : PySem.W.keepIn K (.ref f13) = true)
    (a14 : PySem.W.nsIn K mainGlobals "_law_parts" = some (some (.ref f14))) (l14 : K.lookup f14 = some ⟨oc14, od14, .func (PySem.W.fnOf "_law_parts" "_law_parts" (defArgs s_law_parts) (defBody s_law_parts) (defScope s_law_parts) .none kV14 dc14 pm14 an14 cd14 ct14), sl14⟩) (c14 : PySem.W.codeIn K cd14 "_law_parts" = true) (k14 : PySem.W.keepIn K (.ref f14) = true)
    (a15 : PySem.W.nsIn K mainGlobals "_law_below" = some (some (.ref f15))) (l15 : K.lookup f15 = some ⟨oc15, od15, .func (PySem.W.fnOf "_law_below" "_law_below" (defArgs s_law_below) (defBody s_law_below) (defScope s_law_below) .none kV15 dc15 pm15 an15 cd15 ct15), sl15⟩) (c15 : PySem.W.codeIn K cd15 "_law_below" = true) (k15 : PySem.W.keepIn K (.ref f15) = true)
    (a16 : PySem.W.nsIn K mainGlobals "_law_bits" = some (some (.ref f16))) (l16 : K.lookup f16 = some ⟨oc16, od16, .func (PySem.W.fnOf "_law_bits" "_law_bits" (defArgs s_law_bits) (defBody s_law_bits) (defScope s_law_bits) .none kV16 dc16 pm16 an16 cd16 ct16), sl16⟩) (c16 : PySem.W.codeIn K cd16 "_law_bits" = true) (k16 : PySem.W.keepIn K (.ref f16) = true)
    (a17 : PySem.W.nsIn K mainGlobals "_law_world" = some (some (.ref f17))) (l17 : K.lookup f17 = some ⟨oc17, od17, .func (PySem.W.fnOf "_law_world" "_law_world" (defArgs s_law_world) (defBody s_law_world) (defScope s_law_world) .none kV17 dc17 pm17 an17 cd17 ct17), sl17⟩) (c17 : PySem.W.codeIn K cd17 "_law_world" = true) (k17 : PySem.W.keepIn K (.ref f17) = true)
    (a18 : PySem.W.nsIn K mainGlobals "_law_load" = some (some (.ref f18))) (l18 : K.lookup f18 = some ⟨oc18, od18, .func (PySem.W.fnOf "_law_load" "_law_load" (defArgs s_law_load) (defBody s_law_load) (defScope s_law_load) .none kV18 dc18 pm18 an18 cd18 ct18), sl18⟩) (c18 : PySem.W.codeIn K cd18 "_law_load" = true) (k18 : PySem.W.keepIn K (.ref f18) = true)
    (a19 : PySem.W.nsIn K mainGlobals "_law_once_on" = some (some (.ref f19))) (l19 : K.lookup f19 = some ⟨oc19, od19, .func (PySem.W.fnOf "_law_once_on" "_law_once_on" (defArgs s_law_once_on) (defBody s_law_once_on) (defScope s_law_once_on) .none kV19 dc19 pm19 an19 cd19 ct19), sl19⟩) (c19 : PySem.W.codeIn K cd19 "_law_once_on" = true) (k19 : PySem.W.keepIn K (.ref f19) = true)
    (a20 : PySem.W.nsIn K mainGlobals "_law_once_least" = some (some (.ref f20))) (l20 : K.lookup f20 = some ⟨oc20, od20, .func (PySem.W.fnOf "_law_once_least" "_law_once_least" (defArgs s_law_once_least) (defBody s_law_once_least) (defScope s_law_once_least) .none kV20 dc20 pm20 an20 cd20 ct20), sl20⟩) (c20 : PySem.W.codeIn K cd20 "_law_once_least" = true) (k20 : PySem.W.keepIn K (.ref f20) = true)
    (a21 : PySem.W.nsIn K mainGlobals "_law_whole" = some (some (.ref f21))) (l21 : K.lookup f21 = some ⟨oc21, od21, .func (PySem.W.fnOf "_law_whole" "_law_whole" (defArgs s_law_whole) (defBody s_law_whole) (defScope s_law_whole) .none kV21 dc21 pm21 an21 cd21 ct21), sl21⟩) (c21 : PySem.W.codeIn K cd21 "_law_whole" = true) (k21 : PySem.W.keepIn K (.ref f21) = true)
    (a22 : PySem.W.nsIn K mainGlobals "_law_spent" = some (some (.ref f22))) (l22 : K.lookup f22 = some ⟨oc22, od22, .func (PySem.W.fnOf "_law_spent" "_law_spent" (defArgs s_law_spent) (defBody s_law_spent) (defScope s_law_spent) .none kV22 dc22 pm22 an22 cd22 ct22), sl22⟩) (c22 : PySem.W.codeIn K cd22 "_law_spent" = true) (k22 : PySem.W.keepIn K (.ref f22) = true)
    (a23 : PySem.W.nsIn K mainGlobals "_law_fits" = some (some (.ref f23))) (l23 : K.lookup f23 = some ⟨oc23, od23, .func (PySem.W.fnOf "_law_fits" "_law_fits" (defArgs s_law_fits) (defBody s_law_fits) (defScope s_law_fits) .none kV23 dc23 pm23 an23 cd23 ct23), sl23⟩) (c23 : PySem.W.codeIn K cd23 "_law_fits" = true) (k23 : PySem.W.keepIn K (.ref f23) = true)
    (aL : PySem.W.nsIn K mainGlobals "law" = some (some (.ref fL))) (lL : K.lookup fL = some ⟨ocL, odL, .func (PySem.W.fnOf "law" "law" (defArgs s_law) (defBody s_law) (defScope s_law) .none kVL dcL pmL anL cdL ctL), slL⟩) (cL : PySem.W.codeIn K cdL "law" = true) (kL : PySem.W.keepIn K (.ref fL) = true)
    (z_len : PySem.W.nsIn K mainGlobals "len" = some none)
    (z_range : PySem.W.nsIn K mainGlobals "range" = some none)
    (z_min : PySem.W.nsIn K mainGlobals "min" = some none)
    (z_max : PySem.W.nsIn K mainGlobals "max" = some none)
    (z_tuple : PySem.W.nsIn K mainGlobals "tuple" = some none)
    (z_list : PySem.W.nsIn K mainGlobals "list" = some none)
    (z_sorted : PySem.W.nsIn K mainGlobals "sorted" = some none)
    (z_sum : PySem.W.nsIn K mainGlobals "sum" = some none)
    (z_any : PySem.W.nsIn K mainGlobals "any" = some none)
    (z_all : PySem.W.nsIn K mainGlobals "all" = some none)
    (z_isinstance : PySem.W.nsIn K mainGlobals "isinstance" = some none)
    (z_repr : PySem.W.nsIn K mainGlobals "repr" = some none)
    (z_int : PySem.W.nsIn K mainGlobals "int" = some none)
    (z_bool : PySem.W.nsIn K mainGlobals "bool" = some none)
    (z_dict : PySem.W.nsIn K mainGlobals "dict" = some none)
    (z_str : PySem.W.nsIn K mainGlobals "str" = some none)
    (z_reversed : PySem.W.nsIn K mainGlobals "reversed" = some none)
    : ∃ fd : FuncData, (∀ (s : Shared) (v : Value), BindsTo s fd ⟨[v], []⟩ [("script", v)]) ∧ ∀ base : Heap, K.In base → base.Ns mainGlobals mg → PySem.W.CodeHd base c T → base.BuiltinsAt mg T → FnOk l.prog w K mg base CX0 5 fa fd ["script"] (spLaw K T) := by
  have e := hfa.symm.trans (PySem.W.mg_of X G aL)
  cases e
  have B : Blt mg := ⟨PySem.W.mg_none_of X G z_len, PySem.W.mg_none_of X G z_range, PySem.W.mg_none_of X G z_min, PySem.W.mg_none_of X G z_max, PySem.W.mg_none_of X G z_tuple, PySem.W.mg_none_of X G z_list, PySem.W.mg_none_of X G z_sorted, PySem.W.mg_none_of X G z_sum, PySem.W.mg_none_of X G z_any, PySem.W.mg_none_of X G z_all, PySem.W.mg_none_of X G z_isinstance, PySem.W.mg_none_of X G z_repr, PySem.W.mg_none_of X G z_int, PySem.W.mg_none_of X G z_bool, PySem.W.mg_none_of X G z_dict, PySem.W.mg_none_of X G z_str, PySem.W.mg_none_of X G z_reversed⟩
  have D_names_in : Dfn K mg "names_in" s_names_in := Dfn.of X G a0 l0 c0 k0
  have D_is_tree : Dfn K mg "is_tree" s_is_tree := Dfn.of X G a1 l1 c1 k1
  have D_climbs : Dfn K mg "climbs" s_climbs := Dfn.of X G a2 l2 c2 k2
  have D_add_hill : Dfn K mg "add_hill" s_add_hill := Dfn.of X G a3 l3 c3 k3
  have D_row_of : Dfn K mg "row_of" s_row_of := Dfn.of X G a4 l4 c4 k4
  have D_best_row : DfnL K mg "best_row" s_best_row c := ⟨_, _, _, _, _, _, _, _, _, l5, c5, PySem.W.mg_of X G a5, k5⟩
  have D_least_room : Dfn K mg "least_room" s_least_room := Dfn.of X G a6 l6 c6 k6
  have D_law_cell_at : Dfn K mg "_law_cell_at" s_law_cell_at := Dfn.of X G a7 l7 c7 k7
  have D_law_tape : Dfn K mg "_law_tape" s_law_tape := Dfn.of X G a8 l8 c8 k8
  have D_law_digit : Dfn K mg "_law_digit" s_law_digit := Dfn.of X G a9 l9 c9 k9
  have D_law_words : Dfn K mg "_law_words" s_law_words := Dfn.of X G a10 l10 c10 k10
  have D_law_number : Dfn K mg "_law_number" s_law_number := Dfn.of X G a11 l11 c11 k11
  have D_law_tree : Dfn K mg "_law_tree" s_law_tree := Dfn.of X G a12 l12 c12 k12
  have D_law_needs : Dfn K mg "_law_needs" s_law_needs := Dfn.of X G a13 l13 c13 k13
  have D_law_parts : Dfn K mg "_law_parts" s_law_parts := Dfn.of X G a14 l14 c14 k14
  have D_law_below : Dfn K mg "_law_below" s_law_below := Dfn.of X G a15 l15 c15 k15
  have D_law_bits : Dfn K mg "_law_bits" s_law_bits := Dfn.of X G a16 l16 c16 k16
  have D_law_world : Dfn K mg "_law_world" s_law_world := Dfn.of X G a17 l17 c17 k17
  have D_law_load : Dfn K mg "_law_load" s_law_load := Dfn.of X G a18 l18 c18 k18
  have D_law_once_on : Dfn K mg "_law_once_on" s_law_once_on := Dfn.of X G a19 l19 c19 k19
  have D_law_once_least : Dfn K mg "_law_once_least" s_law_once_least := Dfn.of X G a20 l20 c20 k20
  have D_law_whole : Dfn K mg "_law_whole" s_law_whole := Dfn.of X G a21 l21 c21 k21
  have D_law_spent : Dfn K mg "_law_spent" s_law_spent := Dfn.of X G a22 l22 c22 k22
  have D_law_fits : Dfn K mg "_law_fits" s_law_fits := Dfn.of X G a23 l23 c23 k23
  have FL := fun_mk (st := s_law) lL cL kL
  refine ⟨PySem.W.fnOf "law" "law" (defArgs s_law) (defBody s_law) (defScope s_law) .none kVL dcL pmL anL cdL ctL, fun s v => .of_eq rfl, fun base hKb hNs hC hBu => ?_⟩
  have Cni := c_names_in (P := l.prog) (w := w) (base := base) D_names_in
  have Cit := c_isT (P := l.prog) (w := w) (base := base) B D_is_tree Cni
  have Ccl := c_clm (P := l.prog) (w := w) (base := base) D_climbs
  have Cah := c_adh (P := l.prog) (w := w) (base := base) B D_add_hill
  have Cro := c_row (P := l.prog) (w := w) (base := base) D_row_of Cah
  have Cbr := c_bst (P := l.prog) (w := w) (base := base) B D_best_row hC hBu Cni Ccl Cro
  have Clr := c_lstX (P := l.prog) (w := w) (base := base) B D_least_room Cit Cni Cbr
  have Cce := c_cell (P := l.prog) (w := w) (base := base) B D_law_cell_at
  have Cta := c_tape (P := l.prog) (w := w) (base := base) B D_law_tape Cce
  have Cdi := c_digit (P := l.prog) (w := w) (base := base) D_law_digit
  have Cwd := c_words (P := l.prog) (w := w) (base := base) B D_law_words Cdi
  have Cnu := c_number (P := l.prog) (w := w) (base := base) D_law_number Cdi
  have Ctr := c_tree (P := l.prog) (w := w) (base := base) B D_law_tree Cta Cdi Cwd Cnu
  have Cne := c_needs (P := l.prog) (w := w) (base := base) B D_law_needs
  have Cpa := c_partsT (P := l.prog) (w := w) (base := base) B D_law_parts
  have Cbe := c_lbelow (P := l.prog) (w := w) (base := base) B D_law_below Cne
  have Cbi := c_bits (P := l.prog) (w := w) (base := base) B D_law_bits
  have Cwo := c_world (P := l.prog) (w := w) (base := base) B D_law_world Cpa Cbe Cne Cbi
  have Clo := c_lload (P := l.prog) (w := w) (base := base) B D_law_load
  have Coo := c_on (P := l.prog) (w := w) (base := base) B D_law_once_on Clo
  have Col := c_oleast (P := l.prog) (w := w) (base := base) B D_law_once_least Coo
  have Cwh := c_whole (P := l.prog) (w := w) (base := base) B D_law_whole
  have Csp := c_spent (P := l.prog) (w := w) (base := base) B D_law_spent Cpa Cne
  have Cfi := c_fit (P := l.prog) (w := w) (base := base) B D_law_fits Csp
  exact c_law (P := l.prog) (w := w) (base := base) B FL Ctr Cwo Col Clr Cwh Cfi
theorem walk {l : PySem.W.OpenLaw} {q : Program} {loose : List Str} {XP : (Str → Option Value) → Heap → Prop} {YP : World → Heap → Prop} {d : DefRec} {K : Params → PySem.W.Frag} {c T : Addr} (hn : l.most = some 63) (hdf : d.params.defaults = [])
    (hY : ∀ (w : World) (h : Heap), YP w h → (K w.params).In h ∧ h.get? T = some (PySem.W.tabObj #[]))
    (F : ∀ (w : World) (mg : Str → Option Value) (fa : Addr) (h : Heap), (K w.params).In h → h.Ns mainGlobals mg → mg d.name = some (.ref fa) →
      ∃ fd : FuncData, (∀ (s : Shared) (u : Value), BindsTo s fd ⟨[u], []⟩ [("script", u)]) ∧ ∀ base : Heap, (K w.params).In base → base.Ns mainGlobals mg → PySem.W.CodeHd base c T → base.BuiltinsAt mg T → FnOk l.prog w (K w.params) mg base CX0 5 fa fd ["script"] (spLaw (K w.params) T))
    (hTK : ∀ w : World, (K w.params).lookup T = none) (hc : ∀ w : World, PySem.W.codeHdIn (K w.params) c T = true) :
    PySem.W.WalkO q loose XP YP l.row.toRowW d [] (fun f vs => PySem.call f vs) :=
  walkT (n := 63) (k := 5) (x := "script") (sp := fun w => spLaw (K w.params) T) hn (by decide) hdf ⟨rfl, by decide, by decide, rfl⟩ hY hTK hc F fun w H a ns hl hT hS => ⟨a, ns, rfl, hS, hl, ⟨#[], hT, trivial, .inl rfl⟩, fun _ => rfl⟩
end
end Hs
open PySem PySem.W PyProof.Rows
set_option maxRecDepth 100000 in
set_option maxHeartbeats 0 in
theorem PySem.Challenge.cw_holdshelf_k31_least_rooms_of_trees_holds : PySem.Challenge.rw_holdshelf_k31_least_rooms_of_trees.Holds := by
  w_on; o_law; k_head; (case hw => w_witness2)
  k_fill
  refine' Hs.walk (l := PySem.Challenge.rw_holdshelf_k31_least_rooms_of_trees) rfl rfl (fun w h Y => ⟨PySem.W.km_in_of Y, PySem.W.km_tabs_of Y _ (List.Mem.head _)⟩) ?F ?qTab ?qCode
  case F =>
    intro w mg fa h KX G hmg
    refine' Hs.all_ok KX G hmg ?a0 ?l0 ?c0 ?k0 ?a1 ?l1 ?c1 ?k1 ?a2 ?l2 ?c2 ?k2 ?a3 ?l3 ?c3 ?k3 ?a4 ?l4 ?c4 ?k4 ?a5 ?l5 ?c5 ?k5 ?a6 ?l6 ?c6 ?k6 ?a7 ?l7 ?c7 ?k7 ?a8 ?l8 ?c8 ?k8 ?a9 ?l9 ?c9 ?k9 ?a10 ?l10 ?c10 ?k10 ?a11 ?l11 ?c11 ?k11 ?a12 ?l12 ?c12 ?k12 ?a13 ?l13 ?c13 ?k13 ?a14 ?l14 ?c14 ?k14 ?a15 ?l15 ?c15 ?k15 ?a16 ?l16 ?c16 ?k16 ?a17 ?l17 ?c17 ?k17 ?a18 ?l18 ?c18 ?k18 ?a19 ?l19 ?c19 ?k19 ?a20 ?l20 ?c20 ?k20 ?a21 ?l21 ?c21 ?k21 ?a22 ?l22 ?c22 ?k22 ?a23 ?l23 ?c23 ?k23 ?aL ?lL ?cL ?kL ?z_len ?z_range ?z_min ?z_max ?z_tuple ?z_list ?z_sorted ?z_sum ?z_any ?z_all ?z_isinstance ?z_repr ?z_int ?z_bool ?z_dict ?z_str ?z_reversed
    (case a0 => k_is)
    (case l0 => k_is)
    (case c0 => k_is)
    (case k0 => k_is)
    (case a1 => k_is)
    (case l1 => k_is)
    (case c1 => k_is)
    (case k1 => k_is)
    (case a2 => k_is)
    (case l2 => k_is)
    (case c2 => k_is)
    (case k2 => k_is)
    (case a3 => k_is)
    (case l3 => k_is)
    (case c3 => k_is)
    (case k3 => k_is)
    (case a4 => k_is)
    (case l4 => k_is)
    (case c4 => k_is)
    (case k4 => k_is)
    (case a5 => k_is)
    (case l5 => k_is)
    (case c5 => k_is)
    (case k5 => k_is)
    (case a6 => k_is)
    (case l6 => k_is)
    (case c6 => k_is)
    (case k6 => k_is)
    (case a7 => k_is)
    (case l7 => k_is)
    (case c7 => k_is)
    (case k7 => k_is)
    (case a8 => k_is)
    (case l8 => k_is)
    (case c8 => k_is)
    (case k8 => k_is)
    (case a9 => k_is)
    (case l9 => k_is)
    (case c9 => k_is)
    (case k9 => k_is)
    (case a10 => k_is)
    (case l10 => k_is)
    (case c10 => k_is)
    (case k10 => k_is)
    (case a11 => k_is)
    (case l11 => k_is)
    (case c11 => k_is)
    (case k11 => k_is)
    (case a12 => k_is)
    (case l12 => k_is)
    (case c12 => k_is)
    (case k12 => k_is)
    (case a13 => k_is)
    (case l13 => k_is)
    (case c13 => k_is)
    (case k13 => k_is)
    (case a14 => k_is)
    (case l14 => k_is)
    (case c14 => k_is)
    (case k14 => k_is)
    (case a15 => k_is)
    (case l15 => k_is)
    (case c15 => k_is)
    (case k15 => k_is)
    (case a16 => k_is)
    (case l16 => k_is)
    (case c16 => k_is)
    (case k16 => k_is)
    (case a17 => k_is)
    (case l17 => k_is)
    (case c17 => k_is)
    (case k17 => k_is)
    (case a18 => k_is)
    (case l18 => k_is)
    (case c18 => k_is)
    (case k18 => k_is)
    (case a19 => k_is)
    (case l19 => k_is)
    (case c19 => k_is)
    (case k19 => k_is)
    (case a20 => k_is)
    (case l20 => k_is)
    (case c20 => k_is)
    (case k20 => k_is)
    (case a21 => k_is)
    (case l21 => k_is)
    (case c21 => k_is)
    (case k21 => k_is)
    (case a22 => k_is)
    (case l22 => k_is)
    (case c22 => k_is)
    (case k22 => k_is)
    (case a23 => k_is)
    (case l23 => k_is)
    (case c23 => k_is)
    (case k23 => k_is)
    (case aL => k_is)
    (case lL => k_is)
    (case cL => k_is)
    (case kL => k_is)
    (case z_len => k_is)
    (case z_range => k_is)
    (case z_min => k_is)
    (case z_max => k_is)
    (case z_tuple => k_is)
    (case z_list => k_is)
    (case z_sorted => k_is)
    (case z_sum => k_is)
    (case z_any => k_is)
    (case z_all => k_is)
    (case z_isinstance => k_is)
    (case z_repr => k_is)
    (case z_int => k_is)
    (case z_bool => k_is)
    (case z_dict => k_is)
    (case z_str => k_is)
    (case z_reversed => k_is)
  case qTab => intro w; kernel_rfl
  case qCode => intro w; kernel_rfl
#print axioms PySem.Challenge.cw_holdshelf_k31_least_rooms_of_trees_holds
